import PyProof.Rows.All
import Wide.All
import OpenK.AllK
import Wide.FinOn
import Lean
import PyProof.EqAt
import PyProof.EqKinds
import PyProof.TupleCall
import KE.KSortTup
import PyProof.Rows.DictUnroll
import PyProof.DictItems
import KE.LcSums
import PyProof.IsiH_list
import KE.KDictOf
import PyProof.DictWalks
import PyProof.ListRange
import PyProof.EnumStmt
import PyProof.EnumMake
import KE.KDictSum
import PyProof.StrOps2
import PyProof.Rows.CallKwBuiltin
import KE.KRevSl
import PyProof.Rows.SetFrom
import KE.KRevIter
import PyProof.Rows.MatchSeqLen
import KE.KIntText
import PyProof.MeetsStr2
import PyProof.StrLawsChain
import PyProof.StrLawsTight
import PyProof.TupleIter
import PyProof.ZipIter
import PySem.Challenge.RW_firstout_k73_texts_that_are_no_house
namespace PySem.W.Fast
def tw5248880340117670912:=()
def tw5109516816344265312:=()
def tw5204848210392320929:=()
def tw13324790149341209220:=()
def tw16193053149500467047:=()
def tw14980439349564896297:=()
def tw11733644018304236938:=()
def tw15960527894501495118:=()
def tw11645533381805277455:=()
def tw13230048244506208656:=()
def tw1238120620584261043:=()
def tw17698614541189886675:=()
def tw16533826751502454004:=()
def tw10887367419258105332:=()
def tw9868489716092619669:=()
def tw11789891907137275192:=()
def tw15948200555338257338:=()
def tw12451970355596617083:=()
def tw8010275802010705020:=()
def tw9198682781111864476:=()
def tw4243384734290756604:=()
def tw15036454652318091101:=()
def tw9767449623185610590:=()
def tw6296905856942819775:=()
def tw9879658347484794765:=()
def tw17790794440832099987:=()
def tw8536367934637618583:=()
def tw6940139998038553075:=()
def tw13684271807756924054:=()
def tw1292268160711751892:=()
def tw4836095924150024577:=()
def tw7755070496892022583:=()
def tw14428013737576878645:=()
def tw4247693654734596317:=()
def tw17627369146311692539:=()
def tw10154580030738878000:=()
def tw10407750179508066138:=()
def tw4838336947106213203:=()
def tw14385227903685497409:=()
def tw17788558740214821302:=()
def tw10611965765836572234:=()
def tw9374426181203688055:=()
def tw4100774347013896557:=()
def tw7363812023034406564:=()
def tw11667110440928547229:=()
def tw15929608916766911909:=()
def tw15813693525174290359:=()
def tw3874009425762656880:=()
def tw3846807283926406391:=()
def tw1418211255179696938:=()
def tw14477118734045188454:=()
def tw13794381226795991699:=()
def tw4921459449697165920:=()
def tw3801681945769916420:=()
def tw15616479046934049444:=()
def tw1938765605755289246:=()
def tw1844340881125272663:=()
def tw187113260896257828:=()
def tw14256863948442458256:=()
def tw5139755596337122596:=()
def tw16949864477285100898:=()
def tw15103036184385947611:=()
def tw840253678500127999:=()
def tw4897765164675774593:=()
def tw6270429739923001697:=()
def tw5788942717815665687:=()
def tw16551390872114409614:=()
def tw490830032048393624:=()
def tw14031073094229954115:=()
def tw642095409968216839:=()
def tw8696229697187129708:=()
def tw12285221648566246821:=()
def tw16871692978925501673:=()
def tw10021273696749660361:=()
def tw16529633879929950842:=()
def tw15307245957959396346:=()
def tw7380939019621029057:=()
def tw2388322074478687260:=()
def tw8184567520435135274:=()
def tw16157860253904158919:=()
def tw3925784285730580658:=()
def tw5998391558643413655:=()
def tw7269713019697495584:=()
def tw15083341544917816391:=()
def tw7784788463023912674:=()
def tw9613975023878404852:=()
def tw753910159198969340:=()
def tw9447388557108789442:=()
def tw10781444118335086060:=()
def tw10045244641416701181:=()
def tw5089228782775684981:=()
def tw238519776214529972:=()
def tw7332734293740552832:=()
def tw2353243586773919382:=()
def tw9058564435219213051:=()
def tw3484101131049950357:=()
def tw3644572694993689883:=()
def tw3555853972713802092:=()
def tw9218365327492190485:=()
def tw2753435722917392543:=()
def tw13254695203811079967:=()
def tw13309999351133574767:=()
def tw7315868760000711556:=()
def tw14613580310822248597:=()
def tw3975966637842939219:=()
def tw13105078970017266678:=()
def tw10013398336469101001:=()
def tw7260949939348968175:=()
def tw14910895270935652832:=()
def tw2136767308168245877:=()
def tw5648839958634858593:=()
def tw12315859064402544401:=()
def tw2925277670257125324:=()
def tw8933747272787895883:=()
def tw15029454642352213186:=()
def tw3416229439042500076:=()
def tw16486578831031706525:=()
def tw17236800718013222585:=()
def tw5248610217460963167:=()
def tw12563478050850982825:=()
def tw14507212063957371436:=()
def tw8068915955681876923:=()
def tw5345050862472637281:=()
def tw16524076331367298683:=()
def tw10496620329741486410:=()
def tw5570881782774914578:=()
def tw17721668474790551360:=()
def tw11856109311150823620:=()
def tw6965413897250589926:=()
def tw12482051671380731567:=()
def tw13447477520153449652:=()
def tw15989456512008391813:=()
def tw13521366497538623275:=()
def tw2716028666490524229:=()
def tw14901860794432382836:=()
def tw1262418959026571713:=()
def tw17039696792207294812:=()
def tw16339127835651784912:=()
def tw2306067668266772918:=()
def tw3148893336108422559:=()
def tw7476606889022665682:=()
def tw14986024683180374926:=()
def tw5738063550435543062:=()
def tw16043198797732451294:=()
def tw8820016862673268916:=()
def tw18172741936895603607:=()
def tw8794802021198223950:=()
def tw4839651865322271604:=()
def tw5787278798824890748:=()
def tw2475058606510566689:=()
def tw904328880742912818:=()
def tw16426461867546551576:=()
def tw13362878781861159499:=()
def tw3787207006384240863:=()
def tw3702922473979838190:=()
def tw596909478525306220:=()
def tw16811614272808999778:=()
def tw5493231468591448457:=()
def tw17582001344612776334:=()
def tw10150706219007874204:=()
def tw10115061150969248736:=()
def tw16457940085045027113:=()
def tw15127569794497718687:=()
def tw5548854305239852695:=()
def tw53098373727940845:=()
def tw16531942419577843975:=()
def tw18222101456775967807:=()
def tw17775271155537773094:=()
def tw10860452594777745631:=()
def tw255274905925840301:=()
def tw10788291942954446464:=()
def tw14354224862886159387:=()
def tw8110855225216190399:=()
def tw16257283761503151467:=()
def tw15828466962572142613:=()
def tw4363235415257528085:=()
def tw5732693314634683666:=()
def tw4839778561910152687:=()
def tw7258220371883470815:=()
def tw2206503293546958868:=()
def tw1234011133175024255:=()
def tw13319574918465057970:=()
def tw13779426838588216973:=()
def tw10332638134240620625:=()
def tw13007119134290352914:=()
def tw4891759542323679121:=()
def tw14031931110347317699:=()
def tw4352651699534762685:=()
def tw287719683995580884:=()
def tw2918052537769076386:=()
def tw16045317255634747359:=()
def tw6244319052624559140:=()
def tw16557425243148932410:=()
def tw12252568666001108114:=()
def tw18215680323219388623:=()
def tw7151273421509899088:=()
def tw6939476974364010513:=()
def tw17667451446539207893:=()
def tw5047418603480811460:=()
def tw8391697703344289429:=()
def tw4838862183461931986:=()
def tw8549465376417820826:=()
def tw305386969965252097:=()
def tw932113495409767280:=()
def tw15752673436818611834:=()
end PySem.W.Fast
set_option compiler.extract_closed false
local macro_rules| `(tactic| walk_at"oi")=> `(tactic| first|exact Or.inl rfl|exact Or.inr rfl)
set_option Elab.async false
set_option linter.all false
set_option maxRecDepth 100000
namespace L2
open PySem PySem.Spec PyProof.Rows
abbrev Key:=Sum Int Str
def wJ:Key->Value->Bool
 | .inl k,v=>Value.isInt k v
 | .inr x,v=>Value.isStrOf x v
def aFU (w:World):Key->Int
 | .inl k=>hashInt k
 | .inr x=>hashStr w x
theorem cT:∀{k:Key}{v:Value},wJ k v=true->(∃i t,k=Sum.inl i/\v=Value.int i t)∨(∃x t,k=Sum.inr x/\v=Value.str x t)
 | .inl i,v,h=>by
  obtain⟨t,e⟩:=Value.isInt_shape (k:=i) (v:=v) h;exact .inl ⟨i,t,rfl,e⟩
 | .inr x,v,h=>by
  obtain⟨t,e⟩:=Value.isStrOf_shape (x:=x) (v:=v) h;exact .inr ⟨x,t,rfl,e⟩
theorem U6 (i:Int)(t:Tok):wJ (.inl i) (.int i t)=true:=by simp[wJ,Value.isInt]
theorem cC (x:Str)(t:Tok):wJ (.inr x) (.str x t)=true:=by simp[wJ,Value.isStrOf]
theorem aEg (a b:Int):decide ((Sum.inl a:Key)=Sum.inl b)=(a==b):=by
 by_cases e:a=b
 .subst e;simp
 .have h:¬(Sum.inl a:Key)=Sum.inl b:=λq=>e (Sum.inl.inj q);rw[decide_eq_false h];exact(beq_eq_false_iff_ne.mpr e).symm
theorem aDd (a b:Str):decide ((Sum.inr a:Key)=Sum.inr b)=decide (a=b):=by
 by_cases e:a=b
 .subst e;simp
 .have h:¬(Sum.inr a:Key)=Sum.inr b:=λq=>e (Sum.inr.inj q);rw[decide_eq_false h,decide_eq_false e]
theorem aCQ (a:Int)(b:Str):decide ((Sum.inl a:Key)=Sum.inr b)=false:=decide_eq_false (λq=>nomatch q)
theorem aEt (a:Str)(b:Int):decide ((Sum.inr a:Key)=Sum.inl b)=false:=decide_eq_false (λq=>nomatch q)
def bV (prog:Program)(w:World):PySem.KeyKind prog w Key where
 is:=wJ
 hash:=aFU w
 inj:=λv a b ha hb=>by
  rcases cT ha with⟨i,t,rfl,rfl⟩|⟨x,t,rfl,rfl⟩
  .rcases cT hb with⟨j,u,rfl,e⟩|⟨y,u,rfl,e⟩
   .injection e with e1 _;rw[e1]
   .exact nomatch e
  .rcases cT hb with⟨j,u,rfl,e⟩|⟨y,u,rfl,e⟩
   .exact nomatch e
   .injection e with e1 _;rw[e1]
 byValue:=λk v h=>by
  rcases cT h with⟨i,t,rfl,rfl⟩|⟨x,t,rfl,rfl⟩<;>rfl
 pyHash:=λhv h=>by
  rcases cT hv with⟨i,t,rfl,rfl⟩|⟨x,t,rfl,rfl⟩
  .exact wpAny_pyHash_int h
  .exact wpAny_pyHash_str h
 eqBool:=λhu hv h=>by
  rcases cT hu with⟨i,t,rfl,rfl⟩|⟨x,t,rfl,rfl⟩
  .rcases cT hv with⟨j,u,rfl,rfl⟩|⟨y,u,rfl,rfl⟩
   .rw[aEg]at h;exact wpAny_eqBool_int h
   .rw[aCQ]at h;exact SeqAt.EqAt.int_str i t y u _ _ _ _ h
  .rcases cT hv with⟨j,u,rfl,rfl⟩|⟨y,u,rfl,rfl⟩
   .rw[aEt]at h;exact SeqAt.EqAt.str_int x t j u _ _ _ _ h
   .rw[aDd]at h;exact wpAny_eqBool_str h
 «strs»:=λk x t v h=>by
  rcases cT h with⟨i,u,rfl,e⟩|⟨y,u,rfl,e⟩
  .exact nomatch e
  .injection e with e1 _;subst e1;cases v<;>rfl
theorem LQ (prog:Program)(w:World)(i:Int)(t:Tok):(bV prog w).is (.inl i) (.int i t)=true:=U6 i t
theorem LI (prog:Program)(w:World)(x:Str)(t:Tok):(bV prog w).is (.inr x) (.str x t)=true:=cC x t
inductive V where
 | non|bl (b:Bool)|int (i:Int)|str (x:Str)|byt (b:Array UInt8)|flt (b:UInt64)|ref (a:Addr)|ty (n:String)
 deriving DecidableEq
def RelV:V->Value->Prop
 | .non,u=>u=Value.none
 | .bl b,u=>u=Value.bool b
 | .int i,u=>∃t,u=Value.int i t
 | .str x,u=>∃t,u=Value.str x t
 | .byt b,u=>∃t,u=Value.bytes b t
 | .flt b,u=>∃t,u=Value.float b t
 | .ref a,u=>u=Value.ref a
 | .ty n,u=>u=Value.type n
abbrev Vals:List V->List Value->Prop:=Paired RelV
variable {vs xs:List V}{us:List Value}
theorem Vals.length (r:Vals xs us):xs.length=us.length:=Paired.length r
theorem Vals.get:∀{xs:List V}{us:List Value}{i:Nat}{x:V},Vals xs us->xs[i]? =some x->∃u,us[i]? =some u/\RelV x u
 | _,_,_,_,.nil,e=>by simp at e
 | _,_,0,_,.cons r _,e=>by simp at e;subst e;exact⟨_,rfl,r⟩
 | _,_,i+1,x,.cons _ t,e=>by
  obtain⟨u,h1,h2⟩:=Vals.get (i:=i) (x:=x) t (by simpa using e);exact⟨u,by simpa using h1,h2⟩
theorem Vals.append:∀{xs ys:List V}{us ws:List Value},Vals xs us->Vals ys ws->Vals (xs++ys) (us++ws)
 | _,_,_,_,.nil,s=>s
 | _,_,_,_,.cons r t,s=> .cons r (Vals.append t s)
theorem Vals.take:∀{xs:List V}{us:List Value} (n:Nat),Vals xs us->Vals (xs.take n) (us.take n)
 | _,_,0,_=> .nil
 | _,_,_+1,.nil=> .nil
 | _,_,n+1,.cons r t=> .cons r (Vals.take n t)
theorem Vals.drop:∀{xs:List V}{us:List Value} (n:Nat),Vals xs us->Vals (xs.drop n) (us.drop n)
 | _,_,0,r=>r
 | _,_,_+1,.nil=> .nil
 | _,_,n+1,.cons _ t=>Vals.drop n t
def RelO:Option V->Option Value->Prop
 | some v,some u=>RelV v u
 | none,none=>True
 | _,_=>False
variable {α β:Type}
def KV {κ:Type}:List (κ×V)->List (κ×Value)->Prop:=Paired λ(p:κ×V) (q:κ×Value)=>p.1=q.1/\RelV p.2 q.2
def kV:Key->V
 | .inl i=> .int i
 | .inr x=> .str x
inductive HO where
  | lst (xs:List V)
  | tup (xs:List V)
  | dK (kvs:List (Key×V))|dT (kvs:List (List Key×V))
  | set (S:Int->Bool) (n:Nat)
  | ins (C dx:Addr) (fs:List (Str×V))
  | own (x:Addr)
  | xd (fs:List (Str×V))
  | met (f x:Addr)
  | rng (lo hi:Int)
  | frz (o:Obj) (u:HO)
  | tbl (ps:Array Value)
  | ext (φ:Heap->Prop)
abbrev Hp:=Addr->Option HO
def upd (H:Hp)(a:Addr)(o:HO):Hp:=λb=>if b=a then some o else H b
variable {H H':Hp}{C a b dx it:Addr}
theorem aU {o:HO}:upd H a o a=some o:=by unfold upd;rw[if_pos rfl]
theorem aM {o:HO}(h:b≠a):upd H a o b=H b:=by unfold upd;rw[if_neg h]
theorem NC {o u:HO}:upd (upd H a o) a u=upd H a u:=by
 funext b;unfold upd;split<;>rfl
theorem aEX {o u:HO}(h:H a=some o)(h':H b=some u)(d:o≠u):a≠b:=by
 intro e;subst e;rw[h]at h';exact d (Option.some.inj h')
theorem aY {o:HO}(h:H a=some o)(h':H b=none):a≠b:=by
 intro e;subst e;rw[h]at h';cases h'
section
variable (P:Program)(w:World)
def ObjOk (H:Hp)(h:Heap)(a:Addr):HO->Prop
 | .lst xs=>xs.length<=sizeLine/\∃(its:List Value) (n:Nat),Vals xs its/\h.get? a=some { cls:= .type "list",data:= .seq its.toArray n }
 | .tup xs=>xs.length<=sizeLine/\∃its:List Value,Vals xs its/\IsTup h a its.toArray
 | .dK kvs=>kvs.length<=sizeLine/\(a==sysModules)=false/\∃vs,KV kvs vs/\h.DictOf (bV P w) a vs
 | .dT kvs=>kvs.length<=sizeLine/\(a==sysModules)=false/\∃xs:List (List Key×Addr×Value),
   Paired (λ(p:List Key×V) (q:List Key×Addr×Value)=>p.1=q.1/\H q.2.1=some (.tup (p.1.map kV))/\RelV p.2 q.2.2) kvs xs ∧
   ∃o es ep,h.get? a=some o/\o.ExactDict/\o.data= .dict es ep/\es.toList=xs.map (entryOfKey (tupleKind (bV P w)))/\(xs.map (·.1)).Nodup
 | .set S n=>h.SetOf (intKind P w) a S n
 | .ins C dx fs=>H dx=some (.own a)/\fs.length<=1000/\dx≠a/\h.get? a=some (W.instObj C dx) ∧
   ∃mA,h.Ns1 dx mA/\(∀f,RelO (fs.lookup f) (mA f))/\PySem.Within mA (fs.map (·.1))
 | .own _=>∃o,h.get? a=some o
 | .xd fs=>∃mA,h.Ns1 a mA/\∀f,RelO (fs.lookup f) (mA f)
 | .rng lo hi=>∃t u v,h.get? a=some { cls:= .type "range",data:= .fields #[.int lo t,.int hi u,.int 1 v] }
 | .frz o u=>h.get? a=some o/\ObjOk H h a u
 | .tbl ps=>h.get? a=some { cls:= .none,data:= .fields ps }
 | .met f x=>h.get? a=some (W.methodObj (.ref f) (.ref x))
 | .ext φ=>φ h/\(∃o,h.get? a=some o)/\∀h1 h2:Heap,φ h1->(∀o,h1.get? a=some o->h2.get? a=some o)->φ h2
def HOk (H:Hp)(h:Heap):Prop:=∀a o,H a=some o->ObjOk P w H h a o
end
variable {P prog:Program}{w:World}{base h h':Heap}
section
variable {o:HO}
theorem ObjOk.lt (x:ObjOk P w H h a o):a<h.objs.size:=by
 cases o with
 | lst xs=>obtain⟨_,_,_,_,e⟩:=x;exact Heap.lt_size e
 | tup xs=>obtain⟨_,_,_,p⟩:=x;exact p.lt
 | dK kvs=>obtain⟨_,_,_,_,o,_,_,e,_⟩:=x;exact Heap.lt_size e
 | dT kvs=>obtain⟨_,_,_,_,o,_,_,e,_⟩:=x;exact Heap.lt_size e
 | set S n=>obtain⟨o,_,_,_,e,_⟩:=x;exact Heap.lt_size e
 | ins C dx fs=>obtain⟨_,_,_,e,_⟩:=x;exact Heap.lt_size e
 | own y=>obtain⟨_,e⟩:=x;exact Heap.lt_size e
 | xd fs=>obtain⟨_,⟨_,_,_,e,_⟩,_⟩:=x;exact Heap.lt_size e
 | rng lo hi=>obtain⟨_,_,_,e⟩:=x;exact Heap.lt_size e
 | frz ob u=>obtain⟨e,_⟩:=x;exact Heap.lt_size e
 | tbl ps=>exact Heap.lt_size (show h.get? a=some _ from x)
 | met f y=>exact Heap.lt_size (show h.get? a=some _ from x)
 | ext φ=>obtain⟨_,⟨_,e⟩,_⟩:=x;exact Heap.lt_size e
theorem Paired.mapP {F G:α->β->Prop}:∀{l₁:List α}{l₂:List β},Paired F l₁ l₂->(∀a b,F a b->G a b)->Paired G l₁ l₂
 | _,_,.nil,_=> .nil
 | _,_,.cons r t,f=> .cons (f _ _ r) (Paired.mapP t f)
theorem Paired.imp' {α:Type}{F G:α->β->Prop}(f:∀a b,F a b->G a b){l₁:List α}{l₂:List β}(r:Paired F l₁ l₂):Paired G l₁ l₂:=Paired.mapP r f
theorem ObjOk.stay (x:ObjOk P w H h a o)(k:∀b u,(b=a∨H b=some (.own a))->h.get? b=some u->h'.get? b=some u)
  (ho:∀b,H b=some (.own a)->H' b=some (.own a))(ht:∀b xs,H b=some (.tup xs)->H' b=some (.tup xs)):ObjOk P w H' h' a o:=by
 induction o with
 | lst xs=>obtain⟨z,its,n,r,e⟩:=x;exact⟨z,its,n,r,k _ _ (.inl rfl) e⟩
 | tup xs=>obtain⟨z,its,r,ob,e,c⟩:=x;exact⟨z,its,r,ob,k _ _ (.inl rfl) e,c⟩
 | dK kvs=>obtain⟨z,y,vs,r,ob,es,ep,e,c⟩:=x;exact⟨z,y,vs,r,ob,es,ep,k _ _ (.inl rfl) e,c⟩
 | dT kvs =>
  obtain⟨z,y,xs,r,ob,es,ep,e,c⟩:=x;exact⟨z,y,xs,Paired.mapP r λp q z=>⟨z.1,ht _ _ z.2.1,z.2.2⟩,ob,es,ep,k _ _ (.inl rfl) e,c⟩
 | set S n=>obtain⟨ob,es,ep,t,e,c⟩:=x;exact⟨ob,es,ep,t,k _ _ (.inl rfl) e,c⟩
 | ins C dx fs =>
  obtain⟨d,z,ne,e,mA,⟨od,es,ep,e2,c⟩,r⟩:=x;exact⟨ho _ d,z,ne,k _ _ (.inl rfl) e,mA,⟨od,es,ep,k _ _ (.inr d) e2,c⟩,r⟩
 | own y=>obtain⟨ob,e⟩:=x;exact⟨ob,k _ _ (.inl rfl) e⟩
 | xd fs=>obtain⟨mA,⟨od,es,ep,e,c⟩,r⟩:=x;exact⟨mA,⟨od,es,ep,k _ _ (.inl rfl) e,c⟩,r⟩
 | rng lo hi=>obtain⟨t,u,v,e⟩:=x;exact⟨t,u,v,k _ _ (.inl rfl) e⟩
 | frz ob u ih=>obtain⟨e,q⟩:=x;exact⟨k _ _ (.inl rfl) e,ih q⟩
 | tbl ps =>
  have e:h.get? a=some { cls:= .none,data:= .fields ps }:=x;show h'.get? a=some { cls:= .none,data:= .fields ps };exact k a _ (.inl rfl) e
 | met f y =>
  have e:h.get? a=some (W.methodObj (.ref f) (.ref y)):=x;show h'.get? a=some (W.methodObj (.ref f) (.ref y));exact k a _ (.inl rfl) e
 | ext φ=>obtain⟨p,⟨o,e⟩,st⟩:=x;exact⟨st _ _ p λo q=>k _ _ (.inl rfl) q,⟨o,k _ _ (.inl rfl) e⟩,st⟩
theorem HOk.lt (x:HOk P w H h)(e:H a=some o):a<h.objs.size:=(x a o e).lt
theorem HOk.fresh (x:HOk P w H h)(e:h.objs.size<=a):H a=none:=by
 cases q:H a with
 | none=>rfl
 | some u=>exact absurd (Nat.lt_of_lt_of_le (x.lt q) e) (Nat.lt_irrefl _)
theorem HOk.kept (x:HOk P w H h)(k:∀b u,h.get? b=some u->h'.get? b=some u):HOk P w H h':=λa o e =>
 (x a o e).stay (λb u _ q=>k b u q) (λ_ q=>q) λ_ _ q=>q
theorem HOk.laid (x:HOk P w H h)(k:∀b u,h.get? b=some u->h'.get? b=some u)(hp:h.objs.size<=a)(new:ObjOk P w (upd H a o) h' a o):HOk P w (upd H a o) h':=λb u e=>by
 have hn:=x.fresh hp
 by_cases hb:b=a
 .subst hb;rw[aU]at e;cases e;exact new
 .rw[aM hb]at e;exact(x b u e).stay (λc v _ q=>k c v q) (λc q=>by rw[aM (aY q hn)];exact q) λc xs q=>by rw[aM (aY q hn)];exact q
end
def Rd (H:Hp)(a:Addr)(u:HO):Prop:=H a=some u∨∃o,H a=some (.frz o u)
theorem Rd.ok {u:HO}(r:Rd H a u)(x:HOk P w H h):ObjOk P w H h a u:=by
 rcases r with r|⟨o,r⟩
 .exact x a u r
 .obtain⟨_,q⟩:=x a _ r;exact q
def Mut:Option HO->Prop
 | some (.lst _)=>True
 | some (.dK _)=>True
 | some (.dT _)=>True
 | some (.set _ _)=>True
 | some (.ins _ _ _)=>True
 | some (.ext _)=>True
 | _=>False
section
variable {x e:Addr}{o':HO}
theorem HOk.write (ok:HOk P w H h)(mu:Mut (H x))(he:e=x∨H e=some (.own x))(k:∀b u,b≠e->h.get? b=some u->h'.get? b=some u)(heo:∃u,h'.get? e=some u)
  (new:ObjOk P w (upd H x o') h' x o'):HOk P w (upd H x o') h':=λb u q=>by
 have nown:∀c y,H c=some (.own y)->c≠x:=λc y r z=>by subst z;rw[r]at mu;exact mu
 have ntup:∀c xs,H c=some (.tup xs)->c≠x:=λc xs r z=>by subst z;rw[r]at mu;exact mu
 by_cases hb:b=x
 .subst hb;rw[aU]at q;cases q;exact new
 .rw[aM hb]at q
  by_cases hbe:b=e
  .have q':H b=some (.own x):=by
    rcases he with z|z
    .exact absurd (hbe.trans z) hb
    .rw[hbe];exact z
   rw[q]at q';cases q';obtain⟨v,hv⟩:=heo;exact⟨v,by rw[hbe];exact hv⟩
  .refine(ok b u q).stay (λc v hc r=>k c v ?_ r) (λc r=>by rw[aM (nown c b r)];exact r) λc xs r=>by rw[aM (ntup c xs r)];exact r
   rcases hc with rfl|hc
   .exact hbe
   .rintro rfl;rcases he with z|z
    .exact nown c b hc z
    .rw[hc]at z;cases z;exact hb rfl
end
structure Un (fs ex:List Addr)(H H':Hp)(h h':Heap):Prop where
 keep:∀b o,h.get? b=some o->H b=none->b∉fs->b∉ex->h'.get? b=some o
 slot:∀b o,h.get? b=some o->H b=none->b∈fs->b∉ex->∃sl,h'.get? b=some { o with slots:=sl }
 free:∀b o,h.get? b=some o->H b=none->b∉ex->H' b=none
 there:∀b o,h.get? b=some o->b∉ex->∃o',h'.get? b=some o'
 tups:∀b xs,H b=some (.tup xs)->H' b=some (.tup xs)
 frzs:∀b o u,H b=some (.frz o u)->H' b=some (.frz o u)
 tbls:∀b ps,H b=some (.tbl ps)->∃more,H' b=some (.tbl (ps++more))
variable {ch fp:List Addr}
section
variable {fs fs' ex ex':List Addr}{H1 H2:Hp}{h1 h2:Heap}{x e:Addr}{o:HO}
theorem Un.any (u:Un fs ex H H1 h h1){ob:Obj}(q:h.get? b=some ob)(n:H b=none)(hx:b∉ex):∃sl,h1.get? b=some { ob with slots:=sl }:=by
 by_cases hb:b∈fs
 .exact u.slot b ob q n hb hx
 .exact⟨ob.slots,u.keep b ob q n hb hx⟩
theorem Un.kept (k:∀b u,h.get? b=some u->h'.get? b=some u):Un fs ex H H h h' :=
 ⟨λb ob q _ _ _=>k b ob q,λb ob q _ _ _=>⟨ob.slots,k b ob q⟩,λ_ _ _ n _=>n,λb ob q _=>⟨ob,k b ob q⟩,λ_ _ q=>q,λ_ _ _ q=>q,λ_ ps q=>⟨#[],by rw[q];simp⟩⟩
theorem Un.refl:Un fs ex H H h h:=Un.kept λ_ _ q=>q
theorem Un.laid (k:∀b u,h.get? b=some u->h'.get? b=some u)(hp:h.objs.size<=a)(hn:H a=none):Un fs ex H (upd H a o) h h' where
 keep:=λb u q _ _ _=>k b u q
 slot:=λb u q _ _ _=>⟨u.slots,k b u q⟩
 free:=λb u q n _=>by rw[aM (Nat.ne_of_lt (Nat.lt_of_lt_of_le (Heap.lt_size q) hp))];exact n
 there:=λb u q _=>⟨u,k b u q⟩
 tups:=λb xs q=>by rw[aM (aY q hn)];exact q
 frzs:=λb u xs q=>by rw[aM (aY q hn)];exact q
 tbls:=λb ps q=>⟨#[],by rw[aM (aY q hn),q];simp⟩
theorem Un.write (mu:Mut (H x))(he:e=x∨H e=some (.own x))(k:∀b u,b≠e->h.get? b=some u->h'.get? b=some u)(heo:∃u,h'.get? e=some u):Un fs ex H (upd H x o) h h':=by
 have hx:∀b,H b=none->b≠x:=λb n z=>by subst z;rw[n]at mu;exact mu
 have hb:∀b,H b=none->b≠e:=λb n z=>by
  subst z;rcases he with r|r
  .exact hx b n r
  .rw[n]at r;cases r
 have hm:∀b u,H b=some u->¬Mut (some u)->b≠x:=λb u q nm z=>by subst z;rw[q]at mu;exact nm mu
 refine⟨λb u q n _ _=>k b u (hb b n) q,λb u q n _ _=>⟨u.slots,k b u (hb b n) q⟩,λb u q n _=>by rw[aM (hx b n)];exact n,λb u q _=> ?_,
  λb xs q=>by rw[aM (hm b _ q λz=>z)];exact q,λb u xs q=>by rw[aM (hm b _ q λz=>z)];exact q,λb ps q=>⟨#[],by rw[aM (hm b _ q λz=>z),q];simp⟩⟩
 by_cases hbe:b=e
 .subst hbe;exact heo
 .exact⟨u,k b u hbe q⟩
end
def trk (h:Heap)(H:Hp):List Addr:=(List.range h.objs.size).filter λa=>(H a).isSome
def tY (h:Heap)(H:Hp):Heap:=W.hideAll h (trk h H)
theorem UF (h:Heap)(H:Hp):(tY h H).objs.size=h.objs.size:=W.hideAll_size _ _
theorem X4 {o:Obj}(e:h.get? b=some o)(n:H b=none):(tY h H).get? b=some o :=
 W.hideAll_get _ e λhm=>by
  have q:(H b).isSome=true:=(List.mem_filter.mp hm).2;rw[n]at q;simp at q
theorem aBR {o:Obj}(e:(tY h H).get? b=some o):h.get? b=some o/\H b=none:=by
 have e':h.get? b=some o:=W.of_hideAll (trk h H) e;refine⟨e',?_⟩;cases q:H b with
 | none=>rfl
 | some x =>
  have hm:b∈trk h H:=List.mem_filter.mpr ⟨List.mem_range.mpr (Heap.lt_size e'),by simp[q]⟩;have z:(tY h H).get? b=none:=W.hideAll_none (trk h H) hm;rw[z]at e;cases e
structure Mod (K:W.Frag)(mg:Str->Option Value)(base:Heap):Prop where
 kin:K.In base
 glob:base.Ns mainGlobals mg
 blt:∃mb,base.Ns builtinsNs mb/\∀x:Str,x≠ "__name__" ->mb x=bootBuiltins x
 nolimit:base.NoLimit
structure Cx where
 prog:Program
 w:World
 K:W.Frag
 mg:Str->Option Value
 base:Heap
 A:Around
 N:List Str
 s₀:Shared
 H₀:Hp
 env:Env
 outer:List Env
 stack:List Env
 ex:List Addr
 fn:Str->Bool
 calm:Bool
 pn:List (Addr×Obj)
 xe:Value->Shared->Prop
def frs (l:List Env):List Addr:=l.filterMap (·.frame)
abbrev Cx.fs (X:Cx):List Addr:=frs X.outer
def Vis (sc:Scope)(x:Str):Prop:=sc.names.lookup x=some .local∨sc.names.lookup x=some .cell∨sc.names.lookup x=some .free
def Loc (sc:Scope)(x:Str):Prop:=sc.names.lookup x=some .local∨sc.names.lookup x=some .cell
def aF6 (env:Env)(h:Heap)(m:Str->Option Value)(x:Str)(u:Value):Prop :=
 (env.kindOf x=some .local/\m x=some u)∨((env.kindOf x=some .cell∨env.kindOf x=some .free)/\∃c,env.cells.lookup x=some c/\h.IsCell c (some u))
structure Cx.Ok (X:Cx):Prop where
 mod:Mod X.K X.mg X.base
 kind:X.env.scope.kind= .function
 glob:X.env.globals=mainGlobals
 blt:X.env.builtins=builtinsNs
 above:X.s₀.heap.objs.size<=X.env.locals
 inj:∀x y c,X.env.cells.lookup x=some c->X.env.cells.lookup y=some c->x=y
 has:∀x,(X.env.kindOf x=some .cell∨X.env.kindOf x=some .free)->∃c,X.env.cells.lookup x=some c
 cab:∀x c,X.fn x=true->X.env.cells.lookup x=some c->X.s₀.heap.objs.size<=c
 hd:X.calm=true->X.A.handled=none
 frames:X.A.frames=some X.stack
 stk:X.stack=X.outer∨(X.stack=X.env::X.outer/\X.env.frame=some X.env.locals)
 exf:∀b∈X.ex,b≠X.env.locals/\∀x c,X.env.cells.lookup x=some c->c≠b
 bs:∀b o,X.base.get? b=some o->X.s₀.heap.get? b=some o/\X.H₀ b=none
 bsz:X.base.objs.size<=X.s₀.heap.objs.size
 noex:∀b o,X.base.get? b=some o->b∉X.ex
 exfs:∀b∈X.ex,b∉X.fs
 funs:X.s₀.heap.FunFrames X.base X.outer
 frf:∀b∈X.fs,X.H₀ b=none
structure Inv (X:Cx)(pins:List (Addr×Obj))(σ:List (Option V))(H:Hp)(s:Shared):Prop where
 ok:X.Ok
 os:s.os=X.s₀.os
 bare:AllBare s.gens
 base:Un X.fs X.ex X.H₀ H X.s₀.heap s.heap
 loc:∃m,s.heap.Ns X.env.locals m/\∀(i:Nat) (x:Str) (v:V),X.N[i]? =some x->σ[i]? =some (some v)->Vis X.env.scope x->∃u,RelV v u/\aF6 X.env s.heap m x u
 cell:∀x c,X.env.cells.lookup x=some c->∃v,s.heap.IsCell c v
 free:H X.env.locals=none
 freeC:∀x c,X.env.cells.lookup x=some c->H c=none
 pin:∀p∈X.pn++pins,s.heap.get? p.1=some p.2/\H p.1=none/\p.1≠X.env.locals/\p.1∉X.fs/\∀v,p.2.data≠ .cell v
 hok:HOk X.prog X.w H s.heap
 len:σ.length=X.N.length
variable {g':Array GenState}{j n t':Nat}{d':Drawn}{N:List Str}{m name qual x:Str}{A:Around}{E Q:Value->Shared->Prop}{v:V}{u:Value}{s s':Shared}{X:Cx}{pins:List (Addr×Obj)}
section
variable {σ:List (Option V)}
theorem Cx.Ok.nofr (ok:X.Ok){o:Obj}(e:X.base.get? b=some o):b∉X.fs:=λhb=>by
 have:=(ok.funs.mem hb).1;rw[e]at this;cases this
theorem Inv.bs (I:Inv X pins σ H s):∀b o,X.base.get? b=some o->s.heap.get? b=some o/\H b=none:=λb o e =>
 ⟨I.base.keep b o (I.ok.bs b o e).1 (I.ok.bs b o e).2 (I.ok.nofr e) (I.ok.noex b o e),I.base.free b o (I.ok.bs b o e).1 (I.ok.bs b o e).2 (I.ok.noex b o e)⟩
theorem Inv.bk (I:Inv X pins σ H s):∀b o,X.base.get? b=some o->s.heap.get? b=some o:=λb o e=>(I.bs b o e).1
theorem Inv.mod (I:Inv X pins σ H s):Mod X.K X.mg X.base:=I.ok.mod
theorem Inv.kIn (I:Inv X pins σ H s):X.K.In s.heap:=I.ok.mod.kin.keeps I.bk
theorem Inv.lt (I:Inv X pins σ H s):X.env.locals<s.heap.objs.size:=let ⟨_,hn,_⟩:=I.loc;hn.lt
theorem Inv.sz (I:Inv X pins σ H s):X.s₀.heap.objs.size<=s.heap.objs.size:=Nat.le_trans I.ok.above (Nat.le_of_lt I.lt)
theorem Inv.nofs (I:Inv X pins σ H s)(h:s.heap.objs.size<=a):a∉X.fs:=λhb=>by
 obtain⟨_,o,ho,_⟩:=I.ok.funs.mem hb;exact absurd (Nat.lt_of_lt_of_le (Heap.lt_size ho) (Nat.le_trans I.sz h)) (Nat.lt_irrefl _)
theorem Inv.cne (I:Inv X pins σ H s):∀x c,X.env.cells.lookup x=some c->c≠X.env.locals:=λx c e z=>by
 obtain⟨v,o,ho,hd⟩:=I.cell x c e;obtain⟨m,⟨o',es,ep,ho',hd',_⟩,_⟩:=I.loc;rw[z,ho']at ho;cases ho;rw[hd']at hd;cases hd
theorem Inv.funs (I:Inv X pins σ H s):s.heap.FunFrames X.base X.outer:=by
 have all:∀(l:List Env),(∀b∈frs l,b∈X.fs)->X.s₀.heap.FunFrames X.base l->s.heap.FunFrames X.base l:=by
  intro l
  induction l with
  | nil=>intro _ _;trivial
  | cons env r ih =>
   intro hs hl;obtain⟨hk,⟨L,o,hf,hn,ho,hd⟩,hr⟩:=hl;have hL:L∈X.fs:=hs L (by unfold frs;rw[List.filterMap_cons,hf];exact List.mem_cons_self);obtain⟨sl,e⟩:=I.base.slot L o ho (I.ok.frf L hL) hL λz=>I.ok.exfs L z hL;exact⟨hk,⟨L,_,hf,hn,e,hd⟩,ih (λb hb=>hs b (by unfold frs;rw[List.filterMap_cons,hf];exact List.mem_cons_of_mem _ hb)) hr⟩
 exact all X.outer (λ_ hb=>hb) I.ok.funs
theorem Inv.stack (I:Inv X pins σ H s):s.heap.FunFrames X.base X.stack:=by
 rcases I.ok.stk with e|⟨e,hf⟩
 .rw[e];exact I.funs
 .rw[e];obtain⟨m,hn,_⟩:=I.loc;refine .cons (by rw[I.ok.kind];decide) hf hn ?_ I.funs;exact Heap.get?_none_of_le (Nat.le_trans I.ok.bsz I.ok.above)
theorem Inv.stkSub (I:Inv X pins σ H s):∀b∈frs X.stack,b∈X.env.locals::X.fs:=λb hb=>by
 rcases I.ok.stk with e|⟨e,hf⟩
 .rw[e]at hb;exact List.mem_cons_of_mem _ hb
 .rw[e]at hb;unfold frs at hb;rw[List.filterMap_cons,hf]at hb;exact hb
theorem Inv.stkFree (I:Inv X pins σ H s):∀b∈frs X.stack,H b=none:=λb hb=>by
 rcases List.mem_cons.mp (I.stkSub b hb) with e|hb
 .rw[e];exact I.free
 .obtain⟨_,o,ho,_⟩:=I.ok.funs.mem hb;exact I.base.free b o ho (I.ok.frf b hb) λz=>I.ok.exfs b z hb
theorem Inv.step (I:Inv X pins σ H s)
  (hch:∀b∈ch,(b∈X.ex∨X.s₀.heap.objs.size<=b)/\b≠X.env.locals/\(∀x c,X.env.cells.lookup x=some c->c≠b)/\∀p∈X.pn++pins,p.1≠b)
  (keep:∀b o,b≠X.env.locals->b∉X.fs->b∉ch->s.heap.get? b=some o->H b=none->h'.get? b=some o)
  (slot:∀b o,b≠X.env.locals->b∈X.fs->b∉ch->s.heap.get? b=some o->H b=none->∃sl,h'.get? b=some { o with slots:=sl })(free:∀b o,b∉ch->s.heap.get? b=some o->H b=none->H' b=none)
  (there:∀b o,b∉ch->s.heap.get? b=some o->∃o',h'.get? b=some o')
  (tups:∀b xs,H b=some (.tup xs)->H' b=some (.tup xs))(frzs:∀b o u,H b=some (.frz o u)->H' b=some (.frz o u))(tbls:∀b ps,H b=some (.tbl ps)->∃more,H' b=some (.tbl (ps++more)))
  (ns:∀m,s.heap.Ns X.env.locals m->h'.Ns X.env.locals m)(hok:HOk X.prog X.w H' h')(hg:AllBare g') :
  Inv X pins σ H' { s with heap:=h',gens:=g',drawn:=d',toks:=t' }:=by
 have neL:∀b o,X.s₀.heap.get? b=some o->b≠X.env.locals:=λb o e=>Nat.ne_of_lt (Nat.lt_of_lt_of_le (Heap.lt_size e) I.ok.above);have neC:∀b o,X.s₀.heap.get? b=some o->b∉X.ex->b∉ch:=λb o e hx hb=>by
  rcases (hch b hb).1 with z|z
  .exact hx z
  .exact absurd (Nat.lt_of_lt_of_le (Heap.lt_size e) z) (Nat.lt_irrefl _)
 have cellK:∀x c,X.env.cells.lookup x=some c->∀v,s.heap.IsCell c v->h'.IsCell c v:=λx c e v ⟨o,ho,hd⟩=>by
  have nch:c∉ch:=λz=>(hch c z).2.2.1 x c e rfl
  by_cases hc:c∈X.fs
  .obtain⟨sl,q⟩:=slot c o (I.cne x c e) hc nch ho (I.freeC x c e);exact⟨_,q,hd⟩
  .exact⟨o,keep c o (I.cne x c e) hc nch ho (I.freeC x c e),hd⟩
 refine⟨I.ok,I.os,hg,⟨λb o e n hb hx=> ?_,λb o e n hb hx=> ?_,λb o e n hx=> ?_,λb o e hx=> ?_,λb xs e=>tups b xs (I.base.tups b xs e),λb o xs e=>frzs b o xs (I.base.frzs b o xs e),λb ps e=> ?_⟩,?_,λx c e=> ?_,?_,λx c e=> ?_,λp hp=> ?_,hok,I.len⟩
 .exact keep b o (neL b o e) hb (neC b o e hx) (I.base.keep b o e n hb hx) (I.base.free b o e n hx)
 .obtain⟨sl,e1⟩:=I.base.slot b o e n hb hx;obtain⟨sl',e2⟩:=slot b _ (neL b o e) hb (neC b o e hx) e1 (I.base.free b o e n hx);exact⟨sl',e2⟩
 .obtain⟨o',e1⟩:=I.base.there b o e hx;exact free b o' (neC b o e hx) e1 (I.base.free b o e n hx)
 .obtain⟨o',e1⟩:=I.base.there b o e hx;exact there b o' (neC b o e hx) e1
 .obtain⟨m1,e1⟩:=I.base.tbls b ps e;obtain⟨m2,e2⟩:=tbls b _ e1;exact⟨m1++m2,by rw[e2,Array.append_assoc]⟩
 .obtain⟨m,hn,hl⟩:=I.loc;refine⟨m,ns m hn,λi x v e1 e2 e3=> ?_⟩;obtain⟨u,r,l⟩:=hl i x v e1 e2 e3;refine⟨u,r,?_⟩;rcases l with l|⟨k,c,e,z⟩
  .exact .inl l
  .exact .inr ⟨k,c,e,cellK x c e _ z⟩
 .obtain⟨v,z⟩:=I.cell x c e;exact⟨v,cellK x c e v z⟩
 .obtain⟨m,⟨o,_,_,ho,_⟩,_⟩:=I.loc;exact free _ o (λz=>(hch _ z).2.1 rfl) ho I.free
 .obtain⟨v,o,ho,hd⟩:=I.cell x c e;exact free c o (λz=>(hch c z).2.2.1 x c e rfl) ho (I.freeC x c e)
 .obtain⟨e,n,ne,nf,d⟩:=I.pin p hp;have nch:p.1∉ch:=λz=>(hch p.1 z).2.2.2 p hp rfl;exact⟨keep p.1 p.2 ne nf nch e n,free p.1 p.2 nch e n,ne,nf,d⟩
theorem Inv.un (I:Inv X pins σ H s)(u:Un X.fs [] H H' s.heap h')(hok:HOk X.prog X.w H' h'):Inv X pins σ H' { s with heap:=h',toks:=t' }:=by
 obtain⟨m,⟨o,es,ep,ho,r⟩,_⟩:=id I.loc;obtain⟨sl,hL⟩:=u.any ho I.free (by simp);exact I.step (g':=s.gens) (d':=s.drawn) (ch:=[]) (λ_ z=>nomatch z) (λb o _ hb _ e n=>u.keep b o e n hb (by simp)) (λb o _ hb _ e n=>u.slot b o e n hb (by simp)) (λb o _ e n=>u.free b o e n (by simp)) (λb o _ e=>u.there b o e (by simp)) u.tups u.frzs u.tbls (λm' hm=>by
  obtain⟨o',es',ep',ho',r'⟩:=hm;rw[ho]at ho';cases ho';exact⟨_,es',ep',hL,r'⟩) hok I.bare
theorem Inv.call (I:Inv X pins σ H s)(u:Un (frs X.stack) ch H H' s.heap h')(hok:HOk X.prog X.w H' h')(hg:AllBare g')
  (hch:∀b∈ch,(b∈X.ex∨X.s₀.heap.objs.size<=b)/\b≠X.env.locals/\(∀x c,X.env.cells.lookup x=some c->c≠b)/\∀p∈X.pn++pins,p.1≠b) :
  Inv X pins σ H' { s with heap:=h',gens:=g',drawn:=d',toks:=t' }:=by
 obtain⟨m,⟨o,es,ep,ho,r⟩,_⟩:=id I.loc;obtain⟨sl,hL⟩:=u.any ho I.free λz=>(hch _ z).2.1 rfl;exact I.step (ch:=ch) hch (λb o hL hb hc e n=>u.keep b o e n (λz=>(List.mem_cons.mp (I.stkSub b z)).elim hL hb) hc) (λb o _ _ hc e n=>u.any e n hc) (λb o hc e n=>u.free b o e n hc) (λb o hc e=>u.there b o e hc) u.tups u.frzs u.tbls (λm' hm=>by
  obtain⟨o',es',ep',ho',r'⟩:=hm;rw[ho]at ho';cases ho';exact⟨_,es',ep',hL,r'⟩) hok hg
theorem Inv.turned (I:Inv X pins σ H s)(k:∀b o,b≠it->s.heap.get? b=some o->h'.get? b=some o)(hn:H it=none)(hL:it≠X.env.locals)
  (h1:it∈X.ex∨X.s₀.heap.objs.size<=it)(h2:∀x c,X.env.cells.lookup x=some c->c≠it)(h3:∀p∈X.pn++pins,p.1≠it):Inv X pins σ H { s with heap:=h',toks:=t' }:=by
 have nit:∀b u,H b=some u->b≠it:=λb u e z=>by rw[z,hn]at e;cases e
 refine I.step (g':=s.gens) (d':=s.drawn) (ch:=[it]) (λb hb=> ?_) (λb o _ _ hc e _=>k b o (λz=>hc (by simp[z])) e) (λb o _ _ hc e _=>⟨o.slots,k b o (λz=>hc (by simp[z])) e⟩) (λ_ _ _ _ n=>n)
  (λb o hc e=>⟨o,k b o (λz=>hc (by simp[z])) e⟩) (λ_ _ e=>e) (λ_ _ _ e=>e) (λb ps e=>⟨#[],by rw[e];simp⟩) (λm hm=> ?_) (λb u e=> ?_) I.bare
 .have e:b=it:=by simpa using hb
  subst e;exact⟨h1,hL,h2,h3⟩
 .obtain⟨o,es,ep,ho,r⟩:=hm;exact⟨o,es,ep,k _ o (Ne.symm hL) ho,r⟩
 .refine(I.hok b u e).stay (λc v hc q=>k c v ?_ q) (λ_ q=>q) λ_ _ q=>q;rcases hc with z|z
  .rw[z];exact nit b u e
  .exact nit c _ z
theorem Inv.tok (I:Inv X pins σ H s)(t:Nat):Inv X pins σ H { s with toks:=t }:=I.un (h':=s.heap) (t':=t) Un.refl I.hok
theorem Inv.kept (I:Inv X pins σ H s)(k:∀b u,s.heap.get? b=some u->h'.get? b=some u):Inv X pins σ H { s with heap:=h',toks:=t' }:=I.un (Un.kept k) (I.hok.kept k)
theorem Inv.laid {o:HO}(I:Inv X pins σ H s)(k:∀b u,s.heap.get? b=some u->h'.get? b=some u)(hp:s.heap.objs.size<=a)(new:ObjOk X.prog X.w (upd H a o) h' a o):
  Inv X pins σ (upd H a o) { s with heap:=h',toks:=t' }:=I.un (Un.laid k hp (I.hok.fresh hp)) (I.hok.laid k hp new)
theorem Inv.write {x e:Addr}{o:HO}(I:Inv X pins σ H s)(mu:Mut (H x))(he:e=x∨H e=some (.own x))(k:∀b u,b≠e->s.heap.get? b=some u->h'.get? b=some u)(heo:∃u,h'.get? e=some u)
  (new:ObjOk X.prog X.w (upd H x o) h' x o):Inv X pins σ (upd H x o) { s with heap:=h',toks:=t' }:=I.un (Un.write mu he k heo) (I.hok.write mu he k heo new)
theorem Inv.weak {σ':List (Option V)}(I:Inv X pins σ H s)(hl:σ'.length=σ.length)(w:∀(i:Nat) v,σ'[i]? =some (some v)->σ[i]? =some (some v)):Inv X pins σ' H s :=
 ⟨I.ok,I.os,I.bare,I.base,let ⟨m,hn,hl'⟩:=I.loc;⟨m,hn,λi x v e1 e2 e3=>hl' i x v e1 (w i v e2) e3⟩,I.cell,I.free,I.freeC,I.pin,I.hok,hl.trans I.len⟩
theorem Inv.pins_of {pins':List (Addr×Obj)}(I:Inv X pins σ H s)(h:∀p∈pins',s.heap.get? p.1=some p.2/\H p.1=none/\p.1≠X.env.locals/\p.1∉X.fs/\∀v,p.2.data≠ .cell v):Inv X pins' σ H s :=
 ⟨I.ok,I.os,I.bare,I.base,I.loc,I.cell,I.free,I.freeC,λp hp=>(List.mem_append.mp hp).elim (λz=>I.pin p (List.mem_append_left _ z)) (h p),I.hok,I.len⟩
theorem zH (hN:N.Nodup){i:Nat}(a:N[i]? =some x)(b:N[j]? =some x):i=j:=by
 obtain⟨h1,e1⟩:=List.getElem?_eq_some_iff.mp a;obtain⟨h2,e2⟩:=List.getElem?_eq_some_iff.mp b;exact(List.getElem_inj hN).mp (e1.trans e2.symm)
theorem TD {M:Model}{i:Nat}{Q:Unit->Shared->Prop}(I:Inv X pins σ H s)(hN:X.N.Nodup)(hi:X.N[i]? =some x)(hx:Loc X.env.scope x)(r:RelV v u)
  (h:∀s',Inv X pins (σ.set i (some v)) H s'->(∃a,Heap.SameBut a s.heap s'.heap/\(a=X.env.locals∨X.env.cells.lookup x=some a))->Q () s')(hf:X.fn x=true∨X.env.scope.names.lookup x=some .local:=by first|exact .inl rfl|exact .inr rfl|assumption):wpAny M A (storeName X.env x u) Q E s:=by
 obtain⟨m,hn,hl⟩:=id I.loc;have hcls:(X.env.scope.kind== .class||(X.env.scope.kind== .module&&X.env.locals !=X.env.globals))=false:=by rw[I.ok.kind];rfl
 have hiσ:i<σ.length:=by rw[I.len];exact(List.getElem?_eq_some_iff.mp hi).1
 have cne:=I.cne;have tracked:∀{a:Addr}{h':Heap},(∃o,s.heap.get? a=some o/\H a=none)->Heap.SameBut a s.heap h'->HOk X.prog X.w H h':=λ{a h'} ha hs b ob e=>by
  obtain⟨_,_,hfree⟩:=ha;refine(I.hok b ob e).stay (λc w' hc q=>(hs.2 c ?_).trans q) (λ_ q=>q) λ_ _ q=>q;rintro rfl;rcases hc with rfl|hc
  .rw[hfree]at e;cases e
  .rw[hfree]at hc;cases hc
 rcases hx with hk|hk
 .refine wpAny_storeName_local hk hn (λh' hn' hs=> ?_) hcls;obtain⟨oL,_,_,hoL,_⟩:=id hn;refine h _ ⟨I.ok,I.os,I.bare,⟨λb o e n hb hx=> ?_,λb o e n hb hx=> ?_,I.base.free,λb o e hx=> ?_,I.base.tups,I.base.frzs,I.base.tbls⟩,⟨_,hn',λj y v' e1 e2 e3=> ?_⟩,λy c e=> ?_,I.free,I.freeC,λp hp=> ?_,tracked ⟨oL,hoL,I.free⟩ hs,by simpa using I.len⟩ ⟨_,hs,.inl rfl⟩
  .exact(hs.2 b (Nat.ne_of_lt (Nat.lt_of_lt_of_le (Heap.lt_size e) I.ok.above))).trans (I.base.keep b o e n hb hx)
  .obtain⟨sl,e1⟩:=I.base.slot b o e n hb hx;exact⟨sl,(hs.2 b (Nat.ne_of_lt (Nat.lt_of_lt_of_le (Heap.lt_size e) I.ok.above))).trans e1⟩
  .obtain⟨o',e1⟩:=I.base.there b o e hx;exact⟨o',(hs.2 b (Nat.ne_of_lt (Nat.lt_of_lt_of_le (Heap.lt_size e) I.ok.above))).trans e1⟩
  .by_cases hj:j=i
   .subst hj;rw[hi]at e1;cases e1;rw[List.getElem?_set_self hiσ]at e2;cases e2;exact⟨u,r,.inl ⟨hk,by simp⟩⟩
   .rw[List.getElem?_set_ne (Ne.symm hj)]at e2;obtain⟨u',r',q⟩:=hl j y v' e1 e2 e3;refine⟨u',r',?_⟩;rcases q with⟨k,e⟩|⟨k,c,e,z⟩
    .refine .inl ⟨k,?_⟩;have:y≠x:=λe=>hj (zH hN e1 (e▸hi));simp[this,e]
    .exact .inr ⟨k,c,e,z.sameBut hs (cne y c e)⟩
  .obtain⟨w',z⟩:=I.cell y c e;exact⟨w',z.sameBut hs (cne y c e)⟩
  .obtain⟨e,n,ne,nf,d⟩:=I.pin p hp;exact⟨(hs.2 p.1 ne).trans e,n,ne,nf,d⟩
 .have hfn:X.fn x=true:=by
   rcases hf with z|z
   .exact z
   .rw[z]at hk;cases hk
  obtain⟨c,hc⟩:=I.ok.has x (.inl hk);obtain⟨w',z⟩:=I.cell x c hc;refine wpAny_storeName_cell I.ok.kind hk hc z (λh' hc' hs=> ?_);obtain⟨oc,hoc,hocd⟩:=id z;refine h { s with heap:=h' } ⟨I.ok,I.os,I.bare,⟨λb o e n hb hx=> ?_,λb o e n hb hx=> ?_,I.base.free,λb o e hx=> ?_,I.base.tups,I.base.frzs,I.base.tbls⟩,⟨m,hn.sameBut hs (Ne.symm (cne x c hc)),λj y v' e1 e2 e3=> ?_⟩,λy c' e=> ?_,I.free,I.freeC,λp hp=> ?_,tracked ⟨oc,hoc,I.freeC x c hc⟩ hs,by simpa using I.len⟩ ⟨c,hs,.inr hc⟩
  .exact(hs.2 b (Nat.ne_of_lt (Nat.lt_of_lt_of_le (Heap.lt_size e) (I.ok.cab x c hfn hc)))).trans (I.base.keep b o e n hb hx)
  .obtain⟨sl,e1⟩:=I.base.slot b o e n hb hx;exact⟨sl,(hs.2 b (Nat.ne_of_lt (Nat.lt_of_lt_of_le (Heap.lt_size e) (I.ok.cab x c hfn hc)))).trans e1⟩
  .obtain⟨o',e1⟩:=I.base.there b o e hx;exact⟨o',(hs.2 b (Nat.ne_of_lt (Nat.lt_of_lt_of_le (Heap.lt_size e) (I.ok.cab x c hfn hc)))).trans e1⟩
  .by_cases hj:j=i
   .subst hj;rw[hi]at e1;cases e1;rw[List.getElem?_set_self hiσ]at e2;cases e2;exact⟨u,r,.inr ⟨.inl hk,c,hc,hc'⟩⟩
   .rw[List.getElem?_set_ne (Ne.symm hj)]at e2;obtain⟨u',r',q⟩:=hl j y v' e1 e2 e3;refine⟨u',r',?_⟩;rcases q with q|⟨k,c',e,z'⟩
    .exact .inl q
    .refine .inr ⟨k,c',e,z'.sameBut hs ?_⟩;rintro rfl;exact hj (zH hN e1 (I.ok.inj _ _ _ e hc▸hi))
  .by_cases hcc:c'=c
   .subst hcc;exact⟨_,hc'⟩
   .obtain⟨w2,z2⟩:=I.cell y c' e;exact⟨w2,z2.sameBut hs hcc⟩
  .obtain⟨e,n,ne,nf,d⟩:=I.pin p hp;refine⟨(hs.2 p.1 ?_).trans e,n,ne,nf,d⟩;intro q;rw[q,hoc]at e;have q':oc=p.2:=Option.some.inj e;exact d w' (by rw[←q'];exact hocd)
theorem yD {M:Model}{i:Nat}{Q:Unit->Shared->Prop}(I:Inv X pins σ H s)(hN:X.N.Nodup)(hi:X.N[i]? =some x)(hx:Loc X.env.scope x)(r:RelV v u)
  (h:∀s',Inv X pins (σ.set i (some v)) H s'->Q () s')(hf:X.fn x=true∨X.env.scope.names.lookup x=some .local:=by first|exact .inl rfl|exact .inr rfl|assumption):wpAny M A (storeName X.env x u) Q E s :=
 TD I hN hi hx r (λs' I' _=>h s' I') hf
theorem Inv.call' (I:Inv X pins σ H s)(ho:s'.os=s.os)(u:Un (frs X.stack) ch H H' s.heap s'.heap)(hok:HOk X.prog X.w H' s'.heap)(hg:AllBare s'.gens)
  (hch:∀b∈ch,(b∈X.ex∨X.s₀.heap.objs.size<=b)/\b≠X.env.locals/\(∀x c,X.env.cells.lookup x=some c->c≠b)/\∀p∈X.pn++pins,p.1≠b):Inv X pins σ H' s':=by
 obtain⟨h',g',d',t',o'⟩:=s';have e:o'=s.os:=ho;subst e;exact I.call (g':=g') (t':=t') (d':=d') u hok hg hch
end
abbrev XK:=Value->Option Addr->Hp->Prop
abbrev St:=List (Option V)
abbrev VK:=V->Hp->Prop
abbrev TE:=St->Hp->VK->Prop
abbrev TT:=St->Hp->(Bool->Hp->Prop)->Prop
abbrev TA:=St->Hp->(List V->Hp->Prop)->Prop
structure gN where
 nx:St->Hp->Prop
 rt:VK
 bk:St->Hp->Prop:=λ_ _=>False
 ct:St->Hp->Prop:=λ_ _=>False
abbrev TS:=gN->St->Hp->Prop
def EP (X:Cx)(pins:List (Addr×Obj))(σ:St)(Q:VK)(u:Value)(s':Shared):Prop:=∃v H',Inv X pins σ H' s'/\RelV v u/\Q v H'
def TP (X:Cx)(pins:List (Addr×Obj))(σ:St)(Q:Bool->Hp->Prop)(b:Bool)(s':Shared):Prop:=∃H',Inv X pins σ H' s'/\Q b H'
def AP (X:Cx)(pins:List (Addr×Obj))(σ:St)(Q:List V->Hp->Prop)(us:List Value)(s':Shared):Prop:=∃vs H',Inv X pins σ H' s'/\Vals vs us/\Q vs H'
def SP (X:Cx)(pins:List (Addr×Obj))(D:gN)(f:Flow)(s':Shared):Prop :=
 match f with
 | .next=>∃σ' H',Inv X pins σ' H' s'/\D.nx σ' H'
 | .brk=>∃σ' H',Inv X pins σ' H' s'/\D.bk σ' H'
 | .cont=>∃σ' H',Inv X pins σ' H' s'/\D.ct σ' H'
 | .ret u=>∃v σ' H',Inv X pins σ' H' s'/\RelV v u/\D.rt v H'
def PE (X:Cx)(e:Expr)(t:TE):Prop :=
 ∀(pins:List (Addr×Obj)) (s:Shared) (σ:St) (H:Hp) (Q:VK),Inv X pins σ H s->t σ H Q->wpAny (model X.prog X.w) X.A (eval e X.env) (EP X pins σ Q) X.xe s
def PT (X:Cx)(e:Expr)(t:TT):Prop :=
 ∀(pins:List (Addr×Obj)) (s:Shared) (σ:St) (H:Hp) (Q:Bool->Hp->Prop),Inv X pins σ H s->t σ H Q->wpAny (model X.prog X.w) X.A (isTrue e X.env (eval e X.env)) (TP X pins σ Q) X.xe s
def PW (X:Cx)(e:Expr)(t:TT):Prop :=
 ∀(whole:Sem Value) (pins:List (Addr×Obj)) (s:Shared) (σ:St) (H:Hp) (Q:Bool->Hp->Prop),Inv X pins σ H s->t σ H Q->wpAny (model X.prog X.w) X.A (isTrue e X.env whole) (TP X pins σ Q) X.xe s
variable {e o tg:Expr}
theorem PW.pt {t:TT}(h:PW X e t):PT X e t:=h _
def PA (X:Cx)(es:List Expr)(t:TA):Prop :=
 ∀(pos:Pos) (pins:List (Addr×Obj)) (s:Shared) (σ:St) (H:Hp) (Q:List V->Hp->Prop),Inv X pins σ H s->t σ H Q->wpAny (model X.prog X.w) X.A (spliced (backTo pos (starEach es X.env))) (AP X pins σ Q) X.xe s
def PS (X:Cx)(st:Stmt)(t:TS):Prop :=
 ∀(pins:List (Addr×Obj)) (s:Shared) (σ:St) (H:Hp) (D:gN),Inv X pins σ H s->t D σ H->wpAny (model X.prog X.w) X.A (exec st X.env) (SP X pins D) X.xe s
def PSs (X:Cx)(st:List Stmt)(t:TS):Prop :=
 ∀(pins:List (Addr×Obj)) (s:Shared) (σ:St) (H:Hp) (D:gN),Inv X pins σ H s->t D σ H->wpAny (model X.prog X.w) X.A (execs st X.env) (SP X pins D) X.xe s
theorem thn {α:Type}{t:Sem α}{Q Q':α->Shared->Prop}{M:Model}(h:wpAny M A t Q E s)(hQ:∀a s,Q a s->Q' a s):wpAny M A t Q' E s:=wpAny_mono h hQ λ_ _ x=>x
variable {apos pos pos':Pos}{σ:St}{op op':CmpOp}{es:List Expr}{ta te:TE}
section
def iZ (i:Nat):TE:=λσ H Q=>∃v,σ[i]? =some (some v)/\Q v H
def tC (v:V):TE:=λ_ H Q=>Q v H
theorem aDc {i:Nat}(hN:X.N[i]? =some x)(hv:Vis X.env.scope x)(hd:(x==("__debug__" :Str))=false:=by decide)(hcd:(x==("__classdict__" :Str))=false:=by decide):PE X (.Name x pos) (iZ i):=by
 intro pins s σ H Q I h;obtain⟨v,e,h⟩:=h;obtain⟨m,hn,hl⟩:=I.loc;obtain⟨u,r,l⟩:=hl i x v hN e hv;have fin:EP X pins σ Q u s:=⟨v,H,I,r,h⟩
 rcases l with⟨hk,hm⟩|⟨hk,c,hc,hcell⟩
 .exact wpAny_Name (wpAny_loadName_local I.ok.kind hk hn hm fin) hd
 .rcases hk with hk|hk
  .exact wpAny_Name (wpAny_loadName_cell I.ok.kind hk hc hcell fin) hd
  .exact wpAny_Name (wpAny_loadName_free I.ok.kind hk hc hcell fin hcd) hd
theorem aF {i j pos}:PE X (.Constant (.int i) j pos) (tC (.int i)):=λ_ _ _ H _ I h=>wpAny_Constant_int ⟨.int i,H,I.tok _,⟨_,rfl⟩,h⟩
theorem t9 {b j pos}:PE X (.Constant (.bool b) j pos) (tC (.bl b)):=λ_ _ _ H _ I h=>Constant_bool ⟨.bl b,H,I,rfl,h⟩
theorem AF {j pos}:PE X (.Constant .none j pos) (tC .non):=λ_ _ _ H _ I h=>Constant_none ⟨.non,H,I,rfl,h⟩
theorem aD {x j pos}:PE X (.Constant (.str x) j pos) (tC (.str x)):=λ_ _ _ H _ I h=>Calls.Constant_str ⟨.str x,H,I.tok _,⟨_,rfl⟩,h⟩
def Gl (X:Cx)(x:Str):Prop:=X.env.kindOf x=some .globalImplicit
theorem dI (I:Inv X pins σ H s)(hg:Gl X x)(hm:X.mg x=some u)(h:Q u s)
  (hd:(x==("__debug__" :Str))=false:=by decide):wpAny (model X.prog X.w) X.A (eval (.Name x pos) X.env) Q E s :=
 Calls.Name_function_global I.ok.kind hg (Calls.loadGlobal_global (by rw[I.ok.glob];exact I.mod.glob.keeps I.bk) hm h) hd
theorem tF (I:Inv X pins σ H s)(hg:Gl X x)(hm:X.mg x=none)(hv:bootBuiltins x=some u)(h:Q u s)
  (hn:x≠ "__name__" :=by decide)(hd:(x==("__debug__" :Str))=false:=by decide):wpAny (model X.prog X.w) X.A (eval (.Name x pos) X.env) Q E s:=by
 obtain⟨mb,h1,h2⟩:=I.mod.blt;exact Calls.Name_function_global I.ok.kind hg (Calls.loadGlobal_builtin (by rw[I.ok.glob];exact I.mod.glob.keeps I.bk) hm (by rw[I.ok.blt];exact h1.keeps I.bk) ((h2 x hn).trans hv) h) hd
theorem MW (hg:Gl X x)(hm:X.mg x=some u)(r:RelV v u)(hd:(x==("__debug__" :Str))=false:=by decide):PE X (.Name x pos) (tC v) :=
 λ_ _ _ H _ I h=>dI I hg hm ⟨v,H,I,r,h⟩ hd
theorem aAz (hg:Gl X x)(hm:X.mg x=none)(hv:bootBuiltins x=some u)(r:RelV v u)(hn:x≠ "__name__" :=by decide)(hd:(x==("__debug__" :Str))=false:=by decide):PE X (.Name x pos) (tC v) :=
 λ_ _ _ H _ I h=>tF I hg hm hv ⟨v,H,I,r,h⟩ hn hd
variable {a b:Expr}{tb:TE}
def PC (X:Cx)(op:CmpOp)(a b:Expr)(t:TE):Prop :=
 ∀(pins:List (Addr×Obj)) (s:Shared) (σ:St) (H:Hp) (Q:VK),Inv X pins σ H s->t σ H Q →
  wpAny (model X.prog X.w) X.A (eval a X.env) (λv s₁=>wpAny (model X.prog X.w) X.A (eval b X.env) (λu s₂=>wpAny (model X.prog X.w) X.A (compareOp op v u) (EP X pins σ Q) X.xe s₂) X.xe s₁) X.xe s
def tB (t:TE):TT:=λσ H Q=>t σ H λx H1=>∃c,x= .bl c/\Q c H1
theorem AJ {t:TE}(h:PC X op a b t)(h1:behindInMarks op b=false:=by first|exact nobehind _ (by decide) (by decide)|rfl):PT X (.Compare a [op] [b] pos) (tB t):=by
 intro pins s σ H Q I hw;refine wpAny_isTrue_Compare1 (thn (h pins s σ H _ I hw) λv s1 h1=>thn h1 λu s2 h2=>thn h2 λc s3 ⟨x,H1,I1,r1,q1⟩=> ?_) h1;obtain⟨d,rfl,q⟩:=q1;cases r1;exact wpAny_truthy_bool ⟨H1,I1,q⟩
theorem eY {t:TE}(h:PE X e t)(he:∀whole,isTrue e X.env whole=(do let v ←whole;standAt e.pos;holding [v] (truthy v)):=by intro _;rfl):PT X e (tB t):=by
 intro pins s σ H Q I hw;refine isTrue_plain (thn (h pins s σ H _ I hw) λv s1 ⟨x,H1,I1,r1,q1⟩=> ?_) (he _);obtain⟨d,rfl,q⟩:=q1;cases r1;exact wpAny_truthy_bool ⟨H1,I1,q⟩
variable {tA tB':TT}{rest:List Expr}
def aDm (t u:TT):TT:=λσ H Q=>t σ H λc H1=>if c=true then u σ H1 Q else Q false H1
def tOr (t u:TT):TT:=λσ H Q=>t σ H λc H1=>if c=true then Q true H1 else u σ H1 Q
def aCN (t:TT):TT:=λσ H Q=>t σ H λc H1=>Q (!c) H1
theorem aBa (ha:PT X a tA):PW X (.BoolOp .And [a] pos) tA:=by
 intro wh pins s σ H Q I h;refine isTrue_and (thn (ha pins s σ H Q I h) λc s1 e=> ?_);cases c with
 | true=>exact isTrue_and_nil e
 | false=>exact e
theorem UD (ha:PT X a tA):PW X (.BoolOp .Or [a] pos) tA:=by
 intro wh pins s σ H Q I h;refine isTrue_or (thn (ha pins s σ H Q I h) λc s1 e=> ?_);cases c with
 | false=>exact isTrue_or_nil e
 | true=>exact e
theorem aD0 (ha:PT X a tA)(hb:PW X (.BoolOp .And (b::rest) pos) tB'):PW X (.BoolOp .And (a::b::rest) pos) (aDm tA tB'):=by
 intro wh pins s σ H Q I h;refine isTrue_and (thn (ha pins s σ H _ I h) λc s1 ⟨H1,I1,q1⟩=> ?_);cases c with
 | true=>exact hb wh pins s1 σ H1 Q I1 q1
 | false=>exact⟨H1,I1,q1⟩
theorem aAc (ha:PT X a tA)(hb:PW X (.BoolOp .Or (b::rest) pos) tB'):PW X (.BoolOp .Or (a::b::rest) pos) (tOr tA tB'):=by
 intro wh pins s σ H Q I h;refine isTrue_or (thn (ha pins s σ H _ I h) λc s1 ⟨H1,I1,q1⟩=> ?_);cases c with
 | true=>exact⟨H1,I1,q1⟩
 | false=>exact hb wh pins s1 σ H1 Q I1 q1
theorem hG (ha:PT X a tA):PT X (.UnaryOp .Not a pos) (aCN tA):=by
 intro pins s σ H Q I h;exact isTrue_not (ha pins s σ H (λc H1=>Q (!c) H1) I h)
def aAs (ta tb:TE):TE:=λσ H Q=>ta σ H λx H1=>∃c,x= .bl c/\if c=true then tb σ H1 Q else Q (.bl false) H1
def aDN (ta tb:TE):TE:=λσ H Q=>ta σ H λx H1=>∃c,x= .bl c/\if c=true then Q (.bl true) H1 else tb σ H1 Q
def aAi (ta:TE):TE:=λσ H Q=>ta σ H λx H1=>∃c,x= .bl c/\Q (.bl (!c)) H1
theorem A3 {op}{t:TE}(h:PE X a t):PE X (.BoolOp op [a] pos) t:=λpins s σ H Q I hw=>BoolOp_one (h pins s σ H Q I hw)
theorem BB (ha:PE X a ta)(hb:PE X (.BoolOp .And (b::rest) pos) tb):PE X (.BoolOp .And (a::b::rest) pos) (aAs ta tb):=by
 intro pins s σ H Q I h;refine BoolOp_and (thn (ha pins s σ H _ I h) λv s1 ⟨x,H1,I1,r1,q1⟩=> ?_);obtain⟨c,rfl,q1⟩:=q1;cases r1;refine wpAny_truthy_bool ?_;cases c with
 | true=>exact hb pins s1 σ H1 Q I1 q1
 | false=>exact⟨.bl false,H1,I1,rfl,q1⟩
theorem aFc (ha:PE X a ta)(hb:PE X (.BoolOp .Or (b::rest) pos) tb):PE X (.BoolOp .Or (a::b::rest) pos) (aDN ta tb):=by
 intro pins s σ H Q I h;refine BoolOp_or (thn (ha pins s σ H _ I h) λv s1 ⟨x,H1,I1,r1,q1⟩=> ?_);obtain⟨c,rfl,q1⟩:=q1;cases r1;refine wpAny_truthy_bool ?_;cases c with
 | false=>exact hb pins s1 σ H1 Q I1 q1
 | true=>exact⟨.bl true,H1,I1,rfl,q1⟩
theorem IE (ha:PE X a ta):PE X (.UnaryOp .Not a pos) (aAi ta):=by
 intro pins s σ H Q I h;refine UnaryOp_ (thn (ha pins s σ H _ I h) λv s1 ⟨x,H1,I1,r1,q1⟩=> ?_);obtain⟨c,rfl,q1⟩:=q1;cases r1;exact not_of (wpAny_truthy_bool ⟨.bl (!c),H1,I1,rfl,q1⟩)
def tIf (t:TT)(ta tb:TE):TE:=λσ H Q=>t σ H λc H1=>if c=true then ta σ H1 Q else tb σ H1 Q
theorem yX {c:Expr}(hc:PT X c tA)(ha:PE X a ta)(hb:PE X b tb):PE X (.IfExp c a b pos) (tIf tA ta tb):=by
 intro pins s σ H Q I h;refine wpAny_IfExp (thn (hc pins s σ H _ I h) λd s1 ⟨H1,I1,q1⟩=> ?_);cases d with
 | true=>exact ha pins s1 σ H1 Q I1 q1
 | false=>exact hb pins s1 σ H1 Q I1 q1
end
def SqL (K:W.Frag)(H:Hp)(a:Addr)(xs:List V):Prop :=
 Rd H a (.lst xs) ∨
  ∃(o:Obj) (its:Array Value) (n:Nat),K.lookup a=some o/\o.cls= .type "list" /\o.dict=none/\o.data= .seq its n/\its.size<=sizeLine/\Vals xs its.toList
def SqT (K:W.Frag)(H:Hp)(a:Addr)(xs:List V):Prop :=
 Rd H a (.tup xs) ∨
  ∃(o:Obj) (its:Array Value) (n:Nat),K.lookup a=some o/\o.cls= .type "tuple" /\o.data= .seq its n/\its.size<=sizeLine/\Vals xs its.toList
def aF0:Value->Option V
 | .none=>some .non
 | .bool b=>some (.bl b)
 | .int i _=>some (.int i)
 | .str x _=>some (.str x)
 | .bytes b _=>some (.byt b)
 | .float b _=>some (.flt b)
 | .ref a=>some (.ref a)
 | .type n=>some (.ty n)
 | _=>none
theorem RelV.abs {x:V}(r:RelV x u):aF0 u=some x:=by
 cases x with
 | non=>cases r;rfl
 | bl _=>cases r;rfl
 | int _=>obtain⟨t,rfl⟩:=r;rfl
 | str _=>obtain⟨t,rfl⟩:=r;rfl
 | byt _=>obtain⟨t,rfl⟩:=r;rfl
 | flt _=>obtain⟨t,rfl⟩:=r;rfl
 | ref _=>cases r;rfl
 | ty _=>cases r;rfl
theorem RelV.inj {x y:V}(r:RelV x u)(q:RelV y u):x=y:=Option.some.inj (r.abs.symm.trans q.abs)
theorem Vals.inj:∀{xs ys:List V}{us:List Value},Vals xs us->Vals ys us->xs=ys
 | _,_,_,.nil,.nil=>rfl
 | _,_,_,.cons r t,.cons r' t'=>by rw[r.inj r',Vals.inj t t']
variable {K:W.Frag}
section
variable {ys:List V}
theorem SqL.of (h:H a=some (.lst xs)):SqL K H a xs:= .inl (.inl h)
theorem SqT.of (h:H a=some (.tup xs)):SqT K H a xs:= .inl (.inl h)
theorem Inv.list (I:Inv X pins σ H s)(h:SqL X.K H a xs):∃its:List Value,Vals xs its/\PlainL s.heap a its.toArray/\xs.length<=sizeLine:=by
 rcases h with h|⟨o,its,n,hk,hc,hd,hs,hz,r⟩
 .obtain⟨z,its,n,r,e⟩:=h.ok I.hok;exact⟨its,r,⟨_,n,e,rfl,rfl,rfl⟩,z⟩
 .refine⟨its.toList,r,⟨o,n,I.kIn a o hk,hc,hd,by simpa using hs⟩,?_⟩;have e:=r.length;simp only[Array.length_toList]at e
  lia
theorem Inv.tuple (I:Inv X pins σ H s)(h:SqT X.K H a xs):∃its:List Value,Vals xs its/\IsTup s.heap a its.toArray/\xs.length<=sizeLine:=by
 rcases h with h|⟨o,its,n,hk,hc,hs,hz,r⟩
 .obtain⟨z,its,r,p⟩:=h.ok I.hok;exact⟨its,r,p,z⟩
 .refine⟨its.toList,r,⟨o,I.kIn a o hk,hc,n,by simpa using hs⟩,?_⟩;have e:=r.length;simp only[Array.length_toList]at e
  lia
theorem Inv.list_inj (I:Inv X pins σ H s)(h:SqL X.K H a xs)(h':SqL X.K H a ys):xs=ys:=by
 obtain⟨its,r,⟨o,n,e,_,_,d⟩,_⟩:=I.list h;obtain⟨its',r',⟨o',n',e',_,_,d'⟩,_⟩:=I.list h';rw[e]at e';cases e';rw[d]at d';injection d' with d1 _;have:its=its':=by simpa using congrArg Array.toList d1
 subst this;exact r.inj r'
theorem Inv.tuple_inj (I:Inv X pins σ H s)(h:SqT X.K H a xs)(h':SqT X.K H a ys):xs=ys:=by
 obtain⟨its,r,⟨o,e,_,n,d⟩,_⟩:=I.tuple h;obtain⟨its',r',⟨o',e',_,n',d'⟩,_⟩:=I.tuple h';rw[e]at e';cases e';rw[d]at d';injection d' with d1 _;have:its=its':=by simpa using congrArg Array.toList d1
 subst this;exact r.inj r'
end
abbrev Cx.wish (X:Cx)(E:Value->Shared->Prop):Cx:={ X with xe:=E }
abbrev Cx.nox (X:Cx):Cx:=X.wish λ_ _=>False
theorem Cx.Ok.wish (ok:X.Ok)(E:Value->Shared->Prop):(X.wish E).Ok :=
 ⟨ok.mod,ok.kind,ok.glob,ok.blt,ok.above,ok.inj,ok.has,ok.cab,ok.hd,ok.frames,ok.stk,ok.exf,ok.bs,ok.bsz,ok.noex,ok.exfs,ok.funs,ok.frf⟩
theorem Cx.Ok.unwish (ok:(X.wish E).Ok):X.Ok :=
 ⟨ok.mod,ok.kind,ok.glob,ok.blt,ok.above,ok.inj,ok.has,ok.cab,ok.hd,ok.frames,ok.stk,ok.exf,ok.bs,ok.bsz,ok.noex,ok.exfs,ok.funs,ok.frf⟩
variable {body:List Stmt}{tb:TS}
theorem Inv.wish (I:Inv X pins σ H s)(E:Value->Shared->Prop):Inv (X.wish E) pins σ H s:=⟨I.ok.wish E,I.os,I.bare,I.base,I.loc,I.cell,I.free,I.freeC,I.pin,I.hok,I.len⟩
theorem Inv.unwish (I:Inv (X.wish E) pins σ H s):Inv X pins σ H s:=⟨I.ok.unwish,I.os,I.bare,I.base,I.loc,I.cell,I.free,I.freeC,I.pin,I.hok,I.len⟩
theorem SP.unwish {D:gN}{f:Flow}(h:SP (X.wish E) pins D f s'):SP X pins D f s':=by
 cases f with
 | next=>obtain⟨σ',H',I,q⟩:=h;exact⟨σ',H',I.unwish,q⟩
 | brk=>obtain⟨σ',H',I,q⟩:=h;exact⟨σ',H',I.unwish,q⟩
 | cont=>obtain⟨σ',H',I,q⟩:=h;exact⟨σ',H',I.unwish,q⟩
 | ret u=>obtain⟨v,σ',H',I,r,q⟩:=h;exact⟨v,σ',H',I.unwish,r,q⟩
theorem PSs.nox {st:List Stmt}{t:TS}(h:PSs X.nox st t):PSs X st t:=λpins s σ H D I hw =>
 wpAny_mono (h pins s σ H D (I.wish _) hw) (λ_ _ q=>q.unwish) λ_ _ z=>False.elim z
section
variable {st:Stmt}{rest:List Stmt}{t u:TS}
def aAf:TS:=λD σ H=>D.nx σ H
def DT (t u:TS):TS:=λD σ H=>t { D with nx:=u D } σ H
theorem aS:PSs X [] aAf:=λ_ _ σ H _ I h=>wpAny_execs_nil ⟨σ,H,I,h⟩
theorem aC (h1:PS X st t)(h2:PSs X rest u):PSs X (st::rest) (DT t u):=by
 intro pins s σ H D I h;refine wpAny_execs_cons (thn (h1 pins s σ H { D with nx:=u D } I h) λf s1 q=> ?_);cases f with
 | next =>
  obtain⟨σ',H',I',q⟩:=q;exact h2 pins s1 σ' H' D I' q
 | ret v=>exact q
 | brk=>exact q
 | cont=>exact q
theorem aE (h1:PS X st t):PSs X [st] t:=by
 intro pins s σ H D I h;refine wpAny_execs_cons (thn (h1 pins s σ H D I h) λf s1 q=> ?_);cases f with
 | next=>exact wpAny_execs_nil q
 | ret v=>exact q
 | brk=>exact q
 | cont=>exact q
theorem Inv.quiet (I:Inv X pins σ H s):interactive X.env=false:=by simp[interactive,I.ok.kind]
def ZM (te:TE):TS:=λD σ H=>te σ H λ_ H1=>D.nx σ H1
theorem bG (he:PE X e te)(hs:swapsWith e none pos.line X.env=pure false:=by rfl):PS X (.Expr e pos) (ZM te):=by
 intro pins s σ H D I h;exact wpAny_Expr_any (thn (he pins s σ H _ I h) λv s1 ⟨x,H1,I1,r1,q1⟩=>⟨σ,H1,I1,q1⟩) I.quiet hs
def aC8 (te:TE):TS:=λD σ H=>te σ H D.rt
theorem aP (he:PE X e te):PS X (.Return (some e) pos) (aC8 te):=by
 intro pins s σ H D I h;exact wpAny_Return_some (thn (he pins s σ H _ I h) λv s1 ⟨x,H1,I1,r1,q1⟩=>⟨x,σ,H1,I1,r1,q1⟩)
def RL (c:TT)(t u:TS):TS:=λD σ H=>c σ H λb H1=>if b=true then t D σ H1 else u D σ H1
theorem bH {c:Expr}{a b:List Stmt}{tc:TT}(hc:PT X c tc)(ha:PSs X a t)(hb:PSs X b u):PS X (.If c a b pos) (RL tc t u):=by
 intro pins s σ H D I h;refine wpAny_If (thn (hc pins s σ H _ I h) λd s1 ⟨H1,I1,q1⟩=> ?_);cases d with
 | true=>exact ha pins s1 σ H1 D I1 q1
 | false=>exact hb pins s1 σ H1 D I1 q1
def aCR:TS:=λ_ _ _=>False
theorem pZ:PS X st aCR:=λ_ _ _ _ _ _ h=>h.elim
end
abbrev TG:=V->St->Hp->(St->Hp->Prop)->Prop
abbrev TGs:=List V->St->Hp->(St->Hp->Prop)->Prop
def PG (X:Cx)(target:Expr)(t:TG):Prop :=
 ∀(pins:List (Addr×Obj)) (s:Shared) (σ:St) (H:Hp) (v:V) (u:Value) (Q:St->Hp->Prop),Inv X pins σ H s->RelV v u->t v σ H Q →
  wpAny (model X.prog X.w) X.A (assign target X.env u) (λ_ s'=>∃σ' H',Inv X pins σ' H' s'/\Q σ' H') X.xe s
def PGs (X:Cx)(ts:List Expr)(t:TGs):Prop :=
 ∀(pins:List (Addr×Obj)) (s:Shared) (σ:St) (H:Hp) (vs:List V) (us:List Value) (Q:St->Hp->Prop),Inv X pins σ H s->Vals vs us->t vs σ H Q →
  wpAny (model X.prog X.w) X.A (assignInOrder ((assignEach ts X.env).map (·.2)) us) (λ_ s'=>∃σ' H',Inv X pins σ' H' s'/\Q σ' H') X.xe s
def cN (i:Nat):TG:=λv σ H Q=>Q (σ.set i (some v)) H
theorem aZ {i:Nat}(hN:X.N.Nodup)(hi:X.N[i]? =some x)(hx:Loc X.env.scope x)(hf:X.fn x=true∨X.env.scope.names.lookup x=some .local:=by first|exact .inl rfl|exact .inr rfl|assumption):PG X (.Name x pos) (cN i):=by
 intro pins s σ H v u Q I r h;exact wpAny_assign_Name (yD I hN hi hx r (λs' I'=>⟨_,H,I',h⟩) hf)
def O8:TGs:=λvs σ H Q=>vs=[]/\Q σ H
def xC (t:TG)(u:TGs):TGs:=λvs σ H Q=>∃v r,vs=v::r/\t v σ H λσ' H'=>u r σ' H' Q
theorem tI:PGs X [] O8:=by
 intro pins s σ H vs us Q I r h;obtain⟨e,h⟩:=h;subst e;cases r;exact assignInOrder_nil ⟨σ,H,I,h⟩
theorem fH {t:TG}{u:TGs}(h1:PG X e t)(h2:PGs X es u)
  (hs:(assignEach (e::es) X.env).map (·.2)=assign e X.env::(assignEach es X.env).map (·.2):=by rfl):PGs X (e::es) (xC t u):=by
 intro pins s σ H vs us Q I r h;obtain⟨v,vr,e1,h⟩:=h;subst e1;cases r with
 | cons r rr =>
  rw[hs];refine assignInOrder_cons (thn (h1 pins s σ H _ _ _ I r h) λ_ s1 ⟨σ1,H1,I1,q1⟩=> ?_);exact h2 pins s1 σ1 H1 _ _ Q I1 rr q1
def JV (K:W.Frag)(n:Nat)(t:TGs):TG:=λv σ H Q=>∃a xs,v= .ref a/\SqT K H a xs/\xs.length=n/\t xs σ H Q
theorem SQ {k:Nat}{t:TGs}(hc:X.calm=true)(h:PGs X es t)
  (hn:(assignEach es X.env).length=n:=by rfl)(hst:(assignEach es X.env).findIdx? (·.1)=none:=by rfl):PG X (.Tuple es k pos) (JV X.K n t):=by
 intro pins s σ H v u Q I r hw;obtain⟨a,xs,e1,hq,hl,hw⟩:=hw;subst e1;cases r;obtain⟨its,rv,ht,hz⟩:=I.tuple hq;refine assign_Tuple_tuple (I.ok.hd hc) ht (by simp[hn,←hl,rv.length]) hst λh' hx=> ?_;have I1:Inv X pins σ H { s with heap:=h' }:=I.kept (t':=s.toks) λb o e=>hx b o (Nat.ne_of_lt (Heap.lt_size e)) e;exact h pins _ σ H xs _ Q I1 (by simpa using rv) hw
def P8 (te:TE)(g:TG):TS:=λD σ H=>te σ H λx H1=>g x σ H1 D.nx
theorem aT {i:Nat}(hN:X.N.Nodup)(hi:X.N[i]? =some x)(hx:Loc X.env.scope x)(he:PE X e te)(hs:swapsWith e (some (.Name x pos')) pos.line X.env=pure false:=by rfl)(hf:X.fn x=true∨X.env.scope.names.lookup x=some .local:=by first|exact .inl rfl|exact .inr rfl|assumption):
  PS X (.Assign [.Name x pos'] e pos) (P8 te (cN i)):=by
 intro pins s σ H D I h;refine wpAny_Assign_Name (thn (he pins s σ H _ I h) λv s1 ⟨y,H1,I1,r1,q1⟩=> ?_) hs;exact yD I1 hN hi hx r1 (λs2 I2=>⟨_,H1,I2,q1⟩) hf
def U8 (c:TT)(tb:TS):TS:=λD σ H=>∃W:Nat->St->Hp->Prop,(∃m,W m σ H)/\∀m σ H,W m σ H →
 c σ H λb H1=>if b=true then ∃N:St->Hp->Prop,(∀σ' H',N σ' H'->∃m',m'<m/\W m' σ' H')/\tb { D with nx:=N,ct:=N,bk:=D.nx } σ H1 else D.nx σ H1
theorem XM {c:Expr}{tc:TT}(hp:PassesOwn (model X.prog X.w) X.A X.env X.xe)(hc:PT X c tc)(hb:PSs X body tb):PS X (.While c body [] pos) (U8 tc tb):=by
 intro pins s σ H D I h;obtain⟨W,⟨m0,w0⟩,turn⟩:=h;refine wpAny_While (codeAny_whileLoop (λn s'=>∃σ' H',Inv X pins σ' H' s'/\W n σ' H') ?_ m0 ⟨σ,H,I,w0⟩);rintro n s1 ⟨σ1,H1,I1,w1⟩;refine wpAny_passesOwn hp (thn (hc pins s1 σ1 H1 _ I1 (turn n σ1 H1 w1)) λb s2 ⟨H2,I2,q2⟩=> ?_);cases b with
 | true =>
  obtain⟨N,hN,q2⟩:=q2;rw[if_pos rfl];refine wpAny_passesOwn hp (thn (hb pins s2 σ1 H2 _ I2 q2) λf s3 q3=> ?_);cases f with
  | next =>
   obtain⟨σ3,H3,I3,n3⟩:=q3;obtain⟨m',hm,w3⟩:=hN σ3 H3 n3;exact⟨m',hm,σ3,H3,I3,w3⟩
  | cont =>
   obtain⟨σ3,H3,I3,n3⟩:=q3;obtain⟨m',hm,w3⟩:=hN σ3 H3 n3;exact⟨m',hm,σ3,H3,I3,w3⟩
  | brk=>exact q3
  | ret v=>exact q3
 | false =>
  rw[if_neg Bool.false_ne_true];exact wpAny_execs_nil ⟨σ1,H2,I2,q2⟩
structure It where
 go:Nat->Hp->Prop
 yld:Nat->Hp->V->Hp->Prop
 stop:Nat->Hp->Prop
def gM (X:Cx)(pins:List (Addr×Obj))(H:Hp)(b:Addr):Prop :=
 H b=none/\b≠X.env.locals/\b∉X.fs/\(b∈X.ex∨X.s₀.heap.objs.size<=b)/\(∀x c,X.env.cells.lookup x=some c->c≠b)/\∀p∈X.pn++pins,p.1≠b
theorem Inv.fpOk (I:Inv X pins σ H s)(hb:s.heap.objs.size<=b)(hn:H' b=none):gM X pins H' b:=by
 refine⟨hn,Nat.ne_of_gt (Nat.lt_of_lt_of_le I.lt hb),I.nofs hb,.inr (Nat.le_trans I.sz hb),λx c e z=> ?_,λp hp z=> ?_⟩
 .obtain⟨v,q⟩:=I.cell x c e;exact absurd (Nat.lt_of_lt_of_le q.lt (by rw[z];exact hb)) (Nat.lt_irrefl _)
 .exact absurd (Nat.lt_of_lt_of_le (Heap.lt_size (I.pin p hp).1) (by rw[z];exact hb)) (Nat.lt_irrefl _)
structure uJ (P:Program)(w:World)(K:W.Frag)(tg:Expr)(J:It)(fp:List Addr)(it:Addr)(tn:Nat->Heap->Prop):Prop where
 mem:it∈fp
 obj:∀i h,tn i h->∀b∈fp,∃o,h.get? b=some o/\∀v,o.data≠ .cell v
 keep:∀i h h',tn i h->(∀b∈fp,∀o,h.get? b=some o->h'.get? b=some o)->tn i h'
 item:∀(X:Cx),X.prog=P->X.w=w->X.K=K->X.calm=true->∀(i:Nat) (pins:List (Addr×Obj)) (s:Shared) (σ:St) (H:Hp) (E:Value->Shared->Prop),Inv X pins σ H s->(∀b∈fp,gM X pins H b)->tn i s.heap->J.go i H →
  wpAny (model P w) X.A (pyNext (.ref it)) (λr s1=>∃u,r=some u ∧
   wpAny (model P w) X.A (letOwnedTupleGo tg (.ref it) u) (λ_ s2=>∃x H',Inv X pins σ H' s2/\RelV x u/\J.yld i H x H'/\tn (i+1) s2.heap/\∀b∈fp,H' b=none) E s1) E s
 done:∀(X:Cx),X.prog=P->X.w=w->X.K=K->X.calm=true->∀(i:Nat) (pins:List (Addr×Obj)) (s:Shared) (σ:St) (H:Hp) (E:Value->Shared->Prop),Inv X pins σ H s->(∀b∈fp,gM X pins H b)->tn i s.heap->J.stop i H →
  wpAny (model P w) X.A (pyNext (.ref it)) (λr s1=>r=none/\Inv X pins σ H s1) E s
 self:∀(A:Around) (i:Nat) (s:Shared) (Q:Value->Shared->Prop) (E:Value->Shared->Prop),tn i s.heap->Q (.ref it) s->wpAny (model P w) A (pyIter (.ref it)) Q E s
abbrev TI:=St->Hp->(It->Hp->Prop)->Prop
def PIE (X:Cx)(pins:List (Addr×Obj))(σ:St)(tg:Expr)(R:It->Hp->Prop)(itv:Value)(s2:Shared):Prop :=
 ∃(it:Addr) (fp:List Addr) (tn:Nat->Heap->Prop) (J:It) (H':Hp),itv= .ref it/\Inv X pins σ H' s2/\uJ X.prog X.w X.K tg J fp it tn/\tn 0 s2.heap/\(∀b∈fp,gM X pins H' b)/\R J H'
def PI (X:Cx)(tg iter:Expr)(wi:TI):Prop :=
 ∀(pins:List (Addr×Obj)) (s:Shared) (σ:St) (H:Hp) (R:It->Hp->Prop),Inv X pins σ H s->wi σ H R →
  wpAny (model X.prog X.w) X.A (eval iter X.env) (λv s1=>wpAny (model X.prog X.w) X.A (pyIter v) (PIE X pins σ tg R) X.xe s1) X.xe s
theorem GQ {M:Model}{o:Obj}{n:String}{vs:Array Value}{Q:Unit->Shared->Prop}(ho:s.heap.get? it=some o)(hc:o.cls= .type n)(hd:o.data= .fields vs)
  (hn:["enumerate","zip","dict_itemiterator","dict_reverseitemiterator","odict_iterator","itertools.zip_longest","itertools.pairwise"].contains n=false)(hQ:Q () s):wpAny M A (letOwnedTupleGo tg (.ref it) u) Q E s:=by
 unfold letOwnedTupleGo;cases tg<;>first
  | exact wpAny_pure hQ
  | (cases u<;>first
    | exact wpAny_pure hQ
    | (refine wpAny_bind (wpAny_load ho ?_);rw[hc,hd];show wpAny M A (if (["enumerate","zip","dict_itemiterator","dict_reverseitemiterator","odict_iterator","itertools.zip_longest","itertools.pairwise"].contains n&&vs[0]? ==some (rawInt _))=true then _ else _) Q E s;rw[if_neg (by intro h;rw[hn,Bool.false_and]at h;cases h)];exact wpAny_pure hQ))
def Itl (K:W.Frag)(a:Addr):It :=
 ⟨λi H=>∃xs x,SqL K H a xs/\xs[i]? =some x,λi H x H'=>H'=H/\∀xs,SqL K H a xs->xs[i]? =some x,λi H=>∃xs,SqL K H a xs/\xs.length<=i⟩
def Itr (lo:Int)(n:Nat):It:=⟨λi _=>i<n,λi H x H'=>H'=H/\x= .int (lo+i),λi _=>n<=i⟩
theorem UI (a it:Addr):uJ P w K tg (Itl K a) [it] it (λi h=>h.IsListIter it a i) where
 mem:=by simp
 obj:=λi h st b hb=>by
  have e:b=it:=by simpa using hb
  subst e;obtain⟨o,e,c,d⟩:=st;exact⟨o,e,λv z=>by rw[d]at z;cases z⟩
 keep:=λi h h' st k=>st.at λo e=>k it (by simp) o e
 item:=by
  intro X hP hw hK hc i pins s σ H E I hf st hg;subst hP hw hK;obtain⟨xs,x,hq,hx⟩:=hg;obtain⟨its,rv,p,hz⟩:=I.list hq;obtain⟨u,hu,ru⟩:=rv.get hx;obtain⟨f0,f1,f2,f3,f4,f5⟩:=hf it (by simp);refine wpAny_pyNext_list_item st p.isList (x:=u) (by simpa using hu) λh' st' sb=> ?_;have I1:Inv X pins σ H { s with heap:=h' }:=I.turned (t':=s.toks) (λb o hb e=>(sb.2 b hb).trans e) f0 f1 f3 f4 f5;obtain⟨o,e,c,d⟩:=id st';exact⟨u,rfl,GQ (s:={ s with heap:=h' }) e c d (by decide) ⟨x,H,I1,ru,⟨rfl,λys hy=>by rw[I.list_inj hy hq];exact hx⟩,st',λb hb=>(hf b hb).1⟩⟩
 done:=by
  intro X hP hw hK hc i pins s σ H E I hf st hg;subst hP hw hK;obtain⟨xs,hq,hx⟩:=hg;obtain⟨its,rv,p,hz⟩:=I.list hq;obtain⟨f0,f1,f2,f3,f4,f5⟩:=hf it (by simp);have hl:=rv.length;exact wpAny_pyNext_list_end (I.ok.hd hc) st p.isList (by simp;lia) λh' eb=>⟨rfl,I.turned (t':=s.toks) (λb o hb e=>eb b o hb e) f0 f1 f3 f4 f5⟩
 self:=λ_ _ _ _ _ st h=>wpAny_pyIter_listiter st h
theorem PN (it:Addr)(lo:Int)(n:Nat):uJ P w K tg (Itr lo n) [it] it (λi h=>IsRangeIter h it (lo+(i:Nat) * 1) ((n:Int) - (i:Nat)) 1) where
 mem:=by simp
 obj:=λi h st b hb=>by
  have e:b=it:=by simpa using hb
  subst e;exact⟨_,st,λv z=>by
   have z':Data.fields _=Data.cell v:=z;cases z'⟩
 keep:=λi h h' st k=>k it (by simp) _ st
 item:=by
  intro X hP hw hK hc i pins s σ H E I hf st hg;subst hP hw hK;obtain⟨f0,f1,f2,f3,f4,f5⟩:=hf it (by simp);have W:=Walks.range (prog:=X.prog) (w:=X.w) (I.ok.hd hc) it lo 1 n;refine W.item i s _ _ hg st λv h' tk hv st' kk=> ?_;obtain⟨t,rfl⟩:=hv;have I1:Inv X pins σ H { s with heap:=h',toks:=tk }:=I.turned (λb o hb e=>kk b o (by simpa using hb) e) f0 f1 f3 f4 f5;refine⟨_,rfl,GQ (s:={ s with heap:=h',toks:=tk }) (n:= "range_iterator") st' rfl rfl (by decide) ⟨.int (lo+i),H,I1,⟨t,?_⟩,⟨rfl,rfl⟩,st',λb hb=>(hf b hb).1⟩⟩;rw[Int.mul_one]
 done:=by
  intro X hP hw hK hc i pins s σ H E I hf st hg;subst hP hw hK;obtain⟨f0,f1,f2,f3,f4,f5⟩:=hf it (by simp);exact wpAny_pyNext_range_end (I.ok.hd hc) st (by have:n<=i:=hg;lia) λh' eb=>⟨rfl,I.turned (t':=s.toks) (λb o hb e=>eb b o hb e) f0 f1 f3 f4 f5⟩
 self:=λ_ _ _ _ _ st h=>wpAny_pyIter_rangeiter st h
variable {i lo:Int}
def ZL (K:W.Frag)(tl:TE):TI:=λσ H R=>tl σ H λx H1=>∃a,x= .ref a/\(∃xs,SqL K H1 a xs)/\R (Itl K a) H1
theorem bZ {l:Expr}{tl:TE}(hl:PE X l tl):PI X tg l (ZL X.K tl):=by
 intro pins s σ H R I h;refine thn (hl pins s σ H _ I h) λv s1 ⟨x,H1,I1,r1,q1⟩=> ?_;obtain⟨a,e,⟨xs,hq⟩,q⟩:=q1;subst e;cases r1;obtain⟨its,rv,p,hz⟩:=I1.list hq;refine wpAny_pyIter_list p.isList ?_;refine⟨s1.heap.objs.size,[s1.heap.objs.size],_,_,H1,rfl,I1.kept (t':=s1.toks) λb o e=>Heap.get?_push_of_some _ e,UI a _,⟨_,Heap.get?_push_size _ rfl,rfl,rfl⟩,λb hb=> ?_,q⟩;have e:b=s1.heap.objs.size:=by simpa using hb
 subst e;exact I1.fpOk (Nat.le_refl _) (I1.hok.fresh (Nat.le_refl _))
theorem W1 {R:It->Hp->Prop}{hi:Int}{t u v:Tok}{tk:Nat}(I:Inv X pins σ H s)(h1: -(2^62)<=lo)(h2:lo<2^62)(h3: -(2^62)<=hi)(h4:hi<2^62)
  (q:R (Itr lo (hi - lo).toNat) H):wpAny (model X.prog X.w) X.A (pyIter (.ref s.heap.objs.size)) (PIE X pins σ tg R) E { s with heap:=s.heap.push { cls:= .type "range",data:= .fields #[.int lo t,.int hi u,.int 1 v] },toks:=tk }:=by
 refine wpAny_pyIter_range (IsRange.new ..) (small_one h1 h2 h3 h4) ?_;have I1:Inv X pins σ H { s with heap:=s.heap.push { cls:= .type "range",data:= .fields #[.int lo t,.int hi u,.int 1 v] },toks:=tk }:=I.kept λb o e=>Heap.get?_push_of_some _ e;refine⟨(s.heap.push { cls:= .type "range",data:= .fields #[.int lo t,.int hi u,.int 1 v] }).objs.size,[(s.heap.push { cls:= .type "range",data:= .fields #[.int lo t,.int hi u,.int 1 v] }).objs.size],_,_,H,rfl,
  I1.kept (t':=tk) λb o e=>Heap.get?_push_of_some _ e,PN _ lo (hi - lo).toNat,?_,λb hb=> ?_,q⟩
 .have e1:lo+((0:Nat):Int) * 1=lo:=by simp
  have e2:(((hi - lo).toNat:Nat):Int) - ((0:Nat):Int)=Builtin.Range.rangeSize lo hi 1:=by rw[rangeSize_one];split<;>lia
  show IsRangeIter _ _ (lo+((0:Nat):Int) * 1) ((((hi - lo).toNat:Nat):Int) - ((0:Nat):Int)) 1;rw[e1,e2];exact Heap.get?_push_size _ rfl
 .have e:b=(s.heap.push { cls:= .type "range",data:= .fields #[.int lo t,.int hi u,.int 1 v] }).objs.size:=by simpa using hb
  subst e;exact I1.fpOk (Nat.le_refl _) (I1.hok.fresh (Nat.le_refl _))
def Z0 (ta:TA):TI:=λσ H R=>ta σ H λvs H1=>∃j:Int,vs=[.int j]/\ -(2^62)<=j/\j<2^62/\R (Itr 0 j.toNat) H1
theorem vC {a:Expr}{ta:TA}{p:Pos}(hg:Gl X "range")(hm:X.mg "range" =none)(ha:PA X [a] ta)(hs:starEach [a] X.env=[(false,eval a X.env)]:=by rfl):PI X tg (.Call (.Name "range" p) [a] [] pos) (Z0 ta):=by
 intro pins s σ H R I h;refine Call_ (tF I hg hm boot_range (PyProof.Rows.callWith_type1 (thn (ha pos pins s σ H _ I h) λus s1 ⟨vs,H1,I1,r1,q1⟩=> ?_) hs rfl));obtain⟨j,e,q1,q2,q⟩:=q1;subst e;cases r1 with
 | cons r rr =>
  cases rr;obtain⟨t,rfl⟩:=r;exact call_range_1 (W1 I1 (by lia) (by lia) q1 q2 (by simpa using q))
def aEy (wi:TI)(g:TG)(tb:TS):TS:=λD σ H=>wi σ H λJ H1=>∃W:Nat->Nat->St->Hp->Prop,(∃m,W 0 m σ H1)/\∀i m σ H,W i m σ H →
 (J.stop i H/\D.nx σ H)∨(J.go i H/\∃N:St->Hp->Prop,(∀σ' H',N σ' H'->∃m',m'<m/\W (i+1) m' σ' H')/\∀x H',J.yld i H x H'->g x σ H' λσ2 H2=>tb { D with nx:=N,ct:=N,bk:=D.nx } σ2 H2)
def gE (fp:List Addr)(h:Heap):List (Addr×Obj):=fp.filterMap λb=>(h.get? b).map λo=>(b,o)
theorem eZ {o:Obj}(hb:b∈fp)(e:h.get? b=some o):(b,o)∈gE fp h:=List.mem_filterMap.mpr ⟨b,hb,by rw[e];rfl⟩
theorem vI {p:Addr×Obj}(hp:p∈gE fp h):p.1∈fp/\h.get? p.1=some p.2:=by
 obtain⟨b,hb,e⟩:=List.mem_filterMap.mp hp;cases q:h.get? b with
 | none=>rw[q]at e;cases e
 | some o =>
  rw[q]at e;have e':(b,o)=p:=Option.some.inj e;subst e';exact⟨hb,q⟩
theorem Inv.pinned (I:Inv X pins σ H s)(hf:∀b∈fp,gM X pins H b)(ho:∀b∈fp,∃o,s.heap.get? b=some o/\∀v,o.data≠ .cell v):Inv X (pins++gE fp s.heap) σ H s :=
 I.pins_of λp hp=>(List.mem_append.mp hp).elim (λz=>I.pin p (List.mem_append_right _ z)) λz=>by
  obtain⟨hb,e⟩:=vI z;obtain⟨f0,f1,f2,_⟩:=hf p.1 hb;obtain⟨o,e',d⟩:=ho p.1 hb;rw[e]at e';cases e';exact⟨e,f0,f1,f2,d⟩
theorem Inv.unpinned {pl:List (Addr×Obj)}(I:Inv X (pins++pl) σ H s):Inv X pins σ H s:=I.pins_of λp hp=>I.pin p (List.mem_append_right _ (List.mem_append_left _ hp))
theorem iA {iter:Expr}{wi:TI}{g:TG}(hp:PassesOwn (model X.prog X.w) X.A X.env X.xe)(hc:X.calm=true)(hi:PI X tg iter wi)(hg:PG X tg g)(hb:PSs X body tb)
  (hs:∀x,foldedSetIterable iter X.env x=pure x:=by intro _;rfl):PS X (.For tg iter body [] pos) (aEy wi g tb):=by
 intro pins s σ H D I h;refine wpAny_For (thn (hi pins s σ H _ I h) λv s1 h1=>thn h1 λitv s2 h2=> ?_) hs;obtain⟨it,fp,tn,J,H2,e,I2,T,st2,f2,W,⟨m0,w0⟩,turn⟩:=h2;subst e;have stat:∀{H':Hp},(∀b∈fp,H' b=none)->∀b∈fp,gM X pins H' b:=λhn b hb=>⟨hn b hb,(f2 b hb).2⟩
 refine codeAny_forLoop_any (λn s'=>∃i σ' H',Inv X pins σ' H' s'/\tn i s'.heap/\(∀b∈fp,H' b=none)/\W i n σ' H') ?_ m0 ⟨0,σ,H2,I2,st2,λb hb=>(f2 b hb).1,w0⟩;rintro n s3 ⟨i,σ3,H3,I3,st3,fr3,w3⟩;rcases turn i n σ3 H3 w3 with⟨stop,qn⟩|⟨go,N,hN,step⟩
 .refine wpAny_passesOwn hp (thn (T.done X rfl rfl rfl hc i pins s3 σ3 H3 X.xe I3 (stat fr3) st3 stop) λr s4 ⟨hr,I4⟩=> ?_);subst hr;exact wpAny_execs_nil ⟨σ3,H3,I4,qn⟩
 .refine wpAny_passesOwn hp (thn (T.item X rfl rfl rfl hc i pins s3 σ3 H3 X.xe I3 (stat fr3) st3 go) λr s4 ⟨u,hr,h4⟩=> ?_);subst hr;refine wpAny_passesOwn hp (thn h4 λ_ s5 ⟨x,H5,I5,r5,y5,st5,fr5⟩=> ?_);have I5':=I5.pinned (stat fr5) (T.obj _ _ st5);refine wpAny_passesOwn hp (thn (hg _ s5 σ3 H5 x u _ I5' r5 (step x H5 y5)) λ_ s6 ⟨σ6,H6,I6,q6⟩=> ?_);refine wpAny_passesOwn hp (thn (hb _ s6 σ6 H6 _ I6 q6) λf s7 q7=> ?_);have again:∀{σ7:St}{H7:Hp},Inv X (pins++gE fp s5.heap) σ7 H7 s7->N σ7 H7->∃m,m<n/\∃i σ' H',Inv X pins σ' H' s7/\tn i s7.heap/\(∀b∈fp,H' b=none)/\W i m σ' H':=λ{σ7 H7} I7 n7=>by
   obtain⟨m',hm,w7⟩:=hN σ7 H7 n7;refine⟨m',hm,i+1,σ7,H7,I7.unpinned,T.keep _ _ _ st5 λb hb o e=>(I7.pin (b,o) (List.mem_append_right _ (List.mem_append_right _ (eZ hb e)))).1,λb hb=> ?_,w7⟩;obtain⟨o,e,d⟩:=T.obj _ _ st5 b hb;exact(I7.pin (b,o) (List.mem_append_right _ (List.mem_append_right _ (eZ hb e)))).2.1
  cases f with
  | next=>obtain⟨σ7,H7,I7,n7⟩:=q7;exact again I7 n7
  | cont=>obtain⟨σ7,H7,I7,n7⟩:=q7;exact again I7 n7
  | brk=>obtain⟨σ7,H7,I7,q7⟩:=q7;exact⟨σ7,H7,I7.unpinned,q7⟩
  | ret v=>obtain⟨x7,σ7,H7,I7,r7,q7⟩:=q7;exact⟨x7,σ7,H7,I7.unpinned,r7,q7⟩
theorem WC {g:TG}{D:gN}(Pv:Nat->St->Hp->Prop)(h0:Pv 0 σ H)(hl:∀i σ H,i<=xs.length->Pv i σ H->SqL K H a xs)
  (hs:∀i x σ H,xs[i]? =some x->Pv i σ H->g x σ H λσ2 H2=>tb { D with nx:=Pv (i+1),ct:=Pv (i+1),bk:=D.nx } σ2 H2)(hd:∀σ H,Pv xs.length σ H->D.nx σ H) :
  ∃W:Nat->Nat->St->Hp->Prop,(∃m,W 0 m σ H)/\∀i m σ H,W i m σ H →
   ((Itl K a).stop i H/\D.nx σ H)∨((Itl K a).go i H/\∃N:St->Hp->Prop,(∀σ' H',N σ' H'->∃m',m'<m/\W (i+1) m' σ' H')/\∀x H',(Itl K a).yld i H x H'->g x σ H' λσ2 H2=>tb { D with nx:=N,ct:=N,bk:=D.nx } σ2 H2):=by
 refine⟨λi m σ H=>m=xs.length - i/\i<=xs.length/\Pv i σ H,⟨xs.length,by simp,Nat.zero_le _,h0⟩,?_⟩;rintro i m σ H ⟨rfl,hi,p⟩;have q:=hl i σ H hi p
 by_cases hlt:i<xs.length
 .refine .inr ⟨⟨xs,xs[i],q,by simp[hlt]⟩,Pv (i+1),λσ' H' p'=>⟨xs.length - (i+1),by lia,rfl,hlt,p'⟩,λx H' y=> ?_⟩;obtain⟨e,y⟩:=y;subst e;exact hs i x σ _ (y xs q) p
 .have e:i=xs.length:=by lia
  subst e;exact .inl ⟨⟨xs,q,Nat.le_refl _⟩,hd σ H p⟩
theorem TU {g:TG}{D:gN}(Pv:Nat->St->Hp->Prop)(h0:Pv 0 σ H)
  (hs:∀i σ H,i<n->Pv i σ H->g (.int (lo+i)) σ H λσ2 H2=>tb { D with nx:=Pv (i+1),ct:=Pv (i+1),bk:=D.nx } σ2 H2)(hd:∀σ H,Pv n σ H->D.nx σ H) :
  ∃W:Nat->Nat->St->Hp->Prop,(∃m,W 0 m σ H)/\∀i m σ H,W i m σ H →
   ((Itr lo n).stop i H/\D.nx σ H)∨((Itr lo n).go i H/\∃N:St->Hp->Prop,(∀σ' H',N σ' H'->∃m',m'<m/\W (i+1) m' σ' H')/\∀x H',(Itr lo n).yld i H x H'->g x σ H' λσ2 H2=>tb { D with nx:=N,ct:=N,bk:=D.nx } σ2 H2):=by
 refine⟨λi m σ H=>m=n - i/\i<=n/\Pv i σ H,⟨n,by simp,Nat.zero_le _,h0⟩,?_⟩;rintro i m σ H ⟨rfl,hi,p⟩
 by_cases hlt:i<n
 .refine .inr ⟨hlt,Pv (i+1),λσ' H' p'=>⟨n - (i+1),by lia,rfl,hlt,p'⟩,λx H' y=> ?_⟩;obtain⟨e,y⟩:=y;subst e y;exact hs i σ _ hlt p
 .have e:i=n:=by lia
  subst e;exact .inl ⟨Nat.le_refl _,hd σ H p⟩
abbrev R2:=V->V->Hp->VK->Prop
def OpR (X:Cx)(f:Value->Value->Sem Value)(r:R2):Prop :=
 ∀(pins:List (Addr×Obj)) (s:Shared) (σ:St) (H:Hp) (x y:V) (v u:Value) (Q:VK),Inv X pins σ H s->RelV x v->RelV y u->r x y H Q →
  wpAny (model X.prog X.w) X.A (f v u) (EP X pins σ Q) X.xe s
def UnR (X:Cx)(f:Value->Sem Value)(r:V->Hp->VK->Prop):Prop :=
 ∀(pins:List (Addr×Obj)) (s:Shared) (σ:St) (H:Hp) (x:V) (v:Value) (Q:VK),Inv X pins σ H s->RelV x v->r x H Q →
  wpAny (model X.prog X.w) X.A (f v) (EP X pins σ Q) X.xe s
def cU (X:Cx)(f:Value)(r:List V->Hp->VK->Prop):Prop :=
 ∀(pins:List (Addr×Obj)) (s:Shared) (σ:St) (H:Hp) (xs:List V) (us:List Value) (Q:VK),Inv X pins σ H s->Vals xs us->r xs H Q →
  wpAny (model X.prog X.w) X.A (call f us) (EP X pins σ Q) X.xe s
def tOp (r:R2)(ta tb:TE):TE:=λσ H Q=>ta σ H λx H1=>tb σ H1 λy H2=>r x y H2 Q
def tUn (r:V->Hp->VK->Prop)(ta:TE):TE:=λσ H Q=>ta σ H λx H1=>r x H1 Q
def rI (C:Int->Int->Prop)(g:Int->Int->V):R2:=λx y H Q=>∃i j,x= .int i/\y= .int j/\C i j/\Q (g i j) H
def rI0 (g:Int->Int->V):R2:=λx y H Q=>∃i j,x= .int i/\y= .int j/\Q (g i j) H
def rU (g:Int->V):V->Hp->VK->Prop:=λx H Q=>∃i,x= .int i/\Q (g i) H
variable {r':R2}
section
variable {a b c:Expr}{tb tc:TE}
theorem XZ (ha:PE X a ta)(hb:PE X b tb){R:V->V->Hp->Prop}(I:Inv X pins σ H s)
  (h:ta σ H λx H1=>tb σ H1 λy H2=>R x y H2){Q:Value->Shared->Prop}{f:Value->Value->Sem Value}
  (hf:∀v u s2 x y H2,Inv X pins σ H2 s2->RelV x v->RelV y u->R x y H2->wpAny (model X.prog X.w) X.A (f v u) Q X.xe s2) :
  wpAny (model X.prog X.w) X.A (eval a X.env) (λv s₁=>wpAny (model X.prog X.w) X.A (eval b X.env) (λu s₂=>wpAny (model X.prog X.w) X.A (f v u) Q X.xe s₂) X.xe s₁) X.xe s:=by
 refine thn (ha pins s σ H _ I h) λv s1 ⟨x,H1,I1,r1,q1⟩=> ?_;refine thn (hb pins s1 σ H1 _ I1 q1) λu s2 ⟨y,H2,I2,r2,q2⟩=> ?_;exact hf v u s2 x y H2 I2 r1 r2 q2
theorem aI {op:Operator}{r:R2}(ho:OpR X (binaryOp op) r)(ha:PE X a ta)(hb:PE X b tb):PE X (.BinOp a op b pos) (tOp r ta tb):=by
 intro pins s σ H Q I h;exact wpAny_BinOp (XZ ha hb I h λv u s2 x y H2 I2 rx ry q=>ho pins s2 σ H2 x y v u Q I2 rx ry q)
theorem ZV {op:UnaryOp}{r:V->Hp->VK->Prop}(ho:UnR X (unaryOp op) r)(ha:PE X a ta):PE X (.UnaryOp op a pos) (tUn r ta):=by
 intro pins s σ H Q I h;exact UnaryOp_ (thn (ha pins s σ H _ I h) λv s1 ⟨x,H1,I1,r1,q1⟩=>ho pins s1 σ H1 x v Q I1 r1 q1)
theorem opI {f:Value->Value->Sem Value}{C:Int->Int->Prop}{g:Int->Int->Int}
  (rule:∀(i j:Int) (t u:Tok) (s:Shared) (Q:Value->Shared->Prop) (E:Value->Shared->Prop),C i j->Q (.int (g i j) s.toks) { s with toks:=s.toks+1 }->wpAny (model X.prog X.w) X.A (f (.int i t) (.int j u)) Q E s) :
  OpR X f (rI C λi j=> .int (g i j)):=by
 intro pins s σ H x y v u Q I rx ry h;obtain⟨i,j,rfl,rfl,hc,q⟩:=h;obtain⟨t,rfl⟩:=rx;obtain⟨t',rfl⟩:=ry;exact rule i j t t' s _ _ hc ⟨.int (g i j),H,I.tok _,⟨_,rfl⟩,q⟩
theorem aEn {f:Value->Value->Sem Value}{g:Int->Int->Int}
  (rule:∀(i j:Int) (t u:Tok) (s:Shared) (Q:Value->Shared->Prop) (E:Value->Shared->Prop),Q (.int (g i j) s.toks) { s with toks:=s.toks+1 }->wpAny (model X.prog X.w) X.A (f (.int i t) (.int j u)) Q E s) :
  OpR X f (rI0 λi j=> .int (g i j)):=by
 intro pins s σ H x y v u Q I rx ry h;obtain⟨i,j,rfl,rfl,q⟩:=h;obtain⟨t,rfl⟩:=rx;obtain⟨t',rfl⟩:=ry;exact rule i j t t' s _ _ ⟨.int (g i j),H,I.tok _,⟨_,rfl⟩,q⟩
theorem OO {f:Value->Value->Sem Value}{g:Int->Int->Bool}
  (rule:∀(i j:Int) (t u:Tok) (s:Shared) (Q:Value->Shared->Prop) (E:Value->Shared->Prop),Q (.bool (g i j)) s->wpAny (model X.prog X.w) X.A (f (.int i t) (.int j u)) Q E s) :
  OpR X f (rI0 λi j=> .bl (g i j)):=by
 intro pins s σ H x y v u Q I rx ry h;obtain⟨i,j,rfl,rfl,q⟩:=h;obtain⟨t,rfl⟩:=rx;obtain⟨t',rfl⟩:=ry;exact rule i j t t' s _ _ ⟨.bl (g i j),H,I,rfl,q⟩
def aEd (i j:Int):Prop:=0<j/\j<1073741824
def CMul (i j:Int):Prop:=(-(2^64)<i/\i<2^64)∨(-(2^64)<j/\j<2^64)
theorem CMul.ok {j:Int}(h:CMul i j):IntMulOk i j:=by
 rcases h with⟨h1,h2⟩|⟨h1,h2⟩
 .exact .of_left (intBits_le_64 h1 h2)
 .exact .of_right (intBits_le_64 h1 h2)
theorem d8:OpR X (binaryOp .Add) (rI0 λi j=> .int (i+j)):=aEn λ_ _ _ _ _ _ _ q=>add_int q
theorem aEj:OpR X (binaryOp .Sub) (rI0 λi j=> .int (i - j)):=aEn λ_ _ _ _ _ _ _ q=>sub_int q
theorem JZ:OpR X (binaryOp .Mult) (rI CMul λi j=> .int (i * j)):=opI λ_ _ _ _ _ _ _ hc q=>mul_int q hc.ok
theorem dZ:OpR X (binaryOp .FloorDiv) (rI aEd λi j=> .int (i/j)):=opI λi j _ _ _ _ _ hc q=>by
 have h1:(0:Int)<j:=hc.1;have h2:j<1073741824:=hc.2;exact floordiv_int (by lia) (by rw[Int.fdiv_eq_ediv_of_nonneg i (by lia)];exact q) (.inl (PyProof.noPylong_small (by lia)))
theorem bR:OpR X (binaryOp .Mod) (rI (λ_ j=>0<j) λi j=> .int (i%j)):=opI λi j _ _ _ _ _ hc q=>by
 have h1:(0:Int)<j:=hc;exact mod_int' (by lia) (by rw[Int.fmod_eq_emod_of_nonneg i (by lia)];exact q)
theorem unI {f:Value->Sem Value}{g:Int->Int}
  (rule:∀(i:Int) (t:Tok) (s:Shared) (Q:Value->Shared->Prop) (E:Value->Shared->Prop),Q (.int (g i) s.toks) { s with toks:=s.toks+1 }->wpAny (model X.prog X.w) X.A (f (.int i t)) Q E s) :
  UnR X f (rU λi=> .int (g i)):=by
 intro pins s σ H x v Q I rx h;obtain⟨i,rfl,q⟩:=h;obtain⟨t,rfl⟩:=rx;exact rule i t s _ _ ⟨.int (g i),H,I.tok _,⟨_,rfl⟩,q⟩
theorem UC:UnR X (unaryOp .USub) (rU λi=> .int (-i)):=unI λ_ _ _ _ _ q=>neg_int q
end
def aDI:V->V->Bool
 | .non,.non=>true| .non,.int _=>true| .int _,.non=>true| .non,.bl _=>true| .bl _,.non=>true| .non,.str _=>true| .str _,.non=>true
 | .int _,.int _=>true| .bl _,.bl _=>true| .str _,.str _=>true| .byt _,.byt _=>true
 | .int _,.str _=>true| .str _,.int _=>true| .bl _,.str _=>true| .str _,.bl _=>true
 | _,_=>false
def rEq:R2:=λx y H Q=>aDI x y=true/\Q (.bl (decide (x=y))) H
def rNe:R2:=λx y H Q=>aDI x y=true/\Q (.bl (!decide (x=y))) H
theorem M5 {j:Int}:decide (V.int i=V.int j)=(i==j):=by
 rw[Bool.eq_iff_iff];simp
theorem UB {i j:Bool}:decide (V.bl i=V.bl j)=(i==j):=by
 rw[Bool.eq_iff_iff];simp
theorem MP {i j:Str}:decide (V.str i=V.str j)=(i==j):=by
 rw[Bool.eq_iff_iff];simp
theorem NF {i j:Array UInt8}:decide (V.byt i=V.byt j)=(i.toList==j.toList):=by
 rw[Bool.eq_iff_iff];cases i;cases j;simp
section
variable {a b c:Expr}{tb tc:TE}
theorem bP {Q:VK}{k k':Bool}(I:Inv X pins σ H s)(q:Q (.bl k) H)(e:k=k'):EP X pins σ Q (.bool k') s:=by
 subst e;exact⟨.bl k,H,I,rfl,q⟩
theorem cS:OpR X (compareOp .Eq) rEq:=by
 intro pins s σ H x y v u Q I rx ry h;obtain⟨hs,q⟩:=h;cases x with
 | non =>
  cases rx;cases y with
  | non=>cases ry;exact PySem.EqNone.eq_none_none (bP I q (by simp))
  | bl j=>cases ry;exact PySem.EqNone.eq_none_bool (bP I q (by simp))
  | int j=>obtain⟨t',rfl⟩:=ry;exact PySem.EqNone.eq_none_int (bP I q (by simp))
  | str j=>obtain⟨t',rfl⟩:=ry;exact PySem.EqNone.eq_none_str (bP I q (by simp))
  | _=>exact absurd (show false=true from hs) Bool.false_ne_true
 | bl i =>
  cases rx;cases y with
  | non=>cases ry;exact PySem.EqNone.eq_bool_none (bP I q (by simp))
  | bl j=>cases ry;exact eq_bool (bP I q UB)
  | str j=>obtain⟨t',rfl⟩:=ry;exact PySem.EqMixed.eq_bool_str (bP I q (by simp))
  | _=>exact absurd (show false=true from hs) Bool.false_ne_true
 | int i =>
  obtain⟨t,rfl⟩:=rx;cases y with
  | non=>cases ry;exact PySem.EqNone.eq_int_none (bP I q (by simp))
  | int j=>obtain⟨t',rfl⟩:=ry;exact eq_int (bP I q M5)
  | str j=>obtain⟨t',rfl⟩:=ry;exact PySem.EqMixed.eq_int_str (bP I q (by simp))
  | _=>exact absurd (show false=true from hs) Bool.false_ne_true
 | str i =>
  obtain⟨t,rfl⟩:=rx;cases y with
  | non=>cases ry;exact PySem.EqNone.eq_str_none (bP I q (by simp))
  | bl j=>cases ry;exact PySem.EqMixed.eq_str_bool (bP I q (by simp))
  | int j=>obtain⟨t',rfl⟩:=ry;exact PySem.EqMixed.eq_str_int (bP I q (by simp))
  | str j=>obtain⟨t',rfl⟩:=ry;exact eq_str (bP I q MP)
  | _=>exact absurd (show false=true from hs) Bool.false_ne_true
 | byt i =>
  obtain⟨t,rfl⟩:=rx;cases y with
  | byt j=>obtain⟨t',rfl⟩:=ry;exact W.eq_bytes (bP I q NF)
  | _=>exact absurd (show false=true from hs) Bool.false_ne_true
 | _=>cases y<;>exact absurd (show false=true from hs) Bool.false_ne_true
theorem GM:OpR X (compareOp .NotEq) rNe:=by
 intro pins s σ H x y v u Q I rx ry h;obtain⟨hs,q⟩:=h;cases x with
 | non =>
  cases rx;cases y with
  | non=>cases ry;exact PySem.EqNone.ne_none_none (bP I q (by simp))
  | bl j=>cases ry;exact PySem.EqNone.ne_none_bool (bP I q (by simp))
  | int j=>obtain⟨t',rfl⟩:=ry;exact PySem.EqNone.ne_none_int (bP I q (by simp))
  | str j=>obtain⟨t',rfl⟩:=ry;exact PySem.EqNone.ne_none_str (bP I q (by simp))
  | _=>exact absurd (show false=true from hs) Bool.false_ne_true
 | bl i =>
  cases rx;cases y with
  | non=>cases ry;exact PySem.EqNone.ne_bool_none (bP I q (by simp))
  | bl j=>cases ry;exact ne_bool (bP I q (congrArg not UB))
  | str j=>obtain⟨t',rfl⟩:=ry;exact PySem.EqMixed.ne_bool_str (bP I q (by simp))
  | _=>exact absurd (show false=true from hs) Bool.false_ne_true
 | int i =>
  obtain⟨t,rfl⟩:=rx;cases y with
  | non=>cases ry;exact PySem.EqNone.ne_int_none (bP I q (by simp))
  | int j=>obtain⟨t',rfl⟩:=ry;exact ne_int (bP I q (congrArg not M5))
  | str j=>obtain⟨t',rfl⟩:=ry;exact PySem.EqMixed.ne_int_str (bP I q (by simp))
  | _=>exact absurd (show false=true from hs) Bool.false_ne_true
 | str i =>
  obtain⟨t,rfl⟩:=rx;cases y with
  | non=>cases ry;exact PySem.EqNone.ne_str_none (bP I q (by simp))
  | bl j=>cases ry;exact PySem.EqMixed.ne_str_bool (bP I q (by simp))
  | int j=>obtain⟨t',rfl⟩:=ry;exact PySem.EqMixed.ne_str_int (bP I q (by simp))
  | str j=>obtain⟨t',rfl⟩:=ry;exact ne_str (bP I q (congrArg not MP))
  | _=>exact absurd (show false=true from hs) Bool.false_ne_true
 | byt i =>
  obtain⟨t,rfl⟩:=rx;cases y with
  | byt j=>obtain⟨t',rfl⟩:=ry;exact W.ne_bytes (bP I q (congrArg not NF))
  | _=>exact absurd (show false=true from hs) Bool.false_ne_true
 | _=>cases y<;>exact absurd (show false=true from hs) Bool.false_ne_true
theorem wN:OpR X (compareOp .Lt) (rI0 λi j=> .bl (decide (i<j))):=OO λ_ _ _ _ _ _ _ q=>lt_int q
theorem GL:OpR X (compareOp .LtE) (rI0 λi j=> .bl (decide (i<=j))):=OO λ_ _ _ _ _ _ _ q=>le_int q
theorem aAh:OpR X (compareOp .Gt) (rI0 λi j=> .bl (decide (j<i))):=OO λ_ _ _ _ _ _ _ q=>gt_int q
theorem aE4:OpR X (compareOp .GtE) (rI0 λi j=> .bl (decide (j<=i))):=OO λ_ _ _ _ _ _ _ q=>ge_int q
theorem aDs:OpR X (compareOp .Is) (λx y H Q=>y= .non/\Q (.bl (decide (x= .non))) H):=by
 intro pins s σ H x y v u Q I rx ry h;obtain⟨rfl,q⟩:=h;cases ry;refine is_none_gen (bP I q ?_);cases x<;>first
  | (cases rx;rfl)
  | (obtain⟨t,rfl⟩:=rx;rfl)
theorem aBP:OpR X (compareOp .IsNot) (λx y H Q=>y= .non/\Q (.bl (!decide (x= .non))) H):=by
 intro pins s σ H x y v u Q I rx ry h;obtain⟨rfl,q⟩:=h;cases ry;refine isnot_none_gen (bP I q ?_);cases x<;>first
  | (cases rx;rfl)
  | (obtain⟨t,rfl⟩:=rx;rfl)
theorem bE (b:Expr)(h:op≠ .In:=by decide)(h2:op≠ .NotIn:=by decide):behindInMarks op b=false:=by
 have e1:(op==CmpOp.In)=false:=by cases op<;>first|rfl|exact absurd rfl h
 have e2:(op==CmpOp.NotIn)=false:=by cases op<;>first|rfl|exact absurd rfl h2
 cases b<;>simp[behindInMarks,e1,e2]
theorem sU {r:R2}(ho:OpR X (compareOp op) r)(ha:PE X a ta)(hb:PE X b tb)(hm:behindInMarks op b=false):PE X (.Compare a [op] [b] pos) (tOp r ta tb):=by
 intro pins s σ H Q I h;exact wpAny_Compare1 (XZ ha hb I h λv u s2 x y H2 I2 rx ry q=>ho pins s2 σ H2 x y v u Q I2 rx ry q) hm
def O9 (t:TE):TT:=λσ H Q=>t σ H λx H'=>∃k,x= .bl k/\Q k H'
theorem a9 {r:R2}(ho:OpR X (compareOp op) r)(ha:PE X a ta)(hb:PE X b tb)(hm:behindInMarks op b=false):PT X (.Compare a [op] [b] pos) (O9 (tOp r ta tb)):=by
 intro pins s σ H Q I h;refine wpAny_isTrue_Compare1 (thn (ha pins s σ H _ I h) λv s1 ⟨x,H1,I1,r1,q1⟩=>thn (hb pins s1 σ H1 _ I1 q1) λu s2 ⟨y,H2,I2,r2,q2⟩ =>
  thn (ho pins s2 σ H2 x y v u _ I2 r1 r2 q2) λc s3 ⟨z,H3,I3,r3,k,e,q3⟩=> ?_) hm
 subst e;cases r3;exact wpAny_truthy_bool ⟨H3,I3,q3⟩
def JM (r r':R2)(ta tb tc:TE):TE:=λσ H Q=>ta σ H λx H1=>tb σ H1 λy H2=>r x y H2 λz H3=>∃k,z= .bl k ∧
 (if k=true then tc σ H3 λw' H4=>r' y w' H4 Q else Q (.bl false) H3)
theorem zD {r:R2}(ho:OpR X (compareOp op) r)(ho':OpR X (compareOp op') r')(ha:PE X a ta)(hb:PE X b tb)(hc:PE X c tc)
  (hm:lastMarks [op,op'] [b,c]=false:=by with_unfolding_all rfl):PE X (.Compare a [op,op'] [b,c] pos) (JM r r' ta tb tc):=by
 intro pins s σ H Q I h;refine Compare_chain (thn (ha pins s σ H _ I h) λv s1 ⟨x,H1,I1,r1,q1⟩=>chain_link (thn (hb pins s1 σ H1 _ I1 q1) λu s2 ⟨y,H2,I2,r2,q2⟩ =>
  thn (ho pins s2 σ H2 x y v u _ I2 r1 r2 q2) λd s3 ⟨z,H3,I3,r3,k,e,q3⟩=> ?_)) hm
 subst e;cases r3;refine wpAny_truthy_bool ?_;cases k with
 | false=>exact ite_ff ⟨.bl false,H3,I3,rfl,q3⟩
 | true=>exact ite_tt (chain_last (thn (hc pins s3 σ H3 _ I3 q3) λw' s4 ⟨z',H4,I4,r4,q4⟩=>ho' pins s4 σ H4 y z' u w' Q I4 r2 r4 q4))
theorem YF {r:R2}(ho:OpR X (compareOp op) r)(ho':OpR X (compareOp op') r')(ha:PE X a ta)(hb:PE X b tb)(hc:PE X c tc)
  (hm:lastMarks [op,op'] [b,c]=false:=by with_unfolding_all rfl):PT X (.Compare a [op,op'] [b,c] pos) (O9 (JM r r' ta tb tc)):=by
 intro pins s σ H Q I h;refine isTrue_chain (thn (ha pins s σ H _ I h) λv s1 ⟨x,H1,I1,r1,q1⟩=>test_link (thn (hb pins s1 σ H1 _ I1 q1) λu s2 ⟨y,H2,I2,r2,q2⟩ =>
  thn (ho pins s2 σ H2 x y v u _ I2 r1 r2 q2) λd s3 ⟨z,H3,I3,r3,k,e,q3⟩=> ?_)) hm
 subst e;cases r3;refine wpAny_truthy_bool ?_;cases k with
 | false =>
  obtain⟨k',e',q'⟩:=q3;cases e';exact ite_ff ⟨H3,I3,q'⟩
 | true =>
  refine ite_tt (test_last (thn (hc pins s3 σ H3 _ I3 q3) λw' s4 ⟨z',H4,I4,r4,q4⟩=>thn (ho' pins s4 σ H4 y z' u w' _ I4 r2 r4 q4) λd' s5 ⟨z2,H5,I5,r5,k2,e2,q5⟩=> ?_));subst e2;cases r5;exact wpAny_truthy_bool ⟨H5,I5,q5⟩
theorem u9:(sizeLine:Nat)<2^63:=by rw[sizeLine_eq];decide
theorem PM:OpR X (binaryOp .Add) (λx y H Q=>∃i j,x= .str i/\y= .str j/\i.length+j.length<=sizeLine/\Q (.str (i++j)) H):=by
 intro pins s σ H x y v u Q I rx ry h;obtain⟨i,j,rfl,rfl,hz,q⟩:=h;obtain⟨t,rfl⟩:=rx;obtain⟨t',rfl⟩:=ry;exact add_str (λt' tk=>⟨.str (i++j),H,I.tok _,⟨_,rfl⟩,q⟩) hz
theorem iJ {x:V}(r:Vals [x] us):∃u,us=[u]/\RelV x u:=by
 cases r with
 | cons r1 r2=>cases r2;exact⟨_,rfl,r1⟩
theorem GS {x y:V}(r:Vals [x,y] us):∃u w',us=[u,w']/\RelV x u/\RelV y w':=by
 cases r with
 | cons r1 r2 =>
  cases r2 with
  | cons r3 r4=>cases r4;exact⟨_,_,rfl,r1,r3⟩
theorem G6:cU X (.type "str") (λxs H Q=>∃i,xs=[.int i]/\i.natAbs.log2<1920/\Q (.str (toString i)) H):=by
 intro pins s σ H xs us Q I r h;obtain⟨i,rfl,hz,q⟩:=h;obtain⟨u,rfl,t,rfl⟩:=iJ r;exact PySem.P.str_of_int hz ⟨.str _,H,I.tok _,⟨_,rfl⟩,q⟩
end
structure ObjM (h:Heap)(x dx C:Addr)(mA:Str->Option Value):Prop where
 obj:h.get? x=some (W.instObj C dx)
 ns:h.Ns1 dx mA
 ne:dx≠x
variable {mA mg:Str->Option Value}
theorem UJ (n:h.Ns1 dx mA):∃od,h.get? dx=some od/\∀name,W.lookIn name od=some (mA name):=by
 obtain⟨o,es,ep,ho,hd,hk,_,hm⟩:=n;refine⟨o,ho,λname=> ?_⟩;have e:=hm name;unfold nsFind findBy at e;rw[←Array.find?_toList]at e;unfold W.lookIn;rw[hd]
 dsimp only
 split
 .rename_i y q;rw[q]at e;exact congrArg some e
 .rename_i q;rw[q]at e;have a:es.toList.any (·.refKey)=false:=by
   rw[List.any_eq_false];intro y hy;obtain⟨z,t,hkey⟩:=hk y (Array.mem_toList_iff.mp hy);simp[DictEntry.refKey,hkey]
  have a':¬es.toList.any (·.refKey)=true:=by rw[a];exact Bool.false_ne_true
  rw[if_neg a'];exact congrArg some e
theorem ObjM.look {x:Addr}(I:ObjM h x dx C mA):∃od,W.InstAt h x (W.instObj C dx) C (some od)/\∀name,W.lookIn name od=some (mA name) :=
 let ⟨od,ho,hl⟩:=UJ I.ns
 ⟨od,⟨I.obj,rfl,rfl,ho⟩,hl⟩
variable {pl:Sem Bool}{kw:List (Str×Value)}
section
variable {x f:Addr}{v:Value}
theorem aBr {expr:Bool}(X:K.In s.heap)(I:ObjM s.heap x dx C mA)(hg:W.plainGet K C name=true)(hh:W.hasDictIn K C=true)
  (ha:W.findIn K (.ref C) name=some none)(hv:mA name=some v)(hv':W.handedIn v=true)(h:Q v { s with toks:=s.toks+1 }) :
  wpAny (model prog w) A (getAttr (.ref x) name expr) Q E s:=by
 obtain⟨od,J,hl⟩:=I.look;exact W.get_value X J (W.plainGet_of hg).1 (W.findObj_own hh ha rfl (by rw[hl,hv])) hv' h
theorem W8 {Q:Value×List Value->Shared->Prop}(X:K.In s.heap)(I:ObjM s.heap x dx C mA)(hg:W.plainGet K C name=true)
  (hf:W.findIn K (.ref C) name=some (some (.ref f)))(ht:W.isFn K (.ref f)=true)(hv:mA name=none)(h:Q (.ref f,[.ref x]) s) :
  wpAny (model prog w) A (getMethod (.ref x) name pl) Q E s:=by
 obtain⟨od,J,hl⟩:=I.look;exact W.method_fn X J (W.plainGet_of hg).1 (W.plainGet_of hg).2 hf (beq_iff_eq.mp ht) (by show (W.lookIn name od).map (·.isSome)=some false;rw[hl,hv];rfl) h
theorem aAK {ns:List Str}{Q:Unit->Shared->Prop}(X:K.In s.heap)(I:ObjM s.heap x dx C mA)
  (hs:W.findIn K (.ref C) "__setattr__" =some (some (.builtin "object.__setattr__")))(hp:W.plainOver K C=true)(ht:W.takerIn K C name=some none)(hh:W.hasDictIn K C=true)
  (hw:PySem.Within mA ns)(hsz:ns.length<=sizeLine)
  (h:∀h',ObjM h' x dx C (λy=>if y=name then some v else mA y)->Heap.SameBut dx s.heap h'->Q () { s with heap:=h',toks:=s.toks+2 }) :
  wpAny (model prog w) A (setAttr (.ref x) name v) Q E s:=by
 obtain⟨od,J,hl⟩:=I.look;refine W.set_plain X J hs (W.osa_open (s:={ s with toks:=s.toks+1 }) (r:=none) X J hp ht λb=> ?_);obtain⟨cd,hc,hd'⟩:=W.any_some hh;have hx:s.heap.get? x=some ⟨.ref C,some dx,.plain,#[]⟩:=I.obj;refine wpAny_bind (wpAny_pure (wpAny_bind (wpAny_bind (wpAny_loadPart hx (wpAny_bind (W.Looks.here (s:={ s with toks:=s.toks+1 }) (W.looks_clsIn X hc) ?_))))));rw[hd'];refine wpAny_pure (a:=some dx) (wpAny_bind (wpAny_pure (wpAny_bind ?_)));refine wpAny_nsSet1 (s:={ s with toks:=s.toks+1 }) I.ns λh' hn2 hs2=> ?_;obtain⟨oD,esD,epD,hoD,hdD,hcD⟩:=hn2.count (PySem.Within.cons name v hw);refine wpAny_bind (wpAny_lookBehind hoD (by rw[hdD];exact pastItsLine_dict (Nat.le_trans hcD (by rw[List.length_cons];lia))) ?_);exact wpAny_pure (h _ ⟨(hs2.2 _ (Ne.symm I.ne)).trans I.obj,hn2,I.ne⟩ hs2)
theorem IM {R:Result->Shared->Prop}{vs:List Value}(X:K.In s.heap)(hm:W.makesIn K C=true)
  (hi:W.findIn K (.ref C) "__init__" =some (some (.ref f)))(hf:W.typeIn K (.ref f)=some (.type "function"))
  (h:codeAny (model prog w) (A.under (.builtin "type.__call__" ⟨.ref C::vs,kw⟩)) (.call (.ref f) ⟨.ref (s.heap.objs.size+1)::vs,kw⟩) (W.InitBack (s.heap.objs.size+1) R)
   { s with heap:=(s.heap.push W.emptyDict).push (W.instObj C s.heap.objs.size) }) :
  codeAny (model prog w) A (.call (.ref C) ⟨vs,kw⟩) R s:=by
 obtain⟨hh,g,d,t,os⟩:=s;exact W.make_core (W.makes_of X hm) (W.looks_findIn X hi) (λself=>W.bind_fn X self hf) (.inl rfl) h
end
def cG (f:Str)(v:V):List (Str×V)->List (Str×V)
 | []=>[(f,v)]
 | (g,x)::r=>if g=f then (g,v)::r else (g,x)::cG f v r
theorem mM (f g:Str)(v:V):∀fs:List (Str×V),(cG f v fs).lookup g=if g=f then some v else fs.lookup g
 | []=>by
  show List.lookup g [(f,v)]=_
  by_cases h:g=f
  .have hb:(g==f)=true:=beq_iff_eq.mpr h;simp only[List.lookup,hb,if_pos h]
  .have hb:(g==f)=false:=beq_eq_false_iff_ne.mpr h;simp only[List.lookup,hb,if_neg h]
 | (k,x)::r=>by
  have ih:=mM f g v r;rw[show cG f v ((k,x)::r)=(if k=f then (k,v)::r else (k,x)::cG f v r) from rfl]
  by_cases hk:k=f
  .rw[if_pos hk]
   by_cases h:g=k
   .have hb:(g==k)=true:=beq_iff_eq.mpr h;simp only[List.lookup,hb,if_pos (h.trans hk)]
   .have hb:(g==k)=false:=beq_eq_false_iff_ne.mpr h;simp only[List.lookup,hb,if_neg (λe:g=f=>h (e.trans hk.symm))]
  .rw[if_neg hk]
   by_cases h:g=k
   .have hb:(g==k)=true:=beq_iff_eq.mpr h;simp only[List.lookup,hb,if_neg (λe:g=f=>hk (h.symm.trans e))]
   .have hb:(g==k)=false:=beq_eq_false_iff_ne.mpr h;simp only[List.lookup,hb];exact ih
theorem vK (f:Str)(v:V):∀fs:List (Str×V),f∈(cG f v fs).map (·.1)/\∀g,g∈fs.map (·.1)->g∈(cG f v fs).map (·.1)
 | []=>⟨by simp[cG],λg h=>by simp at h⟩
 | (k,x)::r=>by
  obtain⟨i1,i2⟩:=vK f v r;rw[show cG f v ((k,x)::r)=(if k=f then (k,v)::r else (k,x)::cG f v r) from rfl]
  by_cases hk:k=f
  .rw[if_pos hk];subst hk;exact⟨by simp,λg h=>by simpa using h⟩
  .rw[if_neg hk];refine⟨?_,λg h=> ?_⟩
   .rw[List.map_cons];exact List.mem_cons_of_mem _ i1
   .rw[List.map_cons]at h ⊢;rcases List.mem_cons.mp h with e|e
    .exact List.mem_cons.mpr (.inl e)
    .exact List.mem_cons_of_mem _ (i2 g e)
theorem xU (f:Str)(v:V):∀fs:List (Str×V),(cG f v fs).length<=fs.length+1
 | []=>by simp[cG]
 | (k,x)::r=>by
  have ih:=xU f v r;rw[show cG f v ((k,x)::r)=(if k=f then (k,v)::r else (k,x)::cG f v r) from rfl]
  by_cases hk:k=f
  .rw[if_pos hk,List.length_cons,List.length_cons];lia
  .rw[if_neg hk,List.length_cons,List.length_cons];lia
theorem RelO.some_of {o:Option Value}(r:RelO (some v) o):∃u,o=some u/\RelV v u:=by
 cases o with
 | none=>exact(show False from r).elim
 | some u=>exact⟨u,rfl,r⟩
theorem RelO.none_of {o:Option Value}(r:RelO none o):o=none:=by
 cases o with
 | none=>rfl
 | some u=>exact(show False from r).elim
theorem vH (r:RelV v u):W.handedIn u=true:=by
 cases v with
 | non=>cases (show u=Value.none from r);rfl
 | bl b=>cases (show u=Value.bool b from r);rfl
 | int i=>obtain⟨t,e⟩:=(show ∃t,u=Value.int i t from r);cases e;rfl
 | str x=>obtain⟨t,e⟩:=(show ∃t,u=Value.str x t from r);cases e;rfl
 | byt b=>obtain⟨t,e⟩:=(show ∃t,u=Value.bytes b t from r);cases e;rfl
 | flt b=>obtain⟨t,e⟩:=(show ∃t,u=Value.float b t from r);cases e;rfl
 | ref a=>cases (show u=Value.ref a from r);rfl
 | ty n=>cases (show u=Value.type n from r);rfl
section
variable {fs fs':List (Str×V)}
theorem wL (hok:HOk P w H h)(e:H a=some (.ins C dx fs)):∃mA,ObjM h a dx C mA/\(∀f,RelO (fs.lookup f) (mA f))/\PySem.Within mA (fs.map (·.1))/\fs.length<=1000/\H dx=some (.own a):=by
 obtain⟨d,z,ne,ob,mA,n,r,q⟩:=(show ObjOk P w H h a (.ins C dx fs) from hok a _ e)
 exact⟨mA,⟨ob,n,ne⟩,r,q,z,d⟩
end
structure Cls (K:W.Frag)(C:Addr):Prop where
 pg:W.plainGet K C Str.empty=true
 hd:W.hasDictIn K C=true
 po:W.plainOver K C=true
 sa:W.findIn K (.ref C) "__setattr__" =some (some (.builtin "object.__setattr__"))
theorem Cls.get (c:Cls K C)(f:Str):W.plainGet K C f=true:=c.pg
def NoAttr (K:W.Frag)(C:Addr)(f:Str):Prop:=W.findIn K (.ref C) f=some none
theorem NoAttr.taker {f:Str}(n:NoAttr K C f):W.takerIn K C f=some none:=by
 unfold W.takerIn;rw[show W.findIn K (.ref C) f=some none from n];rfl
structure Meth (K:W.Frag)(C:Addr)(m:Str)(f:Addr):Prop where
 at_:W.findIn K (.ref C) m=some (some (.ref f))
 fn:W.isFn K (.ref f)=true
 kp:W.keepIn K (.ref f)=true
section
variable {fs:List (Str×V)}{f:Str}
theorem QY {b:Bool}(I:Inv X pins σ H s)(e:H a=some (.ins C dx fs))(c:Cls X.K C)(n:NoAttr X.K C f)(l:fs.lookup f=some v)
  (h:∀u s',Inv X pins σ H s'->RelV v u->Q u s'):wpAny (model X.prog X.w) A (getAttr (.ref a) f b) Q E s:=by
 obtain⟨mA,O,r,_,_,_⟩:=wL I.hok e;obtain⟨u,hu,ru⟩:=RelO.some_of (v:=v) (o:=mA f) (by rw[←l];exact r f);exact aBr I.kIn O (c.get f) c.hd n hu (vH ru) (h u _ (I.tok _) ru)
theorem A5 {g:Addr}{Q:Value×List Value->Shared->Prop}(I:Inv X pins σ H s)(e:H a=some (.ins C dx fs))(c:Cls X.K C)(k:Meth X.K C m g)(l:fs.lookup m=none)
  (h:Q (.ref g,[.ref a]) s):wpAny (model X.prog X.w) A (getMethod (.ref a) m pl) Q E s:=by
 obtain⟨mA,O,r,_,_,_⟩:=wL I.hok e;have hn:mA m=none:=RelO.none_of (by rw[←l];exact r m);exact W8 I.kIn O (c.get m) k.at_ k.fn hn h
theorem OZ {y:V}{Q:Unit->Shared->Prop}(I:Inv X pins σ H s)(e:H a=some (.ins C dx fs))(c:Cls X.K C)(n:NoAttr X.K C f)(hl:fs.length<1000)(ry:RelV y u)
  (h:∀s',Inv X pins σ (upd H a (.ins C dx (cG f y fs))) s'->Q () s'):wpAny (model X.prog X.w) A (setAttr (.ref a) f u) Q E s:=by
 obtain⟨mA,O,r,wi,_,ho⟩:=wL I.hok e;have hz:(fs.map (·.1)).length<=sizeLine:=by rw[List.length_map,sizeLine_eq];lia
 refine aAK I.kIn O c.sa c.po n.taker c.hd wi hz λh' O' sb=>h _ ?_;have hd:∃o,h'.get? dx=some o:=let ⟨o,_,_,e',_⟩:=O'.ns;⟨o,e'⟩;refine I.write (x:=a) (e:=dx) (by rw[e];exact True.intro) (.inr ho) (λb q hb z=>(sb.2 b hb).trans z) hd ?_;refine⟨by rw[aM O.ne];exact ho,?_,O.ne,O'.obj,_,O'.ns,λg=> ?_,λg hg=> ?_⟩
 .have:=xU f y fs;lia
 .show RelO ((cG f y fs).lookup g) (if g=f then some u else mA g);rw[mM]
  by_cases q:g=f
  .rw[if_pos q,if_pos q];exact ry
  .rw[if_neg q,if_neg q];exact r g
 .by_cases q:g=f
  .rw[q];exact(vK f y fs).1
  .refine(vK f y fs).2 g (wi g λz=>hg ?_);show (if g=f then some u else mA g)=none;rw[if_neg q];exact z
theorem Inv.made (I:Inv X pins σ H s):Inv X pins σ (upd (upd H s.heap.objs.size (.own (s.heap.objs.size+1))) (s.heap.objs.size+1) (.ins C s.heap.objs.size []))
  { s with heap:=(s.heap.push W.emptyDict).push (W.instObj C s.heap.objs.size) }:=by
 have e1:(s.heap.push W.emptyDict).get? s.heap.objs.size=some W.emptyDict:=Heap.get?_push_size s.heap rfl;have e2:((s.heap.push W.emptyDict).push (W.instObj C s.heap.objs.size)).get? (s.heap.objs.size+1)=some (W.instObj C s.heap.objs.size):=by
  have:=Heap.get?_push_size (s.heap.push W.emptyDict) (o:=W.instObj C s.heap.objs.size) rfl
  rwa [Heap.size_push]at this
 have e3:(s.heap.push W.emptyDict).Ns s.heap.objs.size (λ_=>none):=⟨W.emptyDict,#[],_,e1,rfl,(λe he=>absurd he (by simp)),λ_=>rfl⟩
 have I1:=I.laid (a:=s.heap.objs.size) (o:= .own (s.heap.objs.size+1)) (h':=s.heap.push W.emptyDict) (t':=s.toks) (λb u q=>Heap.get?_push_of_some _ q) (Nat.le_refl _) ⟨_,e1⟩;refine I1.laid (a:=s.heap.objs.size+1) (o:= .ins C s.heap.objs.size []) (t':=s.toks) (λb u q=>Heap.get?_push_of_some _ q) (Nat.le_of_eq (Heap.size_push _ _)) ?_;have ne:s.heap.objs.size≠s.heap.objs.size+1:=Nat.ne_of_lt (Nat.lt_succ_self _);refine⟨by rw[aM ne,aU],Nat.zero_le _,ne,e2,λ_=>none,(Heap.Ns1.of_empty e3).at λo q=>Heap.get?_push_of_some _ q,λ_=>True.intro,λy hy=>absurd rfl hy⟩
theorem aCg {env:Env}{f:Str}(hb:attributeBase e f env (eval e env)=eval e env)
  (h:wpAny (model prog w) A (eval e env) (λo s₁=>wpAny (model prog w) A (getAttr o f true) Q E s₁) E s):wpAny (model prog w) A (eval (.Attribute e f pos) env) Q E s :=
 Attribute_any_ h (by rw[arm_eval_Attribute,hb])
end
def Y3 (K:W.Frag)(ta:TE)(f:Str):TE:=λσ H Q=>ta σ H λx H1=>∃a C dx fs v,x= .ref a/\H1 a=some (.ins C dx fs)/\Cls K C/\NoAttr K C f/\fs.lookup f=some v/\Q v H1
def aCW (K:W.Frag)(ta tv:TE)(f:Str):TS:=λD σ H=>tv σ H λy H1=>ta σ H1 λx H2=>∃a C dx fs,x= .ref a/\H2 a=some (.ins C dx fs)/\Cls K C/\NoAttr K C f/\fs.length<1000 ∧
 D.nx σ (upd H2 a (.ins C dx (cG f y fs)))
def aEM (X:Cx)(op:Operator)(rd:V->V->Hp->VK->Prop):Prop :=
 ∀(pins:List (Addr×Obj)) (s:Shared) (σ:St) (H:Hp) (x y:V) (u v:Value) (Q:VK),Inv X pins σ H s->RelV x u->RelV y v->rd x y H Q->wpAny (model X.prog X.w) X.A (inplaceOp op u v) (EP X pins σ Q) X.xe s
section
variable {value:Expr}{f:Str}{tpos:Pos}{tv:TE}
theorem bS (he:PE X e ta)(hb:attributeBase e f X.env (eval e X.env)=eval e X.env):PE X (.Attribute e f pos) (Y3 X.K ta f):=by
 intro pins s σ H Q I h;refine aCg hb (thn (he pins s σ H _ I h) λu s1 ⟨x,H1,I1,rx,a,C,dx,fs,v,ex,ea,c,n,l,q⟩=> ?_);subst ex;obtain rfl:u=Value.ref a:=rx;exact QY I1 ea c n l λu' s2 I2 ru=>⟨v,H1,I2,ru,q⟩
theorem fD (ha:PE X o ta)(hv:PE X value tv)(hs:swapsWith value (some (.Attribute o f pos')) pos.line X.env=pure false):PS X (.Assign [.Attribute o f pos'] value pos) (aCW X.K ta tv f):=by
 intro pins s σ H D I h;refine plainObj_wpAny_Assign_Attribute (thn (hv pins s σ H _ I h) λu s1 ⟨y,H1,I1,ry,q⟩=>thn (ha pins s1 σ H1 _ I1 q) λov s2 ⟨x,H2,I2,rx,a,C,dx,fs,ex,ea,c,n,l,q2⟩=> ?_) hs;subst ex;obtain rfl:ov=Value.ref a:=rx;exact OZ I2 ea c n l ry λs3 I3=>⟨σ,_,I3,q2⟩
def aCA:V->V->Hp->VK->Prop:=λx y H Q=>∃i j,x= .int i/\y= .int j/\Q (.int (i+j)) H
theorem aDh:aEM X .Add aCA:=by
 rintro pins s σ H x y u v Q I rx ry ⟨i,j,rfl,rfl,q⟩;obtain⟨t,rfl⟩:=(show ∃t,u=Value.int i t from rx)
 obtain⟨t',rfl⟩:=(show ∃t',v=Value.int j t' from ry)
 exact PyProof.Rows.iadd_int ⟨.int (i+j),H,I.tok _,⟨_,rfl⟩,q⟩
end
section
variable {c:Value}{b:Bool}
inductive jS (K:W.Frag)(H:Hp):V->Value->Prop where
 | non:jS K H .non (.type "NoneType")
 | bl (x:Bool):jS K H (.bl x) (.type "bool")
 | int (i:Int):jS K H (.int i) (.type "int")
 | str (x:Str):jS K H (.str x) (.type "str")
 | flt (x:UInt64):jS K H (.flt x) (.type "float")
 | lst {a:Addr}{xs:List V} (e:H a=some (.lst xs)):jS K H (.ref a) (.type "list")
 | frz {a:Addr}{o:Obj}{xs:List V} (e:H a=some (.frz o (.lst xs))):jS K H (.ref a) (.type "list")
 | tup {a:Addr}{xs:List V} (e:H a=some (.tup xs)):jS K H (.ref a) (.type "tuple")
 | dK {a:Addr}{kvs:List (Key×V)} (e:H a=some (.dK kvs)):jS K H (.ref a) (.type "dict")
 | dT {a:Addr}{kvs:List (List Key×V)} (e:H a=some (.dT kvs)):jS K H (.ref a) (.type "dict")
 | ins {a C dx:Addr}{fs:List (Str×V)} (e:H a=some (.ins C dx fs)) (cl:Cls K C) (ha:W.findIn K (.ref C) "__class__" =some (some (.builtin "object.__class__")))
   (hn:W.specialIn K (.builtin "object.__class__") "__get__" =some (some (.builtin "getset_descriptor.__get__")))(htk:W.takesIn K (.builtin "object.__class__")=some true)
   (hm:W.mroIn K C (.type "object")=some true):jS K H (.ref a) (.ref C)
theorem TR {x:V}{t:Value}(I:Inv X pins σ H s)(rx:RelV x u)(ty:jS X.K H x t)(e:W.kitOne X.K t c=some b)(h:∀tk,Q (.bool b) { s with toks:=tk }):
  wpAny (model X.prog X.w) A (call (.builtin "isinstance") [u,c]) Q E s:=by
 cases ty with
 | non=>cases (show u=Value.none from rx);exact W.kia_one W.kitx_none I.kIn True.intro e (λz=>nomatch z) h
 | bl y=>cases (show u=Value.bool y from rx);exact W.kia_one W.kitx_bool I.kIn True.intro e (λz=>nomatch z) h
 | int i=>obtain⟨t,q⟩:=(show ∃t,u=Value.int i t from rx);cases q;exact W.kia_one W.kitx_int I.kIn True.intro e (λz=>nomatch z) h
 | str y=>obtain⟨t,q⟩:=(show ∃t,u=Value.str y t from rx);cases q;exact W.kia_one W.kitx_str I.kIn True.intro e (λz=>nomatch z) h
 | flt y=>obtain⟨t,q⟩:=(show ∃t,u=Value.float y t from rx);cases q;exact W.kia_one W.kitx_float I.kIn True.intro e (λz=>nomatch z) h
 | @lst a xs ea =>
  cases (show u=Value.ref a from rx);obtain⟨_,_,n,_,h1⟩:=(show ObjOk X.prog X.w H s.heap a (.lst xs) from I.hok a _ ea)
  exact W.kia_one W.kitx_list I.kIn ⟨_,h1,rfl⟩ e (λz=>nomatch z) h
 | @frz a ob xs ea =>
  cases (show u=Value.ref a from rx);obtain⟨_,_,_,n,_,h1⟩:=(show ObjOk X.prog X.w H s.heap a (.frz ob (.lst xs)) from I.hok a _ ea)
  exact W.kia_one W.kitx_list I.kIn ⟨_,h1,rfl⟩ e (λz=>nomatch z) h
 | @tup a xs ea =>
  cases (show u=Value.ref a from rx);obtain⟨_,_,_,p⟩:=(show ObjOk X.prog X.w H s.heap a (.tup xs) from I.hok a _ ea)
  obtain⟨o,h1,h2,_⟩:=p;exact W.kia_one W.kitx_tuple I.kIn ⟨o,h1,h2⟩ e (λz=>nomatch z) h
 | @dK a kvs ea =>
  cases (show u=Value.ref a from rx);obtain⟨_,_,vs,_,p⟩:=(show ObjOk X.prog X.w H s.heap a (.dK kvs) from I.hok a _ ea)
  obtain⟨o,es,ep,h1,h2,_⟩:=p;exact W.kia_one W.kitx_dict I.kIn ⟨o,h1,h2.1⟩ e (λz=>nomatch z) h
 | @dT a kvs ea =>
  cases (show u=Value.ref a from rx);obtain⟨_,_,xs,_,o,es,ep,h1,h2,_⟩:=(show ObjOk X.prog X.w H s.heap a (.dT kvs) from I.hok a _ ea)
  exact W.kia_one W.kitx_dict I.kIn ⟨o,h1,h2.1⟩ e (λz=>nomatch z) h
 | @ins a C dx fs ea cl ha hn htk hm =>
  cases (show u=Value.ref a from rx);obtain⟨mA,O,_⟩:=wL I.hok ea;obtain⟨od,J,_⟩:=O.look;exact W.kia_one (W.kitx_own (cl.get _) cl.hd ha hn htk hm) I.kIn J e (λz=>nomatch z) h
end
structure Room (k:Nat)(A:Around):Prop where
 hd:A.handled=none
 dp:A.depth+3 * k+5<recursionLimit
 un:A.units+16 * k+200<cLine
theorem Room.mono {k:Nat}(r:Room k A)(h:j<=k):Room j A:=⟨r.hd,by have:=r.dp;lia,by have:=r.un;lia⟩
theorem Room.deeper {k:Nat}(r:Room (k+1) A)(env:Env):Room k (A.deeper env) :=
 ⟨r.hd,by have:=r.dp;show A.depth+1+3 * k+5<_;lia,by have:=r.un;show A.units+3+16 * k+200<_;lia⟩
theorem QG:(A.under (.builtin "type.__call__" ⟨.ref C::us,kw⟩)).depth=A.depth+1:=by
 first|rfl|simp[Around.under,Code.weight,Code.isCreation,Code.isGuard,Code.isCaller,Code.frames,Code.isFrame,guardIds]
theorem N1:(A.under (.builtin "type.__call__" ⟨.ref C::us,kw⟩)).units=A.units+1:=by
 first|rfl|simp[Around.under,Code.cUnits,Code.frames,Code.isFrame]
theorem Room.make {k:Nat}(r:Room (k+1) A)(C:Addr)(us:List Value)(kw:List (Str×Value)):Room k (A.under (.builtin "type.__call__" ⟨.ref C::us,kw⟩)) :=
 ⟨r.hd,by have:=r.dp;rw[QG];lia,by have:=r.un;rw[N1];lia⟩
theorem Room.depth {k:Nat}(r:Room k A):A.depth<recursionLimit:=by have:=r.dp;lia
theorem Room.units0 {k:Nat}(r:Room k A):A.units<cLine:=by have:=r.un;lia
def CM:TA:=λ_ H Q=>Q [] H
def GI (ta:TE)(tr:TA):TA:=λσ H Q=>ta σ H λx H1=>tr σ H1 λxs H2=>Q (x::xs) H2
section
variable {t:TA}
theorem aB:PA X [] CM:=λ_ _ _ _ H Q I h=>Calls.spliced_nil ⟨[],H,I,.nil,h⟩
theorem aA (ha:PE X e te)(hr:PA X es t)(hs:starEach (e::es) X.env=(false,eval e X.env)::starEach es X.env:=by rfl):PA X (e::es) (GI te t):=by
 intro pos pins s σ H Q I h;rw[hs];show wpAny _ _ (spliced ((false,eval e X.env)::backTo pos (starEach es X.env))) _ _ s;refine Calls.spliced_cons (thn (ha pins s σ H _ I h) λu s1 ⟨x,H1,I1,r1,q1⟩=> ?_);exact thn (hr pos pins s1 σ H1 _ I1 q1) λus s2 ⟨xs,H2,I2,r2,q2⟩=>⟨x::xs,H2,I2,.cons r1 r2,q2⟩
def aC2 (t:TA):TE:=λσ H Q=>t σ H λxs H1=>xs.length<=sizeLine/\∀p,H1 p=none->Q (.ref p) (upd H1 p (.tup xs))
def aDp (t:TA):TE:=λσ H Q=>t σ H λxs H1=>xs.length<=sizeLine/\∀p,H1 p=none->Q (.ref p) (upd H1 p (.lst xs))
theorem AE {x1}(h:PA X es t):PE X (.Tuple es x1 pos) (aC2 t):=by
 intro pins s σ H Q I hq;refine wpAny_Tuple_spliced (thn (h pos pins s σ H _ I hq) λus s1 ⟨xs,H1,I1,r,z,q⟩=>⟨by rw[←r.length];exact z,?_⟩);have hf:H1 s1.heap.objs.size=none:=I1.hok.fresh (Nat.le_refl _);refine⟨.ref s1.heap.objs.size,upd H1 s1.heap.objs.size (.tup xs),I1.laid (t':=s1.toks) (λb u e=>Heap.get?_push_of_some _ e) (Nat.le_refl _) ?_,rfl,q _ hf⟩;exact⟨z,us,r,⟨_,Heap.get?_push_size _ rfl,rfl,_,rfl⟩⟩
theorem bM (h:PA X es t):PE X (.List es pos) (aDp t):=by
 intro pins s σ H Q I hq;refine wpAny_List_spliced (thn (h pos pins s σ H _ I hq) λus s1 ⟨xs,H1,I1,r,z,q⟩=>⟨by rw[←r.length];exact z,?_⟩);have hf:H1 s1.heap.objs.size=none:=I1.hok.fresh (Nat.le_refl _);refine⟨.ref s1.heap.objs.size,upd H1 s1.heap.objs.size (.lst xs),I1.laid (t':=s1.toks) (λb u e=>Heap.get?_push_of_some _ e) (Nat.le_refl _) ?_,rfl,q _ hf⟩;exact⟨z,us,0,r,Heap.get?_push_size _ rfl⟩
end
abbrev Sp:=List V->Hp->VK->XK->Prop
abbrev CXT:=List Env->Hp->Shared->XK->Value->Shared->Prop
structure Env0 (P:Program)(w:World)(K:W.Frag)(mg:Str->Option Value)(base:Heap)(A:Around)(outer:List Env)(s:Shared)(H:Hp):Prop where
 frames:A.frames=some outer
 mod:Mod K mg base
 bs:∀b o,base.get? b=some o->s.heap.get? b=some o/\H b=none
 bsz:base.objs.size<=s.heap.objs.size
 funs:s.heap.FunFrames base outer
 frf:∀b∈frs outer,H b=none
 hok:HOk P w H s.heap
 bare:AllBare s.gens
def CE (outer:List Env)(P:Program)(w:World)(H:Hp)(s:Shared)(Q:VK)(u:Value)(s':Shared):Prop :=
 ∃v H',s'.os=s.os/\AllBare s'.gens/\Un (frs outer) [] H H' s.heap s'.heap/\HOk P w H' s'.heap/\RelV v u/\Q v H'
def CR (CX:CXT)(outer:List Env)(P:Program)(w:World)(H:Hp)(s:Shared)(Q:VK)(E:XK)(r:Result)(s':Shared):Prop :=
 match r with
 | .ok (.ret u)=>CE outer P w H s Q u s'
 | .ok _=>False
 | .error e=>CX outer H s E e s'
structure FnOk (P:Program)(w:World)(K:W.Frag)(mg:Str->Option Value)(base:Heap)(CX:CXT)(k:Nat)(f:Addr)(fd:FuncData)(ps:List Str)(sp:Sp):Prop where
 len:∀vs H Q E,sp vs H Q E->vs.length=ps.length
 run:∀(A:Around) (outer:List Env) (s:Shared) (H:Hp) (args:Args) (us:List Value) (vs:List V) (Q:VK) (E:XK),Room k A->Env0 P w K mg base A outer s H->BindsTo s fd args (ps.zip us)->Vals vs us->sp vs H Q E →
  codeAny (model P w) A (.call (.ref f) args) (CR CX outer P w H s Q E) s
variable {CX:CXT}{fd:FuncData}{sp:Sp}
theorem FnOk.mono {k:Nat}{f:Addr}{ps:List Str}(F:FnOk P w K mg base CX j f fd ps sp)(h:j<=k):
  FnOk P w K mg base CX k f fd ps sp:=⟨F.len,λA outer s H args us vs Q E hr=>F.run A outer s H args us vs Q E (hr.mono h)⟩
variable {outer:List Env}
theorem Env0.make (e:Env0 P w K mg base A outer s H)(C:Addr)(us:List Value)(kw:List (Str×Value)):
  Env0 P w K mg base (A.under (.builtin "type.__call__" ⟨.ref C::us,kw⟩)) outer s H:=⟨by first|exact e.frames|(simpa [Around.under,Code.envs,Code.isFrame,pushEnvs] using e.frames),e.mod,e.bs,e.bsz,e.funs,e.frf,e.hok,e.bare⟩
theorem Inv.env0 (I:Inv X pins σ H s):Env0 X.prog X.w X.K X.mg X.base X.A X.stack s H :=
 ⟨I.ok.frames,I.ok.mod,I.bs,Nat.le_trans I.ok.bsz I.sz,I.stack,I.stkFree,I.hok,I.bare⟩
theorem Inv.after {Q:VK}(I:Inv X pins σ H s)(h:CE X.stack X.prog X.w H s Q u s'):EP X pins σ Q u s':=by
 obtain⟨v,H',os,bare,un,hok,r,q⟩:=h;obtain⟨hh,g,d,t,os'⟩:=s';obtain rfl:os'=s.os:=os;exact⟨v,H',I.call (h':=hh) (g':=g) (d':=d) (t':=t) (ch:=[]) un hok bare (λb z=>absurd z (by simp)),r,q⟩
def j8 (sp:Sp)(dvs:List V)(E:XK)(t:TA):TE:=λσ H Q=>t σ H λvs H1=>sp (vs++dvs) H1 Q E
def GK (C:Addr)(sp:Sp)(dvs:List V)(E:XK)(t:TA):TE:=λσ H Q=>t σ H λvs H1=>∀x dx,H1 x=none->H1 dx=none->dx≠x →
 sp (.ref x::(vs++dvs)) (upd (upd H1 dx (.own x)) x (.ins C dx [])) (λv H2=>v= .non/\Q (.ref x) H2) E
def Binds (K:W.Frag)(fd:FuncData)(ps:List Str)(ds:List Value):Prop :=
 ∀(s:Shared) (us:List Value),K.In s.heap->(us++ds).length=ps.length->BindsTo s fd ⟨us,[]⟩ (ps.zip (us++ds))
theorem Binds.all {ps:List Str}(h:∀us:List Value,us.length=ps.length->bindArgs fd ⟨us,[]⟩=pure (ps.zip us)):Binds K fd ps []:=λs us _ hl=>by
 rw[List.append_nil]at hl ⊢;exact .of_eq (h us hl)
def fZ (CX:CXT)(X:Cx)(E:XK):Prop:=∀(pins:List (Addr×Obj)) (σ:St) (H:Hp) (s:Shared) (e:Value) (s':Shared),Inv X pins σ H s->CX X.stack H s E e s'->X.xe e s'
section
variable {k:Nat}{f:Addr}{ps:List Str}{dvs:List V}{ds:List Value}{E:XK}{p:Pos}{t:TA}
theorem vT {Q:VK}(F:FnOk X.prog X.w X.K X.mg X.base CX k f fd ps sp)(hr:Room k X.A)(hb:Binds X.K fd ps ds)(hd:Vals dvs ds)(hx:fZ CX X E)
  (I:Inv X pins σ H s)(r:Vals vs us)(h:sp (vs++dvs) H Q E):wpAny (model X.prog X.w) X.A (call (.ref f) us) (EP X pins σ Q) X.xe s:=by
 have r2:Vals (vs++dvs) (us++ds):=r.append hd;have hl:(us++ds).length=ps.length:=by rw[←r2.length];exact F.len _ _ _ _ h
 refine wpAny_call (codeAny_mono (F.run X.A X.stack s H ⟨us,[]⟩ (us++ds) (vs++dvs) Q E hr I.env0 (hb s us I.kIn hl) r2 h) λr s' hq=> ?_);cases r with
 | error e=>exact hx pins σ H s e s' I hq
 | ok fl =>
  cases fl with
  | ret u=>exact I.after hq
  | next=>exact False.elim hq
  | brk=>exact False.elim hq
  | cont=>exact False.elim hq
theorem DG (F:FnOk X.prog X.w X.K X.mg X.base CX k f fd ps sp)(hr:Room k X.A)(hg:Gl X x)(hm:X.mg x=some (.ref f))(hk:W.keepIn X.K (.ref f)=true)(hb:Binds X.K fd ps ds)(hd:Vals dvs ds)(hx:fZ CX X E)
  (ha:PA X (e::es) t)(hdb:(x==("__debug__" :Str))=false:=by decide)(he:starEach (e::es) X.env=(false,eval e X.env)::starEach es X.env:=by rfl)(hpl:(backTo pos (starEach es X.env)).any (·.1)=false:=by rfl) :
  PE X (.Call (.Name x p) (e::es) [] pos) (j8 sp dvs E t):=by
 intro pins s σ H Q I h;refine wpAny_Call_Name_kw (dI I hg hm ?_ hdb);refine W.callWith_K (h₀:=X.base) I.ok.mod.kin hk (thn (ha pos pins s σ H _ I h) λus s1 ⟨vs,H1,I1,r,q⟩=>⟨I1.kIn,?_⟩) he hpl;exact vT F hr hb hd hx I1 r q
structure Mk (K:W.Frag)(C f:Addr):Prop where
 makes:W.makesIn K C=true
 init:W.findIn K (.ref C) "__init__" =some (some (.ref f))
 fn:W.isFn K (.ref f)=true
 kp:W.keepIn K (.ref C)=true
theorem Y7 {Q:VK}(M:Mk X.K C f)(F:FnOk X.prog X.w X.K X.mg X.base CX k f fd ps sp)(hr:Room (k+1) X.A)(hb:Binds X.K fd ps ds)(hd:Vals dvs ds)
  (hx:fZ CX X E)(I:Inv X pins σ H s)(r:Vals vs us)
  (h:∀x dx,H x=none->H dx=none->dx≠x->sp (.ref x::(vs++dvs)) (upd (upd H dx (.own x)) x (.ins C dx [])) (λv H2=>v= .non/\Q (.ref x) H2) E) :
  wpAny (model X.prog X.w) X.A (call (.ref C) us) (EP X pins σ Q) X.xe s:=by
 have hq:=h (s.heap.objs.size+1) s.heap.objs.size (I.hok.fresh (Nat.le_succ _)) (I.hok.fresh (Nat.le_refl _)) (Nat.ne_of_lt (Nat.lt_succ_self _));have I2:=Inv.made (C:=C) I;have r2:Vals (V.ref (s.heap.objs.size+1)::(vs++dvs)) (Value.ref (s.heap.objs.size+1)::(us++ds)):= .cons rfl (r.append hd);have hl:(Value.ref (s.heap.objs.size+1)::us++ds).length=ps.length:=by
  have e:=r2.length;rw[F.len _ _ _ _ hq]at e;exact e.symm
 refine wpAny_call (IM (f:=f) I.kIn M.makes M.init (beq_iff_eq.mp M.fn) (codeAny_mono (F.run _ X.stack _ _ ⟨Value.ref (s.heap.objs.size+1)::us,[]⟩ (Value.ref (s.heap.objs.size+1)::(us++ds)) _ _ E (hr.make C us [])
  (I2.env0.make C us []) (hb _ (Value.ref (s.heap.objs.size+1)::us) I2.kIn hl) r2 hq) λr s' hq'=> ?_))
 cases r with
 | error e=>exact hx pins σ _ _ e s' I2 hq'
 | ok fl =>
  cases fl with
  | ret u =>
   obtain⟨v,H',I3,rv,ev,q3⟩:=I2.after hq';subst ev;exact⟨rv,⟨V.ref (s.heap.objs.size+1),H',I3,rfl,q3⟩⟩
  | next=>exact False.elim hq'
  | brk=>exact False.elim hq'
  | cont=>exact False.elim hq'
theorem aAE (M:Mk X.K C f)(F:FnOk X.prog X.w X.K X.mg X.base CX k f fd ps sp)(hr:Room (k+1) X.A)(hg:Gl X x)(hm:X.mg x=some (.ref C))(hb:Binds X.K fd ps ds)(hd:Vals dvs ds)(hx:fZ CX X E)
  (ha:PA X (e::es) t)(hdb:(x==("__debug__" :Str))=false:=by decide)(he:starEach (e::es) X.env=(false,eval e X.env)::starEach es X.env:=by rfl)(hpl:(backTo pos (starEach es X.env)).any (·.1)=false:=by rfl) :
  PE X (.Call (.Name x p) (e::es) [] pos) (GK C sp dvs E t):=by
 intro pins s σ H Q I h;refine wpAny_Call_Name_kw (dI I hg hm ?_ hdb);refine W.callWith_K (h₀:=X.base) I.ok.mod.kin M.kp (thn (ha pos pins s σ H _ I h) λus s1 ⟨vs,H1,I1,r,q⟩=>⟨I1.kIn,?_⟩) he hpl;exact Y7 M F hr hb hd hx I1 r q
end
section
variable {k:Nat}{f:Addr}{ps ks:List Str}{E:XK}{p kpos:Pos}{kws:List Keyword}{t tk:TA}{nm:Option Str}
variable {g:List Value->List Value->List Value}{gV:List V->List V->List V}
end
structure aN (N P:List Str)(sc:Scope):Prop where
 kind:sc.kind= .function
 co:sc.isCoroutine=false
 gen:sc.isGenerator=false
 nd:N.Nodup
 pre:N.take P.length=P
 par:∀x∈P,sc.names.lookup x=some .local∨sc.names.lookup x=some .cell
 nofree:∀y∈sc.names,y.2≠ .free
variable {kindOf:Str->Option NameKind}
theorem E8:∀{binds:List (Str×Value)}{m:Str->Option Value},(∀v,(x,v)∉binds)->bindL kindOf binds m x=m x
 | [],_,_=>rfl
 | (n,v)::r,m,h=>by
  unfold bindL;rw[E8 λw hw=>h w (List.mem_cons_of_mem _ hw)]
  split
  .have:x≠n:=by rintro rfl;exact h v List.mem_cons_self
   simp[this]
  .rfl
theorem E4:∀{binds:List (Str×Value)}{m:Str->Option Value},(∀v,(x,v)∉binds)->bindC kindOf binds m x=m x
 | [],_,_=>rfl
 | (n,v)::r,m,h=>by
  unfold bindC;rw[E4 λw hw=>h w (List.mem_cons_of_mem _ hw)]
  split
  .rfl
  .have:x≠n:=by rintro rfl;exact h v List.mem_cons_self
   simp[this]
theorem FA {v:Value}:∀{P:List Str}{vs:List Value}{i:Nat}{m:Str->Option Value},P.Nodup->P[i]? =some x->vs[i]? =some v->kindOf x=some .local →
  bindL kindOf (P.zip vs) m x=some v
 | [],_,_,_,_,h,_,_=>by simp at h
 | _::_,[],_,_,_,_,h,_=>by simp at h
 | p::P,w::vs,0,m,nd,h1,h2,hk=>by
  simp at h1 h2;subst h1;subst h2;show bindL kindOf ((p,w)::P.zip vs) m p=_;unfold bindL;rw[E8 λv hv=>(List.nodup_cons.mp nd).1 (List.of_mem_zip hv).1,if_pos hk];simp
 | p::P,w::vs,i+1,m,nd,h1,h2,hk=>by
  show bindL kindOf ((p,w)::P.zip vs) m x=_;unfold bindL;exact FA (i:=i) (List.nodup_cons.mp nd).2 (by simpa using h1) (by simpa using h2) hk
theorem EY {v:Value}:∀{P:List Str}{vs:List Value}{i:Nat}{m:Str->Option Value},P.Nodup->P[i]? =some x->vs[i]? =some v->kindOf x≠some .local →
  bindC kindOf (P.zip vs) m x=some v
 | [],_,_,_,_,h,_,_=>by simp at h
 | _::_,[],_,_,_,_,h,_=>by simp at h
 | p::P,w::vs,0,m,nd,h1,h2,hk=>by
  simp at h1 h2;subst h1;subst h2;show bindC kindOf ((p,w)::P.zip vs) m p=_;unfold bindC;rw[E4 λv hv=>(List.nodup_cons.mp nd).1 (List.of_mem_zip hv).1,if_neg hk];simp
 | p::P,w::vs,i+1,m,nd,h1,h2,hk=>by
  show bindC kindOf ((p,w)::P.zip vs) m x=_;unfold bindC;exact EY (i:=i) (List.nodup_cons.mp nd).2 (by simpa using h1) (by simpa using h2) hk
def jE (N:List Str)(vs:List V):St:=vs.map some++List.replicate (N.length - vs.length) none
def b7 (CX:CXT)(P:Program)(w:World)(K:W.Frag)(mg:Str->Option Value)(base:Heap)(N:List Str)(qual:Str)(scope:Scope)(f:Addr)(cd:Value)(A:Around)(outer:List Env)(s:Shared)(H:Hp)(E:XK):Cx where
 prog:=P
 w:=w
 K:=K
 mg:=mg
 base:=base
 A:=A.deeper (envOfC qual scope s.heap.objs.size f cd)
 N:=N
 s₀:=s
 H₀:=H
 env:=envOfC qual scope s.heap.objs.size f cd
 outer:=outer
 stack:=envOfC qual scope s.heap.objs.size f cd::outer
 ex:=[]
 calm:=true
 fn:=λ_=>true
 pn:=[]
 xe:=λe s'=>wpAny (model P w) (A.deeper (envOfC qual scope s.heap.objs.size f cd)) (leaving (envOfC qual scope s.heap.objs.size f cd) e) (λ_ s''=>CX outer H s E e s'') (λe' s''=>CX outer H s E e' s'') s'
variable {scope:Scope}
theorem yU {sc:Scope}(h:sc.names.lookup x=some .cell):∃c,(cellsFrom n sc.names []).lookup x=some c:=by
 have q:=W.cellsFrom_some sc.names n [] (.inl h);exact Option.isSome_iff_exists.mp q
theorem U1 {ps:List Str}{f:Addr}{cd:Value}{s1:Shared}{E:XK}
  (S:aN N ps scope)(hd:A.handled=none)(e0:Env0 P w K mg base A outer s H)(hl:vs.length=ps.length)(r:Vals vs us)
  (x:InCallC s s.heap.objs.size (bindL (envOfC qual scope s.heap.objs.size f cd).kindOf (ps.zip us) λ_=>none) (cellsFrom (s.heap.objs.size+1) scope.names []) (bindC (envOfC qual scope s.heap.objs.size f cd).kindOf (ps.zip us) λ_=>none) s1) :
  Inv (b7 CX P w K mg base N qual scope f cd A outer s H E) [] (jE N vs) H s1:=by
 have hpl:ps.length<=N.length:=by have:=congrArg List.length S.pre;rw[List.length_take]at this;lia
 obtain⟨h1,tk,rfl,hk⟩:=x.done;have noA:∀b:Addr,b∉(b7 CX P w K mg base N qual scope f cd A outer s H E).ex:=λb z=>absurd (show b∈([]:List Addr) from z) (by simp);refine⟨⟨e0.mod,S.kind,rfl,rfl,Nat.le_refl _,λy z c h1 h2=> ?_,λy hy=> ?_,λy c _ h=> ?_,λ_=>hd,Around.frames_deeper e0.frames,.inr ⟨rfl,rfl⟩,λb z=>absurd z (noA b),e0.bs,e0.bsz,λb _ _=>noA b,λb z=>absurd z (noA b),e0.funs,e0.frf⟩,
  rfl,e0.bare,Un.kept hk,⟨_,x.toInCall.ns,λi y v h1 h2 h3=> ?_⟩,λy c h=>⟨_,x.cell y c h⟩,e0.hok.fresh (Nat.le_refl _),λy c h=> ?_,λp hp=>absurd (show p∈([]:List (Addr×Obj)) from hp) (by simp),e0.hok.kept hk,?_⟩
 .exact name_of_addr x.apart (PySem.mem_of_lookup h1) (PySem.mem_of_lookup h2)
 .have hy:scope.names.lookup y=some .cell∨scope.names.lookup y=some .free:=hy;rcases hy with hy|hy
  .exact yU hy
  .exact absurd rfl (S.nofree _ (PySem.mem_of_lookup hy))
 .exact Nat.le_of_lt (x.above y c (PySem.mem_of_lookup h))
 .have hi:i<vs.length:=by
   unfold jE at h2
   by_cases hi:i<vs.length
   .exact hi
   .rw[List.getElem?_append_right (by simpa using hi)]at h2;rw[List.getElem?_replicate]at h2
    split at h2<;>cases h2
  have ha:vs[i]? =some v:=by
   unfold jE at h2;rw[List.getElem?_append_left (by simpa using hi),List.getElem?_map]at h2;cases e:vs[i]? with
   | none=>rw[e]at h2;cases h2
   | some a=>rw[e]at h2;cases h2;rfl
  obtain⟨u,hu,rv⟩:=r.get ha;have hp:ps[i]? =some y:=by
   rw[←S.pre,List.getElem?_take_of_lt (by lia)];exact h1
  have ndP:ps.Nodup:=by rw[←S.pre];exact S.nd.sublist (List.take_sublist _ _)
  refine⟨u,rv,?_⟩;rcases S.par y (List.mem_of_getElem? hp) with k|k
  .exact .inl ⟨k,FA ndP hp hu k⟩
  .obtain⟨c,e⟩:=yU (n:=s.heap.objs.size+1) k;refine .inr ⟨.inl k,c,e,?_⟩;have q:=x.cell y c e;rw[EY ndP hp hu (by show scope.names.lookup y≠_;rw[k];decide)]at q;exact q
 .exact e0.hok.fresh (Nat.le_of_lt (x.above y c (PySem.mem_of_lookup h)))
 .unfold jE;show _=N.length;rw[List.length_append,List.length_map,List.length_replicate]
  lia
theorem P4 {k:Nat}{f:Addr}{params:Arguments}{dV kV doc pm cdv ct oc:Value}{an od:Option Addr}
  {osl:Array (Option Value)}{N ps:List Str}{sp:Sp} (lk:K.lookup f=some ⟨oc,od,.func (W.fnOf name qual params body scope dV kV doc pm an cdv ct),osl⟩) (hcd:W.codeIn K cdv qual=true) (S:aN N ps scope)
  (len:∀vs H Q E,sp vs H Q E->vs.length=ps.length)
  (hbody:∀(A:Around) (outer:List Env) (s:Shared) (H:Hp) (vs:List V) (Q:VK) (E:XK),Room k (A.deeper (envOfC qual scope s.heap.objs.size f cdv))->sp vs H Q E →
   ∃t,PSs (b7 CX P w K mg base N qual scope f cdv A outer s H E) body t/\t { nx:=λ_ H'=>Q .non H',rt:=Q } (jE N vs) H) :
  FnOk P w K mg base CX (k+1) f (W.fnOf name qual params body scope dV kV doc pm an cdv ct) ps sp:=by
 refine⟨len,λA outer s H args us vs Q E hr e0 hb r hsp=> ?_⟩;have hl:=len _ _ _ _ hsp;have KX:K.In s.heap:=e0.mod.kin.keeps λb o e=>(e0.bs b o e).1;have lim:s.heap.NoLimit:=e0.mod.nolimit.keeps λb o e=>(e0.bs b o e).1;have hkind:∀y∈ps.zip us,scope.names.lookup y.1=some .local∨(scope.names.lookup y.1=some .cell/\((cellsFrom (s.heap.objs.size+1) scope.names []).lookup y.1).isSome=true):=λ⟨n,v⟩ hy=>by
  rcases S.par n (List.of_mem_zip hy).1 with q|q
  .exact .inl q
  .exact .inr ⟨q,W.cellsFrom_some _ _ _ (.inl q)⟩
 refine codeAny_call_function hr.depth (KX _ _ lk) rfl S.co S.gen rfl (W.codeRec_of KX hcd) (hb _ _ _ _ ?_);refine wpAny_newFunctionEnv_cells S.kind hkind λenv he s1 x=> ?_;subst he;refine⟨lim.keeps x.toInCall.keep,codeAny_func ?_⟩;obtain⟨t,ht,hq⟩:=hbody A outer s H vs Q E (hr.deeper _) hsp;have I:Inv (b7 CX P w K mg base N qual scope f cdv A outer s H E) [] (jE N vs) H s1:=U1 S hr.hd e0 hl r x;refine wpAny_mono (ht [] s1 (jE N vs) H _ I hq) (λfl s' hs=> ?_) λe s' hs=>hs;have fin:∀{σ':St}{H':Hp}{v:V}{u:Value},Inv (b7 CX P w K mg base N qual scope f cdv A outer s H E) [] σ' H' s'->RelV v u->Q v H'->CE outer P w H s Q u s' :=
  λ{σ' H' v u} J rv q=>⟨v,H',J.os,J.bare,J.base,J.hok,rv,q⟩
 cases fl with
 | ret u =>
  obtain⟨v,σ',H',J,rv,q⟩:=hs;exact fin J rv q
 | next =>
  obtain⟨σ',H',J,q⟩:=hs;exact fin (v:=V.non) (u:=Value.none) J rfl q
 | brk =>
  obtain⟨_,_,_,q⟩:=hs;exact False.elim q
 | cont =>
  obtain⟨_,_,_,q⟩:=hs;exact False.elim q
section
variable {p:Pos}{t:TA}{id T:String}{r:List V->Hp->VK->Prop}
def tCB (r:List V->Hp->VK->Prop)(t:TA):TE:=λσ H Q=>t σ H λvs H1=>r vs H1 Q
theorem bD (hc:cU X (.builtin id) r)(hg:Gl X x)(hm:X.mg x=none)(hv:bootBuiltins x=some (.builtin id))(ha:PA X (e::es) t)(hn:x≠ "__name__" :=by decide)(hdb:(x==("__debug__" :Str))=false:=by decide)
  (he:starEach (e::es) X.env=(false,eval e X.env)::starEach es X.env:=by rfl)(hpl:(backTo pos (starEach es X.env)).any (·.1)=false:=by rfl):PE X (.Call (.Name x p) (e::es) [] pos) (tCB r t):=by
 intro pins s σ H Q I h;refine wpAny_Call_Name_kw (tF I hg hm hv ?_ hn hdb);exact PyProof.Rows.callWith_builtin1 (thn (ha pos pins s σ H _ I h) λus s1 ⟨vs,H1,I1,r1,q1⟩=>hc pins s1 σ H1 vs us Q I1 r1 q1) he hpl
theorem cD (hc:cU X (.type T) r)(hg:Gl X x)(hm:X.mg x=none)(hv:bootBuiltins x=some (.type T))(ha:PA X (e::es) t)(hn:x≠ "__name__" :=by decide)(hdb:(x==("__debug__" :Str))=false:=by decide)
  (he:starEach (e::es) X.env=(false,eval e X.env)::starEach es X.env:=by rfl)(hpl:(backTo pos (starEach es X.env)).any (·.1)=false:=by rfl):PE X (.Call (.Name x p) (e::es) [] pos) (tCB r t):=by
 intro pins s σ H Q I h;refine wpAny_Call_Name_kw (tF I hg hm hv ?_ hn hdb);exact PyProof.Rows.callWith_type1 (thn (ha pos pins s σ H _ I h) λus s1 ⟨vs,H1,I1,r1,q1⟩=>hc pins s1 σ H1 vs us Q I1 r1 q1) he hpl
end
end L2
namespace HT
open PySem PyProof.Rows
section
open PySem.SeqAt
open PySem.AutoSeq1 (wpAny_loadPart')
open PySem.MeetsSeq PySem.MeetsSeq2 PySem.MeetsSeq3
end
section
variable {prog:Program}{w:World}{A:Around}{E:Value->Shared->Prop}{s:Shared}
def sIx (n d:Nat):Option Int->Nat
 | none=>d
 | some v=>if v<0 then (v+(n:Int)).toNat else min v.toNat n
theorem sIx_none (n d:Nat):sIx n d none=d:=rfl
theorem sIx_nat (n d k:Nat):sIx n d (some (k:Int))=min k n:=by
 show (if (k:Int)<0 then ((k:Int)+(n:Int)).toNat else min (k:Int).toNat n)=min k n;rw[if_neg (by lia),Int.toNat_natCast]
end
end HT
namespace L2
open PySem PySem.Spec PyProof.Rows
abbrev TO:=St->Hp->(Option Int->Hp->Prop)->Prop
def PO (X:Cx)(e:Option Expr)(t:TO):Prop :=
 ∀(pins:List (Addr×Obj)) (s:Shared) (σ:St) (H:Hp) (Q:Option Int->Hp->Prop),Inv X pins σ H s->t σ H Q →
  wpAny (model X.prog X.w) X.A (evalPart e X.env) (λu s'=>∃o H',Inv X pins σ H' s'/\IsPart u o/\Q o H') X.xe s
def MI:TO:=λ_ H Q=>Q none H
def aAo (t:TE):TO:=λσ H Q=>t σ H λx H1=>∃i,x= .int i/\Q (some i) H1
variable {X:Cx}{e:Expr}{pos:Pos}
section
variable {te:TE}{lo hi:Option Expr}{tl th:TO}{p2:Pos}
theorem cW:PO X none MI:=by
 intro pins s σ H Q I h;rw[evalPart_none];exact wpAny_pure ⟨none,H,I,.none,h⟩
theorem b9 (h:PE X e te):PO X (some e) (aAo te):=by
 intro pins s σ H Q I hw;rw[evalPart_some];refine thn (h pins s σ H _ I hw) λu s1 ⟨x,H1,I1,r1,q1⟩=> ?_;obtain⟨i,rfl,q⟩:=q1;obtain⟨t,rfl⟩:=r1;exact⟨some i,H1,I1,.int i t,q⟩
def SlR (X:Cx)(r:V->Option Int->Option Int->Hp->VK->Prop):Prop :=
 ∀(pins:List (Addr×Obj)) (s:Shared) (σ:St) (H:Hp) (x:V) (v vl vu:Value) (lo hi:Option Int) (sl:Addr) (Q:VK),Inv X pins σ H s->RelV x v->s.heap.IsSliceOf sl vl vu .none->IsPart vl lo->IsPart vu hi->r x lo hi H Q →
  ∃T id,typeLookup (.type T) "__getitem__" =pure (some (.builtin id))/\s.TypeIs v T/\wpAny (model X.prog X.w) X.A (getItem v (.ref sl)) (EP X pins σ Q) X.xe s
def tSl (r:V->Option Int->Option Int->Hp->VK->Prop)(te:TE)(tl th:TO):TE:=λσ H Q=>te σ H λx H1=>tl σ H1 λl H2=>th σ H2 λu H3=>r x l u H3 Q
theorem b8 {r:V->Option Int->Option Int->Hp->VK->Prop}(hr:SlR X r)(he:PE X e te)(hl:PO X lo tl)(hu:PO X hi th):PE X (.Subscript e (.Slice lo hi none p2) pos) (tSl r te tl th):=by
 intro pins s σ H Q I h;refine Subscript_ (thn (he pins s σ H _ I h) λv s1 ⟨x,H1,I1,r1,q1⟩=> ?_);refine wpAny_Slice (thn (hl pins s1 σ H1 _ I1 q1) λvl s2 ⟨l,H2,I2,pl,q2⟩=>thn (hu pins s2 σ H2 _ I2 q2) λvu s3 ⟨u,H3,I3,pu,q3⟩=> ?_);rw[evalPart_none];refine wpAny_pure ?_;have I4:Inv X pins σ H3 { s3 with heap:=s3.heap.push { cls:= .type "slice",data:= .fields #[vl,vu,.none] } }:=I3.kept (t':=s3.toks) λb ob q=>Heap.get?_push_of_some _ q;obtain⟨T,id,hT,ht,hg⟩:=hr pins { s3 with heap:=s3.heap.push { cls:= .type "slice",data:= .fields #[vl,vu,.none] } } σ H3 x v vl vu l u s3.heap.objs.size Q I4 r1 (Heap.IsSliceOf.new ..) pl pu q3;show wpAny (model X.prog X.w) X.A (subscriptTail e (.Slice lo hi none p2) v (.ref s3.heap.objs.size)) (EP X pins σ Q) X.xe { s3 with heap:=s3.heap.push { cls:= .type "slice",data:= .fields #[vl,vu,.none] } };exact tail_any (ops:=[.ref s3.heap.objs.size,v]) ht hT hg (by with_unfolding_all rfl)
def iD (xs:List V)(lo hi:Option Int):List V:=(xs.drop (HT.sIx xs.length 0 lo)).take (HT.sIx xs.length xs.length hi - HT.sIx xs.length 0 lo)
theorem LS (xs:List V)(lo hi:Option Int):(iD xs lo hi).length<=xs.length:=by
 unfold iD;rw[List.length_take,List.length_drop]
 lia
end
def ixN (n:Nat)(i:Int):Option Nat:=if 0<=i then (if i<n then some i.toNat else none) else if -(n:Int)<=i then some (i+n).toNat else none
variable {α:Type}
def atI (xs:List α)(i:Int):Option α:=(ixN xs.length i).bind λj=>xs[j]?
variable {j n t':Nat}{i:Int}
theorem aBF (h:ixN n i=some j):seqIndex? i n=some j/\j<n/\ -(n:Int)<=i/\i<n:=by
 unfold ixN at h
 by_cases h0:0<=i
 .rw[if_pos h0]at h
  by_cases h1:i<n
  .rw[if_pos h1]at h;have e:i.toNat=j:=Option.some.inj h;exact⟨by rw[seqIndex_of h0 h1,e],by lia,by lia,h1⟩
  .rw[if_neg h1]at h;cases h
 .rw[if_neg h0]at h
  by_cases h1: -(n:Int)<=i
  .rw[if_pos h1]at h;have e:(i+n).toNat=j:=Option.some.inj h;exact⟨by rw[seqIndex_neg (by lia) h1,e],by lia,h1,by lia⟩
  .rw[if_neg h1]at h;cases h
theorem MX {α:Type}{xs:List α}{v:α}(h:atI xs i=some v):∃j,seqIndex? i xs.length=some j/\xs[j]? =some v/\j<xs.length/\ -(xs.length:Int)<=i/\i<xs.length:=by
 unfold atI at h;cases e:ixN xs.length i with
 | none=>rw[e]at h;cases h
 | some j =>
  rw[e]at h;obtain⟨h1,h2,h3,h4⟩:=aBF e;exact⟨j,h1,h,h2,h3,h4⟩
theorem bK {α:Type}{xs:List α}{v:α}(h:xs[j]? =some v):atI xs (j:Int)=some v:=by
 have hj:j<xs.length:=(List.getElem?_eq_some_iff.mp h).1;have e:ixN xs.length (j:Int)=some j:=by
  unfold ixN;rw[if_pos (by lia),if_pos (by lia)];simp
 unfold atI;rw[e];exact h
theorem WJ (xs:List α)(v:α):atI (xs++[v]) (-1)=some v:=by
 have hl:(xs++[v]).length=xs.length+1:=by simp
 have e:ixN (xs++[v]).length (-1)=some xs.length:=by
  unfold ixN;rw[hl,if_neg (by decide),if_pos (by lia)]
  congr 1
  lia
 unfold atI;rw[e];show (xs++[v])[xs.length]? =some v;simp
def NK (b:Expr):Prop:=∀o i,subscripted b false o i=operate [o,i] (getItem o i)
def IxR (X:Cx)(r:R2):Prop :=
 ∀(value slice:Expr) (pins:List (Addr×Obj)) (s:Shared) (σ:St) (H:Hp) (x y:V) (v u:Value) (Q:VK),Inv X pins σ H s->RelV x v->RelV y u->r x y H Q →
  subscripted slice false v u=operate [v,u] (getItem v u)->wpAny (model X.prog X.w) X.A (subscriptTail value slice v u) (EP X pins σ Q) X.xe s
def MtR (X:Cx)(id:String)(r:V->List V->Hp->VK->Prop):Prop :=
 ∀(pins:List (Addr×Obj)) (s:Shared) (σ:St) (H:Hp) (x:V) (xs:List V) (v:Value) (us:List Value) (Q:VK),Inv X pins σ H s->RelV x v->Vals xs us->r x xs H Q →
  wpAny (model X.prog X.w) X.A (call (.builtin id) (v::us)) (EP X pins σ Q) X.xe s
variable {A:Around}{s:Shared}{pins:List (Addr×Obj)}{σ:St}{H:Hp}
section
variable {a b:Expr}{ta tb:TE}
theorem bF {r:R2}(hr:IxR X r)(ha:PE X a ta)(hb:PE X b tb)(hs:NK b):PE X (.Subscript a b pos) (tOp r ta tb):=by
 intro pins s σ H Q I h;exact Subscript_ (XZ ha hb I h λv u s2 x y H2 I2 rx ry q=>hr a b pins s2 σ H2 x y v u Q I2 rx ry q (hs _ _))
def t7 (K:W.Frag):R2:=λx y H Q=>∃p xs i v,x= .ref p/\y= .int i/\SqL K H p xs/\atI xs i=some v/\Q v H
def aEq (K:W.Frag):R2:=λx y H Q=>∃p xs i v,x= .ref p/\y= .int i/\SqT K H p xs/\atI xs i=some v/\Q v H
theorem aR:IxR X (t7 X.K):=by
 intro value slice pins s σ H x y v u Q I rx ry h hs;obtain⟨p,xs,i,z,rfl,rfl,hq,he,q⟩:=h;cases rx;obtain⟨t,rfl⟩:=ry;obtain⟨its,r,pl,hz⟩:=I.list hq;obtain⟨j,h1,h2,h3,h4,h5⟩:=MX he;obtain⟨w,ew,rw'⟩:=r.get h2;have hl:=r.length;have hn:=u9;have fin:EP X pins σ Q w s:=⟨z,H,I,rw',q⟩
 by_cases h0:0<=i
 .have hj:i.toNat=j:=by
   rw[seqIndex_of h0 h5]at h1;exact Option.some.inj h1
  exact item_listR pl.isList h0 (by lia) (by rw[hj];simpa using ew) fin hs
 .have hj:(i+(its.toArray.size:Int)).toNat=j:=by
   rw[seqIndex_neg (by lia) h4]at h1;rw[List.size_toArray,←hl];exact Option.some.inj h1
  exact subscriptTail_builtinR (x:=w) pl.isList.typeIs slot_list_getitem.lookup
   (wpAny_getItem_list_neg (Q:=λr s'=>r=w/\EP X pins σ Q r s') pl.isList (by lia) (by rw[List.size_toArray]<;>lia) (by lia) (by rw[hj];simpa using ew) ⟨rfl,fin⟩) hs
theorem UW:IxR X (aEq X.K):=by
 intro value slice pins s σ H x y v u Q I rx ry h hs;obtain⟨p,xs,i,z,rfl,rfl,hq,he,q⟩:=h;cases rx;obtain⟨t,rfl⟩:=ry;obtain⟨its,r,pl,hz⟩:=I.tuple hq;obtain⟨j,h1,h2,h3,h4,h5⟩:=MX he;obtain⟨w,ew,rw'⟩:=r.get h2;have hl:=r.length;have hn:=u9;have fin:EP X pins σ Q w s:=⟨z,H,I,rw',q⟩
 exact subscriptTail_builtinR (x:=w) pl.typeIs slot_tuple_getitem.lookup
  (getItem_tuple (j:=j) (Q:=λr s'=>r=w/\EP X pins σ Q r s') pl (by lia) (by lia) (by rw[List.size_toArray,←hl];exact h1) (by simpa using ew) ⟨rfl,fin⟩) hs
theorem IF (lo hi:Option Int)(n:Nat):(sliceBounds lo hi none n).1=((HT.sIx n 0 lo:Nat):Int)/\(sliceBounds lo hi none n).2.1=((HT.sIx n n hi:Nat):Int)/\(sliceBounds lo hi none n).2.2=1:=by
 refine⟨?_,?_,rfl⟩
 .cases lo with
  | none=>simp[sliceBounds,HT.sIx]
  | some i =>
   simp only[sliceBounds,HT.sIx,Option.getD_none,show (1:Int)>0 by decide,if_true]
   by_cases h:i<0
   .simp only[h,if_true]<;>lia
   .simp only[h,if_false]<;>lia
 .cases hi with
  | none=>simp[sliceBounds,HT.sIx]
  | some i =>
   simp only[sliceBounds,HT.sIx,Option.getD_none,show (1:Int)>0 by decide,if_true]
   by_cases h:i<0
   .simp only[h,if_true]<;>lia
   .simp only[h,if_false]<;>lia
theorem F5 (its:List Value)(lo hi:Option Int):slicePick its.toArray lo hi none=((its.drop (HT.sIx its.length 0 lo)).take (HT.sIx its.length its.length hi - HT.sIx its.length 0 lo)).toArray:=by
 obtain⟨h1,h2,h3⟩:=IF lo hi its.toArray.size;unfold slicePick;rw[h1,h2,h3];simp only[sliceRange_one,pick_run,List.size_toArray]<;>rfl
def YV (K:W.Frag):V->Option Int->Option Int->Hp->VK->Prop:=λx lo hi H Q=>∃a xs,x= .ref a/\SqL K H a xs/\∀p,H p=none->Q (.ref p) (upd H p (.lst (iD xs lo hi)))
theorem cQ:SlR X (YV X.K):=by
 intro pins s σ H x v vl vu lo hi sl Q I rx hs pl pu h;obtain⟨a,xs,rfl,hx,q⟩:=h;cases rx;obtain⟨its,r,ht,hz⟩:=I.list hx;have hlen:=r.length;refine⟨"list",_,slot_list_getitem.lookup,ht.isList.typeIs,?_⟩;refine wpAny_getItem_list_slice ht.isList hs pl pu .none (by simp) ?_ (by rw[List.size_toArray]<;>lia);rw[F5,←hlen];refine⟨.ref s.heap.objs.size,_,I.laid (t':=s.toks) (o:= .lst (iD xs lo hi)) (λb ob q=>Heap.get?_push_of_some _ q) (Nat.le_refl _) ?_,rfl,q _ (I.hok.fresh (Nat.le_refl _))⟩;exact⟨Nat.le_trans (LS xs lo hi) hz,_,0,(r.drop (HT.sIx xs.length 0 lo)).take (HT.sIx xs.length xs.length hi - HT.sIx xs.length 0 lo),Heap.get?_push_size _ rfl⟩
def aAe:V->Bool
 | .non=>true
 | .bl _=>true
 | .int _=>true
 | .str _=>true
 | _=>false
def eqV:V->V->Bool
 | .non,.non=>true
 | .bl a,.bl b=>a==b
 | .bl a,.int b=>(if a then 1 else 0)==b
 | .int a,.bl b=>a==(if b then 1 else 0)
 | .int a,.int b=>a==b
 | .str a,.str b=>a==b
 | _,_=>false
theorem aEK {y x:V}{u v:Value}(ry:RelV y u)(rx:RelV x v)(fy:aAe y=true)(fx:aAe x=true):SeqAt.EqAt A s u v (eqV y x):=by
 cases y with
 | non =>
  cases ry;cases x with
  | non=>cases rx;exact SeqAt.EqAt.same _
  | bl b=>cases rx;exact SeqAt.EqAt.none_bool b
  | int b=>obtain⟨t,rfl⟩:=rx;exact SeqAt.EqAt.none_int b t
  | str b=>obtain⟨t,rfl⟩:=rx;exact SeqAt.EqAt.none_str b t
  | _=>exact absurd (show false=true from fx) Bool.false_ne_true
 | bl a =>
  cases ry;cases x with
  | non=>cases rx;exact SeqAt.EqAt.bool_none a
  | bl b=>cases rx;exact SeqAt.EqAt.bool_bool a b
  | int b=>obtain⟨t,rfl⟩:=rx;exact SeqAt.EqAt.bool_int a b t
  | str b=>obtain⟨t,rfl⟩:=rx;exact SeqAt.EqAt.bool_str a b t
  | _=>exact absurd (show false=true from fx) Bool.false_ne_true
 | int a =>
  obtain⟨t',rfl⟩:=ry;cases x with
  | non=>cases rx;exact SeqAt.EqAt.int_none a t'
  | bl b=>cases rx;exact SeqAt.EqAt.int_bool a t' b
  | int b=>obtain⟨t,rfl⟩:=rx;exact SeqAt.EqAt.int_int a t' b t
  | str b=>obtain⟨t,rfl⟩:=rx;exact SeqAt.EqAt.int_str a t' b t
  | _=>exact absurd (show false=true from fx) Bool.false_ne_true
 | str a =>
  obtain⟨t',rfl⟩:=ry;cases x with
  | non=>cases rx;exact SeqAt.EqAt.str_none a t'
  | bl b=>cases rx;exact SeqAt.EqAt.str_bool a t' b
  | int b=>obtain⟨t,rfl⟩:=rx;exact SeqAt.EqAt.str_int a t' b t
  | str b=>obtain⟨t,rfl⟩:=rx;exact SeqAt.EqAt.str_str a t' b t
  | _=>exact absurd (show false=true from fx) Bool.false_ne_true
 | _=>exact absurd (show false=true from fy) Bool.false_ne_true
theorem JF:cU X (.builtin "len") (λxs H Q=>∃p ys,xs=[.ref p]/\(SqL X.K H p ys∨SqT X.K H p ys)/\Q (.int ys.length) H):=by
 intro pins s σ H xs us Q I r h;obtain⟨p,ys,rfl,hq,q⟩:=h;obtain⟨u,rfl,rx⟩:=iJ r;cases rx;have hn:=u9;rcases hq with hq|hq
 .obtain⟨its,r',pl,hz⟩:=I.list hq;have hlen:=r'.length;exact Calls.call_len_list pl.isList (by simp only[List.size_toArray]<;>lia) ⟨.int ys.length,H,I.tok _,⟨s.toks+1,by rw[List.size_toArray,hlen]⟩,q⟩
 .obtain⟨its,r',pl,hz⟩:=I.tuple hq;have hlen:=r'.length;exact len_tuple pl (by simp only[List.size_toArray]<;>lia) ⟨.int ys.length,H,I.tok _,⟨s.toks+1,by rw[List.size_toArray,hlen]⟩,q⟩
theorem G0:cU X (.builtin "len") (λxs H Q=>∃z,xs=[.str z]/\z.length<=sizeLine/\Q (.int z.length) H):=by
 intro pins s σ H xs us Q I r h;obtain⟨z,rfl,hz,q⟩:=h;obtain⟨u,rfl,t,rfl⟩:=iJ r;have hn:=u9;exact len_str (by lia) ⟨.int z.length,H,I.tok _,⟨_,rfl⟩,q⟩
theorem uS:cU X (.type "tuple") (λxs H Q=>∃p ys,xs=[.ref p]/\((SqL X.K H p ys/\∀l,H l=none->Q (.ref l) (upd H l (.tup ys)))∨(SqT X.K H p ys/\Q (.ref p) H))):=by
 intro pins s σ H xs us Q I r h;obtain⟨p,ys,rfl,h⟩:=h;obtain⟨u,rfl,rx⟩:=iJ r;cases rx;rcases h with⟨hq,q⟩|⟨hq,q⟩
 .obtain⟨its,r',pl,hz⟩:=I.list hq;have hlen:=r'.length;refine call_tuple_list pl.isList (λh' kp=> ?_) (by simp only[List.size_toArray]<;>lia);have I1:Inv X pins σ H { s with heap:=h' }:=I.kept (t':=s.toks) kp;have I2:Inv X pins σ (upd H h'.objs.size (.tup ys)) { s with heap:=h'.push { cls:= .type "tuple",data:= .seq its.toArray } } :=
   I1.laid (t':=s.toks) (λb o e=>Heap.get?_push_of_some _ e) (Nat.le_refl _) (show ObjOk X.prog X.w _ _ _ (.tup ys) from⟨hz,its,r',IsTup.new _ _⟩)
  exact⟨.ref h'.objs.size,_,I2,rfl,q _ (I1.hok.fresh (Nat.le_refl _))⟩
 .obtain⟨its,r',pl,hz⟩:=I.tuple hq;exact call_tuple_same pl ⟨.ref p,H,I,rfl,q⟩
def tyV (K:W.Frag)(T:String)(x:V)(H:Hp):Prop:=match x with
 | .str _=>T= "str"
 | .int _=>T= "int"
 | .ref p=>(T= "list" /\∃xs,SqL K H p xs)∨(T= "tuple" /\∃o,K.lookup p=some o/\o.cls= .type "tuple" /\o.dict=none) ∨
   (T= "dict" /\((∃kvs,H p=some (.dK kvs))∨∃kvs,H p=some (.dT kvs)))∨(T= "set" /\∃S n,H p=some (.set S n))
 | _=>False
theorem aCz {T:String}{x:V}{v:Value}(I:Inv X pins σ H s)(r:RelV x v)(ty:tyV X.K T x H):
  s.TypeIs v T/\∀a,v= .ref a->∃ob,s.heap.get? a=some ob/\ob.dict=none:=by
 cases x with
 | str z =>
  obtain⟨t,rfl⟩:=r;cases (show T= "str" from ty);exact⟨typeIs_str s z t,λ_ e=>nomatch e⟩
 | int i =>
  obtain⟨t,rfl⟩:=r;cases (show T= "int" from ty);exact⟨typeIs_int s i t,λ_ e=>nomatch e⟩
 | ref p =>
  cases r;rcases ty with⟨rfl,xs,hq⟩|⟨rfl,o,hk,hc,hd⟩|⟨rfl,hk⟩|⟨rfl,S,n,hk⟩
  .obtain⟨its,_,pl,_⟩:=I.list hq;refine⟨pl.isList.typeIs,λa e=> ?_⟩;cases e;obtain⟨o,n,e,c,hd,_⟩:=pl;exact⟨o,e,hd⟩
  .refine⟨⟨o,I.kIn p o hk,hc⟩,λa e=> ?_⟩;cases e;exact⟨o,I.kIn _ o hk,hd⟩
  .have z:∃o,s.heap.get? p=some o/\o.ExactDict:=by
    rcases hk with⟨kvs,hk⟩|⟨kvs,hk⟩
    .obtain⟨_,_,_,_,o,_,_,e,ex,_⟩:=I.hok p _ hk;exact⟨o,e,ex⟩
    .obtain⟨_,_,_,_,o,_,_,e,ex,_⟩:=I.hok p _ hk;exact⟨o,e,ex⟩
   obtain⟨o,e,ex⟩:=z;refine⟨⟨o,e,ex.1⟩,λa e2=> ?_⟩;cases e2;exact⟨o,e,ex.2.1⟩
  .obtain⟨o,_,_,_,e,ex,_⟩:=I.hok p _ hk;refine⟨⟨o,e,ex.1⟩,λa e2=> ?_⟩;cases e2;exact⟨o,e,ex.2.1⟩
 | _=>exact False.elim ty
def tBM (K:W.Frag)(T:String)(r:V->List V->Hp->VK->Prop)(to:TE)(t:TA):TE:=λσ H Q=>to σ H λx H1=>tyV K T x H1/\t σ H1 λxs H2=>r x xs H2 Q
variable {o:Expr}{es:List Expr}{to:TE}{t:TA}{name:Str}{apos cpos:Pos}{T id:String}{r:V->List V->Hp->VK->Prop}
theorem gP (pa:PlainAttrs T)(slot:Slot T name id)(hty:typeOf (.builtin id)=pure (.type "method_descriptor"))(hm:MtR X id r)(ho:PE X o to)(ha:PA X (e::es) t)
  (hbase:attributeBase o name X.env (eval o X.env)=eval o X.env:=by rfl)
  (hfew:((backTo cpos (starEach (e::es) X.env)).all (λx=> !x.1)&&(backToKw cpos (keywordEach [] X.env)).all (λx=>x.1.isSome)
   && decide ((e::es).length+([]:List Keyword).length+(if ([]:List Keyword).isEmpty then 0 else 1)<30))=true:=by rfl)
  (hline:(apos.endLine==cpos.line)=true:=by rfl)(hs:starEach (e::es) X.env=(false,eval e X.env)::starEach es X.env:=by rfl)(hplain:(backTo cpos (starEach es X.env)).any (·.1)=false:=by rfl) :
  PE X (.Call (.Attribute o name apos) (e::es) [] cpos) (tBM X.K T r to t):=by
 intro pins s σ H Q I h;refine wpAny_Call_method_late hbase hfew hline rfl (thn (ho pins s σ H _ I h) λv s1 ⟨x,H1,I1,r1,ty,q1⟩=> ?_);obtain⟨h1,h2⟩:=aCz I1 r1 ty;refine⟨T,id,pa,slot,hty,h1,h2,?_⟩;have hA:=ha cpos pins s1 σ H1 _ I1 q1;rw[hs]at hA ⊢;refine Calls.callWith_builtin (by show (false||(backTo cpos (starEach es X.env)).any (·.1))=false;rw[hplain]<;>rfl) (Calls.evalArgs_plain ?_);exact thn hA λus s2 ⟨vs,H2,I2,r2,q2⟩=>hm pins s2 σ H2 x vs v us Q I2 r1 r2 q2
end
def MtM (X:Cx)(id:String)(r:V->List V->Hp->VK->Prop):Prop :=
 ∀(pins:List (Addr×Obj)) (s:Shared) (σ:St) (H:Hp) (x:V) (xs:List V) (v:Value) (us:List Value) (Q:VK),Inv X pins σ H s->RelV x v->Vals xs us->r x xs H Q →
  wpAny (model X.prog X.w) X.A (call (.builtin id) (v::us)) (EP X pins σ Q) X.xe s
theorem Vals.one:∀{x:V}{us:List Value},Vals [x] us->∃u,us=[u]/\RelV x u
 | _,_,.cons r .nil=>⟨_,rfl,r⟩
section
variable {l b:Addr}{xs ys zs:List V}
theorem Inv.lset {its its':List Value}{f:Array Value->Array Value}(I:Inv X pins σ H s)(hH:H l=some (.lst xs))
  (e:s.heap.get? l=some { cls:= .type "list",data:= .seq its.toArray n })(hf:f its.toArray=its'.toArray)(hv:Vals ys its')(hz:ys.length<=sizeLine) :
  Inv X pins σ (upd H l (.lst ys)) { s with heap:=s.heap.update l (Obj.mapSeq f),toks:=t' }:=by
 have q:=PySem.IsL.update e f;rw[hf]at q;refine I.write (x:=l) (e:=l) (by rw[hH];exact trivial) (.inl rfl) (λb' u hb hu=>(Heap.get?_update_other s.heap (Obj.mapSeq f) (Ne.symm hb)).trans hu) ⟨_,q⟩ ?_;exact⟨hz,its',_,hv,q⟩
theorem Inv.lnew {its:List Value}(I:Inv X pins σ H s)(hv:Vals ys its)(hz:ys.length<=sizeLine):
  Inv X pins σ (upd H s.heap.objs.size (.lst ys)) { s with heap:=s.heap.push { cls:= .type "list",data:= .seq its.toArray },toks:=t' } :=
 I.laid (λ_ _ q=>Heap.get?_push_of_some _ q) (Nat.le_refl _) ⟨hz,its,0,hv,Heap.get?_push_size _ rfl⟩
theorem Inv.fresh (I:Inv X pins σ H s):H s.heap.objs.size=none:=I.hok.fresh (Nat.le_refl _)
theorem Inv.lstM (I:Inv X pins σ H s)(hH:H l=some (.lst xs)):xs.length<=sizeLine/\∃(its:List Value) (n:Nat),Vals xs its/\xs.length=its.length/\s.heap.get? l=some { cls:= .type "list",data:= .seq its.toArray n }:=by
 obtain⟨z,its,n,r,e⟩:=I.hok l _ hH;exact⟨z,its,n,r,r.length,e⟩
theorem V2 (h:n<=sizeLine):Builtin.List.listTooLong n=false:=by
 unfold Builtin.List.listTooLong;exact decide_eq_false (by lia)
end
def C6:V->List V->Hp->VK->Prop:=λx vs H Q=>∃l xs y,x= .ref l/\vs=[y]/\H l=some (.lst xs)/\xs.length<sizeLine/\Q .non (upd H l (.lst (xs++[y])))
theorem fA:MtM X "list.append" C6:=by
 intro pins s σ H x vs v us Q I rx rv h;obtain⟨l,xs,y,rfl,rfl,hH,hz,q⟩:=h;cases rx;obtain⟨u,rfl,ru⟩:=rv.one;obtain⟨z,its,n,r,hl,e⟩:=I.lstM hH;refine call_meets F.slot_list_append ⟨_,e,rfl⟩ F.entry_list_append (F.args_list_append_2 _ _) (PySem.list_append l its.toArray n u (by rw[List.size_toArray];lia)) ⟨e,?_⟩;refine⟨.non,_,I.lset (its':=its++[u]) hH e (by simp) (r.append (.cons ru .nil)) ?_,rfl,q⟩;rw[List.length_append,List.length_singleton]
 lia
def L9:V->List V->Hp->VK->Prop:=λx vs H Q=>∃l b xs zs,x= .ref l/\vs=[.ref b]/\H l=some (.lst xs)/\H b=some (.lst zs)/\xs.length+zs.length<=sizeLine/\Q .non (upd H l (.lst (xs++zs)))
theorem v4:MtM X "list.extend" L9:=by
 intro pins s σ H x vs v us Q I rx rv h;obtain⟨l,b,xs,zs,rfl,rfl,hH,hB,hz,q⟩:=h;cases rx;obtain⟨u,rfl,ru⟩:=rv.one;cases ru;obtain⟨z,its,n,r,hl,e⟩:=I.lstM hH;obtain⟨z2,its2,n2,r2,hl2,e2⟩:=I.lstM hB;have hsz:its.toArray.size+its2.toArray.size<=sizeLine:=by rw[List.size_toArray,List.size_toArray];lia
 have hlong:¬(!its.toArray.isEmpty&&Builtin.List.listTooLong (its.toArray.size+its2.toArray.size))=true:=by
  rw[V2 hsz,Bool.and_false];exact Bool.false_ne_true
 refine call_meets F.slot_list_extend ⟨_,e,rfl⟩ F.entry_list_extend (F.args_list_extend_2 _ _)
  (AutoSeq1.list_extend_list_list_0 l its.toArray n b its2.toArray n2 hlong (by rw[List.size_toArray];lia) (by lia)) ⟨e,e2,?_⟩
 refine⟨.non,_,I.lset (its':=its++its2) hH e (by simp) (r.append r2) ?_,rfl,q⟩;rw[List.length_append]
 lia
def aDg:R2:=λx y H Q=>∃l b xs zs,x= .ref l/\y= .ref b/\H l=some (.lst xs)/\H b=some (.lst zs)/\xs.length+zs.length<=sizeLine/\∀p,H p=none->Q (.ref p) (upd H p (.lst (xs++zs)))
theorem eF:OpR X (binaryOp .Add) aDg:=by
 intro pins s σ H x y v u Q I rx ry h;obtain⟨l,b,xs,zs,rfl,rfl,hH,hB,hz,q⟩:=h;cases rx;cases ry;obtain⟨z,its,n,r,hl,e⟩:=I.lstM hH;obtain⟨z2,its2,n2,r2,hl2,e2⟩:=I.lstM hB;refine PySem.P.add_list e e2 ?_ (by rw[List.size_toArray,List.size_toArray];lia);have ea:its.toArray++its2.toArray=(its++its2).toArray:=by simp
 rw[ea];exact⟨.ref _,_,I.lnew (t':=s.toks) (r.append r2) (by rw[List.length_append];lia),rfl,q _ I.fresh⟩
section
variable {prog:Program}{w:World}{E:Value->Shared->Prop}
set_option maxRecDepth 100000 in
end
end L2
namespace Att
open PySem PySem.W PySem.Calls PyProof.Rows
variable {h:Heap}
theorem BK {P:Params}:∀(ns:List Int) (vs:List Value),WellAll P h vs (ns.map WData.int)->IntsAre vs ns:=by
 intro ns
 induction ns with
 | nil =>
  intro vs w;rw[List.map_nil]at w;cases w;exact .nil
 | cons n ns ih =>
  intro vs w;rw[List.map_cons]at w;cases w with
  | cons a b =>
   cases a;exact .cons _ _ (ih _ b)
variable {n:Nat}
theorem SI {l:OpenLaw}(hn:l.most=some n){P:Params}{args:List WData}{vals:List Value}
  (hpre:l.row.toRowW.claim.pre args=true)(hwl:WellAll P h vals args) :
  ∃a vs ns,vals=[Value.ref a]/\args=[WData.list (ns.map WData.int)]/\h.get? a=some { cls:= .type "list",data:= .seq vs.toArray }/\IntsAre vs ns/\ns.length<=n:=by
 have hsh:WShape.hasAll [] args [.list .int]=true:=(pre_splitW hpre).1;have hc:l.pre.holds [] { args:=args }=true:=(pre_splitW hpre).2;obtain⟨d,r,rfl,h1,h2⟩:=hasAllW_cons hsh;obtain rfl:=hasAllW_nil h2;obtain⟨xs,rfl,h3⟩:=hasW_list h1;obtain⟨ns,rfl⟩:=items_int h3;have hlen:ns.length<=n:=by
  unfold OpenLaw.pre at hc;have h4:(WTm.not (.lt (.lit (.int (n:Int))) (.len (.arg 0)))).holds [] { args:=[.list (ns.map .int)] }=true:=by
   have h4:=(holds_andW hc).1;rw[hn]at h4;exact h4
  have h5:=condW_of h4 (w_not (w_lt w_lit (w_len_list (w_arg rfl))));rw[List.length_map]at h5;refine Nat.le_of_not_lt λq=> ?_;have q':(n:Int)<((ns.length:Nat):Int):=by lia
  first
   | (rw[decide_eq_true q']at h5;exact absurd h5 (by decide))
   | (simp at h5;lia)
 cases hwl with
 | cons w1 w2 =>
  cases w2;cases w1 with
  | list ho hall=>exact⟨_,_,ns,rfl,rfl,ho,BK ns _ hall,hlen⟩
theorem SX (l:OpenLaw)(args:List WData):l.row.toRowW.claim.post args (.bool true) args=true :=
 postW_of (r:=l.row.toRowW) (X:=(true==true))
  (show WShape.has [] (.bool true) .bool=true by first|rfl|decide|simp[WShape.has,WShape.arms,WShape.armsAll])
  (show (WTm.eq .res (.lit (.bool true))).value [] { args:=args,res:=some (.bool true),after:=args }=some (.bool (true==true)) from w_eq_bool (w_res rfl) w_lit) rfl
theorem attach_call {l:OpenLaw}{q:Program}{loose:List Str}{XP:(Str->Option Value)->Heap->Prop}{YP:World->Heap->Prop}{d:DefRec}
  (hn:l.most=some n)(hdf:d.params.defaults=[])
  (call:∀(w:World) (s₀ s₁:Shared) (mg mb:Str->Option Value) (fa:Addr) (o:Obj) (pm cd doc:Value) (a:Addr) (vs:List Value) (ns:List Int),
   Ground q loose [] XP w s₀ mg mb s₁.heap->YP w s₁.heap →
   s₁.heap.get? fa=some o->o.data= .func (docDef d.name d.params d.body d.scope pm cd doc)->s₁.heap.CodeRec cd d.name->mg d.name=some (.ref fa) →
   s₁.heap.get? a=some { cls:= .type "list",data:= .seq vs.toArray }->IntsAre vs ns->ns.length<=n->s₁.gens= #[] →
   codeAny (model l.prog w) callerA (.call (.ref fa) ⟨[.ref a],[]⟩) (λr s'=>r= .ok (.ret (.bool true))/\OldK s₁.heap s'.heap/\s'.os=s₁.os/\AllBare s'.gens) s₁) :
  WalkO q loose XP YP l.row.toRowW d [] (λf vs=>PySem.call f vs):=by
 intro w s₀ s₁ mg mb G Y fa o pm cd doc dV kV ho hd hcd hD hmg hg args vals as hpre hlay hrd hwl hlo;obtain rfl:dV= .none:=Dflts.none hD hdf;obtain rfl:kV= .none:=Dflts.noKw hD;obtain⟨a,vs,ns,rfl,rfl,hobj,hints,hlen⟩:=SI hn hpre hwl;refine enter_call (codeAny_mono (call w s₀ s₁ mg mb fa o pm cd doc a vs ns G Y ho (fd_plain hd) hcd hmg hobj hints hlen hg) λr s' hq=> ?_);obtain⟨rfl,h2,h3,h4⟩:=hq;exact⟨.inl ⟨.bool true,.bool true,[],rfl,λ_=>rfl,.bool true,SX l _,λ_=>⟨List.Pairwise.nil,λ_ hm=>(nomatch hm)⟩⟩,h2,h3,h4⟩
section
variable {prog:Program}{w:World}{A:Around}{E:Value->Shared->Prop}{s:Shared}{K:Frag}
end
end Att
namespace L2
open PySem PySem.Spec PyProof.Rows
theorem EV:∀{vs:List Value}{ns:List Int},IntsAre vs ns->Vals (ns.map V.int) vs
 | _,_,.nil=> .nil
 | _,_,.cons n t h=> .cons ⟨t,rfl⟩ (EV h)
def Y8 (H:Hp):Prop:=∀b,H b=none∨∃o xs,H b=some (.frz o (.lst xs))
variable {P prog:Program}{w:World}{K:W.Frag}{mg:Str->Option Value}{C T a b dx ea:Addr}{fd:FuncData}{m qual x z:Str}{sp:Sp}{ns:List Int}{k' n nl:Nat}{s s2 s₀:Shared}{us:List Value}
theorem WV {mb:Str->Option Value}{CX:CXT}{k:Nat}{fa:Addr}{s₁:Shared}{vs:List Value}
  (KX:K.In s₁.heap)(hns:s₁.heap.Ns mainGlobals mg)(hb:s₁.heap.Ns builtinsNs mb)(hbb:∀x:Str,x≠ "__name__" ->mb x=bootBuiltins x)(hlim:s₁.heap.NoLimit)(hg:s₁.gens= #[])
  (ha:s₁.heap.get? a=some { cls:= .type "list",data:= .seq vs.toArray })(hi:IntsAre vs ns)(hl:ns.length<=sizeLine)(hr:Room k callerA)
  (F:∀base:Heap,K.In base->base.Ns mainGlobals mg->FnOk P w K mg base CX k fa fd [x] sp)(hbind:∀(s:Shared) (u:Value),BindsTo s fd ⟨[u],[]⟩ [(x,u)])
  (hsp:∀H:Hp,Y8 H->SqL K H a (ns.map V.int)->sp [.ref a] H (λv _=>v= .bl true) λ_ _ _=>False)
  (hCX:∀H e s',CX [] H s₁ (λ_ _ _=>False) e s'->False) :
  codeAny (model P w) callerA (.call (.ref fa) ⟨[.ref a],[]⟩) (λr s'=>r= .ok (.ret (.bool true))/\OldK s₁.heap s'.heap/\s'.os=s₁.os/\AllBare s'.gens) s₁:=by
 have rv:=EV hi;have lenV:=hi.length;have core:∀H:Hp,Y8 H->SqL K H a (ns.map V.int)->HOk P w H s₁.heap->(∀b,H b≠none->b=a)->(H a≠none->K.lookup a=none) →
   codeAny (model P w) callerA (.call (.ref fa) ⟨[.ref a],[]⟩) (λr s'=>r= .ok (.ret (.bool true))/\OldK s₁.heap s'.heap/\s'.os=s₁.os/\AllBare s'.gens) s₁:=by
  intro H hO hS hok hA hK;have base_of:∀{b:Addr}{o:Obj},s₁.heap.get? b=some o->H b=none->(tY s₁.heap H).get? b=some o:=λe n=>X4 e n;have noA:∀{b:Addr}{o:Obj}{es:Array DictEntry}{ep:Nat},s₁.heap.get? b=some o->o.data= .dict es ep->H b=none:=λ{b o es ep} e d=>by
   cases q:H b with
   | none=>rfl
   | some u =>
    have e':b=a:=hA b (by rw[q];simp);subst e';rw[ha]at e;cases e;have d':Data.seq vs.toArray _=Data.dict es ep:=d;cases d'
  have nsK:∀{b:Addr}{m:Str->Option Value},s₁.heap.Ns b m->(tY s₁.heap H).Ns b m:=λ{b m} ⟨o,es,ep,e,d,r⟩=>⟨o,es,ep,base_of e (noA e d),d,r⟩
  have hKb:K.In (tY s₁.heap H):=λb o e=>base_of (KX b o e) (by
   cases q:H b with
   | none=>rfl
   | some u =>
    have e':b=a:=hA b (by rw[q];simp);subst e';rw[hK (by rw[q];simp)]at e;cases e)
  have hM:Mod K mg (tY s₁.heap H):=⟨hKb,nsK hns,⟨mb,nsK hb,hbb⟩,let ⟨mc,h1,h2⟩:=hlim;⟨mc,nsK h1,h2⟩⟩
  have e0:Env0 P w K mg (tY s₁.heap H) callerA [] s₁ H:=⟨rfl,hM,λb o e=>aBR e,Nat.le_of_eq (UF _ _),trivial,λb hb=>absurd (show b∈([]:List Addr) from hb) (by simp),hok,.of_eq hg⟩
  refine codeAny_mono ((F _ hKb (nsK hns)).run callerA [] s₁ H ⟨[.ref a],[]⟩ [.ref a] [.ref a] _ _ hr e0 (hbind s₁ (.ref a)) (.cons rfl .nil) (hsp H hO hS)) λr s' h=> ?_;cases r with
  | error e=>exact(hCX H e s' h).elim
  | ok fl =>
   cases fl with
   | next=>exact False.elim h
   | brk=>exact False.elim h
   | cont=>exact False.elim h
   | ret u =>
    obtain⟨v,H',os,bare,un,hok',r',q⟩:=h;have q':v= .bl true:=q;subst q';obtain rfl:u=Value.bool true:=r';refine⟨rfl,OldK.of_keep λb o e=> ?_,os,bare⟩;cases q:H b with
    | none=>exact un.keep b o e q (by intro z;exact absurd (show b∈([]:List Addr) from z) (by simp)) (by simp)
    | some u =>
     rcases hO b with z|⟨ob,xs,z⟩
     .rw[q]at z;cases z
     .have z2:=un.frzs b ob _ z;obtain⟨e1,_⟩:=hok b _ z;obtain⟨e2,_⟩:=hok' b _ z2;rw[e]at e1;cases e1;exact e2
 cases hk:K.lookup a with
 | some o =>
  have e:=KX a o hk;rw[ha]at e;cases e;refine core (λ_=>none) (λ_=> .inl rfl) (.inr ⟨_,vs.toArray,_,hk,rfl,rfl,rfl,by rw[List.size_toArray,lenV];exact hl,by simpa using rv⟩) (λb u z=>by have z':(none:Option HO)=some u:=z;cases z') (λb z=>absurd rfl z) λz=>absurd rfl z
 | none =>
  refine core (λb=>if b=a then some (.frz { cls:= .type "list",data:= .seq vs.toArray } (.lst (ns.map V.int))) else none) (λb=> ?_) (.inl (.inr ⟨{ cls:= .type "list",data:= .seq vs.toArray },if_pos rfl⟩)) (λb u z=> ?_) (λb z=> ?_) λ_=>hk
  .by_cases hb:b=a
   .exact .inr ⟨_,_,if_pos hb⟩
   .exact .inl (if_neg hb)
  .by_cases hb:b=a
   .have z':=(if_pos hb).symm.trans z;cases z';subst hb;exact⟨ha,by rw[List.length_map];exact hl,vs,_,rv,ha⟩
   .have z':=(if_neg hb).symm.trans z;cases z'
  .by_cases hb:b=a
   .exact hb
   .exact absurd (if_neg hb) z
variable {N:List Str}
theorem walk_of {l:W.OpenLaw}{k:Nat}{q:Program}{loose:List Str}{XP:(Str->Option Value)->Heap->Prop}{YP:World->Heap->Prop}{d:DefRec}{K:Params->W.Frag}{CX:World->CXT}{sp:World->Sp}
  (hn:l.most=some n)(hn2:n<=sizeLine)(hdf:d.params.defaults=[])(hr:Room k callerA)
  (hY:∀(w:World) (h:Heap),YP w h->(K w.params).In h)
  (F:∀(w:World) (mg:Str->Option Value) (fa:Addr) (h:Heap),(K w.params).In h->h.Ns mainGlobals mg->mg d.name=some (.ref fa) →
   ∃fd:FuncData,(∀(s:Shared) (u:Value),BindsTo s fd ⟨[u],[]⟩ [(x,u)]) ∧
    ∀base:Heap,(K w.params).In base->base.Ns mainGlobals mg->FnOk l.prog w (K w.params) mg base (CX w) k fa fd [x] (sp w))
  (hsp:∀(w:World) (H:Hp) (a:Addr) (ns:List Int),ns.length<=n->Y8 H->SqL (K w.params) H a (ns.map V.int)->sp w [.ref a] H (λv _=>v= .bl true) λ_ _ _=>False)
  (hCX:∀(w:World) (H:Hp) (s:Shared) (e:Value) (s':Shared),CX w [] H s (λ_ _ _=>False) e s'->False) :
  W.WalkO q loose XP YP l.row.toRowW d [] (λf vs=>PySem.call f vs):=by
 refine Att.attach_call hn hdf λw s₀ s₁ mg mb fa o pm cd doc a vs ns G Y ho hd hcd hmg hobj hints hlen hg=> ?_;have KX:=hY w _ Y;obtain⟨fd,hb,hF⟩:=F w mg fa _ KX G.T.g hmg;exact WV KX G.T.g G.T.b G.T.builtins G.T.nolimit hg hobj hints (Nat.le_trans hlen hn2) hr hF hb (λH hO hS=>hsp w H a ns hlen hO hS) λH e s'=>hCX w H s₁ e s'
def cK (s:Stmt)(j:Nat):Stmt:=match s with
 | .ClassDef _ _ _ body _ _ _ _ _ _ _=>body.getD j (.Pass ⟨0,0,0,0⟩)
 | _=> .Pass ⟨0,0,0,0⟩
def eQ (s:Stmt):Arguments:=match s with
 | .FunctionDef _ a _ _ _ _ _ _ _ _=>a
 | _=>{ posonlyargs:=[],args:=[],vararg:=none,kwonlyargs:=[],kw_defaults:=[],kwarg:=none,defaults:=[] }
def c8 (s:Stmt):List Stmt:=match s with
 | .FunctionDef _ _ b _ _ _ _ _ _ _=>b
 | _=>[]
def aH (s:Stmt):Scope:=match s with
 | .FunctionDef _ _ _ _ _ _ sc _ _ _=>sc
 | _=>{ kind:= .function,names:=[],isGenerator:=false,isCoroutine:=false }
abbrev CX0:CXT:=λ_ _ _ _ _ _=>False
abbrev E0:XK:=λ_ _ _=>False
variable {X:Cx}
theorem wQ:fZ CX0 X E0:=λ_ _ _ _ _ _ _ h=>h.elim
variable {base h h' h1 h6:Heap}
variable {apos np pos:Pos}
theorem pv (i:Nat){pos:Pos}(hN:X.N[i]? =some x:=by rfl)(hv:Vis X.env.scope x:=by first|exact Or.inl rfl|exact Or.inr (Or.inl rfl)|exact Or.inr (Or.inr rfl))(hd:(x==("__debug__" :Str))=false:=by decide)
  (hcd:(x==("__classdict__" :Str))=false:=by decide):PE X (.Name x pos) (iZ i):=aDc hN hv hd hcd
variable {B:Prop}
theorem zO {c A:Prop}[Decidable c](h1:c->A)(h2:¬c->B):if c then A else B:=by
 by_cases h:c
 .rw[if_pos h];exact h1 h
 .rw[if_neg h];exact h2 h
def Same (H H':Hp):Prop:=∀b o,H b=some o->H' b=some o
theorem Same.refl (H:Hp):Same H H:=λ_ _ h=>h
variable {H H' H1 H2 H₀:Hp}
theorem Same.trans (a:Same H H1)(b:Same H1 H2):Same H H2:=λc o h=>b c o (a c o h)
variable {dvs vs xs ys:List V}
theorem Same.seq (e:Same H H')(h:SqL K H a xs):SqL K H' a xs:=by
 rcases h with (h|⟨o,h⟩)|h
 .exact .inl (.inl (e _ _ h))
 .exact .inl (.inr ⟨o,e _ _ h⟩)
 .exact .inr h
variable {rest σ σ0:St}{pins:List (Addr×Obj)}
section
variable {D:Addr}
theorem HOk.adds {o:HO}(x:HOk P w H h)(hn:H D=none)(new:ObjOk P w (upd H D o) h D o):HOk P w (upd H D o) h:=λb u e=>by
 by_cases hb:b=D
 .subst hb;rw[aU]at e;cases e;exact new
 .rw[aM hb]at e;exact(x b u e).stay (λc v _ q=>q) (λc q=>by rw[aM (aY q hn)];exact q) λc xs q=>by rw[aM (aY q hn)];exact q
theorem HOk.drops (x:HOk P w (upd H D (.lst ys)) h)(hn:H D=none):HOk P w H h:=λb u e=>by
 have hb:b≠D:=aY e hn;refine(x b u (by rw[aM hb];exact e)).stay (λc v _ q=>q) (λc q=> ?_) λc xs q=> ?_
 .by_cases hc:c=D
  .subst hc;rw[aU]at q;cases q
  .rw[aM hc]at q;exact q
 .by_cases hc:c=D
  .subst hc;rw[aU]at q;cases q
  .rw[aM hc]at q;exact q
theorem Inv.track {its:List Value}(I:Inv X pins σ H s)(hn:H D=none)(e:s.heap.get? D=some { cls:= .type "list",data:= .seq its.toArray n })(r:Vals ys its)(hz:ys.length<=sizeLine)
  (h0:X.s₀.heap.objs.size<=D)(h1:D≠X.env.locals)(h2:∀x c,X.env.cells.lookup x=some c->c≠D)(h3:∀p∈X.pn++pins,p.1≠D):Inv X pins σ (upd H D (.lst ys)) s where
 ok:=I.ok
 os:=I.os
 bare:=I.bare
 base:=by
  have lt:∀b o,X.s₀.heap.get? b=some o->b≠D:=λb o q=>Nat.ne_of_lt (Nat.lt_of_lt_of_le (Heap.lt_size q) h0);refine⟨I.base.keep,I.base.slot,λb o q n' hx=> ?_,I.base.there,λb xs q=> ?_,λb o u q=> ?_,λb ps q=> ?_⟩
  .rw[aM (lt b o q)];exact I.base.free b o q n' hx
  .have z:=I.base.tups b xs q;rw[aM (aY z hn)];exact z
  .have z:=I.base.frzs b o u q;rw[aM (aY z hn)];exact z
  .obtain⟨more,z⟩:=I.base.tbls b ps q;exact⟨more,by rw[aM (aY z hn)];exact z⟩
 loc:=I.loc
 cell:=I.cell
 free:=by rw[aM (Ne.symm h1)];exact I.free
 freeC:=λx c q=>by rw[aM (h2 x c q)];exact I.freeC x c q
 pin:=λp hp=>by
  obtain⟨a,b,c⟩:=I.pin p hp;exact⟨a,by rw[aM (h3 p hp)];exact b,c⟩
 hok:=I.hok.adds hn ⟨hz,its,n,r,e⟩
 len:=I.len
theorem Inv.untrack (I:Inv X pins σ (upd H D (.lst ys)) s)(hn:H D=none):Inv X pins σ H s where
 ok:=I.ok
 os:=I.os
 bare:=I.bare
 base:=by
  have low:∀b u,upd H D (.lst ys) b=some u->(∀xs,u≠ .lst xs)->H b=some u:=λb u q nl=>by
   by_cases hb:b=D
   .subst hb;rw[aU]at q;cases q;exact absurd rfl (nl ys)
   .rw[aM hb]at q;exact q
  refine⟨I.base.keep,I.base.slot,λb o q n' hx=> ?_,I.base.there,λb xs q=> ?_,λb o u q=> ?_,λb ps q=> ?_⟩
  .have z:=I.base.free b o q n' hx
   by_cases hb:b=D
   .subst hb;exact hn
   .rw[aM hb]at z;exact z
  .exact low _ _ (I.base.tups b xs q) (λ_ z=>by cases z)
  .exact low _ _ (I.base.frzs b o u q) (λ_ z=>by cases z)
  .obtain⟨more,z⟩:=I.base.tbls b ps q;exact⟨more,low _ _ z (λ_ z=>by cases z)⟩
 loc:=I.loc
 cell:=I.cell
 free:=by
  have z:=I.free
  by_cases hb:X.env.locals=D
  .rw[hb];exact hn
  .rw[aM hb]at z;exact z
 freeC:=λx c q=>by
  have z:=I.freeC x c q
  by_cases hb:c=D
  .rw[hb];exact hn
  .rw[aM hb]at z;exact z
 pin:=λp hp=>by
  obtain⟨a,b,c⟩:=I.pin p hp;refine⟨a,?_,c⟩
  by_cases hb:p.1=D
  .rw[hb];exact hn
  .rw[aM hb]at b;exact b
 hok:=I.hok.drops hn
 len:=I.len
end
def a8 (X:Cx)(scope:Scope)(cl:List (Str×Addr))(N:List Str)(C:Addr)(s0:Shared)(H0:Hp)(fp:List Addr):Cx where
 prog:=X.prog
 w:=X.w
 K:=X.K
 mg:=X.mg
 base:=X.base
 A:=X.A
 N:=N
 s₀:=s0
 H₀:=H0
 env:=compEnvC scope cl C X.env
 outer:=X.stack
 stack:=X.stack
 ex:=fp
 fn:=λ_=>false
 calm:=X.calm
 pn:=[]
 xe:=λ_ _=>False
structure Blk (X:Cx)(scope:Scope)(cl:List (Str×Addr))(N:List Str)(nl:Nat)(ci:List Nat):Prop where
 kind:scope.kind= .function
 names:∀y∈scope.names,y.2= .local->scope.names.lookup y.1=some .local
 nocell:∀y∈scope.names,y.2≠ .cell
 clos:closureFor scope X.env=pure cl
 sub:∀n c,cl.lookup n=some c->X.env.cells.lookup n=some c
 has:∀n,((relabel scope X.env).names.lookup n=some .cell∨(relabel scope X.env).names.lookup n=some .free)->∃c,cl.lookup n=some c
 len:N.length=nl+ci.length
 cap:∀(j i:Nat),ci[j]? =some i->∃n,N[nl+j]? =some n/\X.N[i]? =some n/\(X.env.scope.names.lookup n=some .cell∨X.env.scope.names.lookup n=some .free) ∧
  ((relabel scope X.env).names.lookup n=some .cell∨(relabel scope X.env).names.lookup n=some .free)/\cl.lookup n=X.env.cells.lookup n
def bQ (nl:Nat)(ci:List Nat)(σ:St):St:=List.replicate nl none++ci.map λi=>(σ[i]?).join
variable {ci:List Nat}{v:V}
theorem R7 {k:Nat}(h:(bQ nl ci σ)[k]? =some (some v)):∃j i,k=nl+j/\ci[j]? =some i/\σ[i]? =some (some v):=by
 unfold bQ at h
 by_cases hk:k<nl
 .rw[List.getElem?_append_left (by simpa using hk),List.getElem?_replicate]at h
  split at h<;>cases h
 .rw[List.getElem?_append_right (by simpa using hk),List.length_replicate,List.getElem?_map]at h;cases e:ci[k - nl]? with
  | none=>rw[e]at h;cases h
  | some i =>
   rw[e]at h;have h':(σ[i]?).join=some v:=by simpa using h
   refine⟨k - nl,i,by lia,e,?_⟩;cases q:σ[i]? with
   | none=>rw[q]at h';cases h'
   | some o=>rw[q]at h';simp at h';rw[h']
theorem HK:(bQ nl ci σ).length=nl+ci.length:=by unfold bQ;simp
variable {scope:Scope}{fp:List Addr}{cl:List (Str×Addr)}
theorem xT (B:Blk X scope cl N nl ci)(I:Inv X pins σ H2 s2)(f2:∀b∈fp,gM X pins H2 b)(fo:∀b∈fp,∃o,s2.heap.get? b=some o){h4:Heap}{t4:Nat}{m4:Str->Option Value}(hC:s2.heap.objs.size<=C)(hns:h4.Ns C m4)
  (hk:∀b o,s2.heap.get? b=some o->h4.get? b=some o):Inv (a8 X scope cl N C s2 H2 fp) [] (bQ nl ci σ) H2 { s2 with heap:=h4,toks:=t4 }:=by
 have lt2:∀b∈fp,b<s2.heap.objs.size:=λb hb=>by obtain⟨o,e⟩:=fo b hb;exact Heap.lt_size e
 have ok:(a8 X scope cl N C s2 H2 fp).Ok:=by
  refine⟨I.ok.mod,B.kind,I.ok.glob,I.ok.blt,hC,λx y c h1 h2=>I.ok.inj x y c (B.sub x c h1) (B.sub y c h2),λx hx=>B.has x hx,λx c hf _=>(by cases hf),I.ok.hd,I.ok.frames,.inl rfl,λb hb=>⟨?_,?_⟩,I.bs,?_,λb o e hb=> ?_,λb hb z=> ?_,I.stack,I.stkFree⟩
  .exact Nat.ne_of_lt (Nat.lt_of_lt_of_le (lt2 b hb) hC)
  .exact λx c h=>(f2 b hb).2.2.2.2.1 x c (B.sub x c h)
  .exact Nat.le_trans I.ok.bsz I.sz
  .rcases (f2 b hb).2.2.2.1 with z|z
   .exact I.ok.noex b o e z
   .exact absurd (Nat.lt_of_lt_of_le (Heap.lt_size e) (Nat.le_trans I.ok.bsz z)) (Nat.lt_irrefl _)
  .rcases List.mem_cons.mp (I.stkSub b z) with q|q
   .exact(f2 b hb).2.1 q
   .exact(f2 b hb).2.2.1 q
 refine⟨ok,rfl,I.bare,Un.kept hk,⟨m4,hns,λk x v e1 e2 e3=> ?_⟩,λx c e=> ?_,I.hok.fresh hC,λx c e=>I.freeC x c (B.sub x c e),λp hp=>(by cases hp),I.hok.kept hk,?_⟩
 .obtain⟨j,i,rfl,hj,hσ⟩:=R7 e2;obtain⟨n,hn1,hn2,hk1,hk2,hl⟩:=B.cap j i hj;have en:x=n:=by
   have e1':N[nl+j]? =some x:=e1;rw[hn1]at e1';exact(Option.some.inj e1').symm
  subst en;obtain⟨m,hm,hloc⟩:=I.loc;have vis:Vis X.env.scope x:= .inr hk1;obtain⟨u,ru,lk⟩:=hloc i x v hn2 hσ vis;refine⟨u,ru,.inr ⟨hk2,?_⟩⟩;rcases lk with⟨kl,_⟩|⟨_,c,ec,hc⟩
  .have kl':X.env.scope.names.lookup x=some .local:=kl;rcases hk1 with z|z<;>· rw[z]at kl';cases kl'
  .refine⟨c,hl.trans ec,?_⟩;obtain⟨o,ho,hd⟩:=hc;exact⟨o,hk _ _ ho,hd⟩
 .obtain⟨v,o,ho,hd⟩:=I.cell x c (B.sub x c e);exact⟨v,o,hk _ _ ho,hd⟩
 .show (bQ nl ci σ).length=N.length;rw[HK,B.len]
theorem vB {σ':St}{s':Shared}{pb:List (Addr×Obj)}(I:Inv X pins σ H2 s2)(f2:∀b∈fp,gM X pins H2 b)(J:Inv (a8 X scope cl N C s2 H2 fp) pb σ' H' s'):Inv X pins σ H' s' :=
 I.call' J.os J.base J.hok J.bare λb hb=>⟨(f2 b hb).2.2.2.1,(f2 b hb).2.1,(f2 b hb).2.2.2.2.1,(f2 b hb).2.2.2.2.2⟩
variable {e elt iter o tg:Expr}{es ifs:List Expr}{env:Env}{cd cdv cls doc hd0 oc pm:Value}{R:Result->Shared->Prop}{A:Around}
theorem xY {elt target iter:Expr}{ifs:List Expr}{scope:Scope}{pos:Pos}{it acc:Value}{env:Env}(I:Nat->Shared->Prop)
  (turn:∀n s,I n s->wpAny (model prog w) A (pyNext it) (λr s₁=>match r with
   | none=>R (.ok .next) s₁
   | some v=>wpAny (model prog w) A (letOwnedTupleGo target it v) (λ_ s₁'=>wpAny (model prog w) A (assign target env v) (λ_ s₂ =>
     wpAny (model prog w) A (forIn ifs true λc r=>if r=true then do let ok ←isTrue c env (eval c env);pure (ForInStep.yield ok) else pure (ForInStep.yield r)) (λok s₃ =>
      if ok=true then wpAny (model prog w) A (eval elt env) (λx s₄ =>
       wpAny (model prog w) A (call (.builtin "list.append") [acc,x]) (λ_ s₅=>∃m,m<n/\I m s₅) (notedBy (model prog w) A env λe s'=>R (.error e) s') s₄) (notedBy (model prog w) A env λe s'=>R (.error e) s') s₃
      else ∃m,m<n/\I m s₃) (notedBy (model prog w) A env λe s'=>R (.error e) s') s₂) (notedBy (model prog w) A env λe s'=>R (.error e) s') s₁') (notedBy (model prog w) A env λe s'=>R (.error e) s') s₁) (notedBy (model prog w) A env λe s'=>R (.error e) s') s)
  (n:Nat)(h:I n s) :
  codeAny (model prog w) A (.compLoop (.ListComp elt [⟨target,iter,ifs,0⟩] scope pos) 0 it acc env) R s:=by
 refine codeAny_loop rfl I (λn s hI=> ?_) n h;show wpAny _ A ((compTurn (.ListComp elt [⟨target,iter,ifs,0⟩] scope pos) 0 it acc env).onRaise (λx=>do noteFrame x env;theTreesLotGoes x)) _ _ s;refine wpAny_noted ?_;rw[compTurn_list];refine wpAny_bind (wpAny_standAt (wpAny_bind (wpAny_mono (turn n s hI) (λr s₁ h₁=> ?_) λ_ _ h'=>h')));cases r with
 | none=>exact wpAny_pure h₁
 | some v =>
  refine wpAny_bind (wpAny_mono h₁ (λ_ s₁' h₁'=> ?_) λ_ _ h'=>h');refine wpAny_bind (wpAny_mono h₁' (λ_ s₂ h₂=>wpAny_bind (wpAny_mono h₂ (λok s₃ h₃=> ?_) λ_ _ h'=>h')) λ_ _ h'=>h');cases ok with
  | false=>exact wpAny_pure ⟨rfl,h₃⟩
  | true =>
   exact wpAny_bind (wpAny_bind (wpAny_mono h₃ (λx s₄ h₄=>wpAny_bind (wpAny_mono h₄ (λ_ s₅ h₅=>wpAny_pure (wpAny_pure ⟨rfl,h₅⟩)) λ_ _ h'=>h')) λ_ _ h'=>h'))
def PF (X:Cx)(ifs:List Expr)(t:TT):Prop :=
 ∀(pins:List (Addr×Obj)) (s:Shared) (σ:St) (H:Hp) (Q:Bool->Hp->Prop),Inv X pins σ H s->t σ H Q →
  wpAny (model X.prog X.w) X.A (forIn ifs true λc r=>if r=true then do let ok ←isTrue c X.env (eval c X.env);pure (ForInStep.yield ok) else pure (ForInStep.yield r)) (TP X pins σ Q) X.xe s
def pU:TT:=λ_ H Q=>Q true H
theorem dO:PF X [] pU:=λ_ _ _ H _ I h=>wpAny_tests_nil ⟨H,I,h⟩
variable {ti:TT}
theorem J0 {c:Expr}{t:TT}(h:PT X c t):PF X [c] t:=λpins s σ H Q I q=>wpAny_tests_one (h pins s σ H Q I q)
def dD (J:It)(g:TG)(ti:TT)(te:TE)(σ0:St)(fin:List V->Hp->Prop)(H1:Hp):Prop :=
 ∃W:Nat->Nat->List V->Hp->Prop,(∃m,W 0 m [] H1)/\∀i m ys H,W i m ys H →
  (J.stop i H/\fin ys H) ∨
  (J.go i H/\∀x H',J.yld i H x H'->g x σ0 H' λσ2 H2=>(σ2.length=σ0.length/\∀(j:Nat) v,σ0[j]? =some (some v)->σ2[j]? =some (some v)) ∧
   ti σ2 H2 λb H3=>if b=true then te σ2 H3 λy H4=>ys.length<sizeLine/\∃m',m'<m/\W (i+1) m' (ys++[y]) H4 else ∃m',m'<m/\W (i+1) m' ys H3)
def BR (wi:TI)(nl:Nat)(ci:List Nat)(g:TG)(ti:TT)(te:TE):TE:=λσ H Q =>
 wi σ H λJ H1=>dD J g ti te (bQ nl ci σ) (λys H'=>∀p,H' p=none->Q (.ref p) (upd H' p (.lst ys))) H1
variable {E:Value->Shared->Prop}{fin:List V->Hp->Prop}{ta te:TE}{wi:TI}
section
variable {g:TG}
theorem EI {it:Addr}{J:It}{tn:Nat->Heap->Prop}{RR:Value->Addr->Result->Shared->Prop}
  (hc:X.calm=true)(B:Blk X scope cl N nl ci)(hg:∀C s0 H0 fp,PG (a8 X scope cl N C s0 H0 fp) tg g)(hi:∀C s0 H0 fp,PF (a8 X scope cl N C s0 H0 fp) ifs ti)(he:∀C s0 H0 fp,PE (a8 X scope cl N C s0 H0 fp) elt te)
  (I2:Inv X pins σ H2 s2)(T:uJ X.prog X.w X.K tg J fp it tn)(st2:tn 0 s2.heap)(f2:∀b∈fp,gM X pins H2 b)(hW:dD J g ti te (bQ nl ci σ) fin H2)
  (hfin:∀(D C:Addr) (s':Shared) (H':Hp) (ys:List V) (oC:Obj) (m:Str->Option Value),H' D=none->Inv X (pins++[(C,oC)]) σ (upd H' D (.lst ys)) s'->s'.heap.Ns C m->s2.heap.objs.size<=C->fin ys H'->RR (.ref D) C (.ok .next) s') :
  wpAny (model X.prog X.w) X.A (newList []) (λacc s₃=>wpAny (model X.prog X.w) X.A (newFunctionEnv scope X.env.globals cl [] X.env.qual none .none (some X.env)) (λcenv s₄ =>
   codeAny (model X.prog X.w) X.A (.compStart (.ListComp elt [⟨tg,iter,ifs,0⟩] scope pos) 0 (.ref it) acc { cenv with scope:=relabel scope X.env }) (RR acc cenv.locals) s₄) E s₃) E s2:=by
 obtain⟨W,⟨m0,w0⟩,turn⟩:=hW;refine wpAny_newObj_type (wpAny_newFunctionEnv B.nocell (by intro y hy;simp at hy) (λh1 hns1 hsb1=> ?_) B.kind)
 dsimp only at hns1 hsb1 ⊢
 generalize hH2:s2.heap.push { cls:= .type "list",dict:=none,data:= .seq ([]:List Value).toArray }=G2 at hns1 hsb1 ⊢;have hCs:G2.objs.size=s2.heap.objs.size+1:=by rw[←hH2,Heap.size_push]
 generalize hCe:G2.objs.size=C at hns1 hsb1 hCs ⊢;have hDC:s2.heap.objs.size≠C:=by rw[hCs];exact Nat.ne_of_lt (Nat.lt_succ_self _)
 have hCle:s2.heap.objs.size<=C:=by rw[hCs];exact Nat.le_succ _
 have old:∀b o,s2.heap.get? b=some o->h1.get? b=some o:=λb o e=>hsb1.extBut b o (by rw[hCs];exact Nat.ne_of_lt (Nat.lt_succ_of_lt (Heap.lt_size e))) (Heap.get?_push_of_some _ (hH2▸Heap.get?_push_of_some _ e));have hacc:h1.get? s2.heap.objs.size=some { cls:= .type "list",data:= .seq ([]:List Value).toArray 0 }:=hsb1.extBut _ _ hDC (Heap.get?_push_of_some _ (hH2▸Heap.get?_push_size _ rfl));have fo:∀b∈fp,∃o,s2.heap.get? b=some o:=λb hb=>let ⟨o,e,_⟩:=T.obj 0 _ st2 b hb;⟨o,e⟩;have lt2:∀b∈fp,b<s2.heap.objs.size:=λb hb=>let ⟨o,e⟩:=fo b hb;Heap.lt_size e;have hDfp:s2.heap.objs.size∉fp:=λz=>Nat.lt_irrefl _ (lt2 _ z);have hCfp:C∉fp:=λz=>Nat.lt_irrefl _ (Nat.lt_of_lt_of_le (lt2 _ z) hCle);generalize hDe:s2.heap.objs.size=D at hCs hDC hCle hacc hDfp lt2;have loop:∀s3:Shared,s3={ s2 with heap:=h1,toks:=s2.toks+([]:List (Str×Value)).length } →
   codeAny (model X.prog X.w) X.A (.compLoop (.ListComp elt [⟨tg,iter,ifs,0⟩] scope pos) 0 (.ref it) (.ref D) (compEnvC scope cl C X.env)) (RR (.ref D) C) s3:=by
  rintro s3 rfl;have I4:Inv (a8 X scope cl N C s2 H2 fp) [] (bQ nl ci σ) H2 { s2 with heap:=h1,toks:=s2.toks+([]:List (Str×Value)).length }:=xT B I2 f2 fo (by rw[hDe];exact hCle) hns1 old;have fpk:∀{H':Hp},(∀b∈fp,H' b=none)->∀b∈fp,gM (a8 X scope cl N C s2 H2 fp) [] H' b:=λhn b hb =>
   ⟨hn b hb,(I4.ok.exf b hb).1,I4.ok.exfs b hb,.inl hb,(I4.ok.exf b hb).2,λp hp=>by cases hp⟩
  have hDX:∀x c,(a8 X scope cl N C s2 H2 fp).env.cells.lookup x=some c->c≠D:=λx c e=>by
   obtain⟨v,o,ho,_⟩:=I2.cell x c (B.sub x c e);rw[←hDe];exact Nat.ne_of_lt (Heap.lt_size ho)
  have hDL:D≠(a8 X scope cl N C s2 H2 fp).env.locals:=hDC;have hDf:D∉(a8 X scope cl N C s2 H2 fp).fs:=λz=>by
   rcases List.mem_cons.mp (I2.stkSub D z) with q|q
   .exact Nat.lt_irrefl _ (by have:=I2.lt;rw[hDe,←q]at this;exact this)
   .exact I2.nofs (by rw[hDe];exact Nat.le_refl _) q
  refine xY (λn s'=>∃i ys its k H',W i n ys H'/\Inv (a8 X scope cl N C s2 H2 fp) [] (bQ nl ci σ) H' s'/\tn i s'.heap/\(∀b∈fp,H' b=none)/\H' D=none ∧
   s'.heap.get? D=some { cls:= .type "list",data:= .seq its.toArray k }/\Vals ys its/\ys.length<=sizeLine) ?_ m0 ?_
  .rintro n s' ⟨i,ys,its,k,H',w',I',st',fr',hD',eD,rv,hz⟩;have IP:Inv (a8 X scope cl N C s2 H2 fp) [(D,{ cls:= .type "list",data:= .seq its.toArray k })] (bQ nl ci σ) H' s':=I'.pins_of λp hp=>by
    obtain rfl:p=_:=by simpa using hp
    exact⟨eD,hD',hDL,hDf,λv z=>by cases z⟩
   have fpD:∀{H'':Hp},(∀b∈fp,H'' b=none)->∀b∈fp,gM (a8 X scope cl N C s2 H2 fp) [(D,{ cls:= .type "list",data:= .seq its.toArray k })] H'' b:=λhn b hb =>
    ⟨hn b hb,(I4.ok.exf b hb).1,I4.ok.exfs b hb,.inl hb,(I4.ok.exf b hb).2,λp hp=>by
     obtain rfl:p=_:=by simpa [a8] using hp
     exact λz=>hDfp ((show D=b from z)▸hb)⟩
   rcases turn i n ys H' w' with⟨stop,q⟩|⟨go,step⟩
   .refine thn (T.done (a8 X scope cl N C s2 H2 fp) rfl rfl rfl hc i _ s' (bQ nl ci σ) H' _ IP (fpD fr') st' stop) λr s'' ⟨hr,I''⟩=> ?_;subst hr;have eD2:=(I''.pin (D,_) (List.mem_append_right _ List.mem_cons_self)).1;have J1:Inv (a8 X scope cl N C s2 H2 fp) [] (bQ nl ci σ) (upd H' D (.lst ys)) s'' :=
     (I''.pins_of (pins':=[]) λp hp=>by cases hp).track hD' eD2 rv hz (by show s2.heap.objs.size<=D;rw[hDe];exact Nat.le_refl _) hDL hDX λp hp=>by cases hp
    have K1:Inv X pins σ (upd H' D (.lst ys)) s'':=vB I2 f2 J1;obtain⟨mC,nsC,_⟩:=J1.loc;obtain⟨oC,es,ep,hoC,hdC,rC⟩:=id nsC;refine hfin D C s'' H' ys oC mC hD' (K1.pins_of λp hp=> ?_) nsC (by rw[hDe];exact hCle) q;rcases List.mem_append.mp hp with hp|hp
    .exact K1.pin p (List.mem_append_right _ hp)
    .obtain rfl:p=(C,oC):=by simpa using hp
     refine⟨hoC,J1.free,Nat.ne_of_gt (Nat.lt_of_lt_of_le I2.lt (by rw[hDe];exact hCle)),I2.nofs (by rw[hDe];exact hCle),λv z=> ?_⟩;rw[hdC]at z;cases z
   .refine thn (T.item (a8 X scope cl N C s2 H2 fp) rfl rfl rfl hc i _ s' (bQ nl ci σ) H' _ IP (fpD fr') st' go) λr s4 ⟨u,hr,h4⟩=> ?_;subst hr;refine thn h4 λ_ s5 ⟨x,H5,I5,r5,y5,st5,fr5⟩=> ?_;have I5':=I5.pinned (fpD fr5) (T.obj _ _ st5);refine wpAny_mono (hg C s2 H2 fp _ s5 (bQ nl ci σ) H5 x u _ I5' r5 (step x H5 y5)) (λ_ s6 ⟨σ6,H6,I6,⟨hl6,hk6⟩,q6⟩=> ?_) λ_ _ f=>f.elim;refine wpAny_mono (hi C s2 H2 fp _ s6 σ6 H6 _ I6 q6) (λb s7 ⟨H7,I7,q7⟩=> ?_) λ_ _ f=>f.elim;have pinD:∀{pp:List (Addr×Obj)}{σx:St}{Hx:Hp}{sx:Shared},Inv (a8 X scope cl N C s2 H2 fp) ([(D,({ cls:= .type "list",data:= .seq its.toArray k }:Obj))]++gE fp s5.heap) σx Hx sx →
      sx.heap.get? D=some { cls:= .type "list",data:= .seq its.toArray k }/\Hx D=none/\tn (i+1) sx.heap/\(∀b∈fp,Hx b=none):=λ{pp σx Hx sx} Ix=>by
     refine⟨(Ix.pin (D,_) (List.mem_append_right _ (List.mem_append_left _ List.mem_cons_self))).1,(Ix.pin (D,_) (List.mem_append_right _ (List.mem_append_left _ List.mem_cons_self))).2.1,T.keep _ _ _ st5 λb hb o e=>(Ix.pin (b,o) (List.mem_append_right _ (List.mem_append_right _ (eZ hb e)))).1,λb hb=> ?_⟩;obtain⟨o,e,d⟩:=T.obj _ _ st5 b hb;exact(Ix.pin (b,o) (List.mem_append_right _ (List.mem_append_right _ (eZ hb e)))).2.1
    cases b with
    | false =>
     rw[if_neg Bool.false_ne_true]at q7 ⊢;obtain⟨m',hm',w7⟩:=q7;obtain⟨e7,n7,st7,fr7⟩:=pinD (pp:=[]) I7;exact⟨m',hm',i+1,ys,its,k,H7,w7,(I7.pins_of (pins':=[]) λp hp=>by cases hp).weak hl6.symm hk6,st7,fr7,n7,e7,rv,hz⟩
    | true =>
     rw[if_pos rfl]at q7 ⊢;refine wpAny_mono (he C s2 H2 fp _ s7 σ6 H7 _ I7 q7) (λy' s8 ⟨y,H8,I8,r8,hlt,m',hm',w8⟩=> ?_) λ_ _ f=>f.elim;obtain⟨e8,n8,st8,fr8⟩:=pinD (pp:=[]) I8;have I8f:Inv (a8 X scope cl N C s2 H2 fp) (gE fp s5.heap) σ6 H8 s8:=I8.pins_of λp hp=>I8.pin p (List.mem_append_right _ (List.mem_append_right _ hp));have I8t:=I8f.track n8 e8 rv hz (by show s2.heap.objs.size<=D;rw[hDe];exact Nat.le_refl _) hDL hDX λp hp=>by
      have hp':p∈gE fp s5.heap:=by simpa [a8] using hp
      exact λz=>hDfp (z▸(vI hp').1)
     refine wpAny_mono (fA (X:=a8 X scope cl N C s2 H2 fp) (gE fp s5.heap) s8 σ6 _ (.ref D) [y] (.ref D) [y'] (λ_ H9=>H9=upd H8 D (.lst (ys++[y]))) I8t rfl (.cons r8 .nil)
      ⟨D,ys,y,rfl,rfl,aU,hlt,NC⟩) (λ_ s9 ⟨_,H9,I9,_,e9⟩=> ?_) λ_ _ f=>f.elim
     subst e9;obtain⟨hz9,its9,k9,rv9,e9⟩:=I9.hok D _ aU;have I9u:=I9.untrack n8;refine⟨m',hm',i+1,ys++[y],its9,k9,H8,w8,(I9u.pins_of (pins':=[]) λp hp=>by cases hp).weak hl6.symm hk6,?_,fr8,n8,e9,rv9,hz9⟩;exact T.keep _ _ _ st5 λb hb o e=>(I9u.pin (b,o) (List.mem_append_right _ (eZ hb e))).1
  .exact⟨0,[],[],0,H2,w0,I4,T.keep _ _ _ st2 λb hb o e=>old b o e,λb hb=>(f2 b hb).1,I2.hok.fresh (by rw[hDe];exact Nat.le_refl _),hacc,.nil,Nat.zero_le _⟩
 exact codeAny_compStart_list (loop _ rfl) (T.self _ 0 _ _ _ (T.keep _ _ _ st2 λb hb o e=>old b o e) (loop _ rfl))
theorem dG (hc:X.calm=true)(B:Blk X scope cl N nl ci)(hp:PI X tg iter wi)(hg:∀C s0 H0 fp,PG (a8 X scope cl N C s0 H0 fp) tg g)(hi:∀C s0 H0 fp,PF (a8 X scope cl N C s0 H0 fp) ifs ti)
  (he:∀C s0 H0 fp,PE (a8 X scope cl N C s0 H0 fp) elt te)(hs:∀x,foldedSetIterable iter X.env x=pure x:=by intro _;rfl):PE X (.ListComp elt [⟨tg,iter,ifs,0⟩] scope pos) (BR wi nl ci g ti te):=by
 intro pins s σ H Q I h;rw[eval_ListComp];refine wpAny_comprehension_free (use:=none) rfl hs B.clos B.kind B.names (thn (hp pins s σ H _ I h) λv s1 h1=>thn h1 λitv s2 h2=> ?_);obtain⟨it,fp,tn,J,H2,e,I2,T,st2,f2,hW⟩:=h2;subst e;refine EI (RR:=λacc C=>compPost (model X.prog X.w) X.A X.xe none (EP X pins σ Q) acc C) hc B hg hi he I2 T st2 f2 hW ?_;intro D C s' H' ys oC m hD K1 hn hC q;refine⟨m,hn,λh' hs'=> ?_⟩;have hL:C≠X.env.locals:=(K1.pin (C,oC) (by simp)).2.2.1;have I9:Inv X pins σ (upd H' D (.lst ys)) { s' with heap:=h',toks:=s'.toks }:=K1.unpinned.turned (t':=s'.toks) (it:=C) (λb o hb e=>hs'.extBut b o hb e) (K1.pin (C,oC) (by simp)).2.1 hL (.inr (Nat.le_trans I2.sz hC)) (λx c e z=> ?_) λp hp z=> ?_
 .exact⟨.ref D,_,I9,rfl,q D hD⟩
 .obtain⟨v,o,ho,_⟩:=I2.cell x c e;exact absurd (Nat.lt_of_lt_of_le (Heap.lt_size ho) (z▸hC)) (Nat.lt_irrefl _)
 .exact absurd (Nat.lt_of_lt_of_le (Heap.lt_size (I2.pin p hp).1) (z▸hC)) (Nat.lt_irrefl _)
theorem P6 {i:Nat}{pos' spos:Pos}(hN:X.N.Nodup)(hix:X.N[i]? =some x)(hx:Loc X.env.scope x)(hc:X.calm=true)(B:Blk X scope cl N nl ci)(hp:PI X tg iter wi)(hg:∀C s0 H0 fp,PG (a8 X scope cl N C s0 H0 fp) tg g)
  (hi:∀C s0 H0 fp,PF (a8 X scope cl N C s0 H0 fp) ifs ti)(he:∀C s0 H0 fp,PE (a8 X scope cl N C s0 H0 fp) elt te)
  (hsw:swapsWith (.ListComp elt [⟨tg,iter,ifs,0⟩] scope pos) (some (.Name x pos')) spos.line X.env=pure true:=by rfl)(hs:∀x,foldedSetIterable iter X.env x=pure x:=by intro _;rfl)
  (hf:X.fn x=true∨X.env.scope.names.lookup x=some .local:=by first|exact .inl rfl|exact .inr rfl|assumption) :
  PS X (.Assign [.Name x pos'] (.ListComp elt [⟨tg,iter,ifs,0⟩] scope pos) spos) (P8 (BR wi nl ci g ti te) (cN i)):=by
 intro pins s σ H D I h;rw[exec_Assign_Name_used _ _ _ _ hsw];refine wpAny_bind (wpAny_standAt (wpAny_bind ?_));show wpAny _ X.A (do let _ ←comprehension (.ListComp elt [⟨tg,iter,ifs,0⟩] scope pos) scope X.env _ (newList []) false (eval iter X.env) (some (assign (.Name x pos') X.env))) _ _ s;refine wpAny_bind (wpAny_mono (wpAny_comprehension_free (use:=some (assign (.Name x pos') X.env)) (Q:=λ_ s'=>SP X pins D .next s') rfl hs B.clos B.kind B.names
  (thn (hp pins s σ H _ I h) λv s1 h1=>thn h1 λitv s2 h2=> ?_)) (λ_ s' hq=>wpAny_pure (wpAny_pure hq)) λ_ _ e=>e)
 obtain⟨it,fp,tn,J,H2,e,I2,T,st2,f2,hW⟩:=h2;subst e;refine EI (RR:=λacc C=>compPost (model X.prog X.w) X.A X.xe (some (assign (.Name x pos') X.env)) (λ_ s'=>SP X pins D .next s') acc C) hc B hg hi he I2 T st2 f2 hW ?_;intro Dd C s' H' ys oC m hD K1 hn hC q;show wpAny _ X.A (assign (.Name x pos') X.env (.ref Dd)) _ _ _;refine thn (aZ (i:=i) hN hix hx hf (pins++[(C,oC)]) s' σ (upd H' Dd (.lst ys)) (.ref Dd) (.ref Dd) (λσ' H''=>D.nx σ' H'') K1 rfl (q Dd hD)) λ_ s'' ⟨σ',H'',K2,q2⟩=> ?_;have eC:=K2.pin (C,oC) (by simp);obtain⟨oC',es,ep,hoC,hdC,rC⟩:=id hn;have eo:oC'=oC:=by
  have:=(K1.pin (C,oC) (by simp)).1;rw[hoC]at this;exact Option.some.inj this
 subst eo;refine⟨m,⟨oC',es,ep,eC.1,hdC,rC⟩,λh' hs'=> ?_⟩;have hL:C≠X.env.locals:=eC.2.2.1;have I9:Inv X pins σ' H'' { s'' with heap:=h',toks:=s''.toks }:=K2.unpinned.turned (t':=s''.toks) (it:=C) (λb o hb e=>hs'.extBut b o hb e) eC.2.1 hL (.inr (Nat.le_trans I2.sz hC)) (λx c e z=> ?_) λp hp z=> ?_
 .exact⟨σ',H'',I9,q2⟩
 .obtain⟨v,o,ho,_⟩:=I2.cell x c e;exact absurd (Nat.lt_of_lt_of_le (Heap.lt_size ho) (z▸hC)) (Nat.lt_irrefl _)
 .exact absurd (Nat.lt_of_lt_of_le (Heap.lt_size (I2.pin p hp).1) (z▸hC)) (Nat.lt_irrefl _)
end
def Its (x:Str):It:=⟨λi _=>i<x.cps.size,λi H v H'=>H'=H/\∃c,x.cps[i]? =some c/\v= .str ⟨#[c]⟩,λi _=>i=x.cps.size⟩
theorem IS (it:Addr)(x:Str)(t:Tok)(ty:String)
  (hty:["enumerate","zip","dict_itemiterator","dict_reverseitemiterator","odict_iterator","itertools.zip_longest","itertools.pairwise"].contains ty=false)
  (W:∀A':Around,A'.handled=none->Walks P w A' it [it] [it] x.cps.size (SignAt x) (λi h=>h.IsStrIter it ty x t i))
  (hself:∀(A:Around) (i:Nat) (s:Shared) (Q:Value->Shared->Prop) (E:Value->Shared->Prop),s.heap.IsStrIter it ty x t i->Q (.ref it) s->wpAny (model P w) A (pyIter (.ref it)) Q E s) :
  uJ P w K tg (Its x) [it] it (λi h=>h.IsStrIter it ty x t i) where
 mem:=by simp
 obj:=λi h st b hb=>by
  have e:b=it:=by simpa using hb
  subst e;obtain⟨o,e,c,d⟩:=st;exact⟨o,e,λv z=>by rw[d]at z;cases z⟩
 keep:=λi h h' st k=>let ⟨o,ho,r⟩:=st;⟨o,k it (by simp) o ho,r⟩
 item:=by
  intro X hP hw hK hc i pins s σ H E I hf st hg;subst hP hw hK;obtain⟨f0,f1,f2,f3,f4,f5⟩:=hf it (by simp);refine(W X.A (I.ok.hd hc)).item i s _ _ hg st λv h' tk hv st' kk=> ?_;obtain⟨c,u,hc',rfl⟩:=hv;have I1:Inv X pins σ H { s with heap:=h',toks:=tk }:=I.turned (λb o hb e=>kk b o (by simpa using hb) e) f0 f1 f3 f4 f5;obtain⟨o,e,c1,d⟩:=id st';exact⟨_,rfl,GQ (s:={ s with heap:=h',toks:=tk }) e c1 d hty ⟨.str ⟨#[c]⟩,H,I1,⟨u,rfl⟩,⟨rfl,c,hc',rfl⟩,st',λb hb=>(hf b hb).1⟩⟩
 done:=by
  intro X hP hw hK hc i pins s σ H E I hf st hg;subst hP hw hK;obtain⟨f0,f1,f2,f3,f4,f5⟩:=hf it (by simp);have e:i=x.cps.size:=hg;subst e;exact(W X.A (I.ok.hd hc)).done s _ _ st λh' tk kk=>⟨rfl,I.turned (λb o hb e=>kk b o (by simpa using hb) e) f0 f1 f3 f4 f5⟩
 self:=hself
def aDX (tl:TE):TI:=λσ H R=>tl σ H λx H1=>∃z,x= .str z/\R (Its z) H1
theorem SG {l:Expr}{tl:TE}(hl:PE X l tl):PI X tg l (aDX tl):=by
 intro pins s σ H R I h;refine thn (hl pins s σ H _ I h) λv s1 ⟨x,H1,I1,rx,z,ez,q⟩=> ?_;subst ez;obtain⟨t,rfl⟩:=rx;cases ha:z.cps.all (·<128)
 .refine wpAny_pyIter_wide ha ⟨s1.heap.objs.size,[s1.heap.objs.size],_,Its z,H1,rfl,I1.kept (t':=s1.toks) λb u e=>Heap.get?_push_of_some _ e,IS _ z t "str_iterator" (by decide) (λA' hA=>Walks.strWide hA _ z t) (λ_ _ _ _ _ st h=>wpAny_pyIter_striter_wide st h),⟨_,Heap.get?_push_size _ rfl,rfl,rfl⟩,λb hb=> ?_,q⟩;have e:b=s1.heap.objs.size:=by simpa using hb
  subst e;exact I1.fpOk (Nat.le_refl _) (I1.hok.fresh (Nat.le_refl _))
 .refine wpAny_pyIter_ascii ha ⟨s1.heap.objs.size,[s1.heap.objs.size],_,Its z,H1,rfl,I1.kept (t':=s1.toks) λb u e=>Heap.get?_push_of_some _ e,IS _ z t "str_ascii_iterator" (by decide) (λA' hA=>Walks.strAscii hA _ z t) (λ_ _ _ _ _ st h=>wpAny_pyIter_striter_ascii st h),⟨_,Heap.get?_push_size _ rfl,rfl,rfl⟩,λb hb=> ?_,q⟩;have e:b=s1.heap.objs.size:=by simpa using hb
  subst e;exact I1.fpOk (Nat.le_refl _) (I1.hok.fresh (Nat.le_refl _))
theorem MK {J:It}{g:TG}(n:Nat)(f:Nat->V)(hn:n<=sizeLine)(Ok:Hp->Prop)(h0:Ok H1)
  (hst:∀H,Ok H->J.stop n H)(hgo:∀i H,i<n->Ok H->J.go i H)
  (hstep:∀i H x H',i<n->Ok H->J.yld i H x H'->g x σ0 H' λσ2 H2=>(σ2.length=σ0.length/\∀(j:Nat) v,σ0[j]? =some (some v)->σ2[j]? =some (some v))/\ti σ2 H2 λb H3=>b=true/\te σ2 H3 λy H4=>y=f i/\Ok H4)
  (mono:∀σ H (Q Q':Bool->Hp->Prop),(∀b H',Q b H'->Q' b H')->ti σ H Q->ti σ H Q')(mono2:∀σ H (Q Q':VK),(∀b H',Q b H'->Q' b H')->te σ H Q->te σ H Q')(mono3:∀x σ H (Q Q':St->Hp->Prop),(∀σ' H',Q σ' H'->Q' σ' H')->g x σ H Q->g x σ H Q')
  (hfin:∀H,Ok H->fin ((List.range n).map f) H):dD J g ti te σ0 fin H1:=by
 refine⟨λi m ys H=>m=n - i/\i<=n/\ys=(List.range i).map f/\Ok H,⟨n,by simp,Nat.zero_le _,rfl,h0⟩,?_⟩;rintro i m ys H ⟨rfl,hi,rfl,ok⟩
 by_cases hlt:i<n
 .refine .inr ⟨hgo i H hlt ok,λx H' y=> ?_⟩;refine mono3 _ _ _ _ _ (λσ' H'' q=>⟨q.1,mono _ _ _ _ (λb H3 q=> ?_) q.2⟩) (hstep i H x H' hlt ok y);obtain⟨rfl,q⟩:=q;rw[if_pos rfl];refine mono2 _ _ _ _ (λv H4 q=> ?_) q;obtain⟨rfl,ok4⟩:=q;refine⟨by rw[List.length_map,List.length_range];lia,n - (i+1),by lia,rfl,hlt,?_,ok4⟩;rw[List.range_succ,List.map_append];rfl
 .have e:i=n:=by lia
  subst e;exact .inl ⟨hst H ok,hfin H ok⟩
theorem HQ:∀bs:List Bool,(List.range bs.length).all (λi=>bs.getD i true)=bs.all id
 | []=>rfl
 | b::bs=>by
  rw[List.length_cons,List.range_succ_eq_map,List.all_cons,List.all_map,List.all_cons,←HQ bs];rfl
theorem C3 (hc:X.calm=true):cU X (.builtin "all") (λxs H Q=>∃(p:Addr) (bs:List Bool),xs=[.ref p]/\SqL X.K H p (bs.map V.bl)/\Q (.bl (bs.all id)) H):=by
 intro pins s σ H xs us Q I r h;obtain⟨p,bs,rfl,hq,q⟩:=h;obtain⟨u,rfl,rx⟩:=iJ r;cases rx;obtain⟨its,r',pl,hz⟩:=I.list hq;have hl:=pl.isList;have hlt:p<s.heap.objs.size:=by obtain⟨_,e,_⟩:=hl;exact Heap.lt_size e
 have hlen:bs.length=its.length:=by have:=r'.length;rw[List.length_map]at this;exact this
 refine call_all_walk (wpAny_pyIter_list hl ?_);refine⟨s.heap.objs.size,_,_,its.toArray.size,_,_,λi=>bs.getD i true,rfl,Walks.list (show X.A.in1.handled=none from I.ok.hd hc) s.heap.objs.size p (Nat.ne_of_lt hlt) its.toArray,⟨⟨_,Heap.get?_push_size _ rfl,rfl,rfl⟩,hl.push _⟩,?_,?_⟩
 .intro i v s' Q' E' hi hQ;have hi':its[i]? =some v:=by simpa using hi
  have hib:i<bs.length:=by rw[hlen];exact(List.getElem?_eq_some_iff.mp hi').1
  obtain⟨u,hu,ru⟩:=r'.get (i:=i) (x:=V.bl bs[i]) (by rw[List.getElem?_map,List.getElem?_eq_getElem hib];rfl);rw[hi']at hu;cases hu;have:v=Value.bool bs[i]:=ru;subst this;refine wpAny_truthy_bool ?_;have eb:bs.getD i true=bs[i]:=by rw[List.getD_eq_getElem?_getD,List.getElem?_eq_getElem hib];rfl
  have hQ':Q' (bs.getD i true) s':=hQ;rw[eb]at hQ';exact hQ'
 .intro h' tk hk;have eall:(List.range its.toArray.size).all (λi=>bs.getD i true)=bs.all id:=by
   rw[List.size_toArray,←hlen];exact HQ bs
  rw[eall];refine⟨.bl (bs.all id),H,?_,rfl,q⟩;have I1:Inv X pins σ H { s with heap:=s.heap.push { cls:= .type "list_iterator",data:= .fields #[.ref p,.int 0 0] },toks:=s.toks }:=I.kept λb u e=>Heap.get?_push_of_some _ e;obtain⟨f0,f1,f2,f3,f4,f5⟩:=I.fpOk (Nat.le_refl _) (I.hok.fresh (Nat.le_refl _));exact I1.turned (λb o hb e=>hk b o (by simpa using hb) e) f0 f1 f3 f4 f5
theorem LR:cU X (.builtin "isinstance") (λxs H Q=>∃x c t u b,xs=[x,c]/\jS X.K H x t/\RelV c u/\W.kitOne X.K t u=some b/\Q (.bl b) H):=by
 intro pins s σ H xs us Q I r h;obtain⟨x,c,t,u,b,rfl,ty,rc,e,q⟩:=h;obtain⟨v1,v2,rfl,r1,r2⟩:=GS r;have e2:v2=u:=by
  cases c with
  | non=>exact(show v2=_ from r2).trans (show u=_ from rc).symm
  | bl b=>exact(show v2=_ from r2).trans (show u=_ from rc).symm
  | ref b=>exact(show v2=_ from r2).trans (show u=_ from rc).symm
  | ty b=>exact(show v2=_ from r2).trans (show u=_ from rc).symm
  | int i =>
   obtain⟨t1,rfl⟩:=(show ∃t,u=_ from rc)
   cases ty<;>simp[W.kitOne,W.kitCls]at e
  | str i =>
   obtain⟨t1,rfl⟩:=(show ∃t,u=_ from rc)
   cases ty<;>simp[W.kitOne,W.kitCls]at e
  | byt i =>
   obtain⟨t1,rfl⟩:=(show ∃t,u=_ from rc)
   cases ty<;>simp[W.kitOne,W.kitCls]at e
  | flt i =>
   obtain⟨t1,rfl⟩:=(show ∃t,u=_ from rc)
   cases ty<;>simp[W.kitOne,W.kitCls]at e
 subst e2;exact TR I r1 ty e λtk=>⟨.bl b,H,I.tok tk,rfl,q⟩
theorem UX:OpR X (compareOp .LtE) (λx y H Q=>∃i j,x= .str i/\y= .str j/\Q (.bl (!decide (j.cps.toList<i.cps.toList))) H):=by
 intro pins s σ H x y v u Q I rx ry h;obtain⟨i,j,rfl,rfl,q⟩:=h;obtain⟨t,rfl⟩:=rx;obtain⟨t',rfl⟩:=ry;exact P.le_str ⟨.bl _,H,I,rfl,q⟩
theorem BN {v:Value}{o:Option Int}(p:IsPart v o):∃l:Option (Int×Tok),v=partValue l/\o=l.map (·.1):=by
 cases p with
 | none=>exact⟨none,rfl,rfl⟩
 | int i u=>exact⟨some (i,u),rfl,rfl⟩
def aDx:V->Option Int->Option Int->Hp->VK->Prop:=λx lo hi H Q=>∃z,x= .str z/\z.length<=sizeLine/\Q (.str (Txt.slice z lo hi)) H
theorem aDk:SlR X aDx:=by
 intro pins s σ H x v vl vu lo hi sl Q I rx hs pl pu h;obtain⟨z,rfl,hz,q⟩:=h;obtain⟨t,rfl⟩:=rx;obtain⟨l,rfl,rfl⟩:=BN pl;obtain⟨u,rfl,rfl⟩:=BN pu;refine⟨"str",_,F.slot_str_getitem.lookup,typeIs_str _ _ _,?_⟩;exact wpAny_getItem_str_slice (l:=l) (u:=u) (st:=none) hs rfl (post_val_or_str ⟨Nat.le_trans (Txt.slice_le z _ _) hz,λt' k=>⟨.str _,H,I.tok k,⟨t',rfl⟩,q⟩⟩)
theorem uI:∀{ys:List Str}{us:List Value},Vals (ys.map V.str) us->StrsAre us ys
 | [],_,.nil=> .nil
 | y::ys,_,.cons r t=>by
  obtain⟨u,rfl⟩:=r;exact .cons y u (uI t)
def AC (K:W.Frag):V->List V->Hp->VK->Prop:=λx vs H Q=>∃(z:Str) (p:Addr) (ys:List Str),x= .str z/\vs=[.ref p]/\SqL K H p (ys.map V.str)/\(ys.map (·.length)).sum+ys.length * z.length<=16777216/\Q (.str (Txt.join z ys)) H
theorem aBu:MtR X "str.join" (AC X.K):=by
 intro pins s σ H x xs v us Q I rx rs h;obtain⟨z,p,ys,rfl,rfl,hq,hz,q⟩:=h;obtain⟨t,rfl⟩:=rx;obtain⟨u,rfl,ru⟩:=iJ rs;cases ru;obtain⟨its,r',pl,_⟩:=I.list hq;exact join_list pl.isList (by rw[List.toList_toArray];exact uI r') hz λt' k=>⟨.str _,H,I.tok k,⟨t',rfl⟩,q⟩
def Z2 (xs:List (Str×NameKind))(XN:List Str)(ns:List (Str×NameKind))(N:List Str)(nl:Nat)(ci:List Nat):Bool :=
 (ns.all λy=>y.2 != .cell&&(y.2 != .local||ns.lookup y.1==some .local)&&(y.2 != .free||(xs.lookup y.1==some .cell&&ns.lookup y.1==some .free))) &&
 (N.length==nl+ci.length) &&
 (List.range ci.length).all λj=>match ci[j]?,N[nl+j]? with
  | some i,some n=>XN[i]? ==some n&&xs.lookup n==some .cell&&ns.lookup n==some .free
  | _,_=>false
def tP (ns:List (Str×NameKind))(cs:List (Str×Addr)):List (Str×Addr)->List (Str×Addr)
 | acc=>ns.foldl (λacc y=>if y.2== .free then (y.1,(cs.lookup y.1).getD 0)::acc else acc) acc
theorem uV:∀(ns:List (Str×NameKind)) (acc:List (Str×Addr)),(∀y∈ns,y.2= .free->∃c,env.cells.lookup y.1=some c) →
  (forIn ns acc λx r=>(do
   let (name,kind):=x
   if (kind==NameKind.free)=true then do
     let c ←cellOf env name
     pure (ForInStep.yield ((name,c)::r))
    else pure (ForInStep.yield r)):Sem (List (Str×Addr)))=pure (tP ns env.cells acc)
 | [],acc,_=>rfl
 | (n,k)::r,acc,h=>by
  have ih:=λacc=>uV r acc λy hy=>h y (List.mem_cons_of_mem _ hy);rw[List.forIn_cons]
  by_cases hk:k= .free
  .subst hk;obtain⟨c,e⟩:=h (n,.free) List.mem_cons_self rfl;have e1:cellOf env n=pure c:=by unfold cellOf;rw[e]
   simp only[beq_self_eq_true,if_true,e1];show (forIn r ((n,c)::acc) _:Sem (List (Str×Addr)))=_;rw[ih];show _=pure (tP ((n,NameKind.free)::r) env.cells acc);simp only[tP,List.foldl_cons,beq_self_eq_true,if_true,e,Option.getD_some]
  .have hb:(k==NameKind.free)=false:=by simpa using hk
   simp only[hb,Bool.false_eq_true,if_false];show (forIn r acc _:Sem (List (Str×Addr)))=_;rw[ih];simp only[tP,List.foldl_cons,hb,Bool.false_eq_true,if_false]
theorem i9 {cs:List (Str×Addr)}:∀(ns:List (Str×NameKind)) (acc:List (Str×Addr)) (n:Str),(∀y∈ns,y.2= .free->∃c,cs.lookup y.1=some c) →
  ((n,NameKind.free)∈ns∨acc.lookup n=cs.lookup n)->(∀c,acc.lookup n=some c->cs.lookup n=some c)->(tP ns cs acc).lookup n=cs.lookup n
 | [],acc,n,_,h,_=>by
  rcases h with h|h
  .cases h
  .exact h
 | (m,k)::r,acc,n,hc,h,hs=>by
  have hc':∀y∈r,y.2= .free->∃c,cs.lookup y.1=some c:=λy hy=>hc y (List.mem_cons_of_mem _ hy);show (tP r cs (if k== .free then (m,(cs.lookup m).getD 0)::acc else acc)).lookup n=cs.lookup n
  by_cases hk:k= .free
  .subst hk;obtain⟨c,e⟩:=hc (m,.free) List.mem_cons_self rfl;simp only[beq_self_eq_true,if_true,e,Option.getD_some]
   by_cases hm:n=m
   .subst hm;have q:List.lookup n ((n,c)::acc)=some c:=by simp[List.lookup_cons]
    exact i9 r _ n hc' (.inr (q.trans e.symm)) λc' z=>by rw[q]at z;cases z;exact e
   .have hb:(n==m)=false:=by simpa using hm
    have q:List.lookup n ((m,c)::acc)=acc.lookup n:=by simp[List.lookup_cons,hb]
    refine i9 r _ n hc' ?_ λc' z=>hs c' (q▸z);rcases h with h|h
    .rcases List.mem_cons.mp h with z|z
     .cases z;exact absurd rfl hm
     .exact .inl z
    .exact .inr (q.trans h)
  .have hb:(k==NameKind.free)=false:=by simpa using hk
   simp only[hb,Bool.false_eq_true,if_false];refine i9 r _ n hc' ?_ hs;rcases h with h|h
   .rcases List.mem_cons.mp h with z|z
    .cases z;exact absurd rfl hk
    .exact .inl z
   .exact .inr h
theorem J2 {cs:List (Str×Addr)}:∀(ns:List (Str×NameKind)) (acc:List (Str×Addr)),(∀y∈ns,y.2= .free->∃c,cs.lookup y.1=some c) →
  (∀n c,acc.lookup n=some c->cs.lookup n=some c)->∀n c,(tP ns cs acc).lookup n=some c->cs.lookup n=some c
 | [],acc,_,hs,n,c,h=>hs n c h
 | (m,k)::r,acc,hc,hs,n,c,h=>by
  have hc':∀y∈r,y.2= .free->∃c,cs.lookup y.1=some c:=λy hy=>hc y (List.mem_cons_of_mem _ hy);have h':(tP r cs (if k== .free then (m,(cs.lookup m).getD 0)::acc else acc)).lookup n=some c:=h;refine J2 r _ hc' ?_ n c h';intro n' c' z
  by_cases hk:k= .free
  .subst hk;obtain⟨d,e⟩:=hc (m,.free) List.mem_cons_self rfl;simp only[beq_self_eq_true,if_true,e,Option.getD_some]at z
   by_cases hm:n'=m
   .subst hm;simp[List.lookup_cons]at z;subst z;exact e
   .have hb:(n'==m)=false:=by simpa using hm
    simp[List.lookup_cons,hb]at z;exact hs n' c' z
  .have hb:(k==NameKind.free)=false:=by simpa using hk
   simp only[hb,Bool.false_eq_true,if_false]at z;exact hs n' c' z
theorem lG (hkf:env.scope.kind= .function):∀{names:List (Str×NameKind)}{x:Str},names.lookup x=some .free->env.kindOf x=some .cell →
  (names.map λ(n,k)=>if (k==NameKind.free&&env.scope.kind== .function&&env.kindOf n==some .cell) then (n,NameKind.cell) else (n,k)).lookup x=some .cell
 | [],_,h,_=>by simp at h
 | (n,k)::r,x,h,hc=>by
  show List.lookup x ((if (k==NameKind.free&&env.scope.kind== .function&&env.kindOf n==some .cell)=true then (n,NameKind.cell) else (n,k))::_)=_;cases hx:x==n with
  | true =>
   simp only[List.lookup_cons,hx]at h;cases h;have e:x=n:=by simpa using hx
   subst e;rw[hkf,hc];simp[List.lookup_cons]
  | false =>
   simp only[List.lookup_cons,hx]at h;have ih:=lG hkf h hc
   split
   .simp only[List.lookup_cons,hx];exact ih
   .simp only[List.lookup_cons,hx];exact ih
theorem gO:∀{names:List (Str×NameKind)}{x:Str}{k':NameKind},(∀y∈names,y.2≠ .cell)->(k'= .cell∨k'= .free) →
  (names.map λ(n,k)=>if (k==NameKind.free&&env.scope.kind== .function&&env.kindOf n==some .cell) then (n,NameKind.cell) else (n,k)).lookup x=some k'->(x,NameKind.free)∈names
 | [],_,_,_,_,h=>by simp at h
 | (n,k)::r,x,k',hn,hk',h=>by
  have h':List.lookup x ((if (k==NameKind.free&&env.scope.kind== .function&&env.kindOf n==some .cell)=true then (n,NameKind.cell) else (n,k))::r.map _)=some k':=h;cases hx:x==n with
  | true =>
   have e:x=n:=by simpa using hx
   subst e
   by_cases hf:k= .free
   .subst hf;exact List.mem_cons_self
   .have hb:(k==NameKind.free)=false:=by simpa using hf
    simp only[hb,Bool.false_and,Bool.false_eq_true,if_false,List.lookup_cons,hx]at h';cases h';rcases hk' with z|z
    .exact absurd z (hn (x,k) List.mem_cons_self)
    .exact absurd z hf
  | false =>
   have h2:List.lookup x (r.map λ(n,k)=>if (k==NameKind.free&&env.scope.kind== .function&&env.kindOf n==some .cell) then (n,NameKind.cell) else (n,k))=some k':=by
    split at h'
    .simp only[List.lookup_cons,hx]at h';exact h'
    .simp only[List.lookup_cons,hx]at h';exact h'
   exact List.mem_cons_of_mem _ (gO (λy hy=>hn y (List.mem_cons_of_mem _ hy)) hk' h2)
theorem blk (n0:Nat)(hX:X.env.cells=cellsFrom n0 X.env.scope.names [])(hkf:X.env.scope.kind= .function)(hk:scope.kind= .function)
  (h:Z2 X.env.scope.names X.N scope.names N nl ci=true):Blk X scope (tP scope.names X.env.cells []) N nl ci:=by
 unfold Z2 at h;rw[Bool.and_eq_true,Bool.and_eq_true]at h;obtain⟨⟨h1,h2⟩,h3⟩:=h;rw[List.all_eq_true]at h1;have h1':∀y∈scope.names,y.2≠ .cell/\(y.2= .local->scope.names.lookup y.1=some .local)/\(y.2= .free->X.env.scope.names.lookup y.1=some .cell/\scope.names.lookup y.1=some .free):=λy hy=>by
  have q:=h1 y hy;simp only[Bool.and_eq_true,Bool.or_eq_true,bne_iff_ne,ne_eq,beq_iff_eq]at q;obtain⟨⟨q1,q2⟩,q3⟩:=q;exact⟨q1,λe=>q2.resolve_left λz=>z e,λe=>q3.resolve_left λz=>z e⟩
 have hcs:∀y∈scope.names,y.2= .free->∃c,X.env.cells.lookup y.1=some c:=λy hy e=>by
  rw[hX];exact yU ((h1' y hy).2.2 e).1
 refine⟨hk,λy hy=>(h1' y hy).2.1,λy hy=>(h1' y hy).1,?_,?_,?_,by simpa using h2,?_⟩
 .unfold closureFor;refine(congrArg (λm:Sem (List (Str×Addr))=>m >>= λcs=>pure cs) (uV scope.names [] hcs)).trans ?_;rfl
 .exact J2 scope.names [] hcs λn c z=>by cases z
 .intro n hn;have hm:(n,NameKind.free)∈scope.names:=by
   rcases hn with z|z
   .exact gO (λy hy=>(h1' y hy).1) (.inl rfl) z
   .exact gO (λy hy=>(h1' y hy).1) (.inr rfl) z
  obtain⟨c,e⟩:=hcs _ hm rfl;exact⟨c,(i9 scope.names [] n hcs (.inl hm) λc z=>by cases z).trans e⟩
 .intro j i hj;have hjl:j<ci.length:=(List.getElem?_eq_some_iff.mp hj).1;rw[List.all_eq_true]at h3;have q:=h3 j (List.mem_range.mpr hjl);rw[hj]at q;cases e:N[nl+j]? with
  | none=>rw[e]at q;cases q
  | some n =>
   rw[e]at q;simp only[Bool.and_eq_true,beq_iff_eq]at q;obtain⟨⟨q1,q2⟩,q3⟩:=q;refine⟨n,rfl,q1,.inl q2,.inl (lG hkf q3 q2),?_⟩;exact i9 scope.names [] n hcs (.inl (PySem.mem_of_lookup q3)) λc z=>by cases z
structure Fc (P:Program)(w:World)(K:W.Frag)(mg:Str->Option Value)(base:Heap)(x:Str)(k:Nat)(ps:List Str)(sp:Sp):Prop where
 ex:∃f fd,mg x=some (.ref f)/\W.keepIn K (.ref f)=true/\Binds K fd ps []/\FnOk P w K mg base CX0 k f fd ps sp
theorem bT {k:Nat}{ps:List Str}{t:TA}{p pos:Pos}(F:Fc X.prog X.w X.K X.mg X.base x k ps sp)(hr:Room k' X.A)(ha:PA X (e::es) t)(hk:k<=k':=by decide)(hg:Gl X x:=by rfl)
  (hdb:(x==("__debug__" :Str))=false:=by decide)(he:starEach (e::es) X.env=(false,eval e X.env)::starEach es X.env:=by rfl)(hpl:(backTo pos (starEach es X.env)).any (·.1)=false:=by rfl) :
  PE X (.Call (.Name x p) (e::es) [] pos) (j8 sp [] E0 t):=by
 obtain⟨f,fd,hm,kp,b,G⟩:=F.ex;exact DG G (hr.mono hk) hg hm kp b .nil wQ ha hdb he hpl
theorem A0 {n:String}(hg:Gl X x)(hm:X.mg x=none)(hv:bootBuiltins x=some (.type n))(hn:x≠ "__name__" :=by decide)(hd:(x==("__debug__" :Str))=false:=by decide):PE X (.Name x pos) (tC (.ty n)):=aAz hg hm hv rfl hn hd
variable {i lo:Int}{tk:Tok}
theorem MQ {t:Tok}(hg:Gl X x)(hm:X.mg x=some (.int i t))(hd:(x==("__debug__" :Str))=false:=by decide):PE X (.Name x pos) (tC (.int i)):=MW hg hm ⟨t,rfl⟩ hd
theorem kA (hg:Gl X x)(hm:X.mg x=some (.ref a))(hd:(x==("__debug__" :Str))=false:=by decide):PE X (.Name x pos) (tC (.ref a)):=MW hg hm rfl hd
theorem dL:bootBuiltins "isinstance" =some (.builtin "isinstance"):=by decide +kernel
theorem IK:bootBuiltins "all" =some (.builtin "all"):=by decide +kernel
theorem c5:bootBuiltins "len" =some (.builtin "len"):=by decide +kernel
theorem TV:bootBuiltins "int" =some (.type "int"):=by decide +kernel
theorem hZ:bootBuiltins "str" =some (.type "str"):=by decide +kernel
theorem aAM:bootBuiltins "bool" =some (.type "bool"):=by decide +kernel
theorem MN:bootBuiltins "list" =some (.type "list"):=by decide +kernel
theorem JD:bootBuiltins "tuple" =some (.type "tuple"):=by decide +kernel
theorem aBL:bootBuiltins "dict" =some (.type "dict"):=by decide +kernel
inductive BTy (K:W.Frag)(H:Hp):V->String->Prop where
 | non:BTy K H .non "NoneType"
 | bl (x:Bool):BTy K H (.bl x) "bool"
 | int (i:Int):BTy K H (.int i) "int"
 | str (x:Str):BTy K H (.str x) "str"
 | lst {a:Addr}{xs:List V} (e:H a=some (.lst xs)):BTy K H (.ref a) "list"
 | tup {a:Addr}{xs:List V} (e:H a=some (.tup xs)):BTy K H (.ref a) "tuple"
 | dK {a:Addr}{kvs:List (Key×V)} (e:H a=some (.dK kvs)):BTy K H (.ref a) "dict"
theorem BTy.ty {x:V}{n:String}(b:BTy K H x n):jS K H x (.type n):=by
 cases b with
 | non=>exact .non
 | bl=>exact .bl _
 | int=>exact .int _
 | str=>exact .str _
 | lst e=>exact .lst e
 | tup e=>exact .tup e
 | dK e=>exact .dK e
def isB (n c:String):Bool:=n==c||(n== "bool" &&c== "int")
theorem GW {x:V}{n:String}(b:BTy K H x n)(c:String)(hc:c= "int" ∨c= "bool" ∨c= "str"):W.kitOne K (.type n) (.type c)=some (isB n c):=by
 cases b<;>rcases hc with rfl|rfl|rfl<;>kernel_rfl
theorem FB {J:It}(n:Nat)(Ok:Nat->List V->Hp->Prop)(hn:n<=sizeLine)(h00:σ0[0]? =some none)(h0:Ok 0 [] H1)(hlen:∀i ys H,Ok i ys H->ys.length<=i)
  (hst:∀ys H,Ok n ys H->J.stop n H/\fin ys H)(hstep:∀i ys H,i<n->Ok i ys H->J.go i H/\∀x H',J.yld i H x H'->∀R:VK,(∀y H4,Ok (i+1) (ys++[y]) H4->R y H4)->te (σ0.set 0 (some x)) H' R):dD J (cN 0) pU te σ0 fin H1:=by
 refine⟨λi m ys H=>m=n - i/\i<=n/\Ok i ys H,⟨n,by simp,Nat.zero_le _,h0⟩,?_⟩;rintro i m ys H ⟨rfl,hi,ok⟩
 by_cases hlt:i<n
 .obtain⟨go,st⟩:=hstep i ys H hlt ok;refine .inr ⟨go,λx H' y=>⟨⟨by simp,λj v hv=> ?_⟩,?_⟩⟩
  .cases j with
   | zero=>rw[h00]at hv;cases hv
   | succ j=>rw[List.getElem?_set_ne (by lia)];exact hv
  .unfold pU
   dsimp only
   rw[if_pos rfl];exact st x H' y _ λz H4 ok4=>⟨by have:=hlen i ys H ok;lia,n - (i+1),by lia,rfl,hlt,ok4⟩
 .have e:i=n:=by lia
  subst e;exact .inl (hst ys H ok)
theorem QK (Ok:Nat->List V->Hp->Prop)(hn:n<=sizeLine)(h00:σ0[0]? =some none)(h0:Ok 0 [] H1)(hlen:∀i ys H,Ok i ys H->ys.length<=i)(hfin:∀ys H,Ok n ys H->fin ys H)
  (hstep:∀i ys H,i<n->Ok i ys H->∀R:VK,(∀y H4,Ok (i+1) (ys++[y]) H4->R y H4)->te (σ0.set 0 (some (.int (lo+i)))) H R):dD (Itr lo n) (cN 0) pU te σ0 fin H1 :=
 FB n Ok hn h00 h0 hlen (λys H ok=>⟨Nat.le_refl _,hfin ys H ok⟩) λi ys H hi ok=>⟨hi,λx H' y=>by
  obtain⟨e1,e2⟩:=y;subst e1 e2;exact hstep i ys _ hi ok⟩
theorem SN (Ok:Nat->List V->Hp->Prop)(hn:xs.length<=sizeLine)(h00:σ0[0]? =some none)(h0:Ok 0 [] H1)(hlen:∀i ys H,Ok i ys H->ys.length<=i)
  (hl:∀i ys H,Ok i ys H->SqL K H a xs)(hfin:∀ys H,Ok xs.length ys H->fin ys H)
  (hstep:∀i x ys H,xs[i]? =some x->Ok i ys H->∀R:VK,(∀y H4,Ok (i+1) (ys++[y]) H4->R y H4)->te (σ0.set 0 (some x)) H R):dD (Itl K a) (cN 0) pU te σ0 fin H1 :=
 FB xs.length Ok hn h00 h0 hlen (λys H ok=>⟨⟨xs,hl _ _ _ ok,Nat.le_refl _⟩,hfin ys H ok⟩) λi ys H hi ok=>⟨⟨xs,xs[i],hl _ _ _ ok,List.getElem?_eq_getElem hi⟩,λx H' y=>by
  obtain⟨e1,e2⟩:=y;subst e1;exact hstep i x ys _ (e2 xs (hl _ _ _ ok)) ok⟩
structure FunV (K:W.Frag)(x qual:Str)(st:Stmt)(f:Addr)(fd:FuncData):Prop where
 ex:∃(oc:Value) (od:Option Addr) (dV kV doc pm:Value) (an:Option Addr) (cdv ct:Value) (osl:Array (Option Value)),
  fd=W.fnOf x qual (eQ st) (c8 st) (aH st) dV kV doc pm an cdv ct/\K.lookup f=some ⟨oc,od,.func fd,osl⟩/\W.codeIn K cdv qual=true
 kp:W.keepIn K (.ref f)=true
variable {an od:Option Addr}
theorem FunV.ok {st:Stmt}{f:Addr}{ps:List Str}{k:Nat}(F:FunV K x qual st f fd)(S:aN N ps (aH st))(len:∀vs H Q E,sp vs H Q E->vs.length=ps.length)
  (hbody:∀(cdv:Value) (A:Around) (outer:List Env) (s:Shared) (H:Hp) (vs:List V) (Q:VK) (E:XK),Room k (A.deeper (envOfC qual (aH st) s.heap.objs.size f cdv))->sp vs H Q E →
   ∃t,PSs (b7 CX0 P w K mg base N qual (aH st) f cdv A outer s H E).nox (c8 st) t/\t { nx:=λ_ H'=>Q .non H',rt:=Q } (jE N vs) H):FnOk P w K mg base CX0 (k+1) f fd ps sp:=by
 obtain⟨oc,od,dV,kV,doc,pm,an,cdv,ct,osl,rfl,lk,hcd⟩:=F.ex;refine P4 lk hcd S len λA outer s H vs Q E hr h=> ?_;obtain⟨t,h1,h2⟩:=hbody cdv A outer s H vs Q E hr h;exact⟨t,PSs.nox h1,h2⟩
theorem sZ {st:Stmt}{f:Addr}{osl:Array (Option Value)}{dV kV ct:Value}(l:K.lookup f=some ⟨oc,od,.func (W.fnOf x qual (eQ st) (c8 st) (aH st) dV kV doc pm an cdv ct),osl⟩)(c:W.codeIn K cdv qual=true)
  (k:W.keepIn K (.ref f)=true):FunV K x qual st f (W.fnOf x qual (eQ st) (c8 st) (aH st) dV kV doc pm an cdv ct):=⟨⟨oc,od,dV,kV,doc,pm,an,cdv,ct,osl,rfl,l,c⟩,k⟩
structure Mc (P:Program)(w:World)(K:W.Frag)(mg:Str->Option Value)(base:Heap)(C:Addr)(nm:Str)(k:Nat)(sp:Sp):Prop where
 ex:∃f fd ps,Cls K C/\Meth K C nm f/\Binds K fd ps []/\FnOk P w K mg base CX0 k f fd ps sp
structure Kc (P:Program)(w:World)(K:W.Frag)(mg:Str->Option Value)(base:Heap)(x:Str)(C:Addr)(k:Nat)(dvs:List V)(sp:Sp):Prop where
 ex:∃f fd ps ds,mg x=some (.ref C)/\Mk K C f/\Vals dvs ds/\Binds K fd ps ds/\FnOk P w K mg base CX0 k f fd ps sp
variable {pl:Sem Bool}
section
variable {k:Nat}{p:Pos}{t:TA}
def tMD (M:Addr->Sp->Prop)(m:Str)(ta:TE)(t:TA):TE:=λσ H Q=>ta σ H λx H1=>∃a C dx fs sp,x= .ref a/\H1 a=some (.ins C dx fs)/\fs.lookup m=none/\M C sp/\t σ H1 λvs H2=>sp (x::vs) H2 Q E0
theorem QU (k:Nat){pl:Sem Bool}(hr:Room k' X.A)(ho:PE X o ta)(ha:PA X (e::es) t)(hk:k<=k':=by decide)
  (hst:starEach (e::es) X.env=(false,eval e X.env)::starEach es X.env:=by rfl)(hpl:(backTo pos (starEach es X.env)).any (·.1)=false:=by rfl)
  (ht:eval (.Call (.Attribute o m apos) (e::es) [] pos) X.env=(do
   let ov ←eval o X.env
   standAt apos.atName
   let (f,first) ←holding [ov] (getMethod ov m pl)
   callWith pos f first (backTo pos (starEach (e::es) X.env)) (backToKw pos (keywordEach [] X.env))):=by rfl) :
  PE X (.Call (.Attribute o m apos) (e::es) [] pos) (tMD (λC sp=>Mc X.prog X.w X.K X.mg X.base C m k sp) m ta t):=by
 intro pins s σ H Q I h;refine W.methodCall_KW (pl:=pl) (thn (ho pins s σ H _ I h) λu s1 ⟨x,H1,I1,rx,a,C,dx,fs,sp,ex,ea,l,M,q⟩=> ?_) ht;subst ex;obtain rfl:u=Value.ref a:=rx;obtain⟨f,fd,ps,c,hm,hb,F⟩:=M.ex;refine A5 I1 ea c hm l ?_;refine W.callWith_K (first:=[.ref a]) (h₀:=X.base) I.ok.mod.kin hm.kp (thn (ha pos pins s1 σ H1 _ I1 q) λus s2 ⟨vs,H2,I2,r,q2⟩=>⟨I2.kIn,?_⟩) hst hpl;exact vT (us:= .ref a::us) (vs:= .ref a::vs) (dvs:=[]) F (hr.mono hk) hb .nil wQ I2 (.cons rfl r) (by rw[List.append_nil];exact q2)
theorem sW (k:Nat){pl:Sem Bool}(hr:Room k' X.A)(ho:PE X o ta)(hk:k<=k':=by decide)
  (ht:eval (.Call (.Attribute o m apos) [] [] pos) X.env=(do
   let ov ←eval o X.env
   standAt apos.atName
   let (f,first) ←holding [ov] (getMethod ov m pl)
   callWith pos f first (backTo pos (starEach [] X.env)) (backToKw pos (keywordEach [] X.env))):=by rfl) :
  PE X (.Call (.Attribute o m apos) [] [] pos) (tMD (λC sp=>Mc X.prog X.w X.K X.mg X.base C m k sp) m ta CM):=by
 intro pins s σ H Q I h;refine W.methodCall_KW (pl:=pl) (thn (ho pins s σ H _ I h) λu s1 ⟨x,H1,I1,rx,a,C,dx,fs,sp,ex,ea,l,M,q⟩=> ?_) ht;subst ex;obtain rfl:u=Value.ref a:=rx;obtain⟨f,fd,ps,c,hm,hb,F⟩:=M.ex;refine A5 I1 ea c hm l ?_;exact W.callWith_K0 (first:=[.ref a]) I1.kIn hm.kp (vT (us:=[.ref a]) (vs:=[.ref a]) (dvs:=[]) F (hr.mono hk) hb .nil wQ I1 (.cons rfl .nil) q)
theorem GE (F:Kc X.prog X.w X.K X.mg X.base x C k dvs sp)(hr:Room k' X.A)(ha:PA X (e::es) t)(hk:k+1<=k':=by decide)(hg:Gl X x:=by rfl)
  (hdb:(x==("__debug__" :Str))=false:=by decide)(he:starEach (e::es) X.env=(false,eval e X.env)::starEach es X.env:=by rfl)(hpl:(backTo pos (starEach es X.env)).any (·.1)=false:=by rfl) :
  PE X (.Call (.Name x p) (e::es) [] pos) (GK C sp dvs E0 t):=by
 obtain⟨f,fd,ps,ds,hm,M,hd,hb,G⟩:=F.ex;exact aAE M G (hr.mono hk) hg hm hb hd wQ ha hdb he hpl
structure Dc (P:Program)(w:World)(K:W.Frag)(mg:Str->Option Value)(base:Heap)(x m:Str)(k:Nat)(sp:Sp):Prop where
 ex:∃C f fd ps,mg x=some (.ref C)/\W.specialIn K (.ref C) "__getattribute__" =some (some (.builtin "type.__getattribute__"))/\W.readsIn K C (.type "type")=true/\W.findCls K (.ref C) (.type "type") m=some (.val (.ref f)) ∧
  W.keepIn K (.ref f)=true/\Binds K fd ps []/\FnOk P w K mg base CX0 k f fd ps sp
theorem aAa {pl:Sem Bool}(F:Dc X.prog X.w X.K X.mg X.base x m k sp)(hr:Room k' X.A)(ha:PA X (e::es) t)(hk:k<=k':=by decide)(hg:Gl X x:=by rfl)(hdb:(x==("__debug__" :Str))=false:=by decide)
  (hst:starEach (e::es) X.env=(false,eval e X.env)::starEach es X.env:=by rfl)(hpl:(backTo pos (starEach es X.env)).any (·.1)=false:=by rfl)
  (ht:eval (.Call (.Attribute (.Name x p) m apos) (e::es) [] pos) X.env=(do
   let ov ←eval (.Name x p) X.env
   standAt apos.atName
   let (f,first) ←holding [ov] (getMethod ov m pl)
   callWith pos f first (backTo pos (starEach (e::es) X.env)) (backToKw pos (keywordEach [] X.env))):=by rfl) :
  PE X (.Call (.Attribute (.Name x p) m apos) (e::es) [] pos) (j8 sp [] E0 t):=by
 intro pins s σ H Q I h;obtain⟨C,f,fd,ps,hm,hga,hrd,hfc,kp,hb,G⟩:=F.ex;refine W.methodCall_KW (pl:=pl) (dI I hg hm ?_ hdb) ht;refine W.method_cls I.kIn hga (W.cls_value I.kIn hrd hfc (vH (v:= .ref f) rfl) ?_);have I1:=I.tok (s.toks+1);refine W.callWith_K (first:=[]) (h₀:=X.base) I.ok.mod.kin kp (thn (ha pos pins _ σ H _ I1 h) λus s2 ⟨vs,H2,I2,r,q2⟩=>⟨I2.kIn,?_⟩) hst hpl;exact vT G (hr.mono hk) hb .nil wQ I2 r q2
end
def ZX:R2:=λx y H Q=>∃i j,x= .str i/\y= .str j/\i.length+j.length<=sizeLine/\Q (.str (i++j)) H
def aDl:R2:=λx y H Q=>y= .non/\Q (.bl (decide (x= .non))) H
def PV:R2:=λx y H Q=>y= .non/\Q (.bl (!decide (x= .non))) H
def aGa:R2:=λx y H Q=>∃i j,x= .str i/\y= .str j/\Q (.bl (!decide (j.cps.toList<i.cps.toList))) H
def aF1 (K:W.Frag):List V->Hp->VK->Prop:=λxs H Q=>∃x c t u b,xs=[x,c]/\jS K H x t/\RelV c u/\W.kitOne K t u=some b/\Q (.bl b) H
def aCS (K:W.Frag):List V->Hp->VK->Prop:=λxs H Q=>∃(p:Addr) (bs:List Bool),xs=[.ref p]/\SqL K H p (bs.map V.bl)/\Q (.bl (bs.all id)) H
def aAd:List V->Hp->VK->Prop:=λxs H Q=>∃z,xs=[.str z]/\z.length<=sizeLine/\Q (.int z.length) H
def ZZ (K:W.Frag):List V->Hp->VK->Prop:=λxs H Q=>∃p ys,xs=[.ref p]/\(SqL K H p ys∨SqT K H p ys)/\Q (.int ys.length) H
def QX:List V->Hp->VK->Prop:=λxs H Q=>∃i,xs=[.int i]/\i.natAbs.log2<1920/\Q (.str (toString i)) H
theorem bB:OpR X (binaryOp .Add) ZX:=PM
theorem aDr:OpR X (compareOp .Is) aDl:=aDs
theorem aBh:OpR X (compareOp .IsNot) PV:=aBP
theorem AX:OpR X (compareOp .LtE) aGa:=UX
theorem uL:cU X (.builtin "isinstance") (aF1 X.K):=LR
theorem yK (hc:X.calm=true):cU X (.builtin "all") (aCS X.K):=C3 hc
theorem vE:cU X (.builtin "len") aAd:=G0
theorem cE:cU X (.builtin "len") (ZZ X.K):=JF
theorem fE:cU X (.type "str") QX:=G6
def t0 (P:Bool->Hp->Prop):VK:=λx H=>∃k,x= .bl k/\P k H
def aCx (O:Option Int->Hp->Prop):VK:=λx H=>∃i,x= .int i/\O (some i) H
def aEe (Q:VK):List V->Hp->Prop:=λxs H=>xs.length<=sizeLine/\∀p,H p=none->Q (.ref p) (upd H p (.lst xs))
def aCE (Q:VK):List V->Hp->Prop:=λxs H=>xs.length<=sizeLine/\∀p,H p=none->Q (.ref p) (upd H p (.tup xs))
def aDR (Q:VK):List V->Hp->Prop:=λys H=>∀p,H p=none->Q (.ref p) (upd H p (.lst ys))
def aCt (K:W.Frag)(f:Str)(Q:VK):VK:=λx H=>∃a C dx fs v,x= .ref a/\H a=some (.ins C dx fs)/\Cls K C/\NoAttr K C f/\fs.lookup f=some v/\Q v H
def aAp (K:W.Frag)(f:Str)(y:V)(q:Hp->Prop):VK:=λx H=>∃a C dx fs,x= .ref a/\H a=some (.ins C dx fs)/\Cls K C/\NoAttr K C f/\fs.length<1000/\q (upd H a (.ins C dx (cG f y fs)))
def MdP (M:Addr->Sp->Prop)(m:Str)(t:TA)(σ:St)(Q:VK):VK:=λx H=>∃a C dx fs sp,x= .ref a/\H a=some (.ins C dx fs)/\fs.lookup m=none/\M C sp/\t σ H λvs H2=>sp (x::vs) H2 Q E0
def uH (C:Addr)(sp:Sp)(dvs:List V)(E:XK)(Q:VK):List V->Hp->Prop:=λvs H1=>∀x dx,H1 x=none->H1 dx=none->dx≠x →
 sp (.ref x::(vs++dvs)) (upd (upd H1 dx (.own x)) x (.ins C dx [])) (λv H2=>v= .non/\Q (.ref x) H2) E
def BmP (K:W.Frag)(T:String)(r:V->List V->Hp->VK->Prop)(t:TA)(σ:St)(Q:VK):VK:=λx H1=>tyV K T x H1/\t σ H1 λxs H2=>r x xs H2 Q
def aCD (K:W.Frag)(R:It->Hp->Prop):VK:=λx H1=>∃a,x= .ref a/\(∃xs,SqL K H1 a xs)/\R (Itl K a) H1
def aD7 (R:It->Hp->Prop):VK:=λx H1=>∃z,x= .str z/\R (Its z) H1
def aCu (R:It->Hp->Prop):List V->Hp->Prop:=λvs H1=>∃j:Int,vs=[.int j]/\ -(2^62)<=j/\j<2^62/\R (Itr 0 j.toNat) H1
variable {tb:TS}{ct nx:St->Hp->Prop}{rt:VK}
section
variable {bk:St->Hp->Prop}{Q:VK}{t u:TS}{tb tc:TE}{g:TG}{c d:TT}{E:XK}
theorem aCT (h:t ⟨u ⟨nx,rt,bk,ct⟩,rt,bk,ct⟩ σ H):DT t u ⟨nx,rt,bk,ct⟩ σ H:=h
theorem NG (R:St->Hp->Prop)(h2:∀σ' H',R σ' H'->u ⟨nx,rt,bk,ct⟩ σ' H')(h1:∀nx':St->Hp->Prop,(∀σ' H',R σ' H'->nx' σ' H')->t ⟨nx',rt,bk,ct⟩ σ H):DT t u ⟨nx,rt,bk,ct⟩ σ H:=h1 _ h2
theorem XI {v:TS}(h:DT (RL c t u) v ⟨nx,rt,bk,ct⟩ σ H):DT (RL c t u) v ⟨nx,rt,bk,ct⟩ σ H:=h
theorem aBo (h:nx σ H):aAf ⟨nx,rt,bk,ct⟩ σ H:=h
theorem aD5 (h:te σ H λx H1=>g x σ H1 nx):P8 te g ⟨nx,rt,bk,ct⟩ σ H:=h
theorem aEF (h:te σ H rt):aC8 te ⟨nx,rt,bk,ct⟩ σ H:=h
theorem aBb (h:te σ H λ_ H1=>nx σ H1):ZM te ⟨nx,rt,bk,ct⟩ σ H:=h
theorem aE9 (h:c σ H λb H1=>if b=true then t ⟨nx,rt,bk,ct⟩ σ H1 else u ⟨nx,rt,bk,ct⟩ σ H1):RL c t u ⟨nx,rt,bk,ct⟩ σ H:=h
def C5 (J:It)(g:TG)(tb:TS)(D:gN)(σ:St)(H:Hp):Prop :=
 ∃W:Nat->Nat->St->Hp->Prop,(∃m,W 0 m σ H)/\∀i m σ H,W i m σ H →
  (J.stop i H/\D.nx σ H)∨(J.go i H/\∃N:St->Hp->Prop,(∀σ' H',N σ' H'->∃m',m'<m/\W (i+1) m' σ' H')/\∀x H',J.yld i H x H'->g x σ H' λσ2 H2=>tb { D with nx:=N,ct:=N,bk:=D.nx } σ2 H2)
theorem aEp {tb:TS}(h:wi σ H λJ H1=>C5 J g tb ⟨nx,rt,bk,ct⟩ σ H1):aEy wi g tb ⟨nx,rt,bk,ct⟩ σ H:=h
theorem aEY {l:St}(h:Q v H):iZ 0 (some v::l) H Q:=⟨v,rfl,h⟩
theorem aFw {a0}{l:St}(h:Q v H):iZ 1 (a0::some v::l) H Q:=⟨v,rfl,h⟩
theorem aFB {a0 a1}{l:St}(h:Q v H):iZ 2 (a0::a1::some v::l) H Q:=⟨v,rfl,h⟩
theorem aEW {a0 a1 a2}{l:St}(h:Q v H):iZ 3 (a0::a1::a2::some v::l) H Q:=⟨v,rfl,h⟩
theorem aFg {a0 a1 a2 a3}{l:St}(h:Q v H):iZ 4 (a0::a1::a2::a3::some v::l) H Q:=⟨v,rfl,h⟩
theorem aE7 {a0 a1 a2 a3 a4}{l:St}(h:Q v H):iZ 5 (a0::a1::a2::a3::a4::some v::l) H Q:=⟨v,rfl,h⟩
theorem aET {a0 a1 a2 a3 a4 a5}{l:St}(h:Q v H):iZ 6 (a0::a1::a2::a3::a4::a5::some v::l) H Q:=⟨v,rfl,h⟩
theorem aFl {a0 a1 a2 a3 a4 a5 a6}{l:St}(h:Q v H):iZ 7 (a0::a1::a2::a3::a4::a5::a6::some v::l) H Q:=⟨v,rfl,h⟩
theorem aFp {a0 a1 a2 a3 a4 a5 a6 a7}{l:St}(h:Q v H):iZ 8 (a0::a1::a2::a3::a4::a5::a6::a7::some v::l) H Q:=⟨v,rfl,h⟩
variable {q:St->Hp->Prop}
theorem aFI {a0 a}{l:St}(h:q (a0::some v::l) H):cN 1 v (a0::a::l) H q:=h
theorem aFn {a0 a1 a}{l:St}(h:q (a0::a1::some v::l) H):cN 2 v (a0::a1::a::l) H q:=h
theorem aFi {a0 a1 a2 a}{l:St}(h:q (a0::a1::a2::some v::l) H):cN 3 v (a0::a1::a2::a::l) H q:=h
theorem aFj {a0 a1 a2 a3 a}{l:St}(h:q (a0::a1::a2::a3::some v::l) H):cN 4 v (a0::a1::a2::a3::a::l) H q:=h
theorem aE1 {a0 a1 a2 a3 a4 a}{l:St}(h:q (a0::a1::a2::a3::a4::some v::l) H):cN 5 v (a0::a1::a2::a3::a4::a::l) H q:=h
theorem aFF {a0 a1 a2 a3 a4 a5 a}{l:St}(h:q (a0::a1::a2::a3::a4::a5::some v::l) H):cN 6 v (a0::a1::a2::a3::a4::a5::a::l) H q:=h
theorem aFr {a0 a1 a2 a3 a4 a5 a6 a}{l:St}(h:q (a0::a1::a2::a3::a4::a5::a6::some v::l) H):cN 7 v (a0::a1::a2::a3::a4::a5::a6::a::l) H q:=h
theorem aE2 {a0 a1 a2 a3 a4 a5 a6 a7 a}{l:St}(h:q (a0::a1::a2::a3::a4::a5::a6::a7::some v::l) H):cN 8 v (a0::a1::a2::a3::a4::a5::a6::a7::a::l) H q:=h
theorem aFZ (h:Q v H):tC v σ H Q:=h
theorem aFv {r:R2}(h:ta σ H λx H1=>tb σ H1 λy H2=>r x y H2 Q):tOp r ta tb σ H Q:=h
theorem aE5 {r:V->Hp->VK->Prop}(h:ta σ H λx H1=>r x H1 Q):tUn r ta σ H Q:=h
theorem aFk {f:Int->Int->V}{j:Int}(h:Q (f i j) H):rI0 f (.int i) (.int j) H Q:=⟨i,j,rfl,rfl,h⟩
theorem aFY {f:Int->V}(h:Q (f i) H):rU f (.int i) H Q:=⟨i,rfl,h⟩
theorem aC1 {f:Int->Int->V}{j:Int}(h0:0<j)(h1:j<1073741824)(h:Q (f i j) H):rI aEd f (.int i) (.int j) H Q:=⟨i,j,rfl,rfl,⟨h0,h1⟩,h⟩
theorem aC0 {f:Int->Int->V}{j:Int}(h0:0<j)(h:Q (f i j) H):rI (λ_ j=>0<j) f (.int i) (.int j) H Q:=⟨i,j,rfl,rfl,h0,h⟩
theorem aAx {f:Int->Int->V}{j:Int}(h0: -18446744073709551616<i)(h1:i<18446744073709551616)(h:Q (f i j) H):rI CMul f (.int i) (.int j) H Q:=⟨i,j,rfl,rfl,.inl ⟨by lia,by lia⟩,h⟩
theorem aBd {f:Int->Int->V}{j:Int}(h0: -18446744073709551616<j)(h1:j<18446744073709551616)(h:Q (f i j) H):rI CMul f (.int i) (.int j) H Q:=⟨i,j,rfl,rfl,.inr ⟨by lia,by lia⟩,h⟩
theorem ZI {j:Int}:decide (V.int i=V.int j)=decide (i=j):=by simp
theorem ZK {i j:Str}:decide (V.str i=V.str j)=decide (i=j):=by simp
theorem aDL {j:Int}(h:Q (.bl (decide (i=j))) H):rEq (.int i) (.int j) H Q:=⟨rfl,by rw[ZI];exact h⟩
theorem aDz {i j:Str}(h:Q (.bl (decide (i=j))) H):rEq (.str i) (.str j) H Q:=⟨rfl,by rw[ZK];exact h⟩
theorem aCB {j:Int}(h:Q (.bl (!decide (i=j))) H):rNe (.int i) (.int j) H Q:=⟨rfl,by rw[ZI];exact h⟩
theorem aDJ {i j:Str}(h:Q (.bl (!decide (i=j))) H):rNe (.str i) (.str j) H Q:=⟨rfl,by rw[ZK];exact h⟩
theorem aBW (h:Q (.bl (decide (v= .non))) H):aDl v .non H Q:=⟨rfl,h⟩
theorem aBj (h:Q (.bl false) H):PV .non .non H Q:=⟨rfl,h⟩
theorem aBJ {i:Str}(h:Q (.bl true) H):PV (.str i) .non H Q:=⟨rfl,by rw[decide_eq_false (λz=>by cases z)];exact h⟩
theorem aAy {i j:Str}(hl:i.length+j.length<=sizeLine)(h:Q (.str (i++j)) H):ZX (.str i) (.str j) H Q:=⟨i,j,rfl,rfl,hl,h⟩
theorem aA0 (h:ta σ H (t0 λc H1=>if c=true then tb σ H1 Q else Q (.bl false) H1)):aAs ta tb σ H Q:=h
theorem aCF (h:ta σ H (t0 λc H1=>if c=true then Q (.bl true) H1 else tb σ H1 Q)):aDN ta tb σ H Q:=h
theorem aB8 (h:ta σ H (t0 λc H1=>Q (.bl (!c)) H1)):aAi ta σ H Q:=h
theorem aCM (h:c σ H λk H1=>if k=true then ta σ H1 Q else tb σ H1 Q):tIf c ta tb σ H Q:=h
theorem V4 {r r':R2}(h:ta σ H λx H1=>tb σ H1 λy H2=>r x y H2 (t0 λk H3=>if k=true then tc σ H3 λw' H4=>r' y w' H4 Q else Q (.bl false) H3)):JM r r' ta tb tc σ H Q:=h
theorem aB9 {t:TA}(h:t σ H λvs H1=>sp vs H1 Q E):j8 sp [] E t σ H Q:=by
 unfold j8;simp only[List.append_nil];exact h
theorem aFH {r:List V->Hp->VK->Prop}{t:TA}(h:t σ H λvs H1=>r vs H1 Q):tCB r t σ H Q:=h
theorem aEE {t:TA}(h:t σ H (aEe Q)):aDp t σ H Q:=h
theorem aDn {t:TA}(h:t σ H (aCE Q)):aC2 t σ H Q:=h
theorem iH {o:HO}{R:V->Hp->Prop}(h:∀p H',H p=none->Same H H'->H' p=some o->R (.ref p) H'):∀p,H p=none->R (.ref p) (upd H p o) :=
 λp hp=>h p _ hp (λb u e=>by rw[aM (aY e hp)];exact e) aU
theorem aCl (hn:xs.length<=sizeLine)(h:∀p H',H p=none->Same H H'->H' p=some (.lst xs)->Q (.ref p) H'):aEe Q xs H:=⟨hn,iH h⟩
theorem aAU (hn:xs.length<=sizeLine)(h:∀p H',H p=none->Same H H'->H' p=some (.tup xs)->Q (.ref p) H'):aCE Q xs H:=⟨hn,iH h⟩
theorem aBc (h:∀p H',H p=none->Same H H'->H' p=some (.lst xs)->Q (.ref p) H'):aDR Q xs H:=iH h
theorem aEC {f:Str}(h:ta σ H (aCt K f Q)):Y3 K ta f σ H Q:=h
theorem aBx {fs:List (Str×V)}{f:Str}(e:H a=some (.ins C dx fs))(cl:Cls K C)(na:NoAttr K C f)(l:fs.lookup f=some v)(h:Q v H):aCt K f Q (.ref a) H:=⟨a,C,dx,fs,v,rfl,e,cl,na,l,h⟩
theorem aBg {f:Str}(h:ta σ H λy H1=>tb σ H1 (aAp K f y (nx σ))):aCW K tb ta f ⟨nx,rt,bk,ct⟩ σ H:=h
theorem XT {fs:List (Str×V)}{f:Str}{y:V}{w:Hp->Prop}(e:H a=some (.ins C dx fs))(cl:Cls K C)(na:NoAttr K C f)(l:decide (fs.length<1000)=true)
  (h:∀H',(∀b o,H b=some o->b≠a->H' b=some o)->H' a=some (.ins C dx (cG f y fs))->w H'):aAp K f y w (.ref a) H :=
 ⟨a,C,dx,fs,rfl,e,cl,na,of_decide_eq_true l,h _ (λb o q hb=>by rw[aM hb];exact q) aU⟩
theorem aFd {M:Addr->Sp->Prop}{t:TA}(h:ta σ H (MdP M m t σ Q)):tMD M m ta t σ H Q:=h
theorem aDw {M:Addr->Sp->Prop}{t:TA}{fs:List (Str×V)}(e:H a=some (.ins C dx fs))(l:fs.lookup m=none)(F:M C sp)(h:t σ H λvs H2=>sp (.ref a::vs) H2 Q E0):MdP M m t σ Q (.ref a) H :=
 ⟨a,C,dx,fs,sp,rfl,e,l,F,h⟩
theorem aBX {t:TA}(h:t σ H (uH C sp dvs E Q)):GK C sp dvs E t σ H Q:=h
theorem tQ {fs:List (Str×V)}
  (hsp:∀p dx H0 (Q':VK),H0 p=some (.ins C dx [])->(∀H',(∀b o,H0 b=some o->b≠p->H' b=some o)->H' p=some (.ins C dx fs)->Q' .non H')->Same H H0->sp (.ref p::(vs++dvs)) H0 Q' E)
  (k:∀p dx H',H p=none->Same H H'->H' p=some (.ins C dx fs)->Q (.ref p) H'):uH C sp dvs E Q vs H:=by
 intro x dx nx nd ne;have s0:Same H (upd (upd H dx (.own x)) x (.ins C dx [])):=λb o e=>by
  rw[aM (aY e nx),aM (aY e nd)];exact e
 exact hsp x dx _ _ aU (λH' sb e=>⟨rfl,k x dx H' nx (λb o q=>sb b o (s0 b o q) (aY q nx)) e⟩) s0
theorem aBs (h:wi σ H λJ H1=>dD J g ti te (bQ nl ci σ) (aDR Q) H1):BR wi nl ci g ti te σ H Q:=h
theorem aFq {r:V->Option Int->Option Int->Hp->VK->Prop}{tl th:TO}(h:te σ H λx H1=>tl σ H1 λl H2=>th σ H2 λu H3=>r x l u H3 Q):tSl r te tl th σ H Q:=h
theorem aD3 {lo hi:Option Int}(hz:z.length<=sizeLine)(h:(Txt.slice z lo hi).length<=z.length->Q (.str (Txt.slice z lo hi)) H):aDx (.str z) lo hi H Q:=⟨z,rfl,hz,h (Txt.slice_le _ _ _)⟩
theorem aDH {lo hi:Option Int}(e:SqL K H a xs)(h:∀p H',H p=none->Same H H'->H' p=some (.lst (iD xs lo hi))->Q (.ref p) H'):YV K (.ref a) lo hi H Q:=⟨a,xs,rfl,e,iH h⟩
theorem aCG {p:Addr}(e:SqT K H p xs)(l:atI xs i=some v)(h:Q v H):aEq K (.ref p) (.int i) H Q:=⟨p,xs,i,v,rfl,rfl,e,l,h⟩
theorem aBv {p:Addr}{a b c:Int}(e:SqL K H p [.int a,.int b,.int c])(h0:0<=i)(h1:i<3)(h:∀v,(i=0/\v=a)∨(i=1/\v=b)∨(i=2/\v=c)->Q (.int v) H):t7 K (.ref p) (.int i) H Q:=by
 have:i=0∨i=1∨i=2:=by lia
 rcases this with rfl|rfl|rfl
 .exact⟨p,_,0,_,rfl,rfl,e,rfl,h a (.inl ⟨rfl,rfl⟩)⟩
 .exact⟨p,_,1,_,rfl,rfl,e,rfl,h b (.inr (.inl ⟨rfl,rfl⟩))⟩
 .exact⟨p,_,2,_,rfl,rfl,e,rfl,h c (.inr (.inr ⟨rfl,rfl⟩))⟩
theorem gJ {l:Addr}{zs:List V}(e:H l=some (.lst xs))(e2:H b=some (.lst zs))(hn:xs.length+zs.length<=sizeLine)(h:∀p H',H p=none->Same H H'->H' p=some (.lst (xs++zs))->Q (.ref p) H'):aDg (.ref l) (.ref b) H Q :=
 ⟨l,b,xs,zs,rfl,rfl,e,e2,hn,iH h⟩
theorem aFG {T:String}{r:V->List V->Hp->VK->Prop}{to:TE}{t:TA}(h:to σ H (BmP K T r t σ Q)):tBM K T r to t σ H Q:=h
theorem aDi {r:V->List V->Hp->VK->Prop}{t:TA}(h:t σ H λxs H2=>r (.str z) xs H2 Q):BmP K "str" r t σ Q (.str z) H:=⟨rfl,h⟩
theorem aEI {r:V->List V->Hp->VK->Prop}{t:TA}{p:Addr}(e:SqL K H p xs)(h:t σ H λxs H2=>r (.ref p) xs H2 Q):BmP K "list" r t σ Q (.ref p) H:=⟨.inl ⟨rfl,xs,e⟩,h⟩
theorem gG {p:Addr}{ys:List Str}(e:SqL K H p (ys.map V.str))(hn:(ys.map (·.length)).sum+ys.length * z.length<=16777216)(h:Q (.str (Txt.join z ys)) H):AC K (.str z) [.ref p] H Q:=⟨z,p,ys,rfl,rfl,e,hn,h⟩
structure ICls (K:W.Frag)(C:Addr):Prop where
 cl:Cls K C
 ha:W.findIn K (.ref C) "__class__" =some (some (.builtin "object.__class__"))
 hn:W.specialIn K (.builtin "object.__class__") "__get__" =some (some (.builtin "getset_descriptor.__get__"))
 tk:W.takesIn K (.builtin "object.__class__")=some true
 hm:W.mroIn K C (.type "object")=some true
theorem aAF (hz:z.length<=sizeLine)(h:Q (.int z.length) H):aAd [.str z] H Q:=⟨z,rfl,hz,h⟩
theorem aB6 {p:Addr}(e:SqL K H p ys)(h:Q (.int ys.length) H):ZZ K [.ref p] H Q:=⟨p,ys,rfl,.inl e,h⟩
theorem aCV {p:Addr}{bs:List Bool}(e:SqL K H p (bs.map V.bl))(h:Q (.bl (bs.all id)) H):aCS K [.ref p] H Q:=⟨p,bs,rfl,e,h⟩
variable {B:Bool->Hp->Prop}
theorem aBw (h:te σ H (t0 B)):O9 te σ H B:=h
theorem aFa (h:te σ H (t0 B)):tB te σ H B:=h
theorem aDD (h:c σ H λk H1=>if k=true then d σ H1 B else B false H1):aDm c d σ H B:=h
theorem aFx (h:c σ H λk H1=>if k=true then B true H1 else d σ H1 B):tOr c d σ H B:=h
theorem aEk (h:c σ H λk H1=>B (!k) H1):aCN c σ H B:=h
theorem aCL {b:Bool}{P:Bool->Hp->Prop}(h:P b H):t0 P (.bl b) H:=⟨b,rfl,h⟩
theorem VE {A B:Prop}(h:A):if true=true then A else B:=by rw[if_pos rfl];exact h
theorem HV {A B:Prop}(h:B):if false=true then A else B:=by rw[if_neg Bool.false_ne_true];exact h
theorem aBM {A B:Prop}(h:B):if (!true)=true then A else B:=HV h
theorem aCd {A B:Prop}(h:A):if (!false)=true then A else B:=VE h
theorem aD9 {p A B:Prop}[Decidable p](hp:p)(h:A):if decide p=true then A else B:=by rw[if_pos (decide_eq_true hp)];exact h
theorem aDv {p A B:Prop}[Decidable p](hp:¬p)(h:B):if decide p=true then A else B:=by rw[if_neg (by rw[decide_eq_false hp];exact Bool.false_ne_true)];exact h
theorem aAA {p A B:Prop}[Decidable p](hp:p)(h:B):if (!decide p)=true then A else B:=by rw[decide_eq_true hp];exact HV h
theorem dQ {p A B:Prop}[Decidable p](h1:p->A)(h2:¬p->B):if decide p=true then A else B:=zO (λh=>h1 (of_decide_eq_true h)) λh=>h2 λz=>h (decide_eq_true z)
variable {L:List V->Hp->Prop}{O:Option Int->Hp->Prop}{tr:TA}
theorem aEx (h:L [] H):CM σ H L:=h
theorem aBe (h:te σ H λx H1=>tr σ H1 λxs H2=>L (x::xs) H2):GI te tr σ H L:=h
theorem UQ (h:O none H):MI σ H O:=h
theorem aBD (h:te σ H (aCx O)):aAo te σ H O:=h
theorem aEO (h:O (some i) H):aCx O (.int i) H:=⟨i,rfl,h⟩
variable {gs:TGs}
theorem aA1 (h:q σ H):O8 [] σ H q:=⟨rfl,h⟩
theorem YY (h:g v σ H λσ' H'=>gs vs σ' H' q):xC g gs (v::vs) σ H q:=⟨v,vs,rfl,h⟩
theorem aBV (e:SqT K H a vs)(hl:vs.length=n)(h:gs vs σ H q):JV K n gs (.ref a) σ H q:=⟨a,vs,rfl,e,hl,h⟩
variable {R:It->Hp->Prop}
theorem X6 (h:te σ H (aCD K R)):ZL K te σ H R:=h
theorem EG (e:SqL K H a xs)(h:R (Itl K a) H):aCD K R (.ref a) H:=⟨a,rfl,⟨xs,e⟩,h⟩
theorem V1 (h:tr σ H (aCu R)):Z0 tr σ H R:=h
theorem T5 {j:Int}(h0: -4611686018427387904<=j)(h1:j<4611686018427387904)(h:R (Itr 0 j.toNat) H):aCu R [.int j] H:=⟨j,rfl,by lia,by lia,h⟩
theorem aA7 (h:te σ H (aD7 R)):aDX te σ H R:=h
theorem X3 (h:R (Its z) H):aD7 R (.str z) H:=⟨z,rfl,h⟩
theorem lI {tb:TS}(xs:List V)(Pv:Nat->St->Hp->Prop)(h0:Pv 0 σ H)(hl:∀i σ H,i<=xs.length->Pv i σ H->SqL K H a xs)
  (hs:∀i x σ H,xs[i]? =some x->Pv i σ H->g x σ H λσ2 H2=>tb ⟨Pv (i+1),rt,nx,Pv (i+1)⟩ σ2 H2)(hd:∀σ H,Pv xs.length σ H->nx σ H):C5 (Itl K a) g tb ⟨nx,rt,bk,ct⟩ σ H :=
 WC (D:=⟨nx,rt,bk,ct⟩) Pv h0 hl hs hd
theorem aBk {tb:TS}(ns:List Int)(Pv:Nat->St->Hp->Prop)(h0:Pv 0 σ H)(hl:∀i σ H,Pv i σ H->SqL K H a (ns.map V.int))
  (hs:∀i n σ H,ns[i]? =some n->Pv i σ H->g (.int n) σ H λσ2 H2=>tb ⟨Pv (i+1),rt,nx,Pv (i+1)⟩ σ2 H2)(hd:∀σ H,Pv ns.length σ H->nx σ H):C5 (Itl K a) g tb ⟨nx,rt,bk,ct⟩ σ H:=by
 refine lI (ns.map V.int) Pv h0 (λi σ H _ p=>hl i σ H p) (λi x σ H hx p=> ?_) (λσ H p=>hd σ H (by rw[List.length_map]at p;exact p));rw[List.getElem?_map]at hx;cases e:ns[i]? with
 | none=>rw[e]at hx;cases hx
 | some n =>
  rw[e]at hx;cases hx;exact hs i n σ H e p
theorem MF {tb:TS}(Pv:Nat->St->Hp->Prop)(h0:Pv 0 σ H)
  (hs:∀i σ H,i<n->Pv i σ H->g (.int (lo+i)) σ H λσ2 H2=>tb ⟨Pv (i+1),rt,nx,Pv (i+1)⟩ σ2 H2)(hd:∀σ H,Pv n σ H->nx σ H):C5 (Itr lo n) g tb ⟨nx,rt,bk,ct⟩ σ H :=
 TU (D:=⟨nx,rt,bk,ct⟩) Pv h0 hs hd
end
theorem BZ (hr:ci.map (λi=>(σ[i]?).join)=rest):bQ 1 ci σ=none::rest:=by
 unfold bQ;rw[hr];rfl
theorem LL (P:Nat->V->Prop)(hn:n<=sizeLine)(hr:ci.map (λi=>(σ[i]?).join)=rest)
  (hs:∀i H1,i<n->Same H H1->∀R:VK,(∀y H2,P i y->Same H1 H2->R y H2)->te (some (.int (lo+i))::rest) H1 R)
  (hf:∀ys H1,Same H H1->ys.length=n->(∀i y,ys[i]? =some y->P i y)->fin ys H1):dD (Itr lo n) (cN 0) pU te (bQ 1 ci σ) fin H:=by
 rw[BZ hr];refine QK (λi ys H1=>Same H H1/\ys.length=i/\∀j y,ys[j]? =some y->P j y) hn rfl ⟨Same.refl _,rfl,λj y h=>by simp at h⟩ (λi ys H1 ok=>Nat.le_of_eq ok.2.1) (λys H1 ok=>hf ys H1 ok.1 ok.2.1 ok.2.2) ?_;intro i ys H1 hi ⟨s1,hl,hp⟩ R hR;refine hs i H1 hi s1 R λy H2 hy s2=>hR y H2 ⟨s1.trans s2,by simp[hl],λj z hz=> ?_⟩
 by_cases hj:j<ys.length
 .rw[List.getElem?_append_left hj]at hz;exact hp j z hz
 .rw[List.getElem?_append_right (by lia)]at hz;have hj0:j - ys.length=0:=by
   cases e:j - ys.length with
   | zero=>rfl
   | succ k=>rw[e]at hz;simp at hz
  rw[hj0]at hz;have:z=y:=by simpa using hz.symm
  subst this;have:j=i:=by lia
  subst this;exact hy
theorem PP (P:Nat->V->Prop)(hn:xs.length<=sizeLine)(hr:ci.map (λi=>(σ[i]?).join)=rest)(hl:∀H1,Same H H1->SqL K H1 a xs)
  (hs:∀i x H1,xs[i]? =some x->Same H H1->∀R:VK,(∀y H2,P i y->Same H1 H2->R y H2)->te (some x::rest) H1 R)
  (hf:∀ys H1,Same H H1->ys.length=xs.length->(∀i y,ys[i]? =some y->P i y)->fin ys H1):dD (Itl K a) (cN 0) pU te (bQ 1 ci σ) fin H:=by
 rw[BZ hr];refine SN (xs:=xs) (λi ys H1=>Same H H1/\ys.length=i/\∀j y,ys[j]? =some y->P j y) hn rfl ⟨Same.refl _,rfl,λj y h=>by simp at h⟩ (λi ys H1 ok=>Nat.le_of_eq ok.2.1) (λi ys H1 ok=>hl H1 ok.1) (λys H1 ok=>hf ys H1 ok.1 ok.2.1 ok.2.2) ?_;intro i x ys H1 hi ⟨s1,hl',hp⟩ R hR;refine hs i x H1 hi s1 R λy H2 hy s2=>hR y H2 ⟨s1.trans s2,by simp[hl'],λj z hz=> ?_⟩
 by_cases hj:j<ys.length
 .rw[List.getElem?_append_left hj]at hz;exact hp j z hz
 .rw[List.getElem?_append_right (by lia)]at hz;have hj0:j - ys.length=0:=by
   cases e:j - ys.length with
   | zero=>rfl
   | succ k=>rw[e]at hz;simp at hz
  rw[hj0]at hz;have:z=y:=by simpa using hz.symm
  subst this;have:j=i:=by lia
  subst this;exact hy
theorem BJ {α β:Type}{xs:List α}{ys:List β}{f:α->β}(hl:ys.length=xs.length)(h:∀(i:Nat) y,ys[i]? =some y->∃x,xs[i]? =some x/\y=f x):ys=xs.map f:=by
 apply List.ext_getElem?
 intro i;rw[List.getElem?_map];cases e:ys[i]? with
 | none =>
  have:xs[i]? =none:=by
   rw[List.getElem?_eq_none_iff]at e ⊢
   lia
  rw[this];rfl
 | some y =>
  obtain⟨x,hx,rfl⟩:=h i y e;rw[hx];rfl
theorem ER (f:Int->V)(hn:ns.length<=sizeLine)(hr:ci.map (λi=>(σ[i]?).join)=rest)(hl:∀H1,Same H H1->SqL K H1 a (ns.map V.int))
  (hs:∀n H1,n∈ns->Same H H1->∀R:VK,(∀H2,Same H1 H2->R (f n) H2)->te (some (.int n)::rest) H1 R)
  (hf:∀H1,Same H H1->fin (ns.map f) H1):dD (Itl K a) (cN 0) pU te (bQ 1 ci σ) fin H:=by
 refine PP (xs:=ns.map V.int) (λi y=>∃n,ns[i]? =some n/\y=f n) (by rw[List.length_map];exact hn) hr hl ?_ ?_
 .intro i x H1 hx s1 R hR;rw[List.getElem?_map]at hx;cases e:ns[i]? with
  | none=>rw[e]at hx;cases hx
  | some n =>
   rw[e]at hx;cases hx;exact hs n H1 (List.mem_of_getElem? e) s1 R λH2 s2=>hR _ H2 ⟨n,e,rfl⟩ s2
 .intro ys H1 s1 hl' hp;rw[BJ (f:=f) (xs:=ns) (by rw[hl',List.length_map]) hp];exact hf H1 s1
theorem W6 (f:Nat->V)(hn:n<=sizeLine)(hr:ci.map (λi=>(σ[i]?).join)=rest)
  (hs:∀i H1,i<n->Same H H1->∀R:VK,(∀H2,Same H1 H2->R (f i) H2)->te (some (.int (lo+i))::rest) H1 R)
  (hf:∀H1,Same H H1->fin ((List.range n).map f) H1):dD (Itr lo n) (cN 0) pU te (bQ 1 ci σ) fin H:=by
 refine LL (λi y=>y=f i) hn hr (λi H1 hi s1 R hR=>hs i H1 hi s1 R λH2 s2=>hR _ H2 rfl s2) ?_;intro ys H1 s1 hl hp;have e:ys=(List.range n).map f:=by
  refine BJ (by rw[hl,List.length_range]) λi y hy=> ?_;have hi:i<n:=by
   rw[←hl];exact(List.getElem?_eq_some_iff.mp hy).1
  exact⟨i,by simp[hi],hp i y hy⟩
 rw[e];exact hf H1 s1
theorem Same.at {o:HO}(s:Same H H')(h:H b=some o):H' b=some o:=s b o h
def SameBut (p:Addr)(H H':Hp):Prop:=∀b o,H b=some o->b≠p->H' b=some o
theorem SameBut.upd {p:Addr}{o:HO}:SameBut p H (upd H p o):=λb u e hb=>by rw[aM hb];exact e
theorem SameBut.trans {p:Addr}(a:SameBut p H H1)(b:SameBut p H1 H2):SameBut p H H2:=λc o h hc=>b c o (a c o h hc) hc
theorem Same.but {p:Addr}(s:Same H H'):SameBut p H H':=λb o e _=>s b o e
theorem SameBut.same {p:Addr}{H0:Hp}(n:H0 p=none)(s:Same H0 H)(b:SameBut p H H'):Same H0 H':=λc o e=>b c o (s c o e) (aY e n)
theorem aL {t:TS}{D:gN}(e:jE N vs=σ)(h:t D σ H):t D (jE N vs) H:=e▸h
theorem SameBut.refl {p:Addr}:SameBut p H H:=λ_ _ e _=>e
theorem SameBut.snoc {p:Addr}(b:∀c o,H1 c=some o->c≠p->H2 c=some o)(a:SameBut p H H1):SameBut p H H2:=λc o h hc=>b c o (a c o h hc) hc
theorem SameBut.snocS {p:Addr}(b:Same H1 H2)(a:SameBut p H H1):SameBut p H H2:=λc o h hc=>b c o (a c o h hc)
theorem Same.snoc (b:Same H1 H2)(a:Same H H1):Same H H2:=a.trans b
theorem aBE {f:Str}{fs:List (Str×V)}:(cG f v fs).lookup f=some v:=by rw[mM,if_pos rfl]
theorem aFE {f g:Str}{o:Option V}{fs:List (Str×V)}(h:decide (g=f)=false)(l:fs.lookup g=o):(cG f v fs).lookup g=o:=by rw[mM,if_neg (of_decide_eq_false h)];exact l
theorem R6 {f:Str}:([]:List (Str×V)).lookup f=none:=rfl
variable {fv:Array Value}
section
variable {st:Stmt}{kV ct:Value}{ps:List Str}
theorem lU (k:Nat){ds:List Value}{sl:Array (Option Value)}{items:Array Value}(lt:K.lookup T=some ⟨oc,od,.seq items n,sl⟩)
  (h:∀us:List Value,us.length=k->∃k,bindArgs (W.fnOf x qual (eQ st) (c8 st) (aH st) (.ref T) kV doc pm an cdv ct) ⟨us,[]⟩=seqItems? (.ref T) >>= k/\k (some items)=pure (ps.zip (us++ds)))(hk:k+ds.length=ps.length:=by rfl) :
  Binds K (W.fnOf x qual (eQ st) (c8 st) (aH st) (.ref T) kV doc pm an cdv ct) ps ds:=λs us hK hl=>by
 obtain⟨k,h1,h2⟩:=h us (by rw[List.length_append]at hl;lia);exact .of_defaults (T:=T) (items:=items) (n:=n) rfl (hK T _ lt) rfl h1 h2
theorem WE:W.kitOne K (.ref C) (.ref C)=some true:=by
 unfold W.kitOne;rw[if_pos (beq_self_eq_true _)]
theorem kit_ne {D:Addr}{cd:ClassData}{b:Bool}(ne:(Value.ref C==Value.ref D)=false)(c:W.clsIn K D=some cd)(t:W.typeIn K (.ref D)=some (.type "type"))(s:W.subIn K (.ref C) (.ref D)=some b):
  W.kitOne K (.ref C) (.ref D)=some b:=by
 unfold W.kitOne;rw[ne,if_neg Bool.false_ne_true];show (if ((W.clsIn K D).isSome&&W.typeIn K (.ref D)==some (.type "type"))=true then W.subIn K (.ref C) (.ref D) else none)=_;rw[c,t,if_pos (by rfl)];exact s
end
def aJ (i:Int):Str:=(toString i:String)
theorem BQ {m:Nat}(h:m<10^31):(Nat.toDigits 10 m).length<=31:=by
 have:=PySem.digitsCore_len_pow 10 (by decide) 31 (m+1) m [] (by decide) h
 simpa [Nat.toDigits] using this
theorem aG (s:String):(Str.ofString s).length=s.length:=by
 rw[Str.ofString_eq_toList];show (s.toList.map Char.toNat).toArray.size=_;rw[List.size_toArray,List.length_map,String.length_toList]
theorem tO (h0: -1000000000000000000000000000000<i)(h1:i<1000000000000000000000000000000):(aJ i).length<=40:=by
 unfold aJ;rw[aG];cases i with
 | ofNat m =>
  show (Nat.repr m).length<=40;have:=BQ (m:=m) (by have h1':((m:Nat):Int)<1000000000000000000000000000000:=h1;lia);have e:(Nat.repr m).length=(Nat.toDigits 10 m).length:=by rw[←String.length_toList,Nat.toList_repr]
  lia
 | negSucc m =>
  show ("-" ++Nat.repr (m+1)).length<=40;have:=BQ (m:=m+1) (by have h0': -1000000000000000000000000000000< -(((m:Nat):Int)+1):=h0;lia);have e:(Nat.repr (m+1)).length=(Nat.toDigits 10 (m+1)).length:=by rw[←String.length_toList,Nat.toList_repr]
  rw[String.length_append];have: "-".length=1:=rfl
  lia
theorem log2_lt (h:n<2^100):n.log2<1920:=by
 by_cases h0:n=0
 .subst h0;decide
 .exact Nat.lt_trans (Nat.log2_lt h0 |>.mpr h) (by decide)
theorem aEi {Q:VK}(h0: -1000000000000000000000000000000<i)(h1:i<1000000000000000000000000000000)(h:(aJ i).length<=40->Q (.str (aJ i)) H):QX [.int i] H Q :=
 ⟨i,rfl,log2_lt (by lia),h (tO h0 h1)⟩
def sgB (c:Nat):Bool:=decide (97<=c)&&decide (c<=122)
def aF5 (z:Str):Bool:=z.cps.toList.all sgB
def aK (z:Str):Bool:=decide (1<=(z.length:Int))&&decide ((z.length:Int)<=8)&&aF5 z
theorem cB (h:aK z=true):z.length<=8:=by
 unfold aK at h;simp only[Bool.and_eq_true,decide_eq_true_eq]at h
 lia
theorem iK (k:Nat):∀(l:List Str),(∀z∈l,z.length<=k)->(l.map (·.length)).sum<=l.length * k
 | [],_=>by simp
 | z::l,h=>by
  have h1:=h z List.mem_cons_self;have h2:=iK k l λy hy=>h y (List.mem_cons_of_mem _ hy);rw[List.map_cons,List.sum_cons,List.length_cons,Nat.succ_mul]
  lia
theorem bA (x y:Str):(x++y).length=x.length+y.length:=by
 show (x.cps++y.cps).size=_;rw[Array.size_append];rfl
theorem CU (c:Nat):(⟨#[c]⟩:Str).length=1:=rfl
theorem aAB {y:Str}(h:x.cps.toList=y.cps.toList):x=y:=by
 cases x;cases y;have:_=_:=Array.ext' h;cases this;rfl
theorem bL (sep x y:Str)(r:List Str):Txt.join sep (x::y::r)=x++sep++Txt.join sep (y::r):=by
 show Builtin.Str.glued sep (x::y::r)=x++sep++Builtin.Str.glued sep (y::r);rw[StrLaws.glued_eq_join,StrLaws.glued_eq_join];rfl
theorem dJ (sep x:Str):Txt.join sep [x]=x:=by
 show Builtin.Str.glued sep [x]=x;rw[StrLaws.glued_eq_join];rfl
section
variable {bk:St->Hp->Prop}{g:TG}
end
theorem aA3 {Q:VK}{j:Int}(h0:0<j)(h:0<=i%j->i%j<j->Q (.int (i%j)) H):rI (λ_ j=>0<j) (λi j=> .int (i%j)) (.int i) (.int j) H Q:=⟨i,j,rfl,rfl,h0,h (Int.emod_nonneg _ (by lia)) (Int.emod_lt_of_pos _ h0)⟩
open PySem.W
structure ExcK (K:Frag)(C:Addr):Prop where
 ga:findIn K (.ref C) "__getattribute__" =some (some (.builtin "BaseException.__getattribute__"))
 gg:findIn K (.ref C) "__getattr__" =some none
 cl:findIn K (.ref C) "__class__" =some (some (.builtin "object.__class__"))
 so:subIn K (.ref C) (.type "object")=some true
 sb:subIn K (.ref C) (.type "BaseException")=some true
 cd:∃cd,clsIn K C=some cd
variable {ob:Obj}
section
variable {g:Array GenState}{d:Drawn}{t:Nat}{os:OsState}{o:Obj}{vs:Array Value}{K:Frag}
theorem lY {M:Model}(hx:h.get? a=some o)(hc:o.cls= .ref C)(hd:o.data= .fields vs):Looks M h (typeOf (.ref a)) (.ref C):=by
 have L:Looks M h (typeOf (.ref a)) o.cls:=by
  refine(Looks.ld hx).andThen ?_;exact .now
 rw[hc]at L;exact L
theorem F8 (X:K.In h)(k:ExcK K C)(hx:h.get? a=some o)(hc:o.cls= .ref C)(hd:o.data= .fields vs)(hq:R (.ok (.ret (.ref C))) ⟨h,g,d,t,os⟩):
  codeAny (model prog w) A (.call (.builtin "getset_descriptor.__get__") ⟨[.builtin "object.__class__",.ref a,.ref C],[]⟩) R ⟨h,g,d,t,os⟩:=by
 have hT5:(⟨h,g,d,t,os⟩:Shared).TypeIs (.builtin "object.__class__") "getset_descriptor" :=F.typeOf_object_class;have L0:=lY (M:=model prog w) hx hc hd;have L1:Looks (model prog w) h (isSubtype (.ref C) (.type (".".intercalate ("object.__class__".cutAt '.').dropLast))) true:=by rw[F.owner_object_class];exact looks_subIn X k.so
 refine codeAny_call_builtin F.slot_gs_get.plain F.entry_gs_get (F.slot_gs_get.check _ _ _ _ _ _ _ _ hT5 (F.args_gs_get _ _ _) ?_)
 repeat (any_goals (first|assumption|(with_reducible refine L0.at ?_)|(with_reducible refine L1.at ?_)|wp_step))
 refine⟨Code.quiet_builtin _ (by decide +kernel),codeAny_builtin F.entry_object_class ?_⟩
 repeat (any_goals (first|assumption|(with_reducible refine L0.at ?_)|wp_step))
theorem AL {Q:Fin->Shared->Prop}(X:K.In h)(k:ExcK K C)(hx:h.get? a=some o)(hc:o.cls= .ref C)(hd:o.data= .fields vs)(hq:Q (.done (.ret (.ref C))) ⟨h,g,d,t,os⟩):
  wpAny (model prog w) A (Builtin.«object.__getattribute__» ⟨[.ref a,.str "__class__" tk],[]⟩) Q E ⟨h,g,d,t,os⟩:=by
 have hT5:(⟨h,g,d,t,os⟩:Shared).TypeIs (.builtin "object.__class__") "getset_descriptor" :=F.typeOf_object_class;have L0:=lY (M:=model prog w) hx hc hd;have L1:=looks_findIn (M:=model prog w) X k.cl;have f5:=F.typeOf_object_class;have f6:=F.slot_gs_get.lookup;have f7:=F.slot_gs_set.lookup
 repeat (any_goals (first|assumption|(with_reducible refine L0.at ?_)|(with_reducible refine L1.at ?_)|wp_step))
 refine F8 X k hx hc hd ?_
 repeat (any_goals (first|assumption|wp_step))
theorem HN {M:Model}{nameV:Value}{Q:Unit->Shared->Prop}(X:K.In h)(k:ExcK K C)(hx:h.get? a=some o)(hc:o.cls= .ref C)(hd:o.data= .fields vs)(hq:Q () ⟨h,g,d,t,os⟩):
  wpAny M A (checkBuiltinCall "BaseException.__getattribute__" ⟨[.ref a,nameV],[]⟩) Q E ⟨h,g,d,t,os⟩:=by
 have hk:builtinKind "BaseException.__getattribute__" =some .slot:=by decide +kernel
 have hsplit:splitId "BaseException.__getattribute__" =some ("BaseException","__getattribute__"):=by decide +kernel
 have ha:=F.args_bexc_ga (.ref a) nameV;have L0:=lY (M:=M) hx hc hd;have L1:=looks_subIn (M:=M) X k.sb;simp only[checkBuiltinCall,hk,hsplit];refine wpAny_bind ?_
 .unfold isInstance
  repeat (first|(with_reducible refine L0.at ?_)|(with_reducible refine L1.at ?_)|wp_step)
  exact hq
theorem CQ (X:K.In h)(k:ExcK K C)(hx:h.get? a=some o)(hc:o.cls= .ref C)(hd:o.data= .fields vs)(hq:R (.ok (.ret (.ref C))) ⟨h,g,d,t,os⟩):
  codeAny (model prog w) A (.call (.builtin "BaseException.__getattribute__") ⟨[.ref a,.str "__class__" tk],[]⟩) R ⟨h,g,d,t,os⟩ :=
 codeAny_call_builtin F.excAttr_ValueError.ga.plain F.entry_bexc_ga (HN X k hx hc hd (AL X k hx hc hd hq))
theorem IU {fill expr:Bool}{Q:Value->Shared->Prop}(X:K.In h)(k:ExcK K C)(hx:h.get? a=some o)(hc:o.cls= .ref C)(hd:o.data= .fields vs)(hq:Q (.ref C) ⟨h,g,d,t,os⟩):
  wpAny (model prog w) A (getAttrBy (.ref a) (.str "__class__" tk) fill expr) Q E ⟨h,g,d,t,os⟩:=by
 have L0:=lY (M:=model prog w) hx hc hd;have L1:=looks_findIn (M:=model prog w) X k.ga;have L2:=looks_findIn (M:=model prog w) X k.gg;have f3:=F.excAttr_ValueError.ga.bind (.ref a);have hx0:(expr&&onTheHeap (Value.builtin "BaseException.__getattribute__"))=false:=by cases expr<;>rfl
 have hx2:(Value.builtin "BaseException.__getattribute__" ==Value.builtin "object.__getattribute__")=false:=by decide +kernel
 have hx1:(onTheHeap (Value.ref C)&&Value.builtin "BaseException.__getattribute__" ==Value.builtin "object.__getattribute__")=false:=by rw[hx2];rfl
 repeat (any_goals (first|assumption|(with_reducible refine L0.at ?_)|(with_reducible refine L1.at ?_)|(with_reducible refine L2.at ?_)|wp_step))
 refine CQ X k hx hc hd ?_
 repeat (any_goals (first|assumption|wp_step))
theorem C0 {Q:Option Value->Shared->Prop}(X:K.In h)(k:ExcK K C)(hx:h.get? a=some o)(hc:o.cls= .ref C)(hd:o.data= .fields vs)(hq:Q (some (.ref C)) ⟨h,g,d,t+1,os⟩):
  wpAny (model prog w) A (getAttr? (.ref a) "__class__") Q E ⟨h,g,d,t,os⟩:=by
 unfold getAttr? getAttrBy?
 repeat (any_goals (first|assumption|with_reducible apply IU X k hx hc hd|wp_step))
end
def wZ (a C:Addr)(h:Heap):Prop:=∃o vs,h.get? a=some o/\o.cls= .ref C/\o.data= .fields vs
theorem yJ {K:Frag}(k:ExcK K C):KitX K (.ref a) (.ref C) (wZ a C) where
 ty:=λM h X ⟨o,vs,hx,hc,hd⟩=>lY hx hc hd
 it:=λ_ _ X _=>by
  obtain⟨cd,hcD⟩:=k.cd;unfold clsIn at hcD
  split at hcD
  .rename_i c' d' cd' sl' ho;intro A' Q' E' s' k q;unfold isType loadHead;exact wpAny_bind (wpAny_loadPart (k _ _ (X _ _ ho)) (wpAny_pure q))
  .cases hcD
 ne:=λh tp dd its n sl X htp=>by
  obtain⟨cd,hcD⟩:=k.cd;refine Bool.eq_false_iff.mpr λq=> ?_;have e:C=tp:=Value.ref.inj (beq_iff_eq.mp q);subst e;unfold clsIn at hcD
  split at hcD
  .rename_i c' d' cd' sl' ho;have z:=(X _ _ ho).symm.trans htp;cases z
  .cases hcD
 ca:=λ{_ _ _ _ _ s} X ⟨o,vs,hx,hc,hd⟩ q=>by
  obtain⟨h,g,d,t,os⟩:=s;exact C0 X k hx hc hd q
def QD (h base:Heap)(ea:Addr)(cls:Value)(dd:Option Addr)(a0:Value×Value):Prop :=
 ∃ob fv tb tbo tv,h.get? ea=some ob/\ob.cls=cls/\ob.dict=dd/\(fv[0]? =some a0.1/\fv[2]? =some a0.2)/\ob.data= .fields fv/\fv[1]? =some (.ref tb)/\base.get? tb=none/\tb≠ea/\h.get? tb=some tbo/\tbo.data= .fields tv/\tv[3]? =some .none
def QA (base:Heap)(l:List Env)(ea:Addr)(cls:Value)(dd:Option Addr)(a0:Value×Value)(h h':Heap):Prop :=
 base.StaysIn h'/\h'.FunFrames base l/\QD h' base ea cls dd a0/\h.UpToSlots h'
theorem vV (ob:Obj)(g):(ob.mapFields g).dict=ob.dict:=by
 obtain⟨c,d,dt,sl⟩:=ob;cases dt<;>rfl
variable {a0:Value×Value}{outer:List Env}
section
variable {M:Model}{L:Addr}{Q:Unit->Shared->Prop}
theorem BT {nx:Bool}(hfr:A.frames=some (env::outer))(ff:s.heap.FunFrames base (env::outer))(hL:env.frame=some L)(go:s.heap.get? ea=some ob)(st:base.StaysIn s.heap)
  (nb:base.get? ea=none)(hdt:ob.data= .fields fv)(hz:1<fv.size)(h0:fv[0]? =some a0.1/\fv[2]? =some a0.2)(k:∀h',QA base (env::outer) ea ob.cls ob.dict a0 s.heap h'->Q () { s with heap:=h' }) :
  wpAny M A (do let a ←frameOf env;let pl ←entryPlaceOf L nx;let b ←EntryCells.newEntry hd0 a .none (rawInt L) .none pl;setField (.ref ea) 1 b) (λ_ s'=>wpAny M A (setFlight (.ref ea) none) Q E s') E s:=by
 have nin:ea∉(env::outer).filterMap (·.frame):=λhm=>by
  obtain⟨_,o,ho,hnf⟩:=ff.mem hm;rw[go]at ho;cases ho;exact hnf fv hdt
 refine wpAny_bind (wpAny_frameOf_fun hfr ff hL λhA sA=>wpAny_bind (wpAny_entryPlaceOf λpl hpl=> ?_));unfold EntryCells.newEntry newFields;refine wpAny_bind (wpAny_newObj_type ?_ (hpl.sizeOk5 _ _ _ _ _));have gA:hA.get? ea=some ob:=(sA.2.1 ea nin).trans go;have stA:base.StaysIn hA:=λb o q=>(sA.2.1 b λhm=>by rw[(ff.mem hm).1]at q;cases q).trans (st b o q);generalize hN:({ cls:= .type "traceback",dict:=none,data:= .fields ([hd0,.ref L,.none,rawInt L,.none]++(if pl.isEmpty then List.replicate 6 Value.none else pl)).toArray }:Obj)=nob;have hNd:∃tv,nob.data= .fields tv/\3<tv.size:=by
  rw[←hN];exact⟨_,rfl,by simp only[List.size_toArray,List.length_append,List.length_cons,List.length_nil];lia⟩
 obtain⟨tv,hNd,hNs⟩:=hNd;have gB:(hA.push nob).get? ea=some ob:=Heap.get?_push_of_some nob gA;refine wpAny_setField gB hdt hz ?_;have tne:hA.objs.size≠ea:=Nat.ne_of_gt (Heap.lt_size gA);have dC:=Obj.data_mapFields hdt (·.setIfInBounds 1 (Value.ref hA.objs.size));have gC:=Heap.get?_update_self (Obj.mapFields (·.setIfInBounds 1 (Value.ref hA.objs.size))) gB (Obj.isFreed_of_fields dC);have tC:((hA.push nob).update ea (Obj.mapFields (·.setIfInBounds 1 (Value.ref hA.objs.size)))).get? hA.objs.size=some nob:=(Heap.get?_update_other _ _ (Ne.symm tne)).trans (Heap.get?_push_size hA (Obj.isFreed_of_fields hNd));unfold setFlight;refine wpAny_bind (wpAny_field gC dC (x:= .ref hA.objs.size) (by simp[hz]) ?_);rw[if_pos (show (Value.ref hA.objs.size !=Value.none)=true from by simp)];refine wpAny_setField tC hNd hNs (k _ ?_);generalize hF:((hA.push nob).update ea (Obj.mapFields (·.setIfInBounds 1 (Value.ref hA.objs.size)))).update hA.objs.size _=hX;have keepF:∀b o,b≠ea->hA.get? b=some o->hX.get? b=some o:=λb o hb q=>by
  rw[←hF,Heap.get?_update_other _ _ (Nat.ne_of_gt (Heap.lt_size q)),Heap.get?_update_other _ _ (Ne.symm hb)];exact Heap.get?_push_of_some _ q
 have norec:∀b o,s.heap.get? b=some o->(∀vs,o.data≠ .fields vs)->b≠ea:=λb o q hnf z=>by
  rw[z,go]at q;cases q;exact hnf fv hdt
 refine⟨λb o q=>keepF b o (λz=>by rw[z,nb]at q;cases q) (stA b o q),ff.of_keeps λb o q hnf=> ?_,?_,λb o q hnf=> ?_⟩
 .obtain⟨sl,hs⟩:=sA.2.2 b o q;exact⟨_,keepF b _ (norec b o q hnf) hs,rfl⟩
 .refine⟨_,_,hA.objs.size,_,_,by rw[←hF,Heap.get?_update_other _ _ tne];exact gC,Obj.cls_mapFields _ _,vV _ _,⟨by rw[Array.getElem?_setIfInBounds_ne (by decide)];exact h0.1,by rw[Array.getElem?_setIfInBounds_ne (by decide)];exact h0.2⟩,dC,by simp[hz],stA.fresh,tne,
   by rw[←hF];exact Heap.get?_update_self _ tC (Obj.isFreed_of_fields (Obj.data_mapFields hNd _)),Obj.data_mapFields hNd _,?_⟩
  simp[hNs]
 .obtain⟨sl,hs⟩:=sA.2.2 b o q;exact⟨sl,keepF b _ (norec b o q hnf) hs⟩
theorem vY (hfr:A.frames=some (env::outer))(ff:s.heap.FunFrames base (env::outer))(hL:env.frame=some L)(go:s.heap.get? ea=some ob)(st:base.StaysIn s.heap)(nb:base.get? ea=none)
  (hdt:ob.data= .fields fv)(h1:fv[1]? =some .none)(h0:fv[0]? =some a0.1/\fv[2]? =some a0.2)(k:∀h',QA base (env::outer) ea ob.cls ob.dict a0 s.heap h'->Q () { s with heap:=h' }):wpAny M A (leaving env (.ref ea)) Q E s:=by
 unfold leaving noteFrame;simp only[hL];refine wpAny_bind (wpAny_bind (wpAny_field go hdt h1 ?_));rw[if_neg (by decide)];exact BT hfr ff hL go st nb hdt (Array.getElem?_eq_some_iff.mp h1).1 h0 k
theorem LF {dd:Option Addr}(hfr:A.frames=some (env::outer))(ff:s.heap.FunFrames base (env::outer))(hL:env.frame=some L)(tr:QD s.heap base ea cls dd a0)(st:base.StaysIn s.heap)(nb:base.get? ea=none)
  (k:∀h',QA base (env::outer) ea cls dd a0 s.heap h'->Q () { s with heap:=h' }):wpAny M A (leaving env (.ref ea)) Q E s:=by
 obtain⟨ob,fv,tb,tbo,tv,go,ec,ed,h0,hdt,h1,nT,tne,gT,dT,h3⟩:=tr;subst ec ed;unfold leaving noteFrame;simp only[hL];refine wpAny_bind (wpAny_bind (wpAny_field go hdt h1 ?_));rw[if_pos (show (Value.ref tb !=Value.none)=true from by simp)];refine wpAny_bind (wpAny_field gT dT h3 ?_);rw[if_neg (show ¬((Value.none==rawInt L)=true) from by simp[rawInt])];refine wpAny_bind (wpAny_setField gT dT (Array.getElem?_eq_some_iff.mp h3).1 ?_);have oth:∀b,b≠tb->(s.heap.update tb (Obj.mapFields (·.setIfInBounds 3 Value.none))).get? b=s.heap.get? b:=λb hb=>Heap.get?_update_other _ _ (Ne.symm hb);have norec:∀b o,s.heap.get? b=some o->(∀vs,o.data≠ .fields vs)->b≠tb:=λb o q hnf z=>by
  rw[z,gT]at q;cases q;exact hnf tv dT
 refine BT hfr (ff.of_keeps λb o q hnf=>⟨o,(oth b (norec b o q hnf)).trans q,rfl⟩) hL ((oth ea (Ne.symm tne)).trans go) (λb o q=>(oth b λz=>by rw[z,nT]at q;cases q).trans (st b o q)) nb hdt (Array.getElem?_eq_some_iff.mp h1).1 h0 λh' ⟨x1,x2,x3,x4⟩=> ?_;exact k h' ⟨x1,x2,x3,λb o q hnf=>x4 b o ((oth b (norec b o q hnf)).trans q) hnf⟩
def FlyD (base:Heap)(l:List Env)(ea:Addr)(cls:Value)(dd:Option Addr)(a0:Value×Value)(h:Heap):Prop:=base.StaysIn h/\base.get? ea=none/\h.FunFrames base l/\QD h base ea cls dd a0
theorem FlyD.there {l:List Env}{dd:Option Addr}(x:FlyD base l ea cls dd a0 h):∃ob fv,h.get? ea=some ob/\ob.cls=cls/\ob.dict=dd/\ob.data= .fields fv/\fv[2]? =some a0.2:=by
 obtain⟨_,_,_,ob,fv,_,_,_,go,ec,ed,h0,hdt,_⟩:=x;exact⟨ob,fv,go,ec,ed,hdt,h0.2⟩
theorem AB {dd:Option Addr}(hfr:A.frames=some (env::outer))(hL:env.frame=some L)(fl:FlyD base (env::outer) ea cls dd a0 s.heap)(k:∀h',FlyD base outer ea cls dd a0 h'->s.heap.UpToSlots h'->Q () { s with heap:=h' }):
  wpAny M A (leaving env (.ref ea)) Q E s:=by
 obtain⟨f1,f2,f3,f4⟩:=fl;refine LF hfr f3 hL f4 f1 f2 λh' hl=> ?_;obtain⟨k1,⟨_,_,k2⟩,k3,k4⟩:=hl;exact k h' ⟨k1,f2,k2,k3⟩ k4
theorem u8 {args:List Value}(hfr:A.frames=some (env::outer))(hL:env.frame=some L)(st:base.StaysIn h)(ff:h.FunFrames base (env::outer))(m:Heap.MadeExcOf h s.heap ea cls args)
  (k:∀h' t,FlyD base outer ea cls none (.ref t,.none) h'->s.heap.UpToSlots h'->Q () { s with heap:=h' }):wpAny M A (leaving env (.ref ea)) Q E s:=by
 obtain⟨t,go,_,_⟩:=m.there;have nb:base.get? ea=none:=by
  cases q:base.get? ea with
  | none=>rfl
  | some o =>
   have z:=st ea o q;rw[m.new]at z;cases z
 refine vY (a0:=(.ref t,.none)) hfr (ff.of_keeps λb o q _=>⟨o,m.keeps b o q,rfl⟩) hL go (λb o q=>m.keeps b o (st b o q)) nb rfl rfl ⟨rfl,rfl⟩ λh' hl=> ?_;obtain⟨k1,⟨_,_,k2⟩,k3,k4⟩:=hl;exact k h' t ⟨k1,nb,k2,k3⟩ k4
end
section
variable {o:HO}
theorem ObjOk.there (x:ObjOk P w H h a o):∃ob,h.get? a=some ob:=by
 cases o with
 | lst xs=>obtain⟨_,_,_,_,e⟩:=x;exact⟨_,e⟩
 | tup xs=>obtain⟨_,_,_,ob,e,_⟩:=x;exact⟨_,e⟩
 | dK kvs=>obtain⟨_,_,_,_,o,_,_,e,_⟩:=x;exact⟨_,e⟩
 | dT kvs=>obtain⟨_,_,_,_,o,_,_,e,_⟩:=x;exact⟨_,e⟩
 | set S n=>obtain⟨o,_,_,_,e,_⟩:=x;exact⟨_,e⟩
 | ins C dx fs=>obtain⟨_,_,_,e,_⟩:=x;exact⟨_,e⟩
 | own y=>exact x
 | xd fs=>obtain⟨_,⟨_,_,_,e,_⟩,_⟩:=x;exact⟨_,e⟩
 | rng lo hi=>obtain⟨_,_,_,e⟩:=x;exact⟨_,e⟩
 | frz ob u=>obtain⟨e,_⟩:=x;exact⟨_,e⟩
 | tbl ps=>exact⟨_,(show h.get? a=some _ from x)⟩
 | met f y=>exact⟨_,(show h.get? a=some _ from x)⟩
 | ext φ=>obtain⟨_,e,_⟩:=x;exact e
end
def CXE (P:Program)(w:World):CXT:=λouter H s E e s' =>
 ∃ea cls dd,∃a0:Value,∃H' B,e= .ref ea/\s'.os=s.os/\AllBare s'.gens/\Un (frs outer) [] H H' s.heap s'.heap/\HOk P w H' s'.heap/\H' ea=none/\s.heap.get? ea=none ∧
  FlyD B outer ea cls dd (a0,.none) s'.heap/\(∀b,(H' b≠none∨∃o,s.heap.get? b=some o)->b∉frs outer->∃o,B.get? b=some o)/\E cls dd H'
section
variable {s1:Shared}{h2 B:Heap}
theorem BY (I:Inv X pins σ H s)(hex:X.ex=[])(st:B.StaysIn h2)(sb:B.StaysIn s.heap)(up:s.heap.UpToSlots h2)(cov:∀b,(H b≠none∨∃o,X.s₀.heap.get? b=some o)->b∉frs X.stack->∃o,B.get? b=some o)(hst:X.stack=X.env::X.outer)(hf:X.env.frame=some X.env.locals):
  Un X.fs [] X.H₀ H X.s₀.heap h2/\HOk X.prog X.w H h2:=by
 have hfr:∀b,b∈frs X.stack->b=X.env.locals∨b∈X.fs:=λb hb=>List.mem_cons.mp (I.stkSub b hb);have nloc:∀b o,X.s₀.heap.get? b=some o->b≠X.env.locals:=λb o q z=>by
  have e1:=Nat.lt_of_lt_of_le (Heap.lt_size q) I.ok.above;rw[z]at e1;exact Nat.lt_irrefl _ e1
 have same:∀b o,(H b≠none∨∃o,X.s₀.heap.get? b=some o)->b∉frs X.stack->s.heap.get? b=some o->h2.get? b=some o:=λb o hc hb q=>by
  obtain⟨o',e⟩:=cov b hc hb;have e1:=sb b o' e;rw[q]at e1;cases e1;exact st b _ e
 have ub:=I.base;rw[hex]at ub;refine⟨⟨λb o q n hb _=> ?_,λb o q n hb _=> ?_,λb o q n _=>ub.free b o q n (by simp),λb o q _=> ?_,ub.tups,ub.frzs,ub.tbls⟩,λb u e=> ?_⟩
 .have q1:=ub.keep b o q n hb (by simp);exact same b o (.inr ⟨o,q⟩) (λz=>(hfr b z).elim (nloc b o q) hb) q1
 .obtain⟨sl,q1⟩:=ub.slot b o q n hb (by simp);obtain⟨_,o',ho',hd⟩:=I.funs.mem hb;have hd1:∀vs,({ o with slots:=sl }:Obj).data≠ .fields vs:=λvs z=>by
   rw[q1]at ho';cases ho';exact hd vs z
  obtain⟨sl2,q2⟩:=up b _ q1 hd1;exact⟨sl2,q2⟩
 .obtain⟨o1,q1⟩:=ub.there b o q (by simp)
  by_cases hb:b∈frs X.stack
  .obtain⟨_,o',ho',hd⟩:=I.stack.mem hb;rw[q1]at ho';cases ho';obtain⟨sl2,q2⟩:=up b _ q1 hd;exact⟨_,q2⟩
  .exact⟨o1,same b o1 (.inr ⟨o,q⟩) hb q1⟩
 .refine(I.hok b u e).stay (λc v hc q=> ?_) (λ_ q=>q) λ_ _ q=>q;have hn:H c≠none:=by
   rcases hc with z|z
   .rw[z,e];simp
   .rw[z];simp
  exact same c v (.inl hn) (λz=>hn (I.stkFree c z)) q
end
theorem jH {f:Addr}{E:XK}:
  fZ (CXE P w) (b7 (CXE P w) P w K mg base N qual scope f cd A outer s₀ H₀ E) E:=by
 intro pins σ H s e s' I h;obtain⟨ea,cls,dd,a0,H',B,rfl,os,bare,un,hok,hn,new,fl,cov,q⟩:=h;have I':=I.call' (ch:=[]) os un hok bare (λb z=>absurd z (by simp));have there:∀b o,s₀.heap.get? b=some o->∃o',s.heap.get? b=some o':=λb o e=>I.base.there b o e (λz=>absurd (show b∈([]:List Addr) from z) (by simp));show wpAny _ _ (leaving _ _) _ _ s';refine AB (I.ok.frames) rfl fl λh2 fl2 up=> ?_;obtain⟨un2,hok2⟩:=BY (B:=B) (h2:=h2) I' rfl fl2.1 fl.1 up (λb hb hs=>cov b (hb.imp id λ⟨o,e⟩=>there b o e) hs) rfl rfl;refine⟨ea,cls,dd,a0,H',B,rfl,I'.os,bare,un2,hok2,hn,?_,fl2,λb hb hs=>cov b (hb.imp id λ⟨o,e⟩=>there b o e) λz=> ?_,q⟩
 .cases e:s₀.heap.get? ea with
  | none=>rfl
  | some o =>
   obtain⟨o',e'⟩:=there ea o e;rw[new]at e';cases e'
 .rcases List.mem_cons.mp (I.stkSub b z) with e|hb'
  .rcases hb with hb|⟨o,e2⟩
   .exact hb (by rw[e];exact I'.free)
   .have e1:=Nat.lt_of_lt_of_le (Heap.lt_size e2) I.ok.above;rw[e]at e1;exact Nat.lt_irrefl _ e1
  .exact hs hb'
theorem O3 {f:Addr}{E:XK}
  {pins:List (Addr×Obj)}{σ:St}{H:Hp}{s1:Shared}{h':Heap}{ea:Addr}{cls:Value}{args:List Value} (I:Inv (b7 (CXE P w) P w K mg base N qual scope f cd A outer s₀ H₀ E) pins σ H s1)
  (m:Heap.MadeExcOf s1.heap h' ea cls args)(q:E cls none H):(b7 (CXE P w) P w K mg base N qual scope f cd A outer s₀ H₀ E).xe (.ref ea) { s1 with heap:=h' }:=by
 have there:∀b o,s₀.heap.get? b=some o->∃o',s1.heap.get? b=some o':=λb o e=>I.base.there b o e (λz=>absurd (show b∈([]:List Addr) from z) (by simp));have hin:∀env∈(b7 (CXE P w) P w K mg base N qual scope f cd A outer s₀ H₀ E).stack,∀b,env.frame=some b->b∈frs (b7 (CXE P w) P w K mg base N qual scope f cd A outer s₀ H₀ E).stack:=λenv he b hb=>List.mem_filterMap.mpr ⟨env,he,hb⟩;have hk:(hideAll s1.heap (frs (b7 (CXE P w) P w K mg base N qual scope f cd A outer s₀ H₀ E).stack)).StaysIn s1.heap:=λb o e=>of_hideAll _ e;have cov:∀b,(H b≠none∨∃o,s₀.heap.get? b=some o)->b∉frs (b7 (CXE P w) P w K mg base N qual scope f cd A outer s₀ H₀ E).stack →
   ∃o,(hideAll s1.heap (frs (b7 (CXE P w) P w K mg base N qual scope f cd A outer s₀ H₀ E).stack)).get? b=some o:=λb hb hs=>by
  have:∃o,s1.heap.get? b=some o:=by
   rcases hb with hb|⟨o,e⟩
   .cases e:H b with
    | none=>exact absurd e hb
    | some u=>exact(I.hok b u e).there
   .exact there b o e
  obtain⟨o,e⟩:=this;exact⟨o,hideAll_get _ e hs⟩
 show wpAny _ _ (leaving _ _) _ _ _;refine u8 (s:={ s1 with heap:=h' }) (h:=s1.heap) (base:=hideAll s1.heap (frs (b7 (CXE P w) P w K mg base N qual scope f cd A outer s₀ H₀ E).stack)) (I.ok.frames) rfl hk (funFrames_hide I.stack hin) m λh2 t fl up=> ?_;have up2:s1.heap.UpToSlots h2:=(Heap.UpToSlots.of_keeps m.keeps).trans up;obtain⟨un2,hok2⟩:=BY (h2:=h2) I rfl fl.1 hk up2 cov rfl rfl;have hn:H ea=none:=by
  cases e:H ea with
  | none=>rfl
  | some u =>
   obtain⟨o,e2⟩:=(I.hok ea u e).there;rw[m.new]at e2;cases e2
 refine⟨ea,cls,none,.ref t,H,_,rfl,I.os,I.bare,un2,hok2,hn,?_,fl,λb hb hs=>cov b hb λz=> ?_,q⟩
 .cases e:s₀.heap.get? ea with
  | none=>rfl
  | some o =>
   obtain⟨o',e'⟩:=there ea o e;rw[m.new]at e';cases e'
 .rcases List.mem_cons.mp (I.stkSub b z) with e|hb'
  .rcases hb with hb|⟨o,e2⟩
   .exact hb (by rw[e];exact I.free)
   .have e1:=Nat.lt_of_lt_of_le (Heap.lt_size e2) I.ok.above;rw[e]at e1;exact Nat.lt_irrefl _ e1
  .exact hs hb'
def IC (X:Cx)(E:XK):Prop:=∀(pins:List (Addr×Obj)) (σ:St) (H:Hp) (s1:Shared) (h':Heap) (ea:Addr) (cls:Value) (args:List Value),Inv X pins σ H s1->Heap.MadeExcOf s1.heap h' ea cls args->E cls none H->X.xe (.ref ea) { s1 with heap:=h' }
theorem i8 {f:Addr}{E:XK}:
  IC (b7 (CXE P w) P w K mg base N qual scope f cd A outer s₀ H₀ E) E:=λ_ _ _ _ _ _ _ _ I m q=>O3 I m q
abbrev bmV:List Value:=[.type "ValueError",.type "Exception",.type "BaseException",.type "object"]
abbrev DW (K:W.Frag)(C:Addr):Prop:=excIn K C bmV "ValueError.__new__" =true
theorem MA {K:Frag}{h₀:Heap}{bmB:List Value}{newId:String}(X:K.In h₀)(q:excIn K C bmB newId=true):
  ∃bm N nm q bs hdct sn sub ab col dd k0 k1 k2 k3 k5 mN,h₀.get? C=some (excClassObj nm q C N bs bm hdct sn sub ab col dd k0 k1 k2 k3 k5 newId)/\h₀.Ns N mN/\mN "__init__" =none/\OwnTail h₀ bmB bm:=by
 unfold excIn at q
 split at q
 .rename_i dd cd sl ho
  split at q
  .rename_i C' bm k0 k1 k2 k3 n k5 hm hs;simp only[Bool.and_eq_true,beq_iff_eq,Bool.not_eq_true']at q;obtain⟨⟨⟨⟨⟨rfl,rfl⟩,hdel⟩,ht⟩,hok⟩,hni⟩:=q;obtain⟨nm,bs,mro,ns,qn,hd,sn,sub,ab,col,del⟩:=cd
   dsimp only at hm hdel hok hni
   subst hm hdel;have hsl:sl= #[k0,k1,k2,k3,some (.builtin n),k5]:=by
    obtain⟨l⟩:=sl;simp only at hs;rw[hs]
   subst hsl;exact⟨bm,ns,nm,qn,bs,hd,sn,sub,ab,col,dd,k0,k1,k2,k3,k5,_,X _ _ ho,.of_isNs (isNs_of_in X hok),nsMap_none_of_in X hok hni,tail_of_in X ht⟩
  .cases q
 .cases q
section
variable {E:XK}{cpos:Pos}{t:TA}
def SM (C:Addr)(E:XK)(t:TA):TS:=λD σ H=>t σ H λvs H1=>vs.length<=sizeLine/\E (.ref C) none H1
theorem dM (hm:X.mg x=some (.ref C))(hc:DW X.K C)(hx:IC X E)(ha:PA X (e::es) t)(cm:X.calm=true:=by rfl)(hg:Gl X x:=by rfl)(hdb:(x==("__debug__" :Str))=false:=by decide)
  (he:starEach (e::es) X.env=(false,eval e X.env)::starEach es X.env:=by rfl)(hpl:(backTo cpos (starEach es X.env)).any (·.1)=false:=by rfl) :
  PS X (.Raise (some (.Call (.Name x np) (e::es) [] cpos)) none pos) (SM C E t):=by
 intro pins s σ H D I h;obtain⟨tl,N,nm,q,bs,hdct,sn,sub,ab,col,dd,k0,k1,k2,k3,k5,mN,hC,hN,hni,T⟩:=MA I.ok.mod.kin hc;refine wpAny_Raise_call_subT (C:=C) (nm:=nm) (q:=q) (N:=N) (bs:=bs) (bm:=tl) (hdct:=hdct) (sn:=sn) (sub:=sub) (ab:=ab) (col:=col) (dd:=dd) (k0:=k0) (k1:=k1) (k2:=k2) (k3:=k3) (k5:=k5)
  PySem.F.excBase_ValueError (mN:=mN) (T.hasType PySem.F.excBase_ValueError.hasBase) (I.ok.hd cm) (by rw[he];show (false||(backTo cpos (starEach es X.env)).any (·.1))=false;rw[hpl];rfl) hni (dI I hg hm ⟨rfl,?_⟩ hdb)
 have hh:=ha cpos pins s σ H _ I h;rw[he]at hh ⊢;refine Calls.evalArgs_plain (wpAny_mono hh (λvs s₂ h₂=> ?_) λ_ _ y=>y);obtain⟨us,H2,I2,r,z,q2⟩:=h₂;exact⟨rfl,by rw[←r.length];exact z,I2.bk _ _ hC,hN.keeps I2.bk,T.keeps I2.bk,λh' ea m=>hx pins σ H2 s₂ h' ea _ _ I2 m q2⟩
end
structure FcE (P:Program)(w:World)(K:W.Frag)(mg:Str->Option Value)(base:Heap)(x:Str)(k:Nat)(ps:List Str)(sp:Sp):Prop where
 ex:∃f fd,mg x=some (.ref f)/\W.keepIn K (.ref f)=true/\Binds K fd ps []/\FnOk P w K mg base (CXE P w) k f fd ps sp
structure KcE (P:Program)(w:World)(K:W.Frag)(mg:Str->Option Value)(base:Heap)(x:Str)(C:Addr)(k:Nat)(dvs:List V)(sp:Sp):Prop where
 ex:∃f fd ps ds,mg x=some (.ref C)/\Mk K C f/\Vals dvs ds/\Binds K fd ps ds/\FnOk P w K mg base (CXE P w) k f fd ps sp
section
variable {k:Nat}{p:Pos}{t:TA}{E:XK}{ps:List Str}
theorem dH (F:FcE X.prog X.w X.K X.mg X.base x k ps sp)(hr:Room k' X.A)(hx:fZ (CXE X.prog X.w) X E)(ha:PA X (e::es) t)(hk:k<=k':=by decide)(hg:Gl X x:=by rfl)
  (hdb:(x==("__debug__" :Str))=false:=by decide)(he:starEach (e::es) X.env=(false,eval e X.env)::starEach es X.env:=by rfl)(hpl:(backTo pos (starEach es X.env)).any (·.1)=false:=by rfl) :
  PE X (.Call (.Name x p) (e::es) [] pos) (j8 sp [] E t):=by
 obtain⟨f,fd,hm,kp,b,G⟩:=F.ex;exact DG G (hr.mono hk) hg hm kp b .nil hx ha hdb he hpl
end
theorem FunV.okE {st:Stmt}{f:Addr}{ps:List Str}{k:Nat}(F:FunV K x qual st f fd)(S:aN N ps (aH st))(len:∀vs H Q E,sp vs H Q E->vs.length=ps.length)
  (hbody:∀(cdv:Value) (A:Around) (outer:List Env) (s:Shared) (H:Hp) (vs:List V) (Q:VK) (E:XK),Room k (A.deeper (envOfC qual (aH st) s.heap.objs.size f cdv))->sp vs H Q E →
   ∃t,PSs (b7 (CXE P w) P w K mg base N qual (aH st) f cdv A outer s H E) (c8 st) t/\t { nx:=λ_ H'=>Q .non H',rt:=Q } (jE N vs) H):FnOk P w K mg base (CXE P w) (k+1) f fd ps sp:=by
 obtain⟨oc,od,dV,kV,doc,pm,an,cdv,ct,osl,rfl,lk,hcd⟩:=F.ex;exact P4 lk hcd S len λA outer s H vs Q E hr h=>hbody cdv A outer s H vs Q E hr h
def GR (h base:Heap)(ea:Addr)(cls:Value)(dd:Option Addr)(a0:Value×Value)(mk:Value):Prop :=
 ∃ob fv tb tbo tv,h.get? ea=some ob/\ob.cls=cls/\ob.dict=dd/\(fv[0]? =some a0.1/\fv[2]? =some a0.2)/\ob.data= .fields fv/\fv[1]? =some (.ref tb)/\base.get? tb=none/\tb≠ea/\h.get? tb=some tbo/\tbo.data= .fields tv/\tv[3]? =some mk
def ZJ (base:Heap)(l:List Env)(ea:Addr)(cls:Value)(dd:Option Addr)(a0:Value×Value)(mk:Value)(h h':Heap):Prop :=
 base.StaysIn h'/\h'.FunFrames base l/\GR h' base ea cls dd a0 mk/\h.UpToSlots h'
section
variable {M:Model}{L:Addr}{Q:Unit->Shared->Prop}
theorem xS {nx:Bool}(hfr:A.frames=some (env::outer))(ff:s.heap.FunFrames base (env::outer))(hL:env.frame=some L)(go:s.heap.get? ea=some ob)(st:base.StaysIn s.heap)
  (nb:base.get? ea=none)(hdt:ob.data= .fields fv)(hz:1<fv.size)(h0:fv[0]? =some a0.1/\fv[2]? =some a0.2)(k:∀h',ZJ base (env::outer) ea ob.cls ob.dict a0 (rawInt L) s.heap h'->Q () { s with heap:=h' }) :
  wpAny M A (do let a ←frameOf env;let pl ←entryPlaceOf L nx;let b ←EntryCells.newEntry hd0 a .none (rawInt L) .none pl;setField (.ref ea) 1 b) Q E s:=by
 have nin:ea∉(env::outer).filterMap (·.frame):=λhm=>by
  obtain⟨_,o,ho,hnf⟩:=ff.mem hm;rw[go]at ho;cases ho;exact hnf fv hdt
 refine wpAny_bind (wpAny_frameOf_fun hfr ff hL λhA sA=>wpAny_bind (wpAny_entryPlaceOf λpl hpl=> ?_));unfold EntryCells.newEntry newFields;refine wpAny_bind (wpAny_newObj_type ?_ (hpl.sizeOk5 _ _ _ _ _));have gA:hA.get? ea=some ob:=(sA.2.1 ea nin).trans go;have stA:base.StaysIn hA:=λb o q=>(sA.2.1 b λhm=>by rw[(ff.mem hm).1]at q;cases q).trans (st b o q);generalize hN:({ cls:= .type "traceback",dict:=none,data:= .fields ([hd0,.ref L,.none,rawInt L,.none]++(if pl.isEmpty then List.replicate 6 Value.none else pl)).toArray }:Obj)=nob;have hNd:∃tv,nob.data= .fields tv/\tv[3]? =some (rawInt L):=by
  rw[←hN];exact⟨_,rfl,by first|(simp;done)|(rcases hpl with rfl|⟨_,_,_,_,_,_,_,rfl⟩<;>simp)⟩
 obtain⟨tv,hNd,hN3⟩:=hNd;have gB:(hA.push nob).get? ea=some ob:=Heap.get?_push_of_some nob gA;refine wpAny_setField gB hdt hz (k _ ?_);have tne:hA.objs.size≠ea:=Nat.ne_of_gt (Heap.lt_size gA);have dC:=Obj.data_mapFields hdt (·.setIfInBounds 1 (Value.ref hA.objs.size));have gC:=Heap.get?_update_self (Obj.mapFields (·.setIfInBounds 1 (Value.ref hA.objs.size))) gB (Obj.isFreed_of_fields dC);have tC:((hA.push nob).update ea (Obj.mapFields (·.setIfInBounds 1 (Value.ref hA.objs.size)))).get? hA.objs.size=some nob:=(Heap.get?_update_other _ _ (Ne.symm tne)).trans (Heap.get?_push_size hA (Obj.isFreed_of_fields hNd));generalize hF:(hA.push nob).update ea (Obj.mapFields (·.setIfInBounds 1 (Value.ref hA.objs.size)))=hX at gC tC ⊢;have keepF:∀b o,b≠ea->hA.get? b=some o->hX.get? b=some o:=λb o hb q=>by
  rw[←hF,Heap.get?_update_other _ _ (Ne.symm hb)];exact Heap.get?_push_of_some _ q
 have norec:∀b o,s.heap.get? b=some o->(∀vs,o.data≠ .fields vs)->b≠ea:=λb o q hnf z=>by
  rw[z,go]at q;cases q;exact hnf fv hdt
 refine⟨λb o q=>keepF b o (λz=>by rw[z,nb]at q;cases q) (stA b o q),ff.of_keeps λb o q hnf=> ?_,?_,λb o q hnf=> ?_⟩
 .obtain⟨sl,hs⟩:=sA.2.2 b o q;exact⟨_,keepF b _ (norec b o q hnf) hs,rfl⟩
 .exact⟨_,_,hA.objs.size,_,_,gC,Obj.cls_mapFields _ _,vV _ _,⟨by rw[Array.getElem?_setIfInBounds_ne (by decide)];exact h0.1,by rw[Array.getElem?_setIfInBounds_ne (by decide)];exact h0.2⟩,dC,by simp[hz],stA.fresh,tne,tC,hNd,hN3⟩
 .obtain⟨sl,hs⟩:=sA.2.2 b o q;exact⟨sl,keepF b _ (norec b o q hnf) hs⟩
theorem rT {dd:Option Addr}(hfr:A.frames=some (env::outer))(hL:env.frame=some L)(fl:FlyD base (env::outer) ea cls dd a0 s.heap)
  (k:∀h',ZJ base (env::outer) ea cls dd a0 (rawInt L) s.heap h'->Q () { s with heap:=h' }):wpAny M A (noteFrame (.ref ea) env) Q E s:=by
 obtain⟨st,nb,ff,ob,fv,tb,tbo,tv,go,ec,ed,h0,hdt,h1,nT,tne,gT,dT,h3⟩:=fl;subst ec ed;unfold noteFrame;simp only[hL];refine wpAny_bind (wpAny_field go hdt h1 ?_);rw[if_pos (show (Value.ref tb !=Value.none)=true from by simp)];refine wpAny_bind (wpAny_field gT dT h3 ?_);rw[if_neg (show ¬((Value.none==rawInt L)=true) from by simp[rawInt])];refine wpAny_bind (wpAny_setField gT dT (Array.getElem?_eq_some_iff.mp h3).1 ?_);have oth:∀b,b≠tb->(s.heap.update tb (Obj.mapFields (·.setIfInBounds 3 Value.none))).get? b=s.heap.get? b:=λb hb=>Heap.get?_update_other _ _ (Ne.symm hb);have norec:∀b o,s.heap.get? b=some o->(∀vs,o.data≠ .fields vs)->b≠tb:=λb o q hnf z=>by
  rw[z,gT]at q;cases q;exact hnf tv dT
 refine xS hfr (ff.of_keeps λb o q hnf=>⟨o,(oth b (norec b o q hnf)).trans q,rfl⟩) hL ((oth ea (Ne.symm tne)).trans go) (λb o q=>(oth b λz=>by rw[z,nT]at q;cases q).trans (st b o q)) nb hdt (Array.getElem?_eq_some_iff.mp h1).1 h0 λh' ⟨x1,x2,x3,x4⟩=> ?_;exact k h' ⟨x1,x2,x3,λb o q hnf=>x4 b o ((oth b (norec b o q hnf)).trans q) hnf⟩
theorem p7 {l:List Env}{mk:Value}{dd:Option Addr}(st:base.StaysIn s.heap)(nb:base.get? ea=none)(ff:s.heap.FunFrames base l)(tr:GR s.heap base ea cls dd a0 mk)
  (k:∀h',FlyD base l ea cls dd a0 h'->s.heap.UpToSlots h'->Q () { s with heap:=h' }):wpAny M A (setFlight (.ref ea) none) Q E s:=by
 obtain⟨ob,fv,tb,tbo,tv,go,ec,ed,h0,hdt,h1,nT,tne,gT,dT,h3⟩:=tr;have oth:∀b,b≠tb->(s.heap.update tb (Obj.mapFields (·.setIfInBounds 3 ((none:Option Addr).elim Value.none λf=>rawInt f)))).get? b=s.heap.get? b:=λb hb=>Heap.get?_update_other _ _ (Ne.symm hb);have norec:∀b o,s.heap.get? b=some o->(∀vs,o.data≠ .fields vs)->b≠tb:=λb o q hnf z=>by
  rw[z,gT]at q;cases q;exact hnf tv dT
 have z3:=(Array.getElem?_eq_some_iff.mp h3).1;unfold setFlight;refine wpAny_bind (wpAny_field go hdt h1 ?_);rw[if_pos (show (Value.ref tb !=Value.none)=true from by simp)];refine wpAny_setField gT dT z3 (k _ ⟨λb o q=>(oth b λz=>by rw[z,nT]at q;cases q).trans (st b o q),nb,ff.of_keeps λb o q hnf=>⟨o,(oth b (norec b o q hnf)).trans q,rfl⟩,?_⟩ λb o q hnf=>⟨o.slots,(oth b (norec b o q hnf)).trans q⟩);exact⟨ob,fv,tb,_,_,(oth ea (Ne.symm tne)).trans go,ec,ed,h0,hdt,h1,nT,tne,Heap.get?_update_self _ gT (Obj.isFreed_of_fields (Obj.data_mapFields dT _)),Obj.data_mapFields dT _,by simp[z3]⟩
end
abbrev Cx.inx (X:Cx)(ea:Addr):Cx:={ X with A:=X.A.mark (some (.ref ea)),calm:=false,xe:=λ_ _=>False }
theorem Cx.Ok.inx (ok:X.Ok)(ea:Addr):(X.inx ea).Ok :=
 ⟨ok.mod,ok.kind,ok.glob,ok.blt,ok.above,ok.inj,ok.has,ok.cab,(λz=>by cases z),ok.frames,ok.stk,ok.exf,ok.bs,ok.bsz,ok.noex,ok.exfs,ok.funs,ok.frf⟩
theorem Inv.inx (I:Inv X pins σ H s)(ea:Addr):Inv (X.inx ea) pins σ H s:=⟨I.ok.inx ea,I.os,I.bare,I.base,I.loc,I.cell,I.free,I.freeC,I.pin,I.hok,I.len⟩
theorem Inv.outx (ok:X.Ok)(I:Inv (X.inx ea) pins σ H s):Inv X pins σ H s:=⟨ok,I.os,I.bare,I.base,I.loc,I.cell,I.free,I.freeC,I.pin,I.hok,I.len⟩
theorem C2 {fs:List Addr}{B:Heap}(un:Un fs [] H1 H' h1 h')(hok:HOk P w H' h')(cov:∀b,(H' b≠none∨∃o,h1.get? b=some o)->b∉fs->∃o,B.get? b=some o)
  (sb:B.StaysIn h')(st:B.StaysIn h6)(up:h'.UpToSlots h6)(hf:∀b∈fs,H' b=none/\∃o,h'.get? b=some o/\∀vs,o.data≠ .fields vs):Un fs [] H1 H' h1 h6/\HOk P w H' h6:=by
 have same:∀b o,(H' b≠none∨∃o,h1.get? b=some o)->b∉fs->h'.get? b=some o->h6.get? b=some o:=λb o hc hb q=>by
  obtain⟨o',e⟩:=cov b hc hb;have e1:=sb b o' e;rw[q]at e1;cases e1;exact st b _ e
 have atf:∀b o,b∈fs->h'.get? b=some o->∃sl,h6.get? b=some { o with slots:=sl }:=λb o hb q=>by
  obtain⟨_,o',e,d⟩:=hf b hb;rw[q]at e;cases e;exact up b _ q d
 refine⟨⟨λb o q n hb hx=>same b o (.inr ⟨o,q⟩) hb (un.keep b o q n hb hx),λb o q n hb hx=> ?_,un.free,λb o q hx=> ?_,un.tups,un.frzs,un.tbls⟩,λb u e=> ?_⟩
 .obtain⟨sl,q1⟩:=un.slot b o q n hb hx;obtain⟨sl2,q2⟩:=atf b _ hb q1;exact⟨sl2,q2⟩
 .obtain⟨o1,q1⟩:=un.there b o q hx
  by_cases hb:b∈fs
  .obtain⟨sl,q2⟩:=atf b o1 hb q1;exact⟨_,q2⟩
  .exact⟨o1,same b o1 (.inr ⟨o,q⟩) hb q1⟩
 .refine(hok b u e).stay (λc v hc q=> ?_) (λ_ q=>q) λ_ _ q=>q;have hn:H' c≠none:=by
   rcases hc with z|z
   .rw[z,e];simp
   .rw[z];simp
  exact same c v (.inl hn) (λz=>hn (hf c z).1) q
def ExcDAt (a C dx:Addr)(h:Heap):Prop:=∃o vs,h.get? a=some o/\o.cls= .ref C/\o.dict=some dx/\o.data= .fields vs/\vs[2]? =some .none
def ExcU (a C:Addr)(h:Heap):Prop:=∃o vs,h.get? a=some o/\o.cls= .ref C/\o.data= .fields vs/\vs[2]? =some .none
def BV (a C:Addr):Option Addr->HO
 | none=> .ext (ExcU a C)
 | some dx=> .ext (ExcDAt a C dx)
theorem AZ {fs:List Addr}{C:Addr}{φ:Heap->Prop}(un:Un fs [] H1 H' h1 h6)(hok:HOk P w H' h6)(new:h1.get? ea=none)(hn:H' ea=none)(x:φ h6)(tx:∃o,h6.get? ea=some o)
  (kx:∀g1 g2,φ g1->(∀o,g1.get? ea=some o->g2.get? ea=some o)->φ g2):Un fs [] H1 (upd H' ea (.ext φ)) h1 h6/\HOk P w (upd H' ea (.ext φ)) h6:=by
 have ne1:∀b o,h1.get? b=some o->b≠ea:=λb o q z=>by rw[z,new]at q;cases q
 refine⟨⟨un.keep,un.slot,λb o q n hx=>by rw[aM (ne1 b o q)];exact un.free b o q n hx,un.there,λb xs q=> ?_,λb o u q=> ?_,λb ps q=> ?_⟩,λb u e=> ?_⟩
 .have z:=un.tups b xs q;rw[aM (aY z hn)];exact z
 .have z:=un.frzs b o u q;rw[aM (aY z hn)];exact z
 .obtain⟨m,z⟩:=un.tbls b ps q;exact⟨m,by rw[aM (aY z hn)];exact z⟩
 .by_cases hb:b=ea
  .subst hb;rw[aU]at e;cases e;exact⟨x,tx,kx⟩
  .rw[aM hb]at e;exact(hok b u e).stay (λ_ _ _ q=>q) (λc q=>by rw[aM (aY q hn)];exact q) λc xs q=>by rw[aM (aY q hn)];exact q
theorem ME {fs:List Addr}{dd:Option Addr}{vs:Array Value}(un:Un fs [] H1 H' h1 h6)(hok:HOk P w H' h6)(new:h1.get? ea=none)(hn:H' ea=none)(go:h6.get? ea=some ob)(hc:ob.cls= .ref C)(hd:ob.dict=dd)(hf:ob.data= .fields vs)(h2:vs[2]? =some .none):
  Un fs [] H1 (upd H' ea (BV ea C dd)) h1 h6/\HOk P w (upd H' ea (BV ea C dd)) h6:=by
 cases dd with
 | none=>exact AZ (C:=C) un hok new hn ⟨ob,vs,go,hc,hf,h2⟩ ⟨_,go⟩ λg1 g2 ⟨o',vs',q1,q2,q3⟩ k=>⟨o',vs',k _ q1,q2,q3⟩
 | some dx=>exact AZ (C:=C) un hok new hn ⟨ob,vs,go,hc,hd,hf,h2⟩ ⟨_,go⟩ λg1 g2 ⟨o',vs',q1,q2,q3⟩ k=>⟨o',vs',k _ q1,q2,q3⟩
def XW (X:Cx)(pins:List (Addr×Obj))(σ:St)(R:XK)(e:Value)(s':Shared):Prop:=∃H1 s1,Inv X pins σ H1 s1/\CXE X.prog X.w X.stack H1 s1 R e s'
def PEx (X:Cx)(e:Expr)(t:XK->TE):Prop :=
 ∀(R:XK) (pins:List (Addr×Obj)) (s:Shared) (σ:St) (H:Hp) (Q:VK),Inv X pins σ H s->t R σ H Q->wpAny (model X.prog X.w) X.A (eval e X.env) (EP X pins σ Q) (XW X pins σ R) s
theorem PA.noxx {t:TA}(h:PA X.nox es t):∀(pos:Pos) (pins:List (Addr×Obj)) (s:Shared) (σ:St) (H:Hp) (Q:List V->Hp->Prop),Inv X pins σ H s->t σ H Q->wpAny (model X.prog X.w) X.A (spliced (backTo pos (starEach es X.env))) (AP X pins σ Q) E s :=
 λpos pins s σ H Q I q=>wpAny_mono (h pos pins s σ H Q (I.wish _) q) (λ_ _ ⟨vs,H',I',r,z⟩=>⟨vs,H',I'.unwish,r,z⟩) λ_ _ z=>False.elim z
section
variable {k:Nat}{p:Pos}{t:TA}{f:Addr}{ds:List Value}{R:XK}{ps:List Str}
theorem aD4 {Q:VK}(F:FnOk X.prog X.w X.K X.mg X.base (CXE X.prog X.w) k f fd ps sp)(hr:Room k X.A)(hb:Binds X.K fd ps ds)(hd:Vals dvs ds)
  (I:Inv X pins σ H s)(r:Vals vs us)(h:sp (vs++dvs) H Q R):wpAny (model X.prog X.w) X.A (call (.ref f) us) (EP X pins σ Q) (XW X pins σ R) s:=by
 have r2:Vals (vs++dvs) (us++ds):=r.append hd;have hl:(us++ds).length=ps.length:=by rw[←r2.length];exact F.len _ _ _ _ h
 refine wpAny_call (codeAny_mono (F.run X.A X.stack s H ⟨us,[]⟩ (us++ds) (vs++dvs) Q R hr I.env0 (hb s us I.kIn hl) r2 h) λr s' hq=> ?_);cases r with
 | error e=>exact⟨H,s,I,hq⟩
 | ok fl =>
  cases fl with
  | ret u=>exact I.after hq
  | next=>exact False.elim hq
  | brk=>exact False.elim hq
  | cont=>exact False.elim hq
theorem aFM (F:FcE X.prog X.w X.K X.mg X.base x k ps sp)(hr:Room k' X.A)(ha:PA X.nox (e::es) t)(hk:k<=k':=by decide)(hg:Gl X x:=by rfl)
  (hdb:(x==("__debug__" :Str))=false:=by decide)(he:starEach (e::es) X.env=(false,eval e X.env)::starEach es X.env:=by rfl)(hpl:(backTo pos (starEach es X.env)).any (·.1)=false:=by rfl) :
  PEx X (.Call (.Name x p) (e::es) [] pos) (λR=>j8 sp [] R t):=by
 intro R pins s σ H Q I h;obtain⟨f,fd,hm,kp,b,G⟩:=F.ex;refine wpAny_Call_Name_kw (dI I hg hm ?_ hdb);refine W.callWith_K (h₀:=X.base) I.ok.mod.kin kp (thn (ha.noxx pos pins s σ H _ I h) λus s1 ⟨vs,H1,I1,r,q⟩=>⟨I1.kIn,?_⟩) he hpl;exact aD4 G (hr.mono hk) b .nil I1 r q
end
section
variable {k:Nat}{p:Pos}{t:TA}{R:XK}
theorem aDa {f:Addr}{ps:List Str}{ds:List Value}{Q:VK}(M:Mk X.K C f)(G:FnOk X.prog X.w X.K X.mg X.base (CXE X.prog X.w) k f fd ps sp)(hr:Room (k+1) X.A)(hb:Binds X.K fd ps ds)(hd:Vals dvs ds)(I:Inv X pins σ H s)(rv:Vals vs us)
  (h:∀a dx,H a=none->H dx=none->dx≠a->sp (.ref a::(vs++dvs)) (upd (upd H dx (.own a)) a (.ins C dx [])) (λv H2=>v= .non/\Q (.ref a) H2) R):wpAny (model X.prog X.w) X.A (call (.ref C) us) (EP X pins σ Q) (XW X pins σ R) s:=by
 have n0:H (s.heap.objs.size+1)=none:=I.hok.fresh (Nat.le_succ _);have n1:H s.heap.objs.size=none:=I.hok.fresh (Nat.le_refl _);have want:=h _ _ n0 n1 (Nat.ne_of_lt (Nat.lt_succ_self _));have J:=Inv.made (C:=C) I;have rr:Vals (V.ref (s.heap.objs.size+1)::(vs++dvs)) (Value.ref (s.heap.objs.size+1)::(us++ds)):= .cons rfl (rv.append hd);have ln:(Value.ref (s.heap.objs.size+1)::us++ds).length=ps.length:=rr.length.symm.trans (G.len _ _ _ _ want);have go:=G.run _ X.stack _ _ ⟨Value.ref (s.heap.objs.size+1)::us,[]⟩ _ _ _ R (hr.make C us []) (J.env0.make C us []) (hb _ (Value.ref (s.heap.objs.size+1)::us) J.kIn ln) rr want;refine wpAny_call (IM (f:=f) I.kIn M.makes M.init (beq_iff_eq.mp M.fn) (codeAny_mono go λres s' hq=> ?_))
 match res,hq with
 | .error e,hq=>exact⟨_,_,J,hq⟩
 | .ok (.ret u),hq =>
  obtain⟨v,H',I3,rv',ev,q3⟩:=J.after hq;subst ev;exact⟨rv',⟨V.ref (s.heap.objs.size+1),H',I3,rfl,q3⟩⟩
 | .ok .next,hq=>exact False.elim hq
 | .ok .brk,hq=>exact False.elim hq
 | .ok .cont,hq=>exact False.elim hq
theorem aC6 (F:KcE X.prog X.w X.K X.mg X.base x C k dvs sp)(hr:Room k' X.A)(ha:PA X.nox (e::es) t)(hk:k+1<=k':=by decide)(hg:Gl X x:=by rfl)
  (hdb:(x==("__debug__" :Str))=false:=by decide)(he:starEach (e::es) X.env=(false,eval e X.env)::starEach es X.env:=by rfl)(hpl:(backTo pos (starEach es X.env)).any (·.1)=false:=by rfl) :
  PEx X (.Call (.Name x p) (e::es) [] pos) (λR=>GK C sp dvs R t):=by
 intro R pins s σ H Q I h;obtain⟨f,fd,ps,ds,hm,M,hd,hb,G⟩:=F.ex;refine wpAny_Call_Name_kw (dI I hg hm ?_ hdb);refine W.callWith_K (h₀:=X.base) I.ok.mod.kin M.kp (thn (ha.noxx pos pins s σ H _ I h) λus s1 ⟨vs,H1,I1,r,q⟩=>⟨I1.kIn,?_⟩) he hpl;exact aDa M G (hr.mono hk) hb hd I1 r q
end
theorem rM {M:Model}{i:Nat}{n:Str}{Q:Unit->Shared->Prop}(I:Inv X pins σ H s)(hN:X.N.Nodup)(hi:X.N[i]? =some n)(hk:X.env.scope.names.lookup n=some .local)
  (h:∀s',Inv X pins (σ.set i none) H s'->Q () s'):wpAny M A (do bindName X.env n .none;unbindBehindTheSuite X.env n pos) Q E s:=by
 obtain⟨m,hn,hl⟩:=id I.loc;have hcls:(X.env.scope.kind== .class||(X.env.scope.kind== .module&&X.env.locals !=X.env.globals))=false:=by rw[I.ok.kind];rfl
 have cne:=I.cne;have tracked:∀{a:Addr}{h':Heap},(∃o,s.heap.get? a=some o/\H a=none)->Heap.SameBut a s.heap h'->HOk X.prog X.w H h':=λ{a h'} ha hs b ob e=>by
  obtain⟨_,_,hfree⟩:=ha;refine(I.hok b ob e).stay (λc w' hc q=>(hs.2 c ?_).trans q) (λ_ q=>q) λ_ _ q=>q;rintro rfl;rcases hc with rfl|hc
  .rw[hfree]at e;cases e
  .rw[hfree]at hc;cases hc
 refine wpAny_nameGoes_keeps hk hn hcls λh' v hn' hs=> ?_;obtain⟨oL,_,_,hoL,_⟩:=id hn;refine h _ ⟨I.ok,I.os,I.bare,⟨λb o e n hb hx=> ?_,λb o e n hb hx=> ?_,I.base.free,λb o e hx=> ?_,I.base.tups,I.base.frzs,I.base.tbls⟩,⟨_,hn',λj y v' e1 e2 e3=> ?_⟩,λy c e=> ?_,I.free,I.freeC,λp hp=> ?_,tracked ⟨oL,hoL,I.free⟩ hs,by simpa using I.len⟩
 .exact(hs.2 b (Nat.ne_of_lt (Nat.lt_of_lt_of_le (Heap.lt_size e) I.ok.above))).trans (I.base.keep b o e n hb hx)
 .obtain⟨sl,e1⟩:=I.base.slot b o e n hb hx;exact⟨sl,(hs.2 b (Nat.ne_of_lt (Nat.lt_of_lt_of_le (Heap.lt_size e) I.ok.above))).trans e1⟩
 .obtain⟨o',e1⟩:=I.base.there b o e hx;exact⟨o',(hs.2 b (Nat.ne_of_lt (Nat.lt_of_lt_of_le (Heap.lt_size e) I.ok.above))).trans e1⟩
 .by_cases hj:j=i
  .subst hj;rw[List.getElem?_set]at e2;simp at e2
  .rw[List.getElem?_set_ne (Ne.symm hj)]at e2;obtain⟨u',r',q⟩:=hl j y v' e1 e2 e3;refine⟨u',r',?_⟩;rcases q with⟨k,e⟩|⟨k,c,e,z⟩
   .refine .inl ⟨k,?_⟩;have:y≠n:=λe=>hj (zH hN e1 (e▸hi));simp[this,e]
   .exact .inr ⟨k,c,e,z.sameBut hs (cne y c e)⟩
 .obtain⟨w',z⟩:=I.cell y c e;exact⟨w',z.sameBut hs (cne y c e)⟩
 .obtain⟨e,n,ne,nf,d⟩:=I.pin p hp;exact⟨(hs.2 p.1 ne).trans e,n,ne,nf,d⟩
section
variable {i:Nat}{n:Str}{hpos epos:Pos}{tc:XK->TE}{b₀:Stmt}{suite:List Stmt}{ts:TS}
def PXs (X:Cx)(st:List Stmt)(t:XK->TS):Prop :=
 ∀(R:XK) (pins:List (Addr×Obj)) (s:Shared) (σ:St) (H:Hp) (D:gN),Inv X pins σ H s->t R D σ H->wpAny (model X.prog X.w) X.A (execs st X.env) (SP X pins D) (XW X pins σ R) s
end
def IsX (H:Hp)(a C:Addr):Prop:=∃φ,H a=some (.ext φ)/\∀h,φ h->wZ a C h
def Y0 (K:W.Frag):List V->Hp->VK->Prop:=λxs H Q=>∃a C c u b,xs=[.ref a,c]/\IsX H a C/\ExcK K C/\(c= .ref u/\W.kitOne K (.ref C) (.ref u)=some b)/\Q (.bl b) H
def RJ (K:W.Frag):List V->Hp->VK->Prop:=λxs H Q=>∃a C n b,xs=[.ref a,.ty n]/\IsX H a C/\ExcK K C/\W.kitOne K (.ref C) (.type n)=some b/\Q (.bl b) H
theorem Y1:cU X (.builtin "isinstance") (Y0 X.K):=by
 intro pins s σ H xs us Q I r h;obtain⟨a,C,c,u,b,rfl,hs,k,⟨rfl,e⟩,q⟩:=h;obtain⟨v1,v2,rfl,r1,r2⟩:=GS r;obtain rfl:v1= .ref a:=r1;obtain rfl:v2= .ref u:=r2;obtain⟨φ,hs,hφ⟩:=hs;obtain⟨z,_⟩:=I.hok a _ hs;exact kia_one (yJ k) I.kIn (hφ _ z) e (λz=>by cases z) λtk=>⟨.bl b,H,I.tok tk,rfl,q⟩
theorem VN:cU X (.builtin "isinstance") (RJ X.K):=by
 intro pins s σ H xs us Q I r h;obtain⟨a,C,n,b,rfl,hs,k,e,q⟩:=h;obtain⟨v1,v2,rfl,r1,r2⟩:=GS r;obtain rfl:v1= .ref a:=r1;obtain rfl:v2= .type n:=r2;obtain⟨φ,hs,hφ⟩:=hs;obtain⟨z,_⟩:=I.hok a _ hs;exact kia_one (yJ k) I.kIn (hφ _ z) e (λz=>by cases z) λtk=>⟨.bl b,H,I.tok tk,rfl,q⟩
section
variable {j:Nat}{p:Pos}{v1 v2:Expr}{t:TJ}
end
theorem WG {E:XK}{t:TA}{D:gN}(h:t σ H λvs H1=>vs.length<=sizeLine/\E (.ref C) none H1):SM C E t D σ H:=h
theorem FN:bootBuiltins "ValueError" =some (.type "ValueError"):=PyProof.Rows.Boot.«ValueError»
section
variable {K:Frag}{D:Addr}{cd:ClassData}{b:Bool}
theorem exm_mk (c:clsIn K D=some cd)(t:typeIn K (.ref D)=some (.type "type"))(sb:subIn K (.ref D) (.type "BaseException")=some true)(s:subIn K (.ref C) (.ref D)=some b):exmOne K (.ref C) (.ref D)=some b:=by
 unfold exmOne;rw[if_pos (by rw[sb];rfl)];show (if ((clsIn K D).isSome&&typeIn K (.ref D)==some (.type "type"))=true then subIn K (.ref C) (.ref D) else none)=_;rw[c,t,if_pos (by rfl)];exact s
theorem kit_vt {n:String}(hm:kitMeta n=true)(s:subIn K (.ref C) (.type n)=some b):kitOne K (.ref C) (.type n)=some b:=by
 unfold kitOne;rw[if_neg (by intro h;cases (beq_iff_eq.mp h))];show (if kitMeta n=true then subIn K (.ref C) (.type n) else none)=_;rw[if_pos hm];exact s
end
theorem kitMeta_ValueError:kitMeta "ValueError" =true:=by decide +kernel
variable {K:Frag}{H:Hp}{Q:VK}
theorem UE (K:Frag)(h:X.K=K):cU X (.builtin "isinstance") (Y0 K):=by
 subst h;exact Y1
theorem OF (K:Frag)(h:X.K=K):cU X (.builtin "isinstance") (RJ K):=by
 subst h;exact VN
end L2
set_option maxHeartbeats 4000000
namespace L2
open PySem PySem.Spec PyProof.Rows
variable {rest σ:St}{H H':Hp}{s:Shared}{X:Cx}{pins:List (Addr×Obj)}
variable {C PL a b cL fi it q:Addr}{ep j k' n t':Nat}{e o tg value:Expr}{apos cpos np pos pos':Pos}{es:List Expr}{m nm p1 p2 p3 qual x y z:Str}{sp:Sp}
section
variable {CX:CXT}{k:Nat}{E:XK}{p:Pos}{t:TA}{i:Nat}{c:Addr}
end
variable {P prog:Program}{w:World}{base h h':Heap}{K:W.Frag}{mN mg:Str->Option Value}
section
variable {k:Nat}{p:Pos}{t:TA}
end
variable {args:Arguments}{lsc:Scope}
section
variable {body:Expr}{c:Addr}
end
variable {ta td te tv:TE}
section
variable {to:TE}{ap:Pos}
theorem IJ:∀{xs:List V}{us:List Value},xs.length=us.length->(∀(i:Nat) x u,xs[i]? =some x->us[i]? =some u->RelV x u)->Vals xs us
 | [],[],_,_=> .nil
 | [],_::_,h,_=>by simp at h
 | _::_,[],h,_=>by simp at h
 | x::xs,u::us,h,k=> .cons (k 0 x u rfl rfl) (IJ (by simpa using h) λi y w e1 e2=>k (i+1) y w (by simpa using e1) (by simpa using e2))
end
structure DcD (P:Program)(w:World)(K:W.Frag)(mg:Str->Option Value)(base:Heap)(x m:Str)(k:Nat)(dvs:List V)(sp:Sp):Prop where
 ex:∃C f fd ps ds,mg x=some (.ref C)/\W.specialIn K (.ref C) "__getattribute__" =some (some (.builtin "type.__getattribute__"))/\W.readsIn K C (.type "type")=true/\W.findCls K (.ref C) (.type "type") m=some (.val (.ref f)) ∧
  W.keepIn K (.ref f)=true/\Vals dvs ds/\Binds K fd ps ds/\FnOk P w K mg base CX0 k f fd ps sp
variable {pl:Sem Bool}{rt:VK}{vs:List V}
section
variable {k:Nat}{p:Pos}{t:TA}{dvs:List V}
theorem aCY {pl:Sem Bool}(F:DcD X.prog X.w X.K X.mg X.base x m k dvs sp)(hr:Room k' X.A)(ha:PA X (e::es) t)(hk:k<=k':=by decide)(hg:Gl X x:=by rfl)(hdb:(x==("__debug__" :Str))=false:=by decide)
  (hst:starEach (e::es) X.env=(false,eval e X.env)::starEach es X.env:=by rfl)(hpl:(backTo pos (starEach es X.env)).any (·.1)=false:=by rfl)
  (ht:eval (.Call (.Attribute (.Name x p) m apos) (e::es) [] pos) X.env=(do
   let ov ←eval (.Name x p) X.env
   standAt apos.atName
   let (f,first) ←holding [ov] (getMethod ov m pl)
   callWith pos f first (backTo pos (starEach (e::es) X.env)) (backToKw pos (keywordEach [] X.env))):=by rfl) :
  PE X (.Call (.Attribute (.Name x p) m apos) (e::es) [] pos) (j8 sp dvs E0 t):=by
 intro pins s σ H Q I h;obtain⟨C,f,fd,ps,ds,hm,hga,hrd,hfc,kp,hd,hb,G⟩:=F.ex;refine W.methodCall_KW (pl:=pl) (dI I hg hm ?_ hdb) ht;refine W.method_cls I.kIn hga (W.cls_value I.kIn hrd hfc (vH (v:= .ref f) rfl) ?_);have I1:=I.tok (s.toks+1);refine W.callWith_K (first:=[]) (h₀:=X.base) I.ok.mod.kin kp (thn (ha pos pins _ σ H _ I1 h) λus s2 ⟨vs,H2,I2,r,q2⟩=>⟨I2.kIn,?_⟩) hst hpl;exact vT G (hr.mono hk) hb hd wQ I2 r q2
theorem XG {E:XK}{Q:VK}(h:t σ H λvs H1=>sp (vs++dvs) H1 Q E):j8 sp dvs E t σ H Q:=h
end
variable {ts:TS}
section
variable {st:Stmt}{rest:List Stmt}{t:TS}{u:gN->(St->V->Hp->Prop)->St->Hp->Prop}
end
section
open PySem.W
variable {i:Nat}{n:Str}{T:Addr}{yp hpos epos:Pos}{tc:XK->TE}{b₀:Stmt}{suite:List Stmt}
end
variable {u:Value}{v:V}{α β κ:Type}{k0 k1 k2 k3 k5:Option Value}
section
variable [DecidableEq κ]
def aX (kvs:List (κ×V))(k:κ):Option V:=(kvs.find? λkv=>decide (kv.1=k)).map (·.2)
def dW (kvs:List (κ×V))(k:κ)(v:V):List (κ×V) :=
 if (kvs.any λkv=>decide (kv.1=k))=true then kvs.map (λkv=>if kv.1=k then (kv.1,v) else kv) else kvs++[(k,v)]
theorem dN {p:κ×V}{r:List (κ×V)}{k:κ}(e:p.1=k):aX (p::r) k=some p.2:=by simp[aX,List.find?_cons,e]
theorem c7 {p:κ×V}{r:List (κ×V)}{k:κ}(e:¬p.1=k):aX (p::r) k=aX r k:=by simp[aX,List.find?_cons,e]
theorem jO (k:κ):∀kvs:List (κ×V),(kvs.any λkv=>decide (kv.1=k))=(aX kvs k).isSome
 | []=>rfl
 | p::r=>by
  rw[List.any_cons]
  by_cases e:p.1=k
  .simp only[dN e,decide_eq_true e,Bool.true_or,Option.isSome_some]
  .rw[c7 e,decide_eq_false e,Bool.false_or];exact jO k r
theorem G9 (k j:κ)(y:V):∀kvs:List (κ×V),aX (kvs.map λkv=>if kv.1=k then (kv.1,y) else kv) j=(aX kvs j).map λx=>if j=k then y else x
 | []=>rfl
 | p::r=>by
  have ih:=G9 k j y r;rw[List.map_cons]
  by_cases h:p.1=k
  .rw[if_pos h]
   by_cases e:p.1=j
   .rw[dN (p:=(p.1,y)) e,dN e,Option.map_some,if_pos (e.symm.trans h)]
   .rw[c7 (p:=(p.1,y)) e,c7 e,ih]
  .rw[if_neg h]
   by_cases e:p.1=j
   .rw[dN (p:=p) e,dN e,Option.map_some,if_neg (λz=>h (e.trans z))]
   .rw[c7 (p:=p) e,c7 e,ih]
theorem EU (k j:κ)(y:V):∀kvs:List (κ×V),aX kvs k=none->aX (kvs++[(k,y)]) j=if j=k then some y else aX kvs j
 | [],_=>by
  by_cases e:k=j
  .rw[if_pos e.symm];exact dN (p:=(k,y)) e
  .rw[if_neg (λz=>e z.symm)];exact c7 (p:=(k,y)) e
 | p::r,hn=>by
  rw[List.cons_append];have hk:¬p.1=k:=λz=>by rw[dN z]at hn;cases hn
  rw[c7 hk]at hn;have ih:=EU k j y r hn
  by_cases e:p.1=j
  .rw[dN e,dN e,if_neg (λz=>hk (e.trans z))]
  .rw[c7 e,c7 e,ih]
theorem IL (kvs:List (κ×V))(k j:κ)(y:V):aX (dW kvs k y) j=if j=k then some y else aX kvs j:=by
 unfold dW
 by_cases a:(kvs.any λkv=>decide (kv.1=k))=true
 .rw[if_pos a,G9];rw[jO]at a
  by_cases e:j=k
  .obtain⟨x,hx⟩:=Option.isSome_iff_exists.mp a;rw[if_pos e,e,hx,Option.map_some,if_pos rfl]
  .rw[if_neg e];cases aX kvs j with
   | none=>rfl
   | some x=>rw[Option.map_some,if_neg e]
 .rw[if_neg a];refine EU k j y kvs ?_;rw[jO]at a;cases q:aX kvs k with
  | none=>rfl
  | some x=>rw[q]at a;exact(a rfl).elim
theorem mP (kvs:List (κ×V))(k:κ)(v:V):(dW kvs k v).length<=kvs.length+1:=by
 unfold dW
 split
 .rw[List.length_map];lia
 .rw[List.length_append,List.length_cons,List.length_nil];lia
theorem yV {kvs:List (κ×V)}{k:κ}(v:V)(h:aX kvs k=none):dW kvs k v=kvs++[(k,v)]:=by
 unfold dW;rw[jO,h];exact if_neg (by decide)
theorem RelO.isSome_eq {o:Option V}{u:Option Value}(r:RelO o u):o.isSome=u.isSome:=by
 cases o with
 | none=>cases u with
  | none=>rfl
  | some _=>exact(show False from r).elim
 | some _=>cases u with
  | none=>exact(show False from r).elim
  | some _=>rfl
theorem RelO.getD {o:Option V}{u:Option Value}{d:V}{d':Value}(r:RelO o u)(rd:RelV d d'):RelV (o.getD d) (u.getD d'):=by
 cases o with
 | none=>cases u with
  | none=>exact rd
  | some _=>exact(show False from r).elim
 | some _=>cases u with
  | none=>exact(show False from r).elim
  | some _=>exact r
theorem KV.val {kvs:List (κ×V)}{vs:List (κ×Value)}(r:KV kvs vs)(k:κ):RelO (aX kvs k) (valueAt vs k):=by
 unfold KV at r
 induction r with
 | nil=>exact True.intro
 | @cons p q ps qs h t ih =>
  obtain⟨h1,h2⟩:=h
  by_cases e:p.1=k
  .have e':q.1=k:=h1.symm.trans e;have b:valueAt (q::qs) k=some q.2:=by simp[valueAt,List.find?_cons,e']
   rw[dN e,b];exact h2
  .have e':¬q.1=k:=λz=>e (h1.trans z);have b:valueAt (q::qs) k=valueAt qs k:=by simp[valueAt,List.find?_cons,e']
   rw[c7 e,b];exact ih
theorem KV.any {kvs:List (κ×V)}{vs:List (κ×Value)}(r:KV kvs vs)(k:κ):(kvs.any λkv=>decide (kv.1=k))=vs.any λkv=>decide (kv.1=k):=by
 unfold KV at r
 induction r with
 | nil=>rfl
 | cons h t ih=>rw[List.any_cons,List.any_cons,ih,h.1]
theorem KV.repl {kvs:List (κ×V)}{vs:List (κ×Value)}(r:KV kvs vs)(k:κ){y:V}(ry:RelV y u):
  KV (kvs.map λkv=>if kv.1=k then (kv.1,y) else kv) (vs.map λkv=>if kv.1=k then (kv.1,u) else kv):=by
 unfold KV at r ⊢
 induction r with
 | nil=>exact .nil
 | @cons p q ps qs h t ih =>
  rw[List.map_cons,List.map_cons];refine .cons ?_ ih;obtain⟨h1,h2⟩:=h
  by_cases e:p.1=k
  .rw[if_pos e,if_pos (h1.symm.trans e)];exact⟨h1,ry⟩
  .rw[if_neg e,if_neg (λz=>e (h1.trans z))];exact⟨h1,h2⟩
theorem KV.put {kvs:List (κ×V)}{vs:List (κ×Value)}(r:KV kvs vs)(k:κ){y:V}(ry:RelV y u):KV (dW kvs k y) (stored vs k u):=by
 unfold dW stored;rw[r.any k]
 by_cases e:(vs.any λkv=>decide (kv.1=k))=true
 .rw[if_pos e,if_pos e];exact r.repl k ry
 .rw[if_neg e,if_neg e];exact Paired.snoc r ⟨rfl,ry⟩
theorem KV.length {kvs:List (κ×V)}{vs:List (κ×Value)}(r:KV kvs vs):kvs.length=vs.length:=Paired.length r
end
theorem oJ {k:Key}(r:RelV (kV k) u):(bV P w).is k u=true:=by
 cases k with
 | inl i=>obtain⟨t,e⟩:=(show ∃t,u=Value.int i t from r);subst e;exact LQ P w i t
 | inr x=>obtain⟨t,e⟩:=(show ∃t,u=Value.str x t from r);subst e;exact LI P w x t
theorem EM:∀{ks:List Key}{us:List Value},Vals (ks.map kV) us->ItemsAre (bV P w) ks us
 | [],_,r=>by rw[List.map_nil]at r;cases r;exact .nil
 | k::ks,_,r=>by
  rw[List.map_cons]at r;cases r with
  | cons h t=>exact .cons (oJ h) (EM t)
abbrev KT (H:Hp):List (List Key×V)->List (List Key×Addr×Value)->Prop:=Paired λp q=>p.1=q.1/\H q.2.1=some (.tup (p.1.map kV))/\RelV p.2 q.2.2
theorem KT.val {kvs:List (List Key×V)}{xs:List (List Key×Addr×Value)}(r:KT H kvs xs)(k:List Key):RelO (aX kvs k) ((atKey xs k).map (·.2)):=by
 induction r with
 | nil=>exact True.intro
 | @cons p q ps qs h t ih =>
  obtain⟨h1,_,h2⟩:=h
  by_cases e:p.1=k
  .have e':q.1=k:=h1.symm.trans e;have b:atKey (q::qs) k=some q.2:=by simp[atKey,List.find?_cons,e']
   rw[dN e,b];exact h2
  .have e':¬q.1=k:=λz=>e (h1.trans z);have b:atKey (q::qs) k=atKey qs k:=by simp[atKey,List.find?_cons,e']
   rw[c7 e,b];exact ih
theorem KT.repl {kvs:List (List Key×V)}{xs:List (List Key×Addr×Value)}(r:KT H kvs xs)(k:List Key){y:V}(ry:RelV y u):
  KT H (kvs.map λkv=>if kv.1=k then (kv.1,y) else kv) (xs.map (putAt k u)):=by
 induction r with
 | nil=>exact .nil
 | @cons p q ps qs h t ih =>
  rw[List.map_cons,List.map_cons];refine .cons ?_ ih;obtain⟨h1,h2,h3⟩:=h;unfold putAt
  by_cases e:p.1=k
  .rw[if_pos e,if_pos (h1.symm.trans e)];exact⟨h1,h2,ry⟩
  .rw[if_neg e,if_neg (λz=>e (h1.trans z))];exact⟨h1,h2,h3⟩
theorem KT.put {kvs:List (List Key×V)}{xs:List (List Key×Addr×Value)}(r:KT H kvs xs)(k:List Key){y:V}(hb:H b=some (.tup (k.map kV)))(ry:RelV y u):
  KT H (dW kvs k y) (storedH xs k b u):=by
 have e:(kvs.any λkv=>decide (kv.1=k))=(atKey xs k).isSome:=by
  rw[jO,(r.val k).isSome_eq,Option.isSome_map]
 unfold dW storedH;rw[e]
 by_cases q:(atKey xs k).isSome=true
 .rw[if_pos q,if_pos q];exact r.repl k ry
 .rw[if_neg q,if_neg q];exact Paired.snoc r ⟨rfl,hb,ry⟩
theorem KT.keeps {kvs:List (List Key×V)}{xs:List (List Key×Addr×Value)}(r:KT H kvs xs)(ht:∀b ys,H b=some (.tup ys)->H' b=some (.tup ys)):KT H' kvs xs :=
 Paired.mapP r λ_ _ z=>⟨z.1,ht _ _ z.2.1,z.2.2⟩
variable {kvs:List (Key×V)}
theorem Z8 {u:HO}(ok:HOk P w H h)(e:Rd H a u):ObjOk P w H h a u:=e.ok ok
theorem xF (ok:HOk P w H h)(e:Rd H a (.dK kvs)):kvs.length<=sizeLine/\(a==sysModules)=false/\∃vs,KV kvs vs/\h.DictOf (bV P w) a vs :=
 show ObjOk P w H h a (.dK kvs) from Z8 ok e
theorem aEV (ok:HOk P w H h)(e:H a=some (.dK kvs)):kvs.length<=sizeLine/\(a==sysModules)=false/\∃vs,KV kvs vs/\h.DictOf (bV P w) a vs:=xF ok (.inl e)
theorem vO {ks:List Key}(ok:HOk P w H h)(e:H a=some (.tup (ks.map kV))):(tupleKind (bV P w)).is h ks a:=by
 obtain⟨_,its,r,o,h1,h2,n,h3⟩:=(show ObjOk P w H h a (.tup (ks.map kV)) from ok a _ e)
 exact⟨o,its.toArray,n,h1,h2,h3,by simpa using EM r⟩
theorem AI {kvs:List (List Key×V)}(ok:HOk P w H h)(e:Rd H a (.dT kvs)):kvs.length<=sizeLine/\(a==sysModules)=false ∧
  ∃xs,KT H kvs xs/\h.DictOfH (tupleKind (bV P w)) a xs:=by
 obtain⟨z,y,xs,r,o,es,ep,h1,h2,h3,h4,h5⟩:=(show ObjOk P w H h a (.dT kvs) from Z8 ok e)
 refine⟨z,y,xs,r,o,es,ep,h1,h2,h3,h4,λx hx=> ?_,h5⟩;have all:∀{l:List (List Key×V)}{m:List (List Key×Addr×Value)},KT H l m->∀x∈m,(tupleKind (bV P w)).is h x.1 x.2.1:=by
  intro l m q
  induction q with
  | nil=>intro x hx;exact nomatch hx
  | @cons p q ps qs hq t ih =>
   intro x hx;rcases List.mem_cons.mp hx with e|hx
   .subst e;exact vO ok (by rw[←hq.1];exact hq.2.1)
   .exact ih x hx
 exact all r x hx
theorem aFD {kvs:List (List Key×V)}(ok:HOk P w H h)(e:H a=some (.dT kvs)):kvs.length<=sizeLine/\(a==sysModules)=false ∧
  ∃xs,KT H kvs xs/\h.DictOfH (tupleKind (bV P w)) a xs:=AI ok (.inl e)
def nG (H:Hp)(a:Addr)(y:V)(r:Option V):Prop :=
 (∃kvs k,Rd H a (.dK kvs)/\y=kV k/\r=aX kvs k)∨∃kvs k b,Rd H a (.dT kvs)/\y= .ref b/\H b=some (.tup (k.map kV))/\r=aX kvs k
def DPut (H:Hp)(a:Addr)(y v:V)(H':Hp):Prop :=
 (∃kvs k,H a=some (.dK kvs)/\y=kV k/\kvs.length<sizeLine/\H'=upd H a (.dK (dW kvs k v))) ∨
 ∃kvs k b,H a=some (.dT kvs)/\y= .ref b/\H b=some (.tup (k.map kV))/\kvs.length<sizeLine/\H'=upd H a (.dT (dW kvs k v))
theorem DPut.k {k:Key}(e:H a=some (.dK kvs))(hl:kvs.length<sizeLine):DPut H a (kV k) v (upd H a (.dK (dW kvs k v))):= .inl ⟨kvs,k,e,rfl,hl,rfl⟩
variable {E Q:Value->Shared->Prop}{A:Around}
section
variable {y:V}{r:Value}{o:Option V}
theorem Inv.big (I:Inv X pins σ H s):sysModules<s.heap.objs.size:=by
 have h:mainGlobals<s.heap.objs.size:=(I.mod.glob.keeps I.bk).lt;exact Nat.lt_trans (by decide) h
theorem ES (hu:A.units+1<cLine)(I:Inv X pins σ H s)(g:nG H a y (some v))(ry:RelV y u)(h:∀w' s',Inv X pins σ H s'->RelV v w'->Q w' s'):
  wpAny (model X.prog X.w) A (getItem (.ref a) u) Q E s:=by
 rcases g with⟨kvs,k,e,ey,l⟩|⟨kvs,k,b,e,ey,eb,l⟩
 .subst ey;obtain⟨z,hd,vs,rel,dd⟩:=xF I.hok e;obtain⟨w',hw,rw'⟩:=RelO.some_of (v:=v) (o:=valueAt vs k) (by rw[l];exact rel.val k);exact wpAny_getItem_of (oJ ry) dd.mapOf hw (h w' _ (I.tok _) rw')
 .subst ey;cases (show u=Value.ref b from ry);obtain⟨z,hd,xs,rel,dd⟩:=AI I.hok e;obtain⟨w',hw,rw'⟩:=RelO.some_of (v:=v) (o:=(atKey xs k).map (·.2)) (by rw[l];exact rel.val k);obtain⟨p,hp,hp2⟩:=Option.map_eq_some_iff.mp hw;refine wpAny_getItem_heap (tupleKind_room_in1 hu) (vO I.hok eb) dd hp ?_;rw[hp2];exact h w' _ (I.tok _) rw'
theorem aFS (hu:A.units+1<cLine)(I:Inv X pins σ H s)(g:nG H a y o)(ry:RelV y u)(h:∀s',Inv X pins σ H s'->Q (.bool o.isSome) s'):
  wpAny (model X.prog X.w) A (compareOp .In u (.ref a)) Q E s:=by
 rcases g with⟨kvs,k,e,ey,l⟩|⟨kvs,k,b,e,ey,eb,l⟩
 .subst ey;obtain⟨z,hd,vs,rel,dd⟩:=xF I.hok e;refine wpAny_in_of (oJ ry) hd dd.mapOf ?_;rw[←(rel.val k).isSome_eq,←l];exact h _ (I.tok _)
 .subst ey;cases (show u=Value.ref b from ry);obtain⟨z,hd,xs,rel,dd⟩:=AI I.hok e;refine wpAny_in_heap (tupleKind_room_in1 hu) (vO I.hok eb) hd dd ?_;have q:=(rel.val k).isSome_eq;rw[Option.isSome_map]at q;rw[←q,←l];exact h _ (I.tok _)
theorem aAT (hu:A.units+1<cLine)(I:Inv X pins σ H s)(g:nG H a y o)(ry:RelV y u)(h:∀s',Inv X pins σ H s'->Q (.bool (!o.isSome)) s'):
  wpAny (model X.prog X.w) A (compareOp .NotIn u (.ref a)) Q E s:=by
 rcases g with⟨kvs,k,e,ey,l⟩|⟨kvs,k,b,e,ey,eb,l⟩
 .subst ey;obtain⟨z,hd,vs,rel,dd⟩:=xF I.hok e;refine wpAny_notIn_of (oJ ry) hd dd.mapOf ?_;rw[←(rel.val k).isSome_eq,←l];exact h _ (I.tok _)
 .subst ey;cases (show u=Value.ref b from ry);obtain⟨z,hd,xs,rel,dd⟩:=AI I.hok e;refine wpAny_notIn_heap (tupleKind_room_in1 hu) (vO I.hok eb) hd dd ?_;have q:=(rel.val k).isSome_eq;rw[Option.isSome_map]at q;rw[←q,←l];exact h _ (I.tok _)
theorem NA {ob:HO}(I:Inv X pins σ H s)(mu:Mut (H a))(hs:Heap.SameBut a s.heap h')(he:∃q,h'.get? a=some q)(new:ObjOk X.prog X.w (upd H a ob) h' a ob):
  Inv X pins σ (upd H a ob) { s with heap:=h',toks:=t' } :=
 I.write (x:=a) (e:=a) mu (.inl rfl) (λb q hb z=>(hs.2 b hb).trans z) he new
theorem TM {vs:List (Key×Value)}(z:kvs.length<=sizeLine)(hd:(a==sysModules)=false)(rel:KV kvs vs)(dd:h'.DictOf (bV P w) a vs):
  ObjOk P w H' h' a (.dK kvs):=⟨z,hd,vs,rel,dd⟩
theorem EX {Q:Unit->Shared->Prop}(hu:A.units+1<cLine)(I:Inv X pins σ H s)(g:DPut H a y v H')(ry:RelV y u)(rv:RelV v r)(h:∀s',Inv X pins σ H' s'->Q () s'):
  wpAny (model X.prog X.w) A (setItem (.ref a) u r) Q E s:=by
 rcases g with⟨kvs,k,e,ey,l,eH⟩|⟨kvs,k,b,e,ey,eb,l,eH⟩
 .subst ey eH;obtain⟨z,hd,vs,rel,dd⟩:=aEV I.hok e;have hz:vs.length<=sizeLine:=by rw[←rel.length];exact z
  have hl:(dW kvs k v).length<=sizeLine:=by have:=mP kvs k v;lia
  refine wpAny_setItem_pairs (hsz:=hz) (oJ ry) dd λh' dd' hs=>h _ ?_;have he:∃q,h'.get? a=some q:=let ⟨q,_,_,hq,_⟩:=dd';⟨q,hq⟩;exact NA I (by rw[e];exact True.intro) hs he (TM hl hd (rel.put k rv) dd')
 .subst ey eH;cases (show u=Value.ref b from ry);obtain⟨z,hd,xs,rel,dd⟩:=aFD I.hok e;have hz:xs.length<=sizeLine:=by rw[←Paired.length rel];exact z
  have hl:(dW kvs k v).length<=sizeLine:=by have:=mP kvs k v;lia
  refine wpAny_setItem_heap (hsz:=hz) (tupleKind_room_in1 hu) (vO I.hok eb) dd λh' dd' hs=>h _ ?_;obtain⟨q,es,ep,hq,h2,h3,h4,_,h5⟩:=dd';refine NA I (by rw[e];exact True.intro) hs ⟨q,hq⟩ ⟨hl,hd,_,(rel.put k eb rv).keeps λc ys ec=> ?_,q,es,ep,hq,h2,h3,h4,h5⟩;rw[aM (aEX ec e (λz=>nomatch z))];exact ec
end
section
variable {k:Key}
end
def YB (i:Expr):Prop:=∀ov iv,subscripted i false ov iv=operate [ov,iv] (getItem ov iv)
variable {env:Env}{newId:String}
theorem MR {slice:Expr}{T id:String}
  (hl:typeLookup (.type T) "__getitem__" =pure (some (.builtin id)))(hs:YB slice)
  (h:wpAny (model prog w) A (eval value env) (λo s₁=>wpAny (model prog w) A (eval slice env) (λi s₂=>s₂.TypeIs o T/\wpAny (model prog w) A (getItem o i) Q E s₂) E s₁) E s) :
  wpAny (model prog w) A (eval (.Subscript value slice pos) env) Q E s:=by
 refine Subscript_ (wpAny_mono h (λo s₁ h₁=>wpAny_mono h₁ (λi s₂ h₂=> ?_) λ_ _ x=>x) λ_ _ x=>x);obtain⟨hT,h₂⟩:=h₂;unfold subscriptTail;refine wpAny_bind ?_;rw[getitemInPython_of_ne hT.not_modules];refine wpAny_bind (wpAny_specialOf hT hl ?_);have fin:wpAny (model prog w) A (subscripted slice false o i) (λr s₃=>wpAny (model prog w) A (letTemporaryGo value o r >>= λ_=>pure r) Q E s₃) E s₂:=by
  rw[hs o i];exact wpAny_operating (wpAny_mono h₂ (λr s₃ h₃=>wpAny_bind (wpAny_letTemporaryGo (wpAny_pure h₃))) λ_ _ x=>x)
 first
  | exact wpAny_pure (wpAny_bind fin)
  | exact wpAny_bind (wpAny_pure (wpAny_bind fin))
  | exact wpAny_bind fin
theorem LK {y:V}{o:Option V}(I:Inv X pins σ H s)(g:nG H a y o):s.TypeIs (.ref a) "dict" :=by
 rcases g with⟨kvs,k,e,_,_⟩|⟨kvs,k,b,e,_,_,_⟩
 .obtain⟨_,_,vs,_,dd⟩:=xF I.hok e;exact dd.typeIs
 .obtain⟨_,_,xs,_,dd⟩:=AI I.hok e;exact dd.typeIs
def aAn (td ty:TE):TE:=λσ H Q=>td σ H λx H1=>ty σ H1 λy H2=>∃a v,x= .ref a/\nG H2 a y (some v)/\Q v H2
def aDF (ty td:TE):TE:=λσ H Q=>ty σ H λy H1=>td σ H1 λx H2=>∃a o,x= .ref a/\nG H2 a y o/\Q (.bl o.isSome) H2
def M8 (ty td:TE):TE:=λσ H Q=>ty σ H λy H1=>td σ H1 λx H2=>∃a o,x= .ref a/\nG H2 a y o/\Q (.bl (!o.isSome)) H2
def aAg (td ty tv:TE):TS:=λD σ H=>tv σ H λv H1=>td σ H1 λx H2=>ty σ H2 λy H3=>∃a H4,x= .ref a/\DPut H3 a y v H4/\D.nx σ H4
def Z4 (td ty tv:TE)(rd:V->V->Hp->VK->Prop):TS:=λD σ H=>td σ H λx H1=>ty σ H1 λy H2=>∃a v,x= .ref a/\nG H2 a y (some v) ∧
 tv σ H2 λy2 H3=>rd v y2 H3 λz H4=>∃H5,DPut H4 a y z H5/\D.nx σ H5
section
variable {i:Expr}{tpos:Pos}{ty:TE}
theorem sV (hu:X.A.units+1<cLine)(ho:PE X o td)(hi:PE X i ty)(hs:YB i):PE X (.Subscript o i pos) (aAn td ty):=by
 intro pins s σ H Q I h;refine MR PySem.F.slot_dict_getitem.lookup hs (thn (ho pins s σ H _ I h) λu s1 ⟨x,H1,I1,rx,q1⟩=>thn (hi pins s1 σ H1 _ I1 q1) λiv s2 ⟨y,H2,I2,ry,a,v,ex,g,q2⟩=> ?_);subst ex;obtain rfl:u=Value.ref a:=rx;exact⟨LK I2 g,ES hu I2 g ry λw' s3 I3 rw'=>⟨v,H2,I3,rw',q2⟩⟩
theorem aDQ (hu:X.A.units+1<cLine)(hi:PE X i ty)(ho:PE X o td):PC X .In i o (aDF ty td):=by
 intro pins s σ H Q I h;refine thn (hi pins s σ H _ I h) λiv s1 ⟨y,H1,I1,ry,q1⟩=>thn (ho pins s1 σ H1 _ I1 q1) λu s2 ⟨x,H2,I2,rx,a,ov,ex,g,q2⟩=> ?_;subst ex;obtain rfl:u=Value.ref a:=rx;exact aFS hu I2 g ry λs3 I3=>⟨.bl ov.isSome,H2,I3,rfl,q2⟩
theorem v3 (hu:X.A.units+1<cLine)(hi:PE X i ty)(ho:PE X o td):PC X .NotIn i o (M8 ty td):=by
 intro pins s σ H Q I h;refine thn (hi pins s σ H _ I h) λiv s1 ⟨y,H1,I1,ry,q1⟩=>thn (ho pins s1 σ H1 _ I1 q1) λu s2 ⟨x,H2,I2,rx,a,ov,ex,g,q2⟩=> ?_;subst ex;obtain rfl:u=Value.ref a:=rx;exact aAT hu I2 g ry λs3 I3=>⟨.bl (!ov.isSome),H2,I3,rfl,q2⟩
theorem CO (hu:X.A.units+1<cLine)(ho:PE X o td)(hi:PE X i ty)(hv:PE X value tv)(hs:swapsWith value (some (.Subscript o i pos')) pos.line X.env=pure false):
  PS X (.Assign [.Subscript o i pos'] value pos) (aAg td ty tv):=by
 intro pins s σ H D I h;refine wpAny_Assign_Subscript (thn (hv pins s σ H _ I h) λr s1 ⟨v,H1,I1,rv,q1⟩=>thn (ho pins s1 σ H1 _ I1 q1) λu s2 ⟨x,H2,I2,rx,q2⟩=>thn (hi pins s2 σ H2 _ I2 q2) λiv s3 ⟨y,H3,I3,ry,a,H4,ex,g,q3⟩=> ?_) hs;subst ex;obtain rfl:u=Value.ref a:=rx;exact EX hu I3 g ry rv λs4 I4=>⟨σ,H4,I4,q3⟩
theorem aBI {op:Operator}{rd:V->V->Hp->VK->Prop}(hu:X.A.units+1<cLine)(ho:PE X o td)(hi:PE X i ty)(hv:PE X value tv)(hop:aEM X op rd)
  (ha:∀ov iv new,augStore i ov iv new=(do holding [new,ov,iv] (setItem ov iv new);release [new,ov,iv] [];pure .next)):PS X (.AugAssign (.Subscript o i tpos) op value pos) (Z4 td ty tv rd):=by
 intro pins s σ H D I h;refine wpAny_AugAssign_SubscriptAny (thn (ho pins s σ H _ I h) λu s1 ⟨x,H1,I1,rx,q1⟩=>thn (hi pins s1 σ H1 _ I1 q1) λiv s2 ⟨y,H2,I2,ry,a,v,ex,g,q2⟩=> ?_) ha;subst ex;obtain rfl:u=Value.ref a:=rx;refine ES hu I2 g ry λw' s3 I3 rw'=>thn (hv pins s3 σ H2 _ I3 q2) λw2 s4 ⟨y2,H3,I4,ry2,q3⟩=>thn (hop pins s4 σ H3 v y2 w' w2 _ I4 rw' ry2 q3) λw3 s5 ⟨z,H4,I5,rz,H5,g5,q4⟩=> ?_;exact EX hu I5 g5 ry rz λs6 I6=>⟨σ,H5,I6,q4⟩
end
theorem YN (h:Heap)(hb:sysModules<h.objs.size):ObjOk P w H (h.push { cls:= .type "dict",data:= .dict #[] }) h.objs.size (.dK []) :=
 ⟨Nat.zero_le _,beq_eq_false_iff_ne.mpr (Ne.symm (Nat.ne_of_lt hb)),[],.nil,Heap.DictOf.new h⟩
def T0:TE:=λ_ H Q=>∀p,H p=none->Q (.ref p) (upd H p (.dK []))
theorem yT:PE X (.Dict [] [] pos) T0:=λpins s σ H Q I h =>
 wpAny_Dict_empty ⟨.ref s.heap.objs.size,_,I.laid (a:=s.heap.objs.size) (o:= .dK []) (t':=s.toks) (λ_ _ q=>Heap.get?_push_of_some _ q) (Nat.le_refl _) (YN s.heap I.big),rfl,h _ (I.hok.fresh (Nat.le_refl _))⟩
def kB (kvs more:List (Key×V)):List (Key×V):=more.foldl (λacc kv=>dW acc kv.1 kv.2) kvs
theorem KV.merge:∀{more:List (Key×V)}{rs:List (Key×Value)}{kvs:List (Key×V)}{vs:List (Key×Value)},KV more rs->KV kvs vs->KV (kB kvs more) (merged vs rs):=by
 intro more rs kvs vs r;unfold KV at r
 induction r generalizing kvs vs with
 | nil=>intro q;exact q
 | @cons p q ps qs h t ih =>
  intro r0;have e:KV (dW kvs p.1 p.2) (stored vs q.1 q.2):=by
   have:=r0.put p.1 h.2;rw[←h.1];exact this
  exact ih e
theorem uR:∀(more kvs:List (Key×V)),(kB kvs more).length<=kvs.length+more.length
 | [],kvs=>by show kvs.length<=kvs.length+0;lia
 | p::r,kvs=>by
  have h1:=uR r (dW kvs p.1 p.2);have h2:=mP kvs p.1 p.2;show (kB (dW kvs p.1 p.2) r).length<=_;rw[List.length_cons];lia
structure M1 (X:Cx)(o:Expr)(m:Str)(apos:Pos)(e:Expr)(cpos:Pos):Prop where
 base:attributeBase o m X.env (eval o X.env)=eval o X.env
 few:((backTo cpos (starEach [e] X.env)).all (λx=> !x.1)&&(backToKw cpos (keywordEach [] X.env)).all (λx=>x.1.isSome)
  && decide (([e]:List Expr).length+([]:List Keyword).length+(if ([]:List Keyword).isEmpty then 0 else 1)<30))=true
 line:(apos.endLine==cpos.line)=true
 trees:backTo cpos (starEach [e] X.env)=[(false,eval e X.env)]
section
variable {y d:V}{r:Value}{o:Option V}
end
section
variable {f:Expr}{ty tx:TE}
end
section
variable {y:V}
end
section
variable [DecidableEq κ]
theorem aBZ {kvs:List (κ×V)}{k:κ}(h:aX kvs k=some v):k∈kvs.map (·.1):=by
 have q:(kvs.any λkv=>decide (kv.1=k))=true:=by
  rw[jO,h]
  all_goals rfl
 obtain⟨p,hp,e⟩:=List.any_eq_true.mp q;exact List.mem_map.mpr ⟨p,hp,of_decide_eq_true e⟩
end
open PySem.W
open PySem.Calls
variable {ob:Obj}
section
variable {d:Addr}{o:Obj}{es:Array DictEntry}{i:Nat}
theorem JI (hd:(d==sysModules)=false)(ho:s.heap.get? d=some o)(hc:o.ExactDict)(hq:o.data= .dict es ep)
  (k:Q (.ref s.heap.objs.size) { s with heap:=s.heap.push { cls:= .type "dict_keyiterator",data:= .fields #[.ref d,.int 0 0,.int es.size 0,.int ep 0] } }):wpAny (model prog w) A (pyIter (.ref d)) Q E s:=by
 have T:s.TypeIs (.ref d) "dict" :=⟨o,ho,hc.1⟩
 refine wpAny_pyIter_slot T F.slot_dict_iter (wpAny_call_entry F.slot_dict_iter T F.entry_dict_iter ?_ (F.args_dict_iter_1 _));unfold Builtin.«dict.__iter__» Builtin.Dict.dictSlotNone;refine wpAny_bind (wpAny_bind (wpAny_notOrdered_dict T (wpAny_pure ?_)));show wpAny _ A.in1 (Builtin.Dict.showsAll d >>= _) _ _ s;unfold Builtin.Dict.showsAll;rw[if_neg (λz=>by rw[hd]at z;cases z)];refine wpAny_bind (wpAny_pure (wpAny_bind (wpAny_dictEntries ho hq (wpAny_bind (wpAny_dictEpoch ho hq ?_)))));exact wpAny_bind (wpAny_newObj_type (wpAny_pure ⟨_,rfl,"dict_keyiterator",_,⟨_,Heap.get?_push_size _ rfl,rfl⟩,F.slot_dict_keyiterator_next.lookup,k⟩))
theorem WZ {Q:Option Value->Shared->Prop}{e:DictEntry}(hit:s.heap.IsKeyIter it d i es.size ep)(ho:s.heap.get? d=some o)(hq:o.data= .dict es ep)(hx:es[i]? =some e)
  (k:∀h',h'.IsKeyIter it d (i+1) es.size ep->Heap.SameBut it s.heap h'->Q (some e.key) { s with heap:=h' }):wpAny (model prog w) A (pyNext (.ref it)) Q E s:=by
 obtain⟨oi,hi,ci,di⟩:=id hit;have T:=hit.typeIs;unfold pyNext;refine wpAny_bind (wpAny_attempt (wpAny_callSpecial?_slot (name:=Str.ofString "__next__") T F.slot_dict_keyiterator_next (wpAny_call_entry F.slot_dict_keyiterator_next T F.entry_dict_keyiterator_next ?_ (F.args_dict_keyiterator_next_1 _))));refine wpAny_bind (wpAny_pure (wpAny_bind (wpAny_bind ?_)))
 first|refine wpAny_bind (wpAny_typeNameOfWhole_keyiter T (wpAny_pure (wpAny_bind (wpAny_fieldsOf hi di ?_))))|refine wpAny_bind (wpAny_typeNameOf_keyiter T (wpAny_pure (wpAny_bind (wpAny_fieldsOf hi di ?_))))
 simp only[show Builtin.Dict_items.ownsTuple "dict_keyiterator" =false by decide,Bool.false_eq_true,if_false];show wpAny _ A.in1 (if (Value.ref d==Value.none)=true then _ else _) _ _ s;rw[if_neg (show ¬(Value.ref d==Value.none)=true from Bool.false_ne_true)];refine wpAny_bind (wpAny_pure (wpAny_bind (wpAny_dictEntries ho hq ?_)));rw[if_neg (by simp)];refine wpAny_bind (wpAny_pure (wpAny_bind (wpAny_dictEpoch ho hq ?_)));rw[if_neg (by simp)];refine wpAny_pure ?_;simp only[show ¬((i:Int)<0) from by lia,if_false,Int.toNat_natCast,hx];refine wpAny_bind ?_
 first|refine wpAny_bind (wpAny_typeNameOfWhole_keyiter T (wpAny_pure (wpAny_bind (wpAny_isOneOf_keyiter T ?_))))|refine wpAny_bind (wpAny_typeNameOf_keyiter T (wpAny_pure (wpAny_bind (wpAny_isOneOf_keyiter T ?_))))
 show wpAny _ A.in1 (setField (.ref it) 1 (rawInt ((i:Int)+1)) >>= _) _ _ s;refine wpAny_bind (wpAny_setField hi di (by simp) ?_);have H2:(s.heap.update it (Obj.mapFields (·.setIfInBounds 1 (rawInt ((i:Int)+1))))).IsKeyIter it d (i+1) es.size ep :=
  ⟨_,Heap.get?_update_self _ hi (Obj.isFreed_of_fields (Obj.data_mapFields di _)),(Obj.cls_mapFields ..).trans ci,(Obj.data_mapFields di _).trans (by simp[rawInt])⟩
 refine wpAny_bind (wpAny_holding (wpAny_bind (wpAny_isOneOf_keyiter (s:={ s with heap:=s.heap.update it (Obj.mapFields (·.setIfInBounds 1 (rawInt ((i:Int)+1)))) }) H2.typeIs ?_)));show wpAny _ A.in1 (pure e.key) _ _ _;exact wpAny_pure (wpAny_pure ⟨_,rfl,wpAny_pure (k _ H2 (Heap.SameBut.update ..))⟩)
theorem aAG {Q:Option Value->Shared->Prop}(hh:A.handled=none)(hit:s.heap.IsKeyIter it d i es.size ep)(ho:s.heap.get? d=some o)(hq:o.data= .dict es ep)(hx:es.size<=i)
  (k:∀h',Heap.ExtBut it s.heap h'->Q none { s with heap:=h' }):wpAny (model prog w) A (pyNext (.ref it)) Q E s:=by
 obtain⟨oi,hi,ci,di⟩:=id hit;have T:=hit.typeIs;unfold pyNext;refine wpAny_bind (wpAny_attempt (wpAny_callSpecial?_slot (name:=Str.ofString "__next__") T F.slot_dict_keyiterator_next (wpAny_call_entry F.slot_dict_keyiterator_next T F.entry_dict_keyiterator_next ?_ (F.args_dict_keyiterator_next_1 _))));refine wpAny_bind (wpAny_pure (wpAny_bind (wpAny_bind ?_)))
 first|refine wpAny_bind (wpAny_typeNameOfWhole_keyiter T (wpAny_pure (wpAny_bind (wpAny_fieldsOf hi di ?_))))|refine wpAny_bind (wpAny_typeNameOf_keyiter T (wpAny_pure (wpAny_bind (wpAny_fieldsOf hi di ?_))))
 simp only[show Builtin.Dict_items.ownsTuple "dict_keyiterator" =false by decide,Bool.false_eq_true,if_false];show wpAny _ A.in1 (if (Value.ref d==Value.none)=true then _ else _) _ _ s;rw[if_neg (show ¬(Value.ref d==Value.none)=true from Bool.false_ne_true)];refine wpAny_bind (wpAny_pure (wpAny_bind (wpAny_dictEntries ho hq ?_)));rw[if_neg (by simp)];refine wpAny_bind (wpAny_pure (wpAny_bind (wpAny_dictEpoch ho hq ?_)));rw[if_neg (by simp)];refine wpAny_pure ?_;simp only[show ¬((i:Int)<0) from by lia,if_false,Int.toNat_natCast,Array.getElem?_eq_none hx];refine wpAny_bind ?_
 first|refine wpAny_bind (wpAny_typeNameOfWhole_keyiter T (wpAny_pure ?_))|refine wpAny_bind (wpAny_typeNameOf_keyiter T (wpAny_pure ?_))
 show wpAny _ A.in1 (setField (.ref it) 0 .none >>= _) _ _ s;refine wpAny_bind (wpAny_setField hi di (by simp) ?_);show wpAny _ A.in1 (newExc (.type "StopIteration") [] >>= _) _ _ _;refine wpAny_bind ?_;simp only[newExc,newTuple];refine wpAny_bind (wpAny_newObj_type (wpAny_bind (m:=firstArgMember _ _) (wpAny_of_eq (a:=Value.none) (by first|rfl|(simp only[firstArgMember];rfl)) (wpAny_newObj_type ?_ (by size_fits)))) (by size_fits));simp only[raiseNew];refine wpAny_bind (wpAny_handled ?_);rw[show A.in1.handled=none from hh];refine wpAny_bind (wpAny_pure (wpAny_throw ?_));refine wpAny_bind (wpAny_isInstance (b:=true) (T:= "StopIteration") ⟨_,Heap.get?_push_size _ rfl,rfl⟩ isSubtype_stop ?_);exact wpAny_pure (k _ (((Heap.SameBut.update ..).extBut.push _).push _))
end
def Itk (a:Addr)(o:Obj)(kvs:List (Key×V)):It :=
 ⟨λi H=>H a=some (.frz o (.dK kvs))/\i<kvs.length,λi H x H'=>H'=H/\∃k v,kvs[i]? =some (k,v)/\x=kV k,λi H=>H a=some (.frz o (.dK kvs))/\kvs.length<=i⟩
theorem Inv.freeze {u:HO}{o:Obj}(I:Inv X pins σ H s)(mu:Mut (some u))(e:H a=some u)(ho:s.heap.get? a=some o)(new:ObjOk X.prog X.w (upd H a (.frz o u)) s.heap a (.frz o u)):Inv X pins σ (upd H a (.frz o u)) s :=
 I.write (t':=s.toks) (h':=s.heap) (by rw[e];exact mu) (.inl rfl) (λb u _ z=>z) ⟨_,ho⟩ new
section
variable {c:Expr}{lo hi:Option Expr}{tl th ts:TO}{p2:Pos}
end
variable {ti:TT}{fin:List V->Hp->Prop}{ci:List Nat}
theorem Room.units1 {k:Nat}(r:Room k A):A.units+1<cLine:=by have:=r.un;lia
section
variable {Q:VK}
end
section
variable {Q:VK}
end
theorem wH {k:Nat}{t:TGs}{n:Nat}{pos:Pos}(hc:X.calm=true)(h:PGs X es t)(hK:X.K=K:=by rfl)
  (hn:(assignEach es X.env).length=n:=by rfl)(hst:(assignEach es X.env).findIdx? (·.1)=none:=by rfl):PG X (.Tuple es k pos) (JV K n t):=by
 subst hK;exact SQ hc h hn hst
def aAj (nx:St->Hp->Prop)(σ:St)(x v:V):VK:=λy H3=>∃a H4,x= .ref a/\DPut H3 a y v H4/\nx σ H4
def aAb (Q:VK)(x:V):VK:=λy H2=>∃a v,x= .ref a/\nG H2 a y (some v)/\Q v H2
variable {ct nx:St->Hp->Prop}
section
variable {Q:VK}{rt bk:St->Hp->Prop}
theorem aCh {ty:TE}{rt:VK}{bk:St->Hp->Prop}(h:tv σ H λv H1=>td σ H1 λx H2=>ty σ H2 (aAj nx σ x v)):aAg td ty tv ⟨nx,rt,bk,ct⟩ σ H:=h
theorem aAW {ty:TE}(h:td σ H λx H1=>ty σ H1 (aAb Q x)):aAn td ty σ H Q:=h
end
theorem L6 {k:Key}(h:(bV P w).is k u=true):RelV (kV k) u:=by
 rcases cT h with⟨i,t,rfl,rfl⟩|⟨x,t,rfl,rfl⟩
 .exact⟨t,rfl⟩
 .exact⟨t,rfl⟩
theorem TK {kvs:List (κ×V)}{vs:List (κ×Value)}{i:Nat}(h:KV kvs vs)(hi:i<kvs.length):∃k v u,kvs[i]? =some (k,v)/\vs[i]? =some (k,u)/\RelV v u:=by
 induction h generalizing i with
 | nil=>exact absurd hi (Nat.not_lt_zero _)
 | @cons x y l m h t ih =>
  cases i with
  | zero=>exact⟨x.1,x.2,y.2,rfl,by rw[h.1];rfl,h.2⟩
  | succ i=>exact ih (Nat.lt_of_succ_lt_succ hi)
theorem EQ [DecidableEq κ]{knd:KeyKind P w κ}:∀{es:List DictEntry}{kvs:List (κ×Value)}{i:Nat}{k:κ}{u:Value},Pairs knd es kvs->kvs[i]? =some (k,u)->∃e,es[i]? =some e/\knd.is k e.key=true/\e.val=u
 | _,_,0,_,_,.cons h1 h2 _,z=>by cases z;exact⟨_,rfl,h1,h2⟩
 | _,_,i+1,_,_,.cons _ _ t,z=>by
  obtain⟨e,e1,e2⟩:=EQ (i:=i) t (by simpa using z);exact⟨e,by simpa using e1,e2⟩
 | _,_,_,_,_,.nil,z=>by simp at z
theorem PY (a it:Addr){o:Obj}{es:Array DictEntry}(kvs:List (Key×V))(hd:o.data= .dict es ep)(hz:es.size=kvs.length):
  uJ P w K tg (Itk a o kvs) [it] it (λi h=>h.IsKeyIter it a i es.size ep) where
 mem:=by simp
 obj:=λi h st b hb=>by
  have e:b=it:=by simpa using hb
  subst e;obtain⟨ob,e,c,d⟩:=st;exact⟨ob,e,λv z=>by rw[d]at z;cases z⟩
 keep:=λi h h' st k=>st.at λob e=>k it (by simp) ob e
 item:=by
  intro X hP hw hK hc i pins s σ H E I hf st hg;subst hP hw hK;obtain⟨ha,hi⟩:=hg;obtain⟨ho,z,y,vs,r,o',es',ep',h1,h2,h3,h4,h5,h6⟩:=(show ObjOk X.prog X.w H s.heap a (.frz o (.dK kvs)) from I.hok a _ ha)
  rw[ho]at h1;cases h1;rw[hd]at h3;cases h3;obtain⟨k,v,u,e1,e2,e3⟩:=TK r hi;obtain⟨e,f6,f7,f8⟩:=EQ h5 e2;obtain⟨f0,f1,f2,f3,f4,f5⟩:=hf it (by simp);refine WZ st ho hd (e:=e) (by simpa using f6) λh' st' sb=> ?_;have I1:Inv X pins σ H { s with heap:=h' }:=I.turned (t':=s.toks) (λb o hb e=>(sb.2 b hb).trans e) f0 f1 f3 f4 f5;exact⟨_,rfl,letGo_keyiter (s':={ s with heap:=h' }) st' ⟨kV k,H,I1,L6 f7,⟨rfl,k,v,e1,rfl⟩,st',λb hb=>(hf b hb).1⟩⟩
 done:=by
  intro X hP hw hK hc i pins s σ H E I hf st hg;subst hP hw hK;obtain⟨ha,hi⟩:=hg;obtain⟨ho,hok⟩:=(show ObjOk X.prog X.w H s.heap a (.frz o (.dK kvs)) from I.hok a _ ha)
  obtain⟨f0,f1,f2,f3,f4,f5⟩:=hf it (by simp);exact aAG (I.ok.hd hc) st ho hd (by lia) λh' eb=>⟨rfl,I.turned (t':=s.toks) (λb o hb e=>eb b o hb e) f0 f1 f3 f4 f5⟩
 self:=λ_ _ _ _ _ st h=>wpAny_pyIter_keyiter st h
def U5 (td:TE):TI:=λσ H R=>td σ H λx H1=>∃a kvs,x= .ref a/\H1 a=some (.dK kvs)/\∀o,R (Itk a o kvs) (upd H1 a (.frz o (.dK kvs)))
theorem KD {l:Expr}(hl:PE X l td):PI X tg l (U5 td):=by
 intro pins s σ H R I h;refine thn (hl pins s σ H _ I h) λv s1 ⟨x,H1,I1,r1,q1⟩=> ?_;obtain⟨a,kvs,rfl,hq,q⟩:=q1;cases r1;obtain⟨z,y,vs,r,o,es,ep,h1,h2,h3,h4,h5,h6⟩:=(show ObjOk X.prog X.w H1 s1.heap a (.dK kvs) from I1.hok a _ hq)
 have hz:es.size=kvs.length:=by rw[r.length,←h5.length];simp
 have new:ObjOk X.prog X.w (upd H1 a (.frz o (.dK kvs))) s1.heap a (.frz o (.dK kvs)):=⟨h1,z,y,vs,r,o,es,ep,h1,h2,h3,h4,h5,h6⟩
 have I2:Inv X pins σ (upd H1 a (.frz o (.dK kvs))) s1:=I1.freeze trivial hq h1 new;refine JI y h1 h2 h3 ?_;refine⟨s1.heap.objs.size,[s1.heap.objs.size],_,_,upd H1 a (.frz o (.dK kvs)),rfl,I2.kept (t':=s1.toks) λb o e=>Heap.get?_push_of_some _ e,PY a _ kvs h3 hz,⟨_,Heap.get?_push_size _ rfl,rfl,rfl⟩,λb hb=> ?_,q o⟩;have e:b=s1.heap.objs.size:=by simpa using hb
 subst e;exact I2.fpOk (Nat.le_refl _) (I2.hok.fresh (Nat.le_refl _))
section
variable {o:Obj}{u:HO}
theorem Inv.thaw (I:Inv X pins σ H s)(h0:∀o u,X.H₀ a≠some (.frz o u))(e:H a=some (.frz o u)):Inv X pins σ (upd H a u) s:=by
 have nn:∀b,H b=none->b≠a:=λb n z=>by rw[z,e]at n;cases n
 have no:∀b c,H b=some (.own c)->b≠a:=λb c n z=>by rw[z,e]at n;cases n
 have nt:∀b xs,H b=some (.tup xs)->b≠a:=λb c n z=>by rw[z,e]at n;cases n
 refine⟨I.ok,I.os,I.bare,⟨I.base.keep,I.base.slot,λb ob q n hx=> ?_,I.base.there,λb xs q=> ?_,λb ob xs q=> ?_,λb ps q=> ?_⟩,I.loc,I.cell,?_,λx c ec=> ?_,λp hp=> ?_,λb v q=> ?_,I.len⟩
 .have z:=I.base.free b ob q n hx;rw[aM (nn b z)];exact z
 .have z:=I.base.tups b xs q;rw[aM (nt b xs z)];exact z
 .have z:=I.base.frzs b ob xs q;have hb:b≠a:=λy=>h0 ob xs (by rw[←y];exact q);rw[aM hb];exact z
 .obtain⟨more,z⟩:=I.base.tbls b ps q;refine⟨more,?_⟩;rw[aM (λy=>by rw[y,e]at z;cases z)];exact z
 .rw[aM (nn _ I.free)];exact I.free
 .rw[aM (nn _ (I.freeC x c ec))];exact I.freeC x c ec
 .obtain⟨p1,p2,p3⟩:=I.pin p hp;exact⟨p1,by rw[aM (nn _ p2)];exact p2,p3⟩
 .have so:∀b c,H b=some (.own c)->upd H a u b=some (.own c):=λb c z=>by rw[aM (no b c z)];exact z
  have st:∀b xs,H b=some (.tup xs)->upd H a u b=some (.tup xs):=λb c z=>by rw[aM (nt b c z)];exact z
  by_cases hb:b=a
  .subst hb;rw[aU]at q;cases q;obtain⟨_,z⟩:=(show ObjOk X.prog X.w H s.heap b (.frz o u) from I.hok b _ e)
   exact z.stay (λ_ _ _ q=>q) (λc z=>so c b z) st
  .rw[aM hb]at q;exact(I.hok b v q).stay (λ_ _ _ q=>q) (λc z=>so c b z) st
theorem Inv.wasFree (I:Inv X pins σ H s)(h:∀o u,H a≠some (.frz o u)):∀o u,X.H₀ a≠some (.frz o u):=λo u z=>h o u (I.base.frzs a o u z)
end
def iE (a:Addr)(R:Hp->Prop):Hp->Prop:=λH=>∃o u,H a=some (.frz o u)/\R (upd H a u)
def ZY (te:TE):TE:=λσ H Q=>∃a,(∀o u,H a≠some (.frz o u))/\te σ H λx=>iE a (Q x)
def aAt (ts:TS):TS:=λD σ H=>∃a,(∀o u,H a≠some (.frz o u))/\ts ⟨λσ'=>iE a (D.nx σ'),λv=>iE a (D.rt v),λσ'=>iE a (D.bk σ'),λσ'=>iE a (D.ct σ')⟩ σ H
theorem aAR (he:PE X e te):PE X e (ZY te):=by
 intro pins s σ H Q I h;obtain⟨a,h0,h⟩:=h;refine thn (he pins s σ H _ I h) λv s1 ⟨x,H1,I1,r1,o,u,e,q⟩=> ?_;exact⟨x,_,I1.thaw (I.wasFree h0) e,r1,q⟩
theorem aAw {st:Stmt}(he:PS X st ts):PS X st (aAt ts):=by
 intro pins s σ H D I h;obtain⟨a,h0,h⟩:=h;refine thn (he pins s σ H _ I h) λf s1 z=> ?_;cases f with
 | next=>obtain⟨σ1,H1,I1,o,u,e,q⟩:=z;exact⟨σ1,_,I1.thaw (I.wasFree h0) e,q⟩
 | brk=>obtain⟨σ1,H1,I1,o,u,e,q⟩:=z;exact⟨σ1,_,I1.thaw (I.wasFree h0) e,q⟩
 | cont=>obtain⟨σ1,H1,I1,o,u,e,q⟩:=z;exact⟨σ1,_,I1.thaw (I.wasFree h0) e,q⟩
 | ret v=>obtain⟨x,σ1,H1,I1,r,o,u,e,q⟩:=z;exact⟨x,σ1,_,I1.thaw (I.wasFree h0) e,r,q⟩
theorem JB:∀bs:List Bool,((List.range bs.length).any λi=>bs.getD i false)=bs.any id
 | []=>rfl
 | b::bs=>by
  rw[List.length_cons,List.range_succ_eq_map,List.any_cons,List.any_map,List.any_cons,←JB bs];rfl
def aDT (K:W.Frag):List V->Hp->VK->Prop:=λxs H Q=>∃(p:Addr) (bs:List Bool),xs=[.ref p]/\SqL K H p (bs.map V.bl)/\Q (.bl (bs.any id)) H
theorem E7 (hc:X.calm=true):cU X (.builtin "any") (aDT X.K):=by
 intro pins s σ H xs us Q I r h;obtain⟨p,bs,rfl,hq,q⟩:=h;obtain⟨u,rfl,rx⟩:=iJ r;cases rx;obtain⟨its,r',pl,hz⟩:=I.list hq;have hl:=pl.isList;have hlt:p<s.heap.objs.size:=by obtain⟨_,e,_⟩:=hl;exact Heap.lt_size e
 have hlen:bs.length=its.length:=by have:=r'.length;rw[List.length_map]at this;exact this
 refine call_any_walk (wpAny_pyIter_list hl ?_);refine⟨s.heap.objs.size,_,_,its.toArray.size,_,_,λi=>bs.getD i false,rfl,Walks.list (show X.A.in1.handled=none from I.ok.hd hc) s.heap.objs.size p (Nat.ne_of_lt hlt) its.toArray,⟨⟨_,Heap.get?_push_size _ rfl,rfl,rfl⟩,hl.push _⟩,?_,?_⟩
 .intro i v s' Q' E' hi hQ;have hi':its[i]? =some v:=by simpa using hi
  have hib:i<bs.length:=by rw[hlen];exact(List.getElem?_eq_some_iff.mp hi').1
  obtain⟨u,hu,ru⟩:=r'.get (i:=i) (x:=V.bl bs[i]) (by rw[List.getElem?_map,List.getElem?_eq_getElem hib];rfl);rw[hi']at hu;cases hu;have:v=Value.bool bs[i]:=ru;subst this;refine wpAny_truthy_bool ?_;have eb:bs.getD i false=bs[i]:=by rw[List.getD_eq_getElem?_getD,List.getElem?_eq_getElem hib];rfl
  have hQ':Q' (bs.getD i false) s':=hQ;rw[eb]at hQ';exact hQ'
 .intro h' tk hk;have eany:(List.range its.toArray.size).any (λi=>bs.getD i false)=bs.any id:=by
   rw[List.size_toArray,←hlen];exact JB bs
  rw[eany];refine⟨.bl (bs.any id),H,?_,rfl,q⟩;have I1:Inv X pins σ H { s with heap:=s.heap.push { cls:= .type "list_iterator",data:= .fields #[.ref p,.int 0 0] },toks:=s.toks }:=I.kept λb u e=>Heap.get?_push_of_some _ e;obtain⟨f0,f1,f2,f3,f4,f5⟩:=I.fpOk (Nat.le_refl _) (I.hok.fresh (Nat.le_refl _));exact I1.turned (λb o hb e=>hk b o (by simpa using hb) e) f0 f1 f3 f4 f5
section
variable {Q:VK}
theorem VH {p:Addr}{bs:List Bool}(e:SqL K H p (bs.map V.bl))(h:Q (.bl (bs.any id)) H):aDT K [.ref p] H Q:=⟨p,bs,rfl,e,h⟩
end
theorem SZ:bootBuiltins "any" =some (.builtin "any"):=by decide +kernel
theorem aBy:typeLookup (.type "list") "keys" =pure none:=by rw[typeLookup_type,builtinLookup_eq_fast];kernel_rfl
theorem aCc:typeLookup (.type "list") "__getattr__" =pure none:=by rw[typeLookup_type,builtinLookup_eq_fast];kernel_rfl
theorem IR:isSubtype (.type "AttributeError") (.type "AttributeError")=pure true:=by rw[isSubtype_type];kernel_rfl
theorem X5:((Manifest.find? "AttributeError").elim false λt=>t.mro.contains "StopIteration" ||t.mro.contains "SystemExit")=false:=by decide +kernel
variable {its:Array Value}{tk:Tok}{R:Result->Shared->Prop}
theorem XR {α:Type}{v:Value}{Q:α->Shared->Prop}(hh:A.handled=none)
  (k:∀e h' tk' o,h'.get? e=some o->o.cls= .type "AttributeError" ->(∀b o,s.heap.get? b=some o->h'.get? b=some o)->E (.ref e) { s with heap:=h',toks:=tk' }) :
  wpAny (model prog w) A (do
   let e ←newExc (.type "AttributeError") [v];let l ←mkText "keys"
   noteAttr e (.ref a) l
   raiseNew e) Q E s:=by
 unfold newExc newTuple;refine wpAny_bind (wpAny_bind (wpAny_newObj_type (wpAny_bind (m:=firstArgMember _ _) (wpAny_of_eq (a:=Value.none) (by simp only[firstArgMember,X5];rfl) (wpAny_newObj_type ?_ (by size_fits)))) (by size_fits)));refine wpAny_bind (wpAny_mkText ?_);refine wpAny_bind ?_;unfold noteAttr;refine wpAny_bind ?_;unfold lacksNameAndObj;have e1:(#[Value.ref s.heap.objs.size,.none,.none,.none,.bool false,.none]++ownMembersOf (.type "AttributeError") [v]:Array Value)= #[Value.ref s.heap.objs.size,.none,.none,.none,.bool false,.none,unsetMember,unsetMember]:=rfl;rw[e1];generalize hs:s.heap.push { cls:=Value.type "tuple",data:=Data.seq #[v] }=h1;have ho:(h1.push { cls:= .type "AttributeError",data:= .fields #[Value.ref s.heap.objs.size,.none,.none,.none,.bool false,.none,unsetMember,unsetMember] }).get? h1.objs.size=some { cls:= .type "AttributeError",data:= .fields #[Value.ref s.heap.objs.size,.none,.none,.none,.bool false,.none,unsetMember,unsetMember] }:=Heap.get?_push_size _ rfl;refine wpAny_bind (wpAny_isInstance (b:=true) (T:= "AttributeError") ⟨_,ho,rfl⟩ IR ?_);refine wpAny_bind (wpAny_load ho ?_);refine wpAny_pure ?_;refine wpAny_bind (wpAny_rule ?_);refine wpAny_bind (wpAny_typeOf (T:= "AttributeError") ⟨_,ho,rfl⟩ ?_);unfold layMembers;refine wpAny_bind (wpAny_load ho ?_);refine wpAny_update ho ?_;simp only[raiseNew];refine wpAny_bind (wpAny_handled ?_);rw[hh];refine wpAny_bind (wpAny_pure (wpAny_throw ?_));refine k h1.objs.size _ _ _ (Heap.get?_update_self _ ho (Obj.isFreed_of_fields (Obj.data_mapFields rfl _))) (Obj.cls_mapFields ..) λb o e=> ?_;have hb:b≠h1.objs.size:=λz=>by
  have h2:h1.objs.size=s.heap.objs.size+1:=by rw[←hs];simp[Heap.push]
  have h3:=Heap.lt_size e;rw[z,h2]at h3;exact absurd h3 (Nat.not_lt.mpr (Nat.le_succ _))
 exact(Heap.get?_update_other _ _ (Ne.symm hb)).trans (Heap.get?_push_of_some _ (by rw[←hs];exact Heap.get?_push_of_some _ e))
theorem NS {Q:Fin->Shared->Prop}(hh:A.handled=none)(hx:s.heap.get? a=some { cls:= .type "list",data:= .seq its n })
  (k:∀e h' tk' o,h'.get? e=some o->o.cls= .type "AttributeError" ->(∀b o,s.heap.get? b=some o->h'.get? b=some o)->E (.ref e) { s with heap:=h',toks:=tk' }) :
  wpAny (model prog w) A (Builtin.«object.__getattribute__» ⟨[.ref a,.str "keys" tk],[]⟩) Q E s:=by
 obtain⟨h,g,d,t,os⟩:=s;have hT:(⟨h,g,d,t,os⟩:Shared).TypeIs (.ref a) "list" :=⟨_,hx,rfl⟩
 have f4:=aBy
 repeat (any_goals (first|assumption|wp_step))
 refine wpAny_bind (wpAny_mkStr ?_ (by rw[sizeLine_eq];decide +kernel));exact XR hh λe h' tk' o e1 e2 e3=>k e h' tk' o e1 e2 e3
theorem UL (hh:A.handled=none)(hx:s.heap.get? a=some { cls:= .type "list",data:= .seq its n })
  (k:∀e h' tk' o,h'.get? e=some o->o.cls= .type "AttributeError" ->(∀b o,s.heap.get? b=some o->h'.get? b=some o)->R (.error (.ref e)) { s with heap:=h',toks:=tk' }) :
  codeAny (model prog w) A (.call (.builtin "list.__getattribute__") ⟨[.ref a,.str "keys" tk],[]⟩) R s:=by
 obtain⟨h,g,d,t,os⟩:=s;exact codeAny_call_builtin F.slot_list_getattribute.plain F.entry_list_ga (F.slot_list_getattribute.check _ _ _ _ _ _ _ _ (show (⟨h,g,d,t,os⟩:Shared).TypeIs (.ref a) "list" from⟨_,hx,rfl⟩) (F.args_list_getattribute_2 _ _) (NS hh hx k))
theorem aBY {Q:Option Value->Shared->Prop}(hh:A.handled=none)(hx:s.heap.get? a=some { cls:= .type "list",data:= .seq its n })
  (k:∀h' tk',(∀b o,s.heap.get? b=some o->h'.get? b=some o)->Q none { s with heap:=h',toks:=tk' }):wpAny (model prog w) A (getAttr? (.ref a) "keys") Q E s:=by
 obtain⟨h,g,d,t,os⟩:=s;have hT:(⟨h,g,d,t,os⟩:Shared).TypeIs (.ref a) "list" :=⟨_,hx,rfl⟩
 have f2:=F.slot_list_getattribute.lookup;have f3:=F.slot_list_getattribute.bind (.ref a);unfold getAttr? getAttrBy?
 repeat (any_goals (first|assumption|wp_step))
 refine UL hh hx λe h' tk' o e1 e2 e3=> ?_;have hE:(⟨h',g,d,tk',os⟩:Shared).TypeIs (.ref e) "AttributeError" :=⟨_,e1,e2⟩
 show wpAny (model prog w) A (getattributeRaised (Value.ref a) (Value.str (Str.ofString "keys") t) (.type "list") (.ref e) none false false) _ _ (⟨h',g,d,tk',os⟩:Shared);unfold getattributeRaised;refine wpAny_bind (wpAny_isInstance (b:=true) hE IR ?_);show wpAny (model prog w) A (typeLookup (.type "list") "__getattr__" >>= λx=>hookOrError (Value.ref a) (Value.str (Str.ofString "keys") t) (.ref e) false false x) _ _ (⟨h',g,d,tk',os⟩:Shared);rw[aCc];refine wpAny_bind (wpAny_pure ?_);refine wpAny_throw ?_;refine wpAny_bind (wpAny_isInstance (b:=true) hE IR ?_);exact wpAny_pure (k h' tk' e3)
theorem tG:entryFor table "dict.update.loop" =some Builtin.«dict.update.loop»:=entryFor_of_tree (by kernel_rfl)
theorem iI:plainId "dict.update.loop" =true:=by decide +kernel
def T9 [DecidableEq κ](kvs ps:List (κ×Value)):List (κ×Value):=ps.foldl (λacc p=>stored acc p.1 p.2) kvs
theorem N7 [DecidableEq κ](kvs:List (κ×Value))(k:κ)(v:Value):(stored kvs k v).length<=kvs.length+1:=by
 unfold stored
 split
 .rw[List.length_map];exact Nat.le_succ _
 .rw[List.length_append];exact Nat.le_refl _
section
variable [DecidableEq κ]{knd:KeyKind prog w κ}{I d:Addr}{fp wr:List Addr}{P:Nat->Value->Prop}{St:Nat->Heap->Prop}
def aFh (knd:KeyKind prog w κ)(d:Addr)(wr:List Addr)(P:Nat->Value->Prop)(ps:List (κ×Value))(h:Heap):Prop :=
 ∀i v,P i v->∃(q:Addr) (o:Obj) (key:Value) (k:κ) (u:Value) (c:Nat),v= .ref q/\q∉wr/\q≠d/\h.get? q=some o/\o.cls= .type "tuple" /\o.data= .seq #[key,u] c/\knd.is k key=true/\ps[i]? =some (k,u)
theorem YU (W:Walks prog w A.in1 I fp wr n P St)(hdf:d∉fp)(ps:List (κ×Value))(hn:ps.length=n)(hsz:n<=sizeLine):
  ∀(k i:Nat) (s:Shared) (kvs:List (κ×Value)),n - i=k->i<=n->St i s.heap->kvs.length<=i->s.heap.DictOf knd d kvs->aFh knd d wr P ps s.heap →
  (∀h' tk,h'.DictOf knd d (T9 kvs (ps.drop i))->(∀b o,b∉wr->b≠d->s.heap.get? b=some o->h'.get? b=some o)->R (.ok (.ret .none)) { s with heap:=h',toks:=tk }) →
  codeAny (model prog w) A (.builtin "dict.update.loop" ⟨[.ref d,.ref I,rawInt i,.none],[]⟩) R s:=by
 have hdw:d∉wr:=λh=>hdf (W.sub _ h);intro k
 induction k with
 | zero =>
  intro i s kvs hk hi hst hl hd hrow hR;have hin:i=n:=by lia
  subst hin;refine codeAny_builtin tG ?_;rw[Around.under_plainId iI _];show wpAny _ A.in1 (pyNext (.ref I) >>= _) _ _ s;refine wpAny_bind (W.done s _ _ hst λh' tk hk'=> ?_);show wpAny _ _ (Builtin.Dict.addKeywords d [] >>= _) _ _ _;refine wpAny_bind (wpAny_pure (wpAny_pure (hR h' tk ?_ λb o hb _ e=>hk' b o hb e)));rw[List.drop_of_length_le (by lia)];exact hd.at λo e=>hk' d o hdw e
 | succ k ih =>
  intro i s kvs hk hi hst hl hd hrow hR;have hlt:i<n:=by lia
  refine codeAny_builtin tG ?_;rw[Around.under_plainId iI _];show wpAny _ A.in1 (pyNext (.ref I) >>= _) _ _ s;refine wpAny_bind (W.item i s _ _ hlt hst λv h' tk hP hst' hk'=> ?_);obtain⟨q,o,key,kk,u,c,rfl,hqw,hqd,ho,hc,hdt,his,hps⟩:=hrow i v hP;have ho':=hk' q o hqw ho;refine wpAny_bind (wpAny_holding (wpAny_bind (wpAny_tryCatch ?_)));unfold Builtin.Dict.pairItems;refine wpAny_bind (wpAny_typeOf (T:= "tuple") ⟨o,ho',hc⟩ ?_);rw[if_pos (by rfl)];refine wpAny_bind (wpAny_seqItems ho' hdt (wpAny_pure ?_));have hd':h'.DictOf knd d kvs:=hd.at λo e=>hk' d o hdw e;refine wpAny_holding (wpAny_dictSet_pairs his hd' (λh2 hd2 sb=> ?_) (by lia));have keep:∀b o,b∉wr->b≠d->s.heap.get? b=some o->h2.get? b=some o:=λb o hb hbd e=>(sb.2 b hbd).trans (hk' b o hb e);refine wpAny_pure ⟨plainId_quiet iI _,ih (i+1) _ (stored kvs kk u) (by lia) hlt (W.frame _ _ _ hst' λb hb o e=>(sb.2 b (λz=>hdf (z▸hb))).trans e) (Nat.le_trans (N7 ..) (by lia)) hd2 (λj v hj=> ?_) λh3 tk3 hd3 hk3=> ?_⟩
  .obtain⟨q,o,key,kk,u,c,e1,e2,e3,e4,e5⟩:=hrow j v hj;exact⟨q,o,key,kk,u,c,e1,e2,e3,keep q o e2 e3 e4,e5⟩
  .refine hR h3 tk3 ?_ λb o hb hbd e=>hk3 b o hb hbd (keep b o hb hbd e);have ed:ps.drop i=(kk,u)::ps.drop (i+1):=by
    have hi2:i<ps.length:=by lia
    rw[List.drop_eq_getElem_cons hi2];have:=(List.getElem?_eq_some_iff.mp hps).2;rw[this]
   rw[ed];exact hd3
end
section
variable [DecidableEq κ]{knd:KeyKind prog w κ}{l:Addr}{c:Nat}
theorem TN {ps:List (κ×Value)}(hh:A.handled=none)(hl:s.heap.get? l=some { cls:= .type "list",data:= .seq its c })(hsz:its.size<=sizeLine)(hlen:ps.length=its.size)
  (hrow:∀(i:Nat) (v:Value),its[i]? =some v->∃(q:Addr) (o:Obj) (key:Value) (k:κ) (u:Value) (c:Nat),v= .ref q/\s.heap.get? q=some o/\o.cls= .type "tuple" /\o.data= .seq #[key,u] c/\knd.is k key=true/\ps[i]? =some (k,u))
  (h:∀h' tk,h'.DictOf knd s.heap.objs.size (T9 [] ps)->(∀b o,s.heap.get? b=some o->h'.get? b=some o)->Q (.ref s.heap.objs.size) { s with heap:=h',toks:=tk }) :
  wpAny (model prog w) A (call (.type "dict") [.ref l]) Q E s:=by
 refine callType_codes (Q₁:=λobj s₁=>obj= .ref s.heap.objs.size/\s₁={ s with heap:=s.heap.push { cls:= .type "dict",data:= .dict #[] } }) F.kt_called_dict (F.kt_typeCall_dict_1 _) F.entry_dict_init (kt_code_dict_new _ ⟨rfl,rfl⟩) ?_;rintro obj s₁ ⟨rfl,rfl⟩;have hnew:(s.heap.push { cls:= .type "dict",data:= .dict #[] }).DictOf knd s.heap.objs.size []:=Heap.DictOf.new s.heap;have hl':(s.heap.push { cls:= .type "dict",data:= .dict #[] }).get? l=some { cls:= .type "list",data:= .seq its c }:=Heap.get?_push_of_some _ hl;refine⟨hnew.typeIs,F.args_dict_init_2 _ _,?_⟩;unfold Builtin.«dict.__init__»;refine wpAny_bind ?_;unfold Builtin.Dict.selfAndRest;refine wpAny_bind (wpAny_notOrdered_dict hnew.typeIs ?_);show wpAny _ _ (pure (s.heap.objs.size,[Value.ref l])) _ _ _;refine wpAny_pure ?_;show wpAny _ _ (Builtin.Dict.updateFrom "dict.__init__" s.heap.objs.size (.ref l) [] .none) _ _ _;unfold Builtin.Dict.updateFrom;refine wpAny_bind (wpAny_typeOf (T:= "list") ⟨_,hl',rfl⟩ ?_);rw[if_pos (by decide)];refine wpAny_bind (aBY hh hl' λh1 t1 kp1=> ?_);rw[if_pos (show (none:Option Value).isNone=true from rfl)];refine wpAny_bind (wpAny_rule ?_);have hl1:=kp1 _ _ hl';have isl:h1.IsList l its:=⟨_,hl1,rfl,_,rfl⟩
 have lt1:∀b o,s.heap.get? b=some o->b≠h1.objs.size:=λb o e z=>by
  have:=Heap.lt_size (kp1 b o (Heap.get?_push_of_some _ e));rw[z]at this;exact Nat.lt_irrefl _ this
 have hdI:s.heap.objs.size≠h1.objs.size:=λz=>by
  have:=Heap.lt_size (kp1 _ _ (Heap.get?_push_size s.heap (o:={ cls:= .type "dict",data:= .dict #[] }) rfl));rw[z]at this;exact Nat.lt_irrefl _ this
 have hdl:∀b o,s.heap.get? b=some o->b≠s.heap.objs.size:=λb o e z=>by
  have:=Heap.lt_size e;rw[z]at this;exact Nat.lt_irrefl _ this
 refine wpAny_bind (wpAny_pyIter_list isl ?_);refine wpAny_pure ⟨plainId_quiet iI _,?_⟩;have W:=Walks.list (prog:=prog) (w:=w) (A:=A.in1.in1) hh h1.objs.size l (lt1 _ _ hl) its;refine YU (knd:=knd) W (by simp only[List.mem_cons,List.not_mem_nil,or_false,not_or];exact⟨hdI,Ne.symm (hdl _ _ hl)⟩) ps hlen hsz its.size 0 _ [] (Nat.sub_zero _) (Nat.zero_le _) ⟨⟨_,Heap.get?_push_size _ rfl,rfl,rfl⟩,isl.push _⟩ (Nat.le_refl _) ((hnew.at λo e=>kp1 _ o e).push _) (λi v hi=> ?_) λh' tk hd hk=> ?_
 .obtain⟨q,o,key,k,u,c',e1,e2,e3,e4,e5,e6⟩:=hrow i v hi;refine⟨q,o,key,k,u,c',e1,?_,hdl _ _ e2,Heap.get?_push_of_some _ (kp1 _ _ (Heap.get?_push_of_some _ e2)),e3,e4,e5,e6⟩;simp only[List.mem_cons,List.not_mem_nil,or_false];exact lt1 _ _ e2
 .refine⟨rfl,h h' tk hd λb o e=>hk b o ?_ (hdl _ _ e) (Heap.get?_push_of_some _ (kp1 _ _ (Heap.get?_push_of_some _ e)))⟩;simp only[List.mem_cons,List.not_mem_nil,or_false];exact lt1 _ _ e
end
abbrev GP (H:Hp):List V->List (Key×V)->Prop:=Paired λv p=>∃q,v= .ref q/\H q=some (.tup [kV p.1,p.2])
theorem XB (I:Inv X pins σ H s){k:Key}{x:V}(e:H q=some (.tup [kV k,x])):∃(o:Obj) (key u:Value) (n:Nat),s.heap.get? q=some o/\o.cls= .type "tuple" /\o.data= .seq #[key,u] n/\(bV X.prog X.w).is k key=true/\RelV x u:=by
 obtain⟨_,us,r,o,h1,h2,n,h3⟩:=(show ObjOk X.prog X.w H s.heap q (.tup [kV k,x]) from I.hok q _ e)
 cases r with
 | @cons _ key _ _ r1 r =>
  cases r with
  | @cons _ u _ _ r2 r =>
   cases r;exact⟨o,key,u,n,h1,h2,h3,oJ r1,r2⟩
theorem BM (I:Inv X pins σ H s):∀{vs:List V}{ps:List (Key×V)}{us:List Value},GP H vs ps->Vals vs us →
  ∃rs:List (Key×Value),KV ps rs/\rs.length=us.length/\∀(i:Nat) (v:Value),us[i]? =some v->∃(q:Addr) (o:Obj) (key:Value) (k:Key) (u:Value) (c:Nat),v= .ref q/\s.heap.get? q=some o/\o.cls= .type "tuple" /\o.data= .seq #[key,u] c/\(bV X.prog X.w).is k key=true/\rs[i]? =some (k,u)
 | _,_,_,.nil,.nil=>⟨[],.nil,rfl,λi v z=>by simp at z⟩
 | _::_,(k,x)::_,_::us,.cons ⟨q,e,hq⟩ t,.cons r rt=>by
  obtain⟨rs,h1,h2,h3⟩:=BM I t rt;obtain⟨o,key,u,n,o1,o2,o3,o4,o5⟩:=XB I hq;subst e;cases r;refine⟨(k,u)::rs,.cons ⟨rfl,o5⟩ h1,by simp[h2],λi v z=> ?_⟩;cases i with
  | zero=>cases z;exact⟨q,o,key,k,u,n,rfl,o1,o2,o3,o4,rfl⟩
  | succ i =>
   obtain⟨q,o,key,k,u,c,w1⟩:=h3 i v (by simpa using z);exact⟨q,o,key,k,u,c,by simpa using w1⟩
def VA:List V->Hp->VK->Prop:=λxs H Q=>∃p vs ps,xs=[.ref p]/\Rd H p (.lst vs)/\GP H vs ps/\∀l,H l=none->Q (.ref l) (upd H l (.dK (kB [] ps)))
theorem P5 (hc:X.calm=true):cU X (.type "dict") VA:=by
 intro pins s σ H xs us Q I r h;obtain⟨p,vs,ps,rfl,hq,pr,q⟩:=h;obtain⟨u,rfl,rx⟩:=iJ r;cases rx;obtain⟨z,its,n,rv,e⟩:=(show ObjOk X.prog X.w H s.heap p (.lst vs) from hq.ok I.hok)
 obtain⟨rs,h1,h2,h3⟩:=BM I pr rv;have hl:=rv.length;have hlp:=h1.length;refine TN (knd:=bV X.prog X.w) (ps:=rs) (I.ok.hd hc) e (by rw[List.size_toArray];lia) (by rw[List.size_toArray];exact h2) (λi v hv=>h3 i v (by simpa using hv)) λh' tk hd kp=> ?_;have lm:(kB [] ps).length<=sizeLine:=Nat.le_trans (uR ps []) (by simp;lia);have nm:(s.heap.objs.size==sysModules)=false:=by
  have:=I.big;simp only[beq_eq_false_iff_ne];exact λz=>by rw[z]at this;exact Nat.lt_irrefl _ this
 exact⟨.ref _,_,I.laid (t':=tk) kp (Nat.le_refl _) (TM lm nm (KV.merge h1 .nil) hd),rfl,q _ (I.hok.fresh (Nat.le_refl _))⟩
section
variable {d:Addr}{o:Obj}{es:Array DictEntry}{i:Nat}{k0 v0:Value}
end
section
variable {d:Addr}{o:Obj}{es:Array DictEntry}{i:Nat}
end
section
variable (r:Nat->Int)
variable {r}{p:Array Nat}
end
section
variable {r:Nat->Int}{p:Array Nat}
end
section
variable {lt:α->α->Bool}{l:List α}{d:α}
end
theorem Paired.snoc {F:α->β->Prop}:∀{l:List α}{m:List β}{a:α}{b:β},Paired F l m->F a b->Paired F (l++[a]) (m++[b])
 | _,_,_,_,.nil,h=> .cons h .nil
 | _,_,_,_,.cons r t,h=> .cons r (Paired.snoc t h)
theorem Paired.at2 {F:α->β->Prop}:∀{l:List α}{m:List β}{i:Nat}{a:α}{b:β},Paired F l m->l[i]? =some a->m[i]? =some b->F a b
 | _,_,0,_,_,.cons r _,h1,h2=>by cases h1;cases h2;exact r
 | _,_,i+1,_,_,.cons _ t,h1,h2=>Paired.at2 (i:=i) t (by simpa using h1) (by simpa using h2)
 | _,_,_,_,_,.nil,h1,_=>by simp at h1
theorem yW {J:It}{g:TG}{σ0:St}(xs:List α)(c:α->Bool)(P:α->V->Hp->Prop)(hm:∀x y H1 H2,P x y H1->Same H1 H2->P x y H2)(hn:xs.length<=sizeLine)
  (hgo:∀i H1,Same H H1->i<xs.length->J.go i H1)(hst:∀H1,Same H H1->J.stop xs.length H1)
  (hb:∀i x H1,xs[i]? =some x->Same H H1->∀v H',J.yld i H1 v H'->Same H1 H'/\∃σ2:St,σ2.length=σ0.length/\(∀(j:Nat) v,σ0[j]? =some (some v)->σ2[j]? =some (some v))/\(∀R:St->Hp->Prop,R σ2 H'->g v σ0 H' R) ∧
   (∀R:Bool->Hp->Prop,(∀H2,Same H' H2->R (c x) H2)->ti σ2 H' R)/\(c x=true->∀H2,Same H' H2->∀R:VK,(∀y H3,P x y H3->Same H2 H3->R y H3)->te σ2 H2 R))
  (hf:∀ys H1,Same H H1->Paired (λx y=>P x y H1) (xs.filter c) ys->fin ys H1):dD J g ti te σ0 fin H:=by
 refine⟨λi m ys H1=>i+m=xs.length/\Same H H1/\Paired (λx y=>P x y H1) ((xs.take i).filter c) ys,⟨xs.length,by lia,Same.refl _,.nil⟩,?_⟩;rintro i m ys H1 ⟨e1,s1,pr⟩;cases m with
 | zero =>
  have ei:i=xs.length:=by lia
  subst ei;rw[List.take_length]at pr;exact .inl ⟨hst H1 s1,hf ys H1 s1 pr⟩
 | succ m =>
  have hi:i<xs.length:=by lia
  refine .inr ⟨hgo i H1 s1 hi,λv H' y=> ?_⟩;have ex:xs[i]? =some xs[i]:=List.getElem?_eq_getElem hi;have etake:xs.take (i+1)=xs.take i++[xs[i]]:=by rw[List.take_succ,ex];rfl
  have hlen:ys.length<=i:=by
   rw[←Paired.length pr];exact Nat.le_trans (List.length_filter_le _ _) (by rw[List.length_take];lia)
  obtain⟨s2,σ2,l2,c2,hg,ht,he⟩:=hb i xs[i] H1 ex s1 v H' y;refine hg _ ⟨⟨l2,c2⟩,ht _ λH2 s3=> ?_⟩;cases hc:c xs[i] with
  | true =>
   show te σ2 H2 _;refine he hc H2 s3 _ λy H3 py s4=>⟨by lia,m,by lia,by lia,((s1.trans s2).trans s3).trans s4,?_⟩
   rw[etake,List.filter_append,List.filter_cons_of_pos hc];exact Paired.snoc (Paired.imp' (λa b h=>hm a b _ _ h ((s2.trans s3).trans s4)) pr) py
  | false =>
   show ∃m',_;refine⟨m,by lia,by lia,(s1.trans s2).trans s3,?_⟩;rw[etake,List.filter_append,List.filter_cons_of_neg (by rw[hc];exact Bool.false_ne_true),List.filter_nil,List.append_nil];exact Paired.imp' (λa b h=>hm a b _ _ h (s2.trans s3)) pr
theorem aDO (hr:ci.map (λi=>(σ[i]?).join)=rest):bQ n ci σ=List.replicate n none++rest:=by unfold bQ;rw[hr]
theorem DO {xs:List α}(f1 f2:α->V)(c:α->Bool)(P:α->V->Hp->Prop)(hm:∀x y H1 H2,P x y H1->Same H1 H2->P x y H2)(hn:xs.length<=sizeLine)(hr:ci.map (λi=>(σ[i]?).join)=rest)(hl:SqL K H a vs)
  (hv:Paired (λv x=>∃q,v= .ref q/\H q=some (.tup [f1 x,f2 x])) vs xs)
  (ht:∀x H1,x∈xs->Same H H1->∀R:Bool->Hp->Prop,(∀H2,Same H1 H2->R (c x) H2)->ti (some (f1 x)::some (f2 x)::rest) H1 R)
  (he:∀x H1,x∈xs->c x=true->Same H H1->∀R:VK,(∀y H2,P x y H2->Same H1 H2->R y H2)->te (some (f1 x)::some (f2 x)::rest) H1 R)
  (hf:∀ys H1,Same H H1->Paired (λx y=>P x y H1) (xs.filter c) ys->fin ys H1):dD (Itl K a) (JV K 2 (xC (cN 0) (xC (cN 1) O8))) ti te (bQ 2 ci σ) fin H:=by
 have e0:bQ 2 ci σ=none::none::rest:=aDO hr;rw[e0];have hlen:vs.length=xs.length:=Paired.length hv;refine yW xs c P hm hn (λi H1 s hi=>⟨vs,vs[i],s.seq hl,List.getElem?_eq_getElem (by lia)⟩) (λH1 s=>⟨vs,s.seq hl,by lia⟩) (λi x H1 hx s1 v H' y=> ?_) hf;obtain⟨rfl,e2⟩:=y;have ev:=e2 vs (s1.seq hl);obtain⟨q,rfl,hq⟩:∃q,v= .ref q/\H q=some (.tup [f1 x,f2 x]):=Paired.at2 hv ev hx;have hmem:=List.mem_of_getElem? hx;refine⟨Same.refl _,some (f1 x)::some (f2 x)::rest,rfl,λj v hv=> ?_,λR h=>⟨q,[f1 x,f2 x],rfl,.inl (.inl (s1 _ _ hq)),rfl,f1 x,[f2 x],rfl,f2 x,[],rfl,rfl,h⟩,λR h=>ht x _ hmem s1 R h,λhc H2 s2 R h=>he x H2 hmem hc (s1.trans s2) R h⟩
 match j,hv with
 | 0,hv=>cases hv
 | 1,hv=>cases hv
 | j+2,hv=>exact hv
theorem WL {o:HO}(h:H q=none):Same H (upd H q o):=λb u e=>by
 have:b≠q:=λz=>by rw[z,h]at e;cases e
 rw[aM this];exact e
theorem aCy {o:Obj}(c:Key×V->Bool)(P:Key×V->V->Hp->Prop)(hm:∀x y H1 H2,P x y H1->Same H1 H2->P x y H2)(hn:kvs.length<=sizeLine)(hr:ci.map (λi=>(σ[i]?).join)=rest)(h0:H a=some (.frz o (.dK kvs)))
  (ht:∀x H1,x∈kvs->Same H H1->∀R:Bool->Hp->Prop,(∀H2,Same H1 H2->R (c x) H2)->ti (some (kV x.1)::rest) H1 R)
  (he:∀x H1,x∈kvs->c x=true->Same H H1->∀R:VK,(∀y H2,P x y H2->Same H1 H2->R y H2)->te (some (kV x.1)::rest) H1 R)
  (hf:∀ys H1,Same H H1->Paired (λx y=>P x y H1) (kvs.filter c) ys->fin ys H1):dD (Itk a o kvs) (cN 0) ti te (bQ 1 ci σ) fin H:=by
 rw[BZ hr];refine yW kvs c P hm hn (λi H1 s hi=>⟨s _ _ h0,hi⟩) (λH1 s=>⟨s _ _ h0,Nat.le_refl _⟩) (λi x H1 hx s1 v H' y=> ?_) hf;obtain⟨rfl,k,u,e2,rfl⟩:=y;rw[hx]at e2;cases e2;have hmem:=List.mem_of_getElem? hx;refine⟨Same.refl _,some (kV k)::rest,rfl,λj v hv=> ?_,λR h=>h,λR h=>ht _ _ hmem s1 R h,λhc H2 s2 R h=>he _ H2 hmem hc (s1.trans s2) R h⟩;cases j with
 | zero=>cases hv
 | succ j=>exact hv
section
variable {g:TG}{tb:TS}{bk:St->Hp->Prop}
theorem W5 {p:Addr}{o:Obj}(kvs:List (Key×V))(Pv:Nat->St->Hp->Prop)(h0:Pv 0 σ H)(hl:∀i σ H,Pv i σ H->H p=some (.frz o (.dK kvs)))
  (hs:∀i k v σ H,kvs[i]? =some (k,v)->Pv i σ H->g (kV k) σ H λσ2 H2=>tb ⟨Pv (i+1),rt,nx,Pv (i+1)⟩ σ2 H2)(hd:∀σ H,Pv kvs.length σ H->nx σ H):C5 (Itk p o kvs) g tb ⟨nx,rt,bk,ct⟩ σ H:=by
 refine⟨λi m σ H=>m=kvs.length - i/\i<=kvs.length/\Pv i σ H,⟨kvs.length,by simp,Nat.zero_le _,h0⟩,?_⟩;rintro i m σ H ⟨rfl,hi,q⟩
 by_cases hlt:i<kvs.length
 .refine .inr ⟨⟨hl i σ H q,hlt⟩,Pv (i+1),λσ' H' p'=>⟨kvs.length - (i+1),by lia,rfl,hlt,p'⟩,λx H' y=> ?_⟩;obtain⟨rfl,k,v,e,rfl⟩:=y;exact hs i k v σ _ e q
 .have e:i=kvs.length:=by lia
  subst e;exact .inl ⟨⟨hl _ σ H q,Nat.le_refl _⟩,hd σ H q⟩
end
def US (R:It->Hp->Prop):VK:=λx H1=>∃a kvs,x= .ref a/\H1 a=some (.dK kvs)/\∀o,R (Itk a o kvs) (upd H1 a (.frz o (.dK kvs)))
def aEc (Q:VK)(y:V):VK:=λx H2=>∃a o,x= .ref a/\nG H2 a y o/\Q (.bl o.isSome) H2
def NL (Q:VK)(y:V):VK:=λx H2=>∃a o,x= .ref a/\nG H2 a y o/\Q (.bl (!o.isSome)) H2
section
variable {Q:VK}{R:It->Hp->Prop}{ty tx:TE}
theorem U9 (h:td σ H (US R)):U5 td σ H R:=h
theorem JC {p:Addr}(e:H p=some (.dK kvs))(h:∀o H',SameBut p H H'->H' p=some (.frz o (.dK kvs))->R (Itk p o kvs) H'):US R (.ref p) H:=⟨p,kvs,rfl,e,λo=>h o _ SameBut.upd aU⟩
theorem aC5 (h:ty σ H λy H1=>td σ H1 (aEc Q y)):aDF ty td σ H Q:=h
theorem SV (h:ty σ H λy H1=>td σ H1 (NL Q y)):M8 ty td σ H Q:=h
theorem aA2 {p:Addr}(e:Rd H p (.dK kvs))(h:Q (.bl (aX kvs (.inr z)).isSome) H):aEc Q (.str z) (.ref p) H:=⟨p,_,rfl,.inl ⟨kvs,.inr z,e,rfl,rfl⟩,h⟩
theorem tX {p:Addr}(e:Rd H p (.dK kvs))(h:Q (.bl (!(aX kvs (.inr z)).isSome)) H):NL Q (.str z) (.ref p) H:=⟨p,_,rfl,.inl ⟨kvs,.inr z,e,rfl,rfl⟩,h⟩
theorem yH {p:Addr}(e:H p=some (.dK kvs))(hl:kvs.length<sizeLine)(h:∀H',SameBut p H H'->H' p=some (.dK (dW kvs (.inr z) v))->nx σ H'):aAj nx σ (.ref p) v (.str z) H :=
 ⟨p,_,rfl,DPut.k (k:= .inr z) e hl,h _ SameBut.upd aU⟩
theorem o8 {p:Addr}(e:Rd H p (.dK kvs))(hv:aX kvs (.inr z)=some v)(h:Q v H):aAb Q (.ref p) (.str z) H:=⟨p,v,rfl,.inl ⟨kvs,.inr z,e,rfl,hv.symm⟩,h⟩
theorem WF (h:∀p H',H p=none->Same H H'->H' p=some (.dK [])->Q (.ref p) H'):T0 σ H Q:=iH h
theorem XE {p:Addr}{ps:List (Key×V)}(e:H p=some (.lst vs))(r:GP H vs ps)(h:∀l H',H l=none->Same H H'->H' l=some (.dK (kB [] ps))->Q (.ref l) H'):VA [.ref p] H Q:=⟨p,vs,ps,rfl,.inl e,r,iH h⟩
theorem XS {p:Addr}{u:HO}(e:H p=some u)(nf:∀o x,u≠ .frz o x)(h:te σ H λx=>iE p (Q x)):ZY te σ H Q:=⟨p,λo x z=>nf o x (by rw[e]at z;exact Option.some.inj z),h⟩
theorem YC {bk:St->Hp->Prop}{p:Addr}{u:HO}(e:H p=some u)(nf:∀o x,u≠ .frz o x)(h:ts ⟨λσ'=>iE p (nx σ'),λv=>iE p (rt v),λσ'=>iE p (bk σ'),λσ'=>iE p (ct σ')⟩ σ H):aAt ts ⟨nx,rt,bk,ct⟩ σ H :=
 ⟨p,λo x z=>nf o x (by rw[e]at z;exact Option.some.inj z),h⟩
theorem EO {p:Addr}{o:Obj}{u:HO}{R:Hp->Prop}(e:H p=some (.frz o u))(h:∀H',SameBut p H H'->H' p=some u->R H'):iE p R H:=⟨o,u,e,h _ SameBut.upd aU⟩
theorem VM {Hf H1 H2:Hp}{p:Addr}{u:HO}(e:H p=some u)(a:SameBut p H Hf)(b:SameBut p Hf H1)(c:SameBut p H1 H2)(e2:H2 p=some u):Same H H2:=λx o z=>by
 by_cases hx:x=p
 .subst hx;rw[e]at z;cases z;exact e2
 .exact c x o (b x o (a x o z hx) hx) hx
end
theorem aAQ {f:Str}(he:PE X e ta)(hb:attributeBase e f X.env (eval e X.env)=eval e X.env)(hK:X.K=K:=by rfl):PE X (.Attribute e f pos) (Y3 K ta f):=by
 subst hK;exact bS he hb
theorem gF {xs:List α}(F:V->α->Prop)(c:α->Bool)(P:α->V->Hp->Prop)(hm:∀x y H1 H2,P x y H1->Same H1 H2->P x y H2)(hn:xs.length<=sizeLine)(hr:ci.map (λi=>(σ[i]?).join)=rest)(hl:SqL K H a vs)(hv:Paired F vs xs)
  (ht:∀v x H1,F v x->x∈xs->Same H H1->∀R:Bool->Hp->Prop,(∀H2,Same H1 H2->R (c x) H2)->ti (some v::rest) H1 R)
  (he:∀v x H1,F v x->x∈xs->c x=true->Same H H1->∀R:VK,(∀y H2,P x y H2->Same H1 H2->R y H2)->te (some v::rest) H1 R)
  (hf:∀ys H1,Same H H1->Paired (λx y=>P x y H1) (xs.filter c) ys->fin ys H1):dD (Itl K a) (cN 0) ti te (bQ 1 ci σ) fin H:=by
 rw[BZ hr];have hlen:vs.length=xs.length:=Paired.length hv;refine yW xs c P hm hn (λi H1 s hi=>⟨vs,vs[i],s.seq hl,List.getElem?_eq_getElem (by lia)⟩) (λH1 s=>⟨vs,s.seq hl,by lia⟩) (λi x H1 hx s1 v H' y=> ?_) hf;obtain⟨rfl,e2⟩:=y;have ev:=e2 vs (s1.seq hl);have hF:=Paired.at2 hv ev hx;have hmem:=List.mem_of_getElem? hx;refine⟨Same.refl _,some v::rest,rfl,λj v hv=> ?_,λR h=>h,λR h=>ht v x _ hF hmem s1 R h,λhc H2 s2 R h=>he v x H2 hF hmem hc (s1.trans s2) R h⟩;cases j with
 | zero=>cases hv
 | succ j=>exact hv
theorem rQ {f:α->V}:∀{l:List α}{ys:List V},Paired (λx y=>y=f x) l ys->ys=l.map f
 | _,_,.nil=>rfl
 | _,_,.cons h t=>by rw[h,rQ t];rfl
theorem g6 (l:List α):l.filter (λ_=>true)=l:=by simp
theorem wM [DecidableEq κ]:∀{kvs:List (κ×V)}{e:κ×V},(kvs.map (·.1)).Nodup->e∈kvs->aX kvs e.1=some e.2
 | a::l,e,nd,h=>by
  have nd':=List.pairwise_cons.mp nd;rcases List.mem_cons.mp h with rfl|h
  .exact dN rfl
  .rw[c7 (nd'.1 e.1 (List.mem_map.mpr ⟨e,h,rfl⟩))];exact wM nd'.2 h
theorem aBS:typeLookup (.type "dict") "__len__" =pure (some (.builtin "dict.__len__")):=by rw[typeLookup_type,builtinLookup_eq_fast];kernel_rfl
section
variable {d:Addr}[DecidableEq κ]{knd:KeyKind prog w κ}{ps:List (κ×Value)}
theorem U4 (T:s.TypeIs (.ref d) "dict"){Q:Bool->Shared->Prop}(h:Q false s):wpAny (model prog w) A (Builtin.List.listLengthHint (.ref d)) Q E s:=by
 unfold Builtin.List.listLengthHint;refine wpAny_bind (wpAny_specialOf T aBS ?_);generalize q:("dict.__len__" :String)=i0
 wp_delta
 rw[show splitId i0=some ("dict","__len__") from by subst q;decide +kernel];subst q;refine wpAny_bind (wpAny_isInstance (T:= "dict") (b:=true) T (by rw[isSubtype_type];kernel_rfl) (wpAny_ite_split (λz=>absurd z (by decide)) (λ_=>wpAny_ite_split (λ_=> ?_) (λz=>absurd (by decide +kernel) z))));exact wpAny_bind (wpAny_typeOf T (wpAny_pure h))
theorem LE (hh:A.handled=none)(hm:s.heap.DictAt knd d ps ep)(hd0:(d==sysModules)=false)(S:Addr)(hSd:S≠d)(c0:Nat)(hS:s.heap.get? S=some { cls:= .type "list",data:= .seq #[] c0 })(hn:ps.length<=sizeLine)
  (k:∀h' tk acc c,(∀b o,b≠S->s.heap.get? b=some o->h'.get? b=some o)->h'.get? S=some { cls:= .type "list",dict:=none,data:= .seq acc c,slots:= #[] }->ItemsOf (λi v=>∃k x,ps[i]? =some (k,x)/\knd.is k v=true) acc ps.length->R (.ok (.ret .none)) { s with heap:=h',toks:=tk }) :
  wpAny (model prog w) A.in1 (Builtin.List.listExtendWith (.ref S) (.ref d) .none) (λfin s'=>match fin with| .done f=>R (.ok f) s'| .again c'=>c'.quiet=true/\codeAny (model prog w) A c' R s') (λe s'=>R (.error e) s') s:=by
 obtain⟨o,es,ho,hc,hq,hk,hp,hnd⟩:=id hm;have T:s.TypeIs (.ref d) "dict" :=⟨o,ho,hc.1⟩
 have lS:S<s.heap.objs.size:=Heap.lt_size hS;have ld:d<s.heap.objs.size:=Heap.lt_size ho;have hsz:es.size=ps.length:=by rw[←hp.length];simp
 have W:=(Walks.dictKeys (prog:=prog) (w:=w) (knd:=knd) (A:=A.in1) hh s.heap.objs.size d (Nat.ne_of_lt ld) ps ep).toS;have run:∀(h:Heap) (c1 tk:Nat),h.IsKeyIter s.heap.objs.size d 0 ps.length ep->(∀b u,b≠S->s.heap.get? b=some u->h.get? b=some u)->h.get? S=some { cls:= .type "list",data:= .seq #[] c1 } →
   codeAny (model prog w) A (.builtin "list.extend.loop" ⟨[.ref S,.ref s.heap.objs.size,.none],[]⟩) R { s with heap:=h,toks:=tk }:=by
  intro h c1 tk hit kp hS1;refine codeAny_extend_loopS W hn S (by simp only[List.mem_cons,List.not_mem_nil,or_false,not_or];exact⟨Nat.ne_of_lt lS,hSd⟩) .none ps.length 0 _ #[] c1 rfl (Nat.zero_le _) ⟨hit,o,es,kp d o (Ne.symm hSd) ho,hc,hq,hk,hp,hnd⟩ hS1 (ItemsOf.nil _) λs' acc c' mv hS2 hacc=> ?_;rw[Moved.eq_with mv];refine k s'.heap s'.toks acc c' (λb u hb e=>mv.heap b u (λz=> ?_) (kp b u hb e)) hS2 hacc;rcases List.mem_cons.mp z with z|z
  .exact hb z
  .have:=Heap.lt_size e;rw[List.mem_singleton.mp z]at this;exact Nat.lt_irrefl _ this
 unfold Builtin.List.listExtendWith;refine wpAny_bind (wpAny_typeOf (T:= "dict") T ?_);simp only[show Builtin.List.listSameRef (.ref S) (.ref d)=false by simp[Builtin.List.listSameRef,hSd],show (Value.type "dict" ==Value.type "list")=false by decide,show (Value.type "dict" ==Value.type "tuple")=false by decide,Bool.or_false,Bool.false_eq_true,if_false];refine wpAny_bind (JI hd0 ho hc hq ?_);have hS1:=Heap.get?_push_of_some { cls:= .type "dict_keyiterator",data:= .fields #[.ref d,.int 0 0,.int es.size 0,.int ep 0] } hS;refine wpAny_bind (wpAny_holding (U4 ⟨o,Heap.get?_push_of_some _ ho,hc.1⟩ ?_));have hit:(s.heap.push { cls:= .type "dict_keyiterator",data:= .fields #[.ref d,.int 0 0,.int es.size 0,.int ep 0] }).IsKeyIter s.heap.objs.size d 0 ps.length ep:=⟨_,Heap.get?_push_size _ rfl,rfl,by rw[hsz];rfl⟩
 refine wpAny_ite_split (λz=> ?_) (λ_=>wpAny_pure ⟨plainId_quiet F.plain_extend_loop _,run _ c0 _ hit (λb u _ e=>Heap.get?_push_of_some _ e) hS1⟩);refine wpAny_bind (wpAny_rule (wpAny_bind ?_));show wpAny _ A.in1 (updateSeq S (·.push .none) >>= λ_=>updateSeq S (·.pop)) _ _ _;have u1:=Heap.get?_update_self (Obj.mapSeq (·.push Value.none)) hS1 rfl;have u2:=Heap.get?_update_self (Obj.mapSeq (·.pop)) u1 rfl;refine wpAny_bind (wpAny_updateSeq hS1 rfl (wpAny_updateSeq (hz:=by seq_fits) u1 rfl (wpAny_pure ⟨plainId_quiet F.plain_extend_loop _,run _ _ _ ?_ (λb u hb e=> ?_) u2⟩)))
 .exact hit.at λu e=>(Heap.get?_update_other _ _ (Nat.ne_of_lt lS)).trans ((Heap.get?_update_other _ _ (Nat.ne_of_lt lS)).trans e)
 .exact(Heap.get?_update_other _ _ (Ne.symm hb)).trans ((Heap.get?_update_other _ _ (Ne.symm hb)).trans (Heap.get?_push_of_some _ e))
theorem UN (hh:A.handled=none)(hm:s.heap.DictAt knd d ps ep)(hd0:(d==sysModules)=false)(hn:ps.length<=sizeLine)
  (k:∀h' tk acc c,(∀b o,s.heap.get? b=some o->h'.get? b=some o)->h'.get? s.heap.objs.size=some { cls:= .type "list",dict:=none,data:= .seq acc c,slots:= #[] }->ItemsOf (λi v=>∃k x,ps[i]? =some (k,x)/\knd.is k v=true) acc ps.length->Q (.ref s.heap.objs.size) { s with heap:=h',toks:=tk }) :
  wpAny (model prog w) A (call (.type "list") [.ref d]) Q E s:=by
 refine callType_codes (Q₁:=λx s1=>x= .ref s.heap.objs.size/\s1={ s with heap:=s.heap.push { cls:= .type "list",data:= .seq #[] } }) F.called_list (F.typeCall_list_1 _) F.entry_list_init (code_list_new _ ⟨rfl,rfl⟩) ?_;rintro x s1 ⟨rfl,rfl⟩;have hS:(s.heap.push { cls:= .type "list",data:= .seq #[] }).get? s.heap.objs.size=some { cls:= .type "list",data:= .seq #[] }:=Heap.get?_push_size _ rfl;have hm1:(s.heap.push { cls:= .type "list",data:= .seq #[] }).DictAt knd d ps ep:=hm.at' λo e=>Heap.get?_push_of_some _ e;have hdS:s.heap.objs.size≠d:=λz=>by
  obtain⟨o,_,ho,_⟩:=hm;have:=Heap.lt_size ho;rw[←z]at this;exact Nat.lt_irrefl _ this
 refine⟨⟨_,hS,rfl⟩,F.args_list_init_2 _ _,?_⟩;show wpAny _ A.in1.in1 (Builtin.List.listItems (.ref s.heap.objs.size) >>= λold=>Builtin.List.listUpdate (.ref s.heap.objs.size) (λ_=> #[]) >>= λ_=>letGo old.toList.reverse >>= λ_=>Builtin.List.listExtendWith (.ref s.heap.objs.size) (.ref d) .none) _ _ _;refine wpAny_bind ?_;unfold Builtin.List.listItems;refine wpAny_bind (wpAny_seqItems hS rfl (wpAny_pure ?_));show wpAny _ A.in1.in1 (updateSeq s.heap.objs.size (λ_=> #[]) >>= λ_=>letGo (#[]:Array Value).toList.reverse >>= λ_=>Builtin.List.listExtendWith (.ref s.heap.objs.size) (.ref d) .none) _ _ _;have u1:=Heap.get?_update_self (Obj.mapSeq (λ_=>(#[]:Array Value))) hS rfl;have kp:∀b o,b≠s.heap.objs.size->(s.heap.push { cls:= .type "list",data:= .seq #[] }).get? b=some o->((s.heap.push { cls:= .type "list",data:= .seq #[] }).update s.heap.objs.size (Obj.mapSeq (λ_=>(#[]:Array Value)))).get? b=some o:=λb o hb e=>(Heap.get?_update_other _ _ (Ne.symm hb)).trans e;refine wpAny_bind (wpAny_updateSeq hS rfl (wpAny_bind (wpAny_letGo ?_)));refine LE (A:=A.in1) hh (hm1.at' λo e=>kp d o (Ne.symm hdS) e) hd0 _ hdS _ u1 hn λh' tk acc c kk hS' hacc=> ?_;exact⟨rfl,k h' tk acc c (λb o e=>kk b o (Nat.ne_of_lt (Heap.lt_size e)) (kp b o (Nat.ne_of_lt (Heap.lt_size e)) (Heap.get?_push_of_some _ e))) hS' hacc⟩
end
def SY:List V->Hp->VK->Prop:=λxs H Q=>∃p kvs,xs=[.ref p]/\Rd H p (.dK kvs)/\∀l,H l=none->Q (.ref l) (upd H l (.lst (kvs.map λe=>kV e.1)))
theorem FQ {rs:List (Key×Value)}(r:KV kvs rs){acc:Array Value}(h:ItemsOf (λi v=>∃k x,rs[i]? =some (k,x)/\(bV P w).is k v=true) acc rs.length):Vals (kvs.map λe=>kV e.1) acc.toList:=by
 have e0:acc.toList.length=rs.length:=by rw[Array.length_toList];exact h.1
 refine IJ (by rw[List.length_map,e0];exact r.length) λi x u h1 h2=> ?_;obtain⟨k,y,e1,e2⟩:=h.2 i u (by simpa using h2);rw[List.getElem?_map]at h1;obtain⟨e,he,rfl⟩:=Option.map_eq_some_iff.mp h1;have hi:i<kvs.length:=(List.getElem?_eq_some_iff.mp he).1;obtain⟨k',v',u',f1,f2,f3⟩:=TK r hi;rw[he]at f1;cases f1;rw[e1]at f2;cases f2;exact L6 e2
theorem B0 (hc:X.calm=true):cU X (.type "list") SY:=by
 intro pins s σ H xs us Q I r h;obtain⟨p,kvs,rfl,hq,q⟩:=h;obtain⟨u,rfl,rx⟩:=iJ r;cases rx;obtain⟨z,y,rs,kv,o,es,ep,h1,h2,h3,h4,h5,h6⟩:=xF I.hok hq;have hl:=kv.length;refine UN (knd:=bV X.prog X.w) (ps:=rs) (ep:=ep) (I.ok.hd hc) ⟨o,es,h1,h2,h3,h4,h5,h6⟩ y (by lia) λh' tk acc c kp hS hacc=> ?_;exact⟨.ref _,_,I.laid (t':=tk) kp (Nat.le_refl _) (show ObjOk X.prog X.w _ h' _ (.lst (kvs.map λe=>kV e.1)) from⟨by rw[List.length_map];exact z,acc.toList,c,FQ kv hacc,by rw[Array.toArray_toList];exact hS⟩),rfl,q _ (I.hok.fresh (Nat.le_refl _))⟩
theorem Inv.turns {ch:List Addr}(I:Inv X pins σ H s)(k:∀b o,b∉ch->s.heap.get? b=some o->h'.get? b=some o)(hf:∀b∈ch,gM X pins H b):Inv X pins σ H { s with heap:=h',toks:=t' }:=by
 have nit:∀b u,H b=some u->b∉ch:=λb u e z=>by have:=(hf b z).1;rw[e]at this;cases this
 refine I.step (g':=s.gens) (d':=s.drawn) (ch:=ch) (λb hb=> ?_) (λb o _ _ hc e _=>k b o hc e) (λb o _ _ hc e _=>⟨o.slots,k b o hc e⟩) (λ_ _ _ _ n=>n) (λb o hc e=>⟨o,k b o hc e⟩) (λ_ _ e=>e) (λ_ _ _ e=>e) (λb ps e=>⟨#[],by rw[e];simp⟩) (λm hm=> ?_) (λb u e=> ?_) I.bare
 .obtain⟨f0,f1,f2,f3,f4,f5⟩:=hf b hb;exact⟨f3,f1,f4,f5⟩
 .obtain⟨o,es,ep,ho,r⟩:=hm;exact⟨o,es,ep,k _ o (λz=>(hf _ z).2.1 rfl) ho,r⟩
 .refine(I.hok b u e).stay (λc v hc q=>k c v ?_ q) (λ_ q=>q) λ_ _ q=>q;rcases hc with z|z
  .rw[z];exact nit b u e
  .exact nit c _ z
def aEz (σ:St)(tv:TE)(rd:V->V->Hp->VK->Prop)(nx:St->Hp->Prop)(x:V):VK:=λy H2=>∃a v,x= .ref a/\nG H2 a y (some v)/\tv σ H2 λy2 H3=>rd v y2 H3 λz H4=>∃H5,DPut H4 a y z H5/\nx σ H5
def aEN (σ:St)(p:Addr)(k:V)(nx:St->Hp->Prop):VK:=λz H4=>∃H5,DPut H4 p k z H5/\nx σ H5
section
variable {Q:VK}{ty:TE}{rd:V->V->Hp->VK->Prop}{bk:St->Hp->Prop}{R:It->Hp->Prop}
theorem aB0 (h:td σ H λx H1=>ty σ H1 (aEz σ tv rd nx x)):Z4 td ty tv rd ⟨nx,rt,bk,ct⟩ σ H:=h
theorem XU {p:Addr}(e:Rd H p (.dK kvs))(hv:aX kvs (.inr z)=some v)(h:tv σ H λy2 H3=>rd v y2 H3 (aEN σ p (.str z) nx)):aEz σ tv rd nx (.ref p) (.str z) H:=⟨p,v,rfl,.inl ⟨kvs,.inr z,e,rfl,hv.symm⟩,h⟩
theorem aBO {p:Addr}(e:H p=some (.dK kvs))(hl:kvs.length<sizeLine)(h:∀H',SameBut p H H'->H' p=some (.dK (dW kvs (.inr z) v))->nx σ H'):aEN σ p (.str z) nx v H:=⟨_,DPut.k (k:= .inr z) e hl,h _ SameBut.upd aU⟩
theorem IG {p:Addr}(e:Rd H p (.dK kvs))(h:∀l H',H l=none->Same H H'->H' l=some (.lst (kvs.map λe=>kV e.1))->Q (.ref l) H'):SY [.ref p] H Q:=⟨p,kvs,rfl,e,iH h⟩
theorem u7 {l:Addr}{xs zs:List V}(e:H l=some (.lst xs))(e2:H b=some (.lst zs))(hz:xs.length+zs.length<=sizeLine)(h:∀H',SameBut l H H'->H' l=some (.lst (xs++zs))->Q .non H'):L9 (.ref l) [.ref b] H Q:=⟨l,b,xs,zs,rfl,rfl,e,e2,hz,h _ SameBut.upd aU⟩
end
def bU (ps:List (Str×Int))(z:Str):Int:=((ps.filter λp=>decide (p.1=z)).map (·.2)).sum
theorem TC (ps:List (Str×Int))(p:Str×Int)(z:Str):bU (ps++[p]) z=bU ps z+if p.1=z then p.2 else 0:=by
 unfold bU;rw[List.filter_append,List.map_append,List.sum_append]
 congr 1
 by_cases h:p.1=z
 .rw[if_pos h];simp[h]
 .rw[if_neg h];simp[h]
section
variable {d v:Addr}{o:Obj}{es:Array DictEntry}
end
theorem YS (h:X.K=K:=by rfl):IxR X (t7 K):=by subst h;exact aR
section
variable {Q:VK}
end
def uK (z:Str)(n:Nat):Str:=⟨(List.replicate n z.cps).foldl (·++·) #[]⟩
theorem KN:∀(l:List (Array Nat)) (a:Array Nat),(l.foldl (·++·) a).toList=a.toList++(l.map Array.toList).flatten
 | [],a=>by simp
 | x::l,a=>by rw[List.foldl_cons,KN l];simp
theorem EN (z:Str)(n:Nat):(uK z n).cps.toList=(List.replicate n z.cps.toList).flatten:=by
 unfold uK;rw[KN];simp
def ZQ:R2:=λx y H Q=>∃z n,x= .str z/\y= .int n/\0<=n/\n<=1000/\z.length<=1000/\Q (.str (uK z n.toNat)) H
theorem aAD:OpR X (binaryOp .Mult) ZQ:=by
 intro pins s σ H x y v u Q I rx ry h;obtain⟨z,n,rfl,rfl,h0,h1,h2,q⟩:=h;obtain⟨t,rfl⟩:=rx;obtain⟨t',rfl⟩:=ry;have hl:z.length * n.toNat<=1000 * 1000:=Nat.mul_le_mul h2 (by lia);refine P.mul_str ?_ (λh3 _=> ?_) (λ_ _=> ?_) ?_
 .rw[decide_eq_false (by lia),decide_eq_false (by lia)];rfl
 .have h4:(1000:Int)<=(2^63 - 1)/n:=Int.le_ediv_of_mul_le (by lia) (by lia)
  lia
 .exact decide_eq_false (by rw[sizeLine_eq];lia)
 .by_cases h3:n<1
  .rw[if_pos h3];have e:uK z n.toNat=Str.empty:=by rw[show n.toNat=0 by lia];rfl
   rw[e]at q;exact⟨by decide,⟨.str Str.empty,H,I.tok _,⟨_,rfl⟩,q⟩⟩
  .rw[if_neg h3]
   by_cases h4:(n==1||z.length==0)=true
   .rw[if_pos h4];have e:uK z n.toNat=z:=by
     apply aAB
     rw[EN];rcases (Bool.or_eq_true _ _).mp h4 with h5|h5
     .rw[show n.toNat=1 by have:=eq_of_beq h5;lia];simp
     .have h6:z.cps.toList=[]:=by
       have:z.length=0:=eq_of_beq h5;exact List.length_eq_zero_iff.mp (by rw[Array.length_toList];exact this)
      rw[h6];simp
    rw[e]at q;exact⟨.str z,H,I,⟨_,rfl⟩,q⟩
   .rw[if_neg h4];exact⟨(by
     show (uK z n.toNat).cps.size<=sizeLine;rw[←Array.length_toList,EN,List.length_flatten,List.map_replicate,List.sum_replicate_nat,Array.length_toList,sizeLine_eq];have hl':n.toNat * z.cps.size<=1000 * 1000:=by rw[Nat.mul_comm];exact hl
     lia),⟨.str (uK z n.toNat),H,I.tok _,⟨_,rfl⟩,q⟩⟩
section
variable {t:TA}
theorem AW (k:Nat){pl:Sem Bool}(hr:Room k' X.A)(ho:PE X o ta)(ha:PA X (e::es) t)(hk:k<=k':=by decide)(hst:starEach (e::es) X.env=(false,eval e X.env)::starEach es X.env:=by rfl)(hpl:(backTo pos (starEach es X.env)).any (·.1)=false:=by rfl)
  (ht:eval (.Call (.Attribute o m apos) (e::es) [] pos) X.env=(do let ov ←eval o X.env;standAt apos.atName;let (f,first) ←holding [ov] (getMethod ov m pl);callWith pos f first (backTo pos (starEach (e::es) X.env)) (backToKw pos (keywordEach [] X.env))):=by rfl)
  (h1:X.prog=P:=by rfl)(h2:X.w=w:=by rfl)(h3:X.K=K:=by rfl)(h4:X.mg=mg:=by rfl)(h5:X.base=base:=by rfl):PE X (.Call (.Attribute o m apos) (e::es) [] pos) (tMD (λC sp=>Mc P w K mg base C m k sp) m ta t):=by
 subst h1 h2 h3 h4 h5;exact QU k hr ho ha hk hst hpl ht
theorem aAS (k:Nat){pl:Sem Bool}(hr:Room k' X.A)(ho:PE X o ta)(hk:k<=k':=by decide)
  (ht:eval (.Call (.Attribute o m apos) [] [] pos) X.env=(do let ov ←eval o X.env;standAt apos.atName;let (f,first) ←holding [ov] (getMethod ov m pl);callWith pos f first (backTo pos (starEach [] X.env)) (backToKw pos (keywordEach [] X.env))):=by rfl)
  (h1:X.prog=P:=by rfl)(h2:X.w=w:=by rfl)(h3:X.K=K:=by rfl)(h4:X.mg=mg:=by rfl)(h5:X.base=base:=by rfl):PE X (.Call (.Attribute o m apos) [] [] pos) (tMD (λC sp=>Mc P w K mg base C m k sp) m ta CM):=by
 subst h1 h2 h3 h4 h5;exact sW k hr ho hk ht
end
theorem aBm {Q:VK}{n:Int}(h0:0<=n)(h1:n<=1000)(h2:z.length<=1000)(h:Q (.str (uK z n.toNat)) H):ZQ (.str z) (.int n) H Q:=⟨z,n,rfl,rfl,h0,h1,h2,h⟩
theorem Room.units9 {k:Nat}(r:Room k A):A.units+9<cLine:=by have:=r.un;have:cLine=9900:=rfl;lia
section
variable {Q:VK}
end
section
variable {Q:VK}{ty tx:TE}
end
section
variable {Q:VK}
end
section
variable {body:Expr}{c:Addr}
end
open Classical in
open Classical in
open Classical in
open Classical in
section
variable {ek ev:Expr}{tk:TE}
end
structure FX (K:Frag)(nm qual:Str)(st:Stmt)(ps:List Str)(a:Addr) where
 d:FuncData
 F:FunV K nm qual st a d
 b:Binds K d ps []
inductive FnL (K:Frag)(nm qual:Str)(st:Stmt)(f:Addr):Prop
 | mk {oc:Value}{od an:Option Addr}{osl:Array (Option Value)}{kV doc pm cdv ct:Value} (l:K.lookup f=some ⟨oc,od,.func (fnOf nm qual (eQ st) (c8 st) (aH st) .none kV doc pm an cdv ct),osl⟩) (c:codeIn K cdv qual=true) (k:keepIn K (.ref f)=true):FnL K nm qual st f
variable {sn:List Str}
section
variable {K:Frag}{st:Stmt}{f:Addr}
abbrev fnB (x qual:Str)(st:Stmt)(kV doc pm cdv ct:Value)(an:Option Addr)(us:List Value):Sem (List (Str×Value)):=bindArgs (fnOf x qual (eQ st) (c8 st) (aH st) .none kV doc pm an cdv ct) ⟨us,[]⟩
theorem FnL.ne {ps:List Str}(L:FnL K x qual st f)(h:∀kV doc pm cdv ct an (us:List Value),us.length=ps.length->fnB x qual st kV doc pm cdv ct an us=pure (ps.zip us)):Nonempty (FX K x qual st ps f):=by
 cases L with
 | mk l c k=>exact⟨⟨_,sZ l c k,.all λus hl=>h _ _ _ _ _ _ us hl⟩⟩
noncomputable def FnL.xn {ps:List Str}(L:FnL K x qual st f)(h:∀kV doc pm cdv ct an (us:List Value),us.length=ps.length->fnB x qual st kV doc pm cdv ct an us=pure (ps.zip us)):FX K x qual st ps f:=Classical.choice (L.ne h)
noncomputable def FnL.x1 (L:FnL K x qual st f)(h:∀kV doc pm cdv ct an a,fnB x qual st kV doc pm cdv ct an [a]=pure [(p1,a)]):FX K x qual st [p1] f:=L.xn λkV doc pm cdv ct an us hl=>by
 obtain _|⟨a,_|⟨b,us⟩⟩:=us
 .cases hl
 .exact h ..
 .cases hl
noncomputable def FnL.x2 (L:FnL K x qual st f)(h:∀kV doc pm cdv ct an a b,fnB x qual st kV doc pm cdv ct an [a,b]=pure [(p1,a),(p2,b)]):FX K x qual st [p1,p2] f:=L.xn λkV doc pm cdv ct an us hl=>by
 obtain _|⟨a,_|⟨b,_|⟨c,us⟩⟩⟩:=us
 .cases hl
 .cases hl
 .exact h ..
 .cases hl
noncomputable def FnL.x3 (L:FnL K x qual st f)(h:∀kV doc pm cdv ct an a b c,fnB x qual st kV doc pm cdv ct an [a,b,c]=pure [(p1,a),(p2,b),(p3,c)]):FX K x qual st [p1,p2,p3] f:=L.xn λkV doc pm cdv ct an us hl=>by
 obtain _|⟨a,_|⟨b,_|⟨c,_|⟨d,us⟩⟩⟩⟩:=us
 .cases hl
 .cases hl
 .cases hl
 .exact h ..
 .cases hl
noncomputable def FnL.x6 {p4 p5 p6:Str}(L:FnL K x qual st f)(h:∀kV doc pm cdv ct an a b c d e g,fnB x qual st kV doc pm cdv ct an [a,b,c,d,e,g]=pure [(p1,a),(p2,b),(p3,c),(p4,d),(p5,e),(p6,g)]):FX K x qual st [p1,p2,p3,p4,p5,p6] f:=L.xn λkV doc pm cdv ct an us hl=>by
 obtain _|⟨a,_|⟨b,_|⟨c,_|⟨d,_|⟨e,_|⟨g,_|⟨i,us⟩⟩⟩⟩⟩⟩⟩:=us
 .cases hl
 .cases hl
 .cases hl
 .cases hl
 .cases hl
 .cases hl
 .exact h ..
 .cases hl
def noF (K:Frag)(C:Addr)(fs:List Str):Bool:=fs.all λx=>(findIn K (.ref C) x).any (·.isNone)
theorem fO {fs:List Str}(h:noF K C fs=true)(i:Nat)(e:fs[i]? =some x):NoAttr K C x:=by
 have h2:=List.all_eq_true.mp h x (List.mem_of_getElem? e);unfold NoAttr;cases h3:findIn K (.ref C) x with
 | none=>rw[h3]at h2;cases h2
 | some o =>
  rw[h3]at h2;cases o with
  | none=>rfl
  | some v=>cases h2
end
variable {bm us:List Value}{ab:Bool}{col:Option Bool}{os:OsState}
section
variable {gs:Array GenState}{dr:Drawn}{tk:Nat}
variable {qn:Str}{N:Addr}{bs bmB:List Value}{hd:Bool}{sub:List Value}{dd:Option Addr}{B initId:String}
abbrev mO (h:Heap)(C:Addr)(us:List Value):Heap:=(h.push { cls:= .type "tuple",data:= .seq us.toArray }).push { cls:= .ref C,data:= .fields #[.ref h.objs.size,.none,.none,.none,.bool false,.none] }
theorem kJ {o:Obj}(q:h.get? b=some o):(mO h C us).get? b=some o:=Heap.get?_push_of_some _ (Heap.get?_push_of_some _ q)
theorem F0 (Fx:ExcBaseFacts B newId initId bmB)(T:OwnTail h bmB bm){Q:Fin->Shared->Prop}
  (hC:h.get? C=some (excClassObj nm qn C N bs bm hd sn sub ab col dd k0 k1 k2 k3 k5 newId))(hn:h.Ns N mN)(hi:mN "__init__" =some (.ref fi))(hf:h.get? fi=some ob)(hfc:ob.cls= .type "function")
  (k:wpAny (model P w) A (call (.ref fi) (.ref (h.objs.size+1)::us)) (λr s'=>r= .none/\Q (.done (.ret (.ref (h.objs.size+1)))) s') E ⟨mO h C us,gs,dr,tk,os⟩)(hl:us.length<=sizeLine) :
  wpAny (model P w) A (Builtin.«type.__call__» ⟨.ref C::us,[]⟩) Q E ⟨h,gs,dr,tk,os⟩:=by
 repeat (first|with_reducible refine wpAny_loadPart_at hC ?_|with_reducible refine wpAny_madeBy_exc hC ?_|wp_step)
 refine codeAny_call_builtin_code (Code.quiet_builtin _ Fx.quiet) (wpAny_check_new_subT Fx T hC (codeAny_exc_new_subT Fx T hC ?_ hl));show wpAny _ _ _ _ _ _;have c1:(mO h C us).get? C=_:=kJ hC;have f1:(mO h C us).get? fi=_:=kJ hf;have n1:(mO h C us).Ns N mN:=hn.keeps λb o q=>kJ q;have t1:OwnTail (mO h C us) bmB bm:=T.keeps λb o q=>kJ q;have g1:(mO h C us).get? (h.objs.size+1)=some { cls:= .ref C,data:= .fields #[.ref h.objs.size,.none,.none,.none,.bool false,.none] }:=by heap_get
 have hcc:(Value.ref C::bm).contains (.ref C)=true:=by simp
 unfold isInstance
 repeat (first|with_reducible refine wpAny_loadPart_at g1 ?_|(with_reducible refine wpAny_isSubtype_exc c1 ?_;rw[hcc])|wp_step)
 show wpAny _ _ (typeLookup (.ref C) _) _ _ _;refine wpAny_typeLookup_tail c1 n1 t1 Fx.mroIs Fx.init.lookup ?_;rw[hi];refine wpAny_holding (wpAny_bind ?_);unfold bindSpecial;refine wpAny_bind (wpAny_typeOf (T:= "function") ⟨_,f1,hfc⟩ ?_);rw[if_pos (by decide)];refine wpAny_pure (wpAny_bind (wpAny_mono k (λr s' ⟨hr,hQ⟩=> ?_) λ_ _ y=>y));subst hr
 wp_walk
 exact hQ
theorem W9 (Fx:ExcBaseFacts B newId initId bmB)(T:OwnTail h bmB bm)
  (hC:h.get? C=some (excClassObj nm qn C N bs bm hd sn sub ab col dd k0 k1 k2 k3 k5 newId))(hn:h.Ns N mN)(hi:mN "__init__" =some (.ref fi))(hf:h.get? fi=some ob)(hfc:ob.cls= .type "function")
  (k:wpAny (model P w) (A.under (.builtin "type.__call__" ⟨.ref C::us,[]⟩)) (call (.ref fi) (.ref (h.objs.size+1)::us)) (λr s'=>r= .none/\Q (.ref (h.objs.size+1)) s') E ⟨mO h C us,gs,dr,tk,os⟩)(hl:us.length<=sizeLine) :
  wpAny (model P w) A (call (.ref C) us) Q E ⟨h,gs,dr,tk,os⟩:=by
 have x1:=tc_lookup;have x2:=tc_bind (.ref C);have hT:(⟨h,gs,dr,tk,os⟩:Shared).TypeIs (.ref C) "type" :=⟨_,hC,rfl⟩
 refine wpAny_call (codeAny_of_tree ?_);show wpAny _ _ (callAny (.ref C) _) _ _ _
 repeat (any_goals (first|assumption|with_reducible refine wpAny_loadPart_at hC ?_|wp_step))
 exact⟨rfl,codeAny_call_builtin_at (Code.quiet_builtin _ (by decide +kernel)) entry_typeCall (wpAny_check_type_call_sub hC (F0 Fx T hC hn hi hf hfc k hl))⟩
end
section
variable {g:Array GenState}{d:Drawn}{t:Nat}{K:Frag}
abbrev wV (h:Heap)(e:Addr):Heap:=(h.push { cls:= .type "dict",data:= .dict #[] }).update e λo=>{ o with dict:=some h.objs.size }
abbrev mZ (w:World)(h:Heap)(e:Addr)(nm:Str)(tk:Tok)(v:Value):Heap:=(wV h e).update h.objs.size (Obj.putName nm (PyData.keyHash w.params nm) (.str nm tk) v)
theorem UZ {e:Addr}{vs:Array Value}{v:Value}{b:Bool}{cd:ClassData}{Q:Fin->Shared->Prop}(X:K.In h)(hc:clsIn K C=some cd)(hdd:cd.hasDict=true)(hx:h.get? e=some { cls:= .ref C,data:= .fields vs })
  (hq:Q (.done (.ret .none)) ⟨mZ w h e nm t v,g,d,t+1,os⟩):wpAny (model P w) A (Builtin.ObjectAttr.storeInOwnDict (.ref e) (.ref C) (.str nm tk) nm v b) Q E ⟨h,g,d,t,os⟩:=by
 unfold Builtin.ObjectAttr.storeInOwnDict;have L1:=looks_clsIn (M:=model P w) X hc
 repeat (any_goals (first|assumption|(with_reducible refine wpAny_loadPart_at hx ?_)|(with_reducible refine L1.at ?_)|wp_step))
 have ne:e≠h.objs.size:=Nat.ne_of_lt (Heap.lt_size hx);have hd1:(wV h e).get? h.objs.size=some { cls:= .type "dict",data:= .dict #[] }:=by
  rw[Heap.get?_update_other _ _ ne];exact Heap.get?_push_at rfl rfl
 have hq':Q (.done (.ret .none)) ⟨(wV h e).update h.objs.size (Obj.putName nm (PyData.keyHash w.params nm) (.str nm t) v),g,d,t+1,os⟩:=hq;show wpAny _ _ ask _ _ ⟨wV h e,g,d,t,os⟩;generalize wV h e=h1 at hd1 hq' ⊢;refine wpAny_askSetting ?_
 repeat (any_goals (first|assumption|(with_reducible refine wpAny_loadPart_at hd1 ?_)|(with_reducible refine wpAny_updatePart' hd1 ?_)|wp_step))
end
open Builtin Builtin.ObjectAttr
def GH:List Value->Bool
 | .ref _::r=>GH r
 | l=>l==bmV
theorem OM (self:Value):refuseLoop self "__setattr__" bmV=pure ():=by kernel_rfl
theorem vS (self:Value):∀{l:List Value},GH l=true->refuseLoop self "__setattr__" l=pure ()
 | .ref c::r,e=>by rw[refuseLoop_ref];exact vS self (l:=r) e
 | [],e=>by cases e
 | .none::r,e=>by cases e
 | .type n::r,e=>by
  have e:(Value.type n::r)=bmV:=beq_iff_eq.mp e;rw[e];exact OM self
theorem E6:∀{l:List Value},GH l=true->l.contains (.type "object")=true
 | .ref c::r,e=>by rw[List.contains_cons,E6 (l:=r) e,Bool.or_true]
 | [],e=>by cases e
 | .none::r,e=>by cases e
 | .type n::r,e=>by
  have e:(Value.type n::r)=bmV:=beq_iff_eq.mp e;rw[e];decide
def oT (K:Frag)(C:Addr):Bool:=(clsIn K C).any λcd=>GH cd.mro&&cd.hasDict
section
variable {g:Array GenState}{d:Drawn}{t:Nat}{K:Frag}
theorem aBA {e:Addr}{vs:Array Value}{v:Value}(X:K.In h)(hf:oT K C=true)(hn:findIn K (.ref C) nm=some none)(hx:h.get? e=some { cls:= .ref C,data:= .fields vs })
  (hq:R (.ok (.ret .none)) ⟨mZ w h e nm t v,g,d,t+1,os⟩) :
  codeAny (model P w) A (.call (.builtin "object.__setattr__") ⟨[.ref e,.str nm tk,v],[]⟩) R ⟨h,g,d,t,os⟩:=by
 have SF:=PySem.F.store_object;obtain⟨cd,hc,ho⟩:=any_some hf;obtain⟨h1,h2⟩:=(Bool.and_eq_true _ _).mp ho;have hne:cd.mro.isEmpty=false:=by
  cases q:cd.mro with
  | nil=>rw[q]at h1;cases h1
  | cons _ _=>rfl
 have ty:=lY (M:=model P w) hx rfl rfl;have obj:Looks (model P w) h (isInstance (.ref e) (.type "object")) true:=ty.andThen (looks_mroIn X (by unfold mroIn;rw[hc,Option.bind_some,if_neg (by rw[hne];decide),E6 h1]));refine codeAny_call_builtin SF.slot.plain SF.entry (@check_slot (model P w) _ _ ⟨h,g,d,t,os⟩ "object.__setattr__" "object" "__setattr__" (.ref e) [.str nm tk,v] [] _ SF.kind SF.split obj (SF.args (.ref e) (.str nm tk) v) ?_);have mr:Looks (model P w) h (mroOf (.ref C)) cd.mro:=(looks_clsIn X hc).andThen .now;rw[osa_eq,refuse_eq];refine wpAny_bind (wpAny_bind (ty.here (wpAny_bind (mr.here ?_))));rw[vS _ h1];refine wpAny_pure (wpAny_bind (ty.here (wpAny_bind ((looks_findIn X hn).here (wpAny_bind ?_)))));exact wpAny_pure (UZ X hc h2 hx hq)
theorem XH {e:Addr}{vs:Array Value}{v:Value}{Q:Unit->Shared->Prop}(X:K.In h)(hf:oT K C=true)(hn:findIn K (.ref C) nm=some none)(hs:findIn K (.ref C) "__setattr__" =some (some (.builtin "object.__setattr__")))
  (hx:h.get? e=some { cls:= .ref C,data:= .fields vs })(hq:Q () ⟨mZ w h e nm (t+1) v,g,d,t+2,os⟩):wpAny (model P w) A (setAttr (.ref e) nm v) Q E ⟨h,g,d,t,os⟩ :=
 set_plain (s:=⟨h,g,d,t,os⟩) X (⟨hx,rfl,rfl,trivial⟩:InstAt h e { cls:= .ref C,data:= .fields vs } C none) hs (aBA X hf hn hx hq)
end
section
variable {g:Array GenState}{d:Drawn}{t:Nat}{K:Frag}{dx:Addr}{o:Obj}{vs:Array Value}{mA:Str->Option Value}
end
section
variable {e:Addr}{vs:Array Value}{v:Value}
theorem OR (hb:b≠e)(hb':b≠h.objs.size){o:Obj}(q:h.get? b=some o):(mZ w h e nm tk v).get? b=some o:=by
 rw[Heap.get?_update_other _ _ (Ne.symm hb'),Heap.get?_update_other _ _ (Ne.symm hb)];exact Heap.get?_push_of_some _ q
theorem OL (hx:h.get? e=some { cls:= .ref C,data:= .fields vs }):(mZ w h e nm tk v).get? e=some { cls:= .ref C,dict:=some h.objs.size,data:= .fields vs }:=by
 rw[Heap.get?_update_other _ _ (Ne.symm (Nat.ne_of_lt (Heap.lt_size hx)))];exact Heap.get?_update_self _ (Heap.get?_push_of_some _ hx) rfl
theorem UU (hx:h.get? e=some { cls:= .ref C,data:= .fields vs }):(mZ w h e nm tk v).Ns1 h.objs.size λx=>if x=nm then some v else none:=by
 have hd1:(wV h e).get? h.objs.size=some (dictOf [] 0):=by
  rw[Heap.get?_update_other _ _ (Nat.ne_of_lt (Heap.lt_size hx))];exact Heap.get?_push_at rfl rfl
 have hp:=putName_dict nm (PyData.keyHash w.params nm) (.str nm tk) v [] 0;have hg:(mZ w h e nm tk v).get? h.objs.size=some (dictOf [⟨PyData.keyHash w.params nm,.str nm tk,v⟩] 1):=by
  rw[Heap.get?_update_self _ hd1 (by rw[hp];rfl),hp];rfl
 refine⟨_,_,_,hg,rfl,λb hb=> ?_,List.pairwise_singleton _ _,λx=> ?_⟩
 .have hb:b=⟨PyData.keyHash w.params nm,.str nm tk,v⟩:=by simpa using hb
  subst hb;exact⟨nm,tk,rfl⟩
 .unfold nsFind findBy
  by_cases hxn:x=nm
  .subst hxn;simp[Value.isStr]
  .simp[Value.isStr,hxn,Ne.symm hxn]
end
abbrev tU (e C:Addr)(vs:Array Value):Heap->Prop:=λh=>h.get? e=some { cls:= .ref C,data:= .fields vs }
abbrev rB (e C dx:Addr)(vs:Array Value):Heap->Prop:=λh=>h.get? e=some { cls:= .ref C,dict:=some dx,data:= .fields vs }
section
variable {e:Addr}{vs:Array Value}{y:V}
theorem aCe {Q:Unit->Shared->Prop}(I:Inv X pins σ H s)(he:H e=some (.ext (tU e C vs)))(hf:oT X.K C=true)(hn:NoAttr X.K C nm)(hs:findIn X.K (.ref C) "__setattr__" =some (some (.builtin "object.__setattr__")))(ry:RelV y u)
  (k:∀dx s',H dx=none->dx≠e->Inv X pins σ (upd (upd H e (.ext (rB e C dx vs))) dx (.xd [(nm,y)])) s'->Q () s'):wpAny (model X.prog X.w) A (setAttr (.ref e) nm u) Q E s:=by
 obtain⟨hx,_,_⟩:=I.hok e _ he;obtain⟨hh,g,d,t,os⟩:=s;have hx:hh.get? e=some { cls:= .ref C,data:= .fields vs }:=hx;have ne:hh.objs.size≠e:=Ne.symm (Nat.ne_of_lt (Heap.lt_size hx));refine XH I.kIn hf hn hs hx (k hh.objs.size _ (I.hok.fresh (Nat.le_refl _)) ne ?_);have hself:(hh.update e λo=>{ o with dict:=some hh.objs.size }).get? e=some { cls:= .ref C,dict:=some hh.objs.size,data:= .fields vs }:=Heap.get?_update_self _ hx rfl;have I1:=I.write (x:=e) (e:=e) (o:= .ext (rB e C hh.objs.size vs)) (h':=hh.update e λo=>{ o with dict:=some hh.objs.size }) (t':=t) (by rw[he];trivial) (.inl rfl) (λb o hb q=>by rw[Heap.get?_update_other _ _ (Ne.symm hb)];exact q) ⟨_,hself⟩
  ⟨hself,⟨_,hself⟩,λh1 h2 q1 q2=>q2 _ q1⟩
 refine I1.laid (a:=hh.objs.size) (o:= .xd [(nm,y)]) (h':=mZ X.w hh e nm (t+1) u) (t':=t+2) (λb o q=> ?_) (by rw[Heap.size_update];exact Nat.le_refl _) ⟨_,UU hx,λf=> ?_⟩
 .by_cases hb:b=e
  .subst hb;rw[hself]at q;cases q;exact OL hx
  .rw[Heap.get?_update_other _ _ (Ne.symm hb)]at q;exact OR hb (Nat.ne_of_lt (Heap.lt_size q)) q
 .show RelO (List.lookup f [(nm,y)]) (if f=nm then some u else none)
  by_cases hfn:f=nm
  .rw[if_pos hfn,hfn,List.lookup_cons,beq_self_eq_true];exact ry
  .rw[if_neg hfn,List.lookup_cons,beq_false_of_ne hfn];exact True.intro
end
structure DJ (K:Frag)(C:Addr):Prop where
 k:ExcK K C
 fi:oT K C=true
 sa:findIn K (.ref C) "__setattr__" =some (some (.builtin "object.__setattr__"))
section
variable {f:Str}
def Z7 (K:Frag)(ta tv:TE)(f:Str):TS:=λD σ H=>tv σ H λy H1=>ta σ H1 λx H2=>∃a C vs,x= .ref a/\H2 a=some (.ext (tU a C vs))/\DJ K C/\NoAttr K C f ∧
 ∀dx,H2 dx=none->dx≠a->D.nx σ (upd (upd H2 a (.ext (rB a C dx vs))) dx (.xd [(f,y)]))
theorem M9 (ha:PE X o ta)(hv:PE X value tv)(hs:swapsWith value (some (.Attribute o f pos')) pos.line X.env=pure false):PS X (.Assign [.Attribute o f pos'] value pos) (Z7 X.K ta tv f):=by
 intro pins s σ H D I h;refine plainObj_wpAny_Assign_Attribute (thn (hv pins s σ H _ I h) λu s1 ⟨y,H1,I1,ry,q⟩=>thn (ha pins s1 σ H1 _ I1 q) λov s2 ⟨x,H2,I2,rx,q2⟩=> ?_) hs;obtain⟨a,C,vs,ex,ea,c,n,q2⟩:=q2;subst ex;obtain rfl:ov=Value.ref a:=rx;exact aCe I2 ea c.fi n c.sa ry λdx s3 n1 n2 I3=>⟨σ,_,I3,q2 dx n1 n2⟩
theorem MT {K:Frag}{f:Str}{i:Nat}{D:gN}{vs:Array Value}{y:V}(ei:σ[i]? =some (some (.ref a)))(ej:σ[j]? =some (some y))(ea:H a=some (.ext (tU a C vs)))(c:DJ K C)(n:NoAttr K C f)(h:∀dx,H dx=none->dx≠a->D.nx σ (upd (upd H a (.ext (rB a C dx vs))) dx (.xd [(f,y)]))):Z7 K (iZ i) (iZ j) f D σ H:=⟨_,ej,_,ei,a,C,vs,rfl,ea,c,n,h⟩
end
def zI (K:Frag)(C fi:Addr):Bool:=match K.lookup C with
 | some ⟨.type "type",_,.cls cd,sl⟩=>(match cd.mro,sl.toList with
  | .ref C'::bm,[_,_,_,_,some (.builtin n),_]=>C'==C&&(n== "ValueError.__new__" &&(!cd.hasDel&&(tailIn K bmV bm&&(nsOkIn K cd.ns&&(nsIn K cd.ns "__init__" ==some (some (.ref fi))&&typeIn K (.ref fi)==some (.type "function"))))))
  | _,_=>false)
 | _=>false
theorem aED {K:Frag}{N:Addr}{m:Str->Option Value}{n:Str}{v:Value}(X:K.In h)(G:h.Ns N m)(e:nsIn K N n=some (some v)):m n=some v:=by
 obtain⟨o,es,ep,ho,hd,_,hf⟩:=G;rw[←hf];unfold nsIn at e
 split at e
 .rename_i q;have z:=X _ _ q;rw[ho]at z;injection z with z;subst z;injection hd with hd1 hd2;subst hd1
  split at e
  .rename_i en he;injection e with e;injection e with e;subst e;unfold nsFind findBy;rw[←Array.find?_toList,he];rfl
  .first|cases e|(split at e<;>cases e)
 .cases e
theorem aAC {K:Frag}{h₀:Heap}(X:K.In h₀)(q:zI K C fi=true):
  ∃bm N nm q bs hdct sn sub ab col dd k0 k1 k2 k3 k5 mN ob,h₀.get? C=some (excClassObj nm q C N bs bm hdct sn sub ab col dd k0 k1 k2 k3 k5 "ValueError.__new__")/\h₀.Ns N mN/\mN "__init__" =some (.ref fi)/\OwnTail h₀ bmV bm/\h₀.get? fi=some ob/\ob.cls= .type "function" :=by
 unfold zI at q
 split at q
 .rename_i dd cd sl ho
  split at q
  .rename_i C' bm k0 k1 k2 k3 n k5 hm hs;simp only[Bool.and_eq_true,beq_iff_eq,Bool.not_eq_true']at q;obtain⟨rfl,rfl,hdel,ht,hok,hni,hty⟩:=q;obtain⟨nm,bs,mro,ns,qn,hd,sn,sub,ab,col,del⟩:=cd
   dsimp only at hm hdel hok hni
   subst hm hdel;have hsl:sl= #[k0,k1,k2,k3,some (.builtin "ValueError.__new__"),k5]:=by
    obtain⟨l⟩:=sl;simp only at hs;rw[hs]
   subst hsl;have hty:(K.lookup fi).map (·.cls)=some (.type "function"):=hty;obtain⟨ob,ho2,hc2⟩:=Option.map_eq_some_iff.mp hty;have N0:h₀.Ns ns (h₀.nsMap ns):= .of_isNs (isNs_of_in X hok);exact⟨bm,ns,nm,qn,bs,hd,sn,sub,ab,col,dd,k0,k1,k2,k3,k5,_,ob,X _ _ ho,N0,aED X N0 hni,tail_of_in X ht,X _ _ ho2,hc2⟩
  .cases q
 .cases q
theorem OH {M:Model}{x:Sem Value}{Q:Flow->Shared->Prop}{q:Str}{N:Addr}{bs:List Value}{hdct:Bool}{sub:List Value}{dd:Option Addr}
  (hb:bm.contains (.type "BaseException")=true)(hh:A.handled=none)
  (h:wpAny M A x (λv s₁=>∃e ob vs,v= .ref e/\s₁.heap.get? C=some (excClassObj nm q C N bs bm hdct sn sub ab col dd k0 k1 k2 k3 k5 newId)/\s₁.heap.get? e=some ob/\ob.cls= .ref C/\ob.data= .fields vs/\vs[1]? =some .none/\E (.ref e) s₁) E s):wpAny M A (raiseStmt env (some x) none) Q E s:=by
 have hcB:(Value.ref C::bm).contains (.type "BaseException")=true:=by rw[List.contains_cons,hb,Bool.or_true]
 unfold raiseStmt;refine wpAny_bind (wpAny_mono h (λv s₁ ⟨e,ob,vs,ev,hC,he,ec,ed,v1,hE⟩=> ?_) λ_ _ x=>x);subst ev;obtain⟨hp,g,d,tk,os⟩:=s₁;obtain⟨oc,od,odt,osl⟩:=ob
 dsimp only at ec ed
 subst ec ed
 repeat (first|with_reducible refine wpAny_loadPart_at he ?_|with_reducible refine wpAny_loadPart_at hC ?_|(with_reducible refine wpAny_isSubtype_exc hC ?_;rw[hcB])|wp_step)
 rw[v1]
 repeat (first|with_reducible exact wpAny_raiseNew_none hh hE|wp_step)
def lets0 (H:Hp)(c:Addr):Hp:=λb=>if b=c then none else H b
theorem oF {c:Addr}:lets0 H c c=none:=by unfold lets0;rw[if_pos rfl]
theorem zC {c:Addr}(h:b≠c):lets0 H c b=H b:=by unfold lets0;rw[if_neg h]
theorem oH {c:Addr}(h:H b=none):lets0 H c b=none:=by unfold lets0;split<;>first|rfl|exact h
theorem Inv.lets0 {e:Addr}{φ:Heap->Prop}(I:Inv X pins σ H s)(he:H e=some (.ext φ)):Inv X pins σ (L2.lets0 H e) s:=by
 have out:∀b u,H b=some u->(∀ψ,u≠ .ext ψ)->L2.lets0 H e b=some u:=λb u q n=>by
  rw[zC];exact q;rintro rfl;rw[he]at q;cases q;exact n _ rfl
 refine⟨I.ok,I.os,I.bare,⟨I.base.keep,I.base.slot,λb o q n hx=>oH (I.base.free b o q n hx),I.base.there,λb xs q=>out _ _ (I.base.tups b xs q) (by intro ψ z;cases z),λb o u q=> ?_,λb ps q=> ?_⟩,I.loc,I.cell,oH I.free,λx c q=>oH (I.freeC x c q),λp hp=> ?_,λb u q=> ?_,I.len⟩
 .exact out _ _ (I.base.frzs b o u q) (by intro ψ z;cases z)
 .obtain⟨m,z⟩:=I.base.tbls b ps q;exact⟨m,out _ _ z (by intro ψ z;cases z)⟩
 .obtain⟨a1,a2,a3,a4,a5⟩:=I.pin p hp;exact⟨a1,oH a2,a3,a4,a5⟩
 .have hb:b≠e:=by rintro rfl;rw[oF]at q;cases q
  rw[zC hb]at q;exact(I.hok b u q).stay (λ_ _ _ z=>z) (λc z=>out _ _ z (by intro ψ z;cases z)) λc xs z=>out _ _ z (by intro ψ z;cases z)
def ND (X:Cx)(E:XK):Prop:=∀(pins:List (Addr×Obj)) (σ:St) (H:Hp) (s:Shared) (e C dx:Addr) (vs:Array Value) (a0:Value),Inv X pins σ H s->H e=some (.ext (rB e C dx vs))->X.s₀.heap.get? e=none->vs[0]? =some a0->vs[1]? =some .none/\vs[2]? =some .none->E (.ref C) (some dx) (lets0 H e)->X.xe (.ref e) s
theorem U3 {N:List Str}{scope:Scope}{f:Addr}{cd:Value}{outer:List Env}{s₀:Shared}{H₀:Hp}{E:XK}:
  ND (b7 (CXE P w) P w K mg base N qual scope f cd A outer s₀ H₀ E) E:=by
 intro pins σ H s e C dx vs a0 I0 he new v0 v1 q;have I:=I0.lets0 he;obtain⟨go,_,_⟩:=I0.hok e _ he;have go:s.heap.get? e=some { cls:= .ref C,dict:=some dx,data:= .fields vs }:=go;generalize hX:b7 (CXE P w) P w K mg base N qual scope f cd A outer s₀ H₀ E=X at I I0 new ⊢;have there:∀b o,X.s₀.heap.get? b=some o->∃o',s.heap.get? b=some o':=λb o e=>I.base.there b o e (λz=>absurd (show b∈([]:List Addr) from by rw[←hX]at z;exact z) (by simp));have hin:∀env∈X.stack,∀b,env.frame=some b->b∈e::frs X.stack:=λenv he b hb=>List.mem_cons_of_mem _ (List.mem_filterMap.mpr ⟨env,he,hb⟩);have hk:(hideAll s.heap (e::frs X.stack)).StaysIn s.heap:=λb o e=>of_hideAll _ e;have cov:∀b,(lets0 H e b≠none∨∃o,X.s₀.heap.get? b=some o)->b∉frs X.stack->∃o,(hideAll s.heap (e::frs X.stack)).get? b=some o:=λb hb hs=>by
  have hbe:b≠e:=by
   rintro rfl;rcases hb with hb|⟨o,q⟩
   .exact hb oF
   .rw[new]at q;cases q
  have:∃o,s.heap.get? b=some o:=by
   rcases hb with hb|⟨o,q⟩
   .cases e1:lets0 H e b with
    | none=>exact absurd e1 hb
    | some u=>exact(I.hok b u e1).there
   .exact there b o q
  obtain⟨o,q⟩:=this;exact⟨o,hideAll_get _ q λz=>(List.mem_cons.mp z).elim hbe hs⟩
 have ff:=funFrames_hide I.stack hin;have nb:(hideAll s.heap (e::frs X.stack)).get? e=none:=hideAll_none _ (List.mem_cons_self ..);subst hX;show wpAny _ _ (leaving _ _) _ _ _;refine vY (L:=_) (a0:=(a0,.none)) I.ok.frames ff rfl go hk nb rfl v1.1 ⟨v0,v1.2⟩ λh2 hl=> ?_;obtain⟨x1,⟨_,_,x2⟩,x3,x4⟩:=hl;obtain⟨un2,hok2⟩:=BY (h2:=h2) I rfl x1 hk x4 cov rfl rfl;refine⟨e,.ref C,some dx,a0,lets0 H e,_,rfl,I.os,I.bare,un2,hok2,oF,new,⟨x1,nb,x2,x3⟩,λb hb hs=>cov b hb λz=> ?_,q⟩;rcases List.mem_cons.mp (I.stkSub b z) with e1|hb'
 .rcases hb with hb|⟨o,e2⟩
  .exact hb (by rw[e1];exact I.free)
  .have e3:=Nat.lt_of_lt_of_le (Heap.lt_size e2) I.ok.above;rw[e1]at e3;exact Nat.lt_irrefl _ e3
 .exact hs hb'
def spX (K:Frag)(C:Addr)(nm:Str):Sp:=λvs H Q _=>∃e y fv,vs=[.ref e,y]/\H e=some (.ext (tU e C fv))/\DJ K C/\NoAttr K C nm/\∀dx,H dx=none->dx≠e->Q .non (upd (upd H e (.ext (rB e C dx fv))) dx (.xd [(nm,y)]))
structure XcE (P:Program)(w:World)(K:W.Frag)(mg:Str->Option Value)(base:Heap)(x:Str)(C:Addr)(nm:Str):Prop where
 ex:∃f fd ps,mg x=some (.ref C)/\zI K C f=true/\DJ K C/\NoAttr K C nm/\Binds K fd ps []/\FnOk P w K mg base CX0 1 f fd ps (spX K C nm)
def M3 (C:Addr)(nm:Str)(E:XK)(t:TE):TS:=λ_ σ H=>t σ H λy H1=>∀dx,H1 dx=none->E (.ref C) (some dx) (upd H1 dx (.xd [(nm,y)]))
theorem EZ {E:XK}{t:TE}{D:gN}(h:t σ H λy H1=>∀dx,H1 dx=none->E (.ref C) (some dx) (upd H1 dx (.xd [(nm,y)]))):M3 C nm E t D σ H:=h
section
variable {E:XK}{t:TE}
theorem EW (F:XcE X.prog X.w X.K X.mg X.base x C nm)(hr:Room k' X.A)(hx:ND X E)(ha:PE X e t)(hex:X.ex=[])(cm:X.calm=true:=by rfl)(hk:2<=k':=by decide)(hg:Gl X x:=by rfl)(hdb:(x==("__debug__" :Str))=false:=by decide)
  (he:starEach [e] X.env=[(false,eval e X.env)]:=by rfl) :
  PS X (.Raise (some (.Call (.Name x np) [e] [] cpos)) none pos) (M3 C nm E t):=by
 intro pins s σ H D I h;obtain⟨fi,fd,ps,hm,hc,xf,na,hb,G⟩:=F.ex;obtain⟨tl,N,cn,q,bs,hdct,sn,sub,ab,col,dd,k0,k1,k2,k3,k5,mN,fo,hC,hN,hni,T,hf,hfc⟩:=aAC I.ok.mod.kin hc;have hbase:tl.contains (.type "BaseException")=true:=T.hasType PySem.F.excBase_ValueError.hasBase;rw[arm_exec_Raise];refine wpAny_bind (wpAny_standAt (OH (C:=C) (nm:=cn) (q:=q) (N:=N) (bs:=bs) (bm:=tl) (hdct:=hdct) (sn:=sn) (sub:=sub) (ab:=ab) (col:=col) (dd:=dd) (k0:=k0) (k1:=k1) (k2:=k2) (k3:=k3) (k5:=k5) (newId:= "ValueError.__new__") hbase (I.ok.hd cm) ?_));refine wpAny_bind (wpAny_mono (wpAny_Call_ofName (dI I hg hm ?_ hdb)) (λv s3 h3=>wpAny_bind (wpAny_standAt (wpAny_pure h3))) λ_ _ z=>z);unfold callWith;rw[he];have one:wpAny (model X.prog X.w) X.A (spliced (backTo cpos [(false,eval e X.env)])) (λus s1=>∃u y H1,us=[u]/\RelV y u/\Inv X pins σ H1 s1/\∀dx,H1 dx=none->E (.ref C) (some dx) (upd H1 dx (.xd [(nm,y)]))) X.xe s:=by
  show wpAny _ _ (spliced ((false,eval e X.env)::backTo cpos [])) _ _ s;refine Calls.spliced_cons (thn (ha pins s σ H _ I h) λu s1 ⟨y,H1,I1,ru,q1⟩=> ?_);exact Calls.spliced_nil ⟨u,y,H1,rfl,ru,I1,q1⟩
 refine wpAny_bind (wpAny_holding (Calls.evalArgs_plain (wpAny_mono one (λus s2 ⟨u,y,H1,eu,ru,I1,q1⟩=>wpAny_bind (wpAny_standAt ?_)) λ_ _ z=>z)));subst eu;have kb:∀b o,X.base.get? b=some o->s2.heap.get? b=some o:=I1.bk;have hC2:=I1.bk _ _ hC;have new0:s2.heap.get? (s2.heap.objs.size+1)=none:=Heap.get?_none_of_le (Nat.le_succ _);have there:∀b o,X.s₀.heap.get? b=some o->∃o',s2.heap.get? b=some o':=λb o q=>I1.base.there b o q (by rw[hex];simp);have newS:X.s₀.heap.get? (s2.heap.objs.size+1)=none:=by
  cases q:X.s₀.heap.get? (s2.heap.objs.size+1) with
  | none=>rfl
  | some o=>obtain⟨o',q'⟩:=there _ o q;rw[new0]at q';cases q'
 have J:Inv X pins σ (upd H1 (s2.heap.objs.size+1) (.ext (tU (s2.heap.objs.size+1) C #[.ref s2.heap.objs.size,.none,.none,.none,.bool false,.none]))) { s2 with heap:=mO s2.heap C [u] }:=by
  have hg:(mO s2.heap C [u]).get? (s2.heap.objs.size+1)=some { cls:= .ref C,data:= .fields #[.ref s2.heap.objs.size,.none,.none,.none,.bool false,.none] }:=by heap_get
  exact I1.laid (t':=s2.toks) (λb o q=>kJ q) (Nat.le_succ _) ⟨hg,⟨_,hg⟩,λg1 g2 q1 q2=>q2 _ q1⟩
 obtain⟨hp,g,d,tk,os⟩:=s2;refine wpAny_bind (wpAny_keeperOf_exc hC2 ?_);refine wpAny_bind (W9 PySem.F.excBase_ValueError (T.keeps I1.bk) hC2 (hN.keeps I1.bk) hni (I1.bk _ _ hf) hfc ?_ (by show 1<=sizeLine;decide));have want:spX X.K C nm [.ref (hp.objs.size+1),y] (upd H1 (hp.objs.size+1) (.ext (tU (hp.objs.size+1) C #[.ref hp.objs.size,.none,.none,.none,.bool false,.none]))) (λv H2=>v= .non/\∃dx,H1 dx=none/\dx≠hp.objs.size+1/\H2=upd (upd (upd H1 (hp.objs.size+1) (.ext (tU (hp.objs.size+1) C #[.ref hp.objs.size,.none,.none,.none,.bool false,.none]))) (hp.objs.size+1) (.ext (rB (hp.objs.size+1) C dx #[.ref hp.objs.size,.none,.none,.none,.bool false,.none]))) dx (.xd [(nm,y)])) E0 :=
  ⟨_,_,_,rfl,aU,xf,na,λdx n1 n2=>⟨rfl,dx,by rw[aM n2]at n1;exact n1,n2,rfl⟩⟩
 have rr:Vals [V.ref (hp.objs.size+1),y] [Value.ref (hp.objs.size+1),u]:= .cons rfl (.cons ru .nil);have ln:[Value.ref (hp.objs.size+1),u].length=ps.length:=rr.length.symm.trans (G.len _ _ _ _ want);have go:=G.run _ X.stack _ _ ⟨[Value.ref (hp.objs.size+1),u],[]⟩ [Value.ref (hp.objs.size+1),u] _ _ E0 ((hr.mono hk).make C [u] []) (J.env0.make C [u] []) (by have z:=hb _ [Value.ref (hp.objs.size+1),u] J.kIn (by rw[List.append_nil];exact ln);rw[List.append_nil]at z;exact z) rr want;refine wpAny_call (codeAny_mono go λres s' hq=> ?_)
 match res,hq with
 | .error e,hq=>exact False.elim hq
 | .ok .next,hq=>exact False.elim hq
 | .ok .brk,hq=>exact False.elim hq
 | .ok .cont,hq=>exact False.elim hq
 | .ok (.ret w'),hq =>
  obtain⟨v,H',I3,rv',ev,dx,n1,n2,eH⟩:=J.after hq;subst ev;refine⟨rv',?_⟩;refine wpAny_bind (wpAny_holding (wpAny_point (wpAny_pure ?_)));have hE:H' (hp.objs.size+1)=some (.ext (rB (hp.objs.size+1) C dx #[.ref hp.objs.size,.none,.none,.none,.bool false,.none])):=by
   rw[eH,aM (Ne.symm n2),aU]
  have eL:lets0 H' (hp.objs.size+1)=upd H1 dx (.xd [(nm,y)]):=by
   funext b
   by_cases hb':b=hp.objs.size+1
   .subst hb';rw[oF,aM (Ne.symm n2)];exact(I1.hok.fresh (Nat.le_succ _)).symm
   .rw[zC hb',eH]
    by_cases hd':b=dx
    .subst hd';rw[aU,aU]
    .rw[aM hd',aM hb',aM hb',aM hd']
  obtain⟨gx,_,_⟩:=I3.hok _ _ hE;exact⟨_,_,_,rfl,I3.bk _ _ hC,gx,rfl,rfl,rfl,hx pins σ H' _ _ C dx _ _ I3 hE newS rfl ⟨rfl,rfl⟩ (by rw[eL];exact q1 dx n1)⟩
end
variable {D:Keyed->Prop}{ρ:Keyed->Int}{st:SortSt}
section
variable {κ:SortKind}
end
section
variable {all o p ra rb:List Keyed}
end
section
variable {κ:SortKind}
end
section
variable {κ:SortKind}
end
section
variable {κ:SortKind}
end
section
variable {κ:SortKind}
end
section
variable {κ:SortKind}
end
variable {a₀:Array Keyed}
section
variable {κ:SortKind}
end
section
variable {κ:SortKind}
end
section
variable {f:Value->α}{lt:α->α->Bool}{d:α}{l:List α}
end
open Sem (wp) in
open AutoSeq1 (wpAny_loadPart') in
section
variable {Q:VK}{R:It->Hp->Prop}{bk:St->Hp->Prop}
end
section
variable [DecidableEq κ]{knd:HeapKind prog w κ}
end
section
variable [DecidableEq κ]{knd:HeapKind prog w κ}
end
end L2
set_option autoImplicit false
namespace L2
open PySem PySem.Spec PyProof.Rows
variable {tb:TS}{H H2 H₀:Hp}{σ:St}{ep ky kz n nl:Nat}{ct nx:St->Hp->Prop}{rt:VK}{ti:TT}
section
variable {bk:St->Hp->Prop}
def WhT (W:Nat->St->Hp->Prop)(m:Nat)(tb:TS)(nx:St->Hp->Prop)(rt:VK)(σ:St)(H:Hp):Prop :=
 ∃N:St->Hp->Prop,(∀σ' H',N σ' H'->∃m',m'<m/\W m' σ' H')/\tb ⟨N,rt,nx,N⟩ σ H
theorem W0 {c:TT}(W:Nat->St->Hp->Prop)(m0:Nat)(h0:W m0 σ H)
  (hs:∀m σ H,W m σ H->c σ H λb H1=>if b=true then WhT W m tb nx rt σ H1 else nx σ H1):U8 c tb ⟨nx,rt,bk,ct⟩ σ H :=
 ⟨W,⟨m0,h0⟩,hs⟩
theorem aDU {W:Nat->St->Hp->Prop}{m:Nat}
  (h:tb ⟨λσ' H'=>∃m',m'<m/\W m' σ' H',rt,nx,λσ' H'=>∃m',m'<m/\W m' σ' H'⟩ σ H):WhT W m tb nx rt σ H :=
 ⟨_,λ_ _ h=>h,h⟩
end
variable {P prog:Program}{w:World}
variable {K:W.Frag}{mg:Str->Option Value}{base h h':Heap}
variable {scope:Scope}{C CN T a ea i2 it:Addr}{e elt iter o tg:Expr}{apos cpos epos hpos np np2 pos pos' py pz rpos tpos:Pos}{cl:List (Str×Addr)}{X:Cx}
section
variable {args:Arguments}{body:Expr}{lsc:Scope}{cs:List (Str×Addr)}{cL PL:Addr}
end
open PySem.W
open PySem.Calls
section
variable {Q:VK}
end
variable {body suite:List Stmt}
section
variable {rest a:List Stmt}{u v:gN->(St->V->Hp->Prop)->St->Hp->Prop}{c:Expr}{tc:TT}
end
open PyProof
variable {cd:Value}{A:Around}{s s' s2 s₀:Shared}{pins:List (Addr×Obj)}{E Q:Value->Shared->Prop}{v:V}
section
variable {k:Option Str}{u r:Value}{kvs:List (Option Str×V)}
end
variable {ta td te to tv:TE}
section
variable {i value:Expr}{ty:TE}
end
section
variable {Q:VK}{bk:St->Hp->Prop}{R:It->Hp->Prop}{ty:TE}{p:Addr}{kvs:List (Option Str×V)}
end
variable {N:List Str}{qual x y y0 z:Str}{outer:List Env}{E0x:XK}
theorem o6 {f:Addr}{E:XK}:
  PassesOwn (model P w) (b7 (CXE P w) P w K mg base N qual scope f cd A outer s₀ H₀ E).A (b7 (CXE P w) P w K mg base N qual scope f cd A outer s₀ H₀ E).env (b7 (CXE P w) P w K mg base N qual scope f cd A outer s₀ H₀ E).xe :=
 λe s' h=>wpAny_leaving_again (SameStack.refl _) h
section
variable {R:Result->Shared->Prop}
end
variable {ci:List Nat}
section
variable {r:Addr}
variable {f:Value}{i:Nat}{o:Obj}{es:Array (Int×Value)}{t:SetTable}
variable {tp:Addr}{ot:Obj}{ps:List Nat}{ec:Nat}
end
section
variable {o:Obj}
variable {es:Array (Int×Value)}{t:SetTable}
end
section
variable {o:Obj}{ss:List Str}
end
section
variable {Q:VK}
end
section
variable {M:Model}
end
variable {fp:List Addr}
variable {as elts es ifs:List Expr}{wi:TI}
section
variable {g:TG}
end
def bO (X:Cx)(E:XK)(scope:Scope)(cl:List (Str×Addr))(N:List Str)(C:Addr)(s0:Shared)(H0:Hp)(fp:List Addr):Cx :=
 { a8 X scope cl N C s0 H0 fp with xe:=λe s'=>∃pins σ H1 s1,Inv (a8 X scope cl N C s0 H0 fp) pins σ H1 s1/\CXE X.prog X.w X.stack H1 s1 E e s' }
section
variable {E:XK}{s0:Shared}{H0:Hp}
theorem ZT (I:Inv (bO X E scope cl N C s0 H0 fp) pins σ H s):Inv (a8 X scope cl N C s0 H0 fp) pins σ H s :=
 ⟨⟨I.ok.mod,I.ok.kind,I.ok.glob,I.ok.blt,I.ok.above,I.ok.inj,I.ok.has,I.ok.cab,I.ok.hd,I.ok.frames,I.ok.stk,I.ok.exf,I.ok.bs,I.ok.bsz,I.ok.noex,I.ok.exfs,I.ok.funs,I.ok.frf⟩,I.os,I.bare,I.base,I.loc,I.cell,I.free,I.freeC,I.pin,I.hok,I.len⟩
theorem aDK (I:Inv (a8 X scope cl N C s0 H0 fp) pins σ H s):Inv (bO X E scope cl N C s0 H0 fp) pins σ H s :=
 ⟨⟨I.ok.mod,I.ok.kind,I.ok.glob,I.ok.blt,I.ok.above,I.ok.inj,I.ok.has,I.ok.cab,I.ok.hd,I.ok.frames,I.ok.stk,I.ok.exf,I.ok.bs,I.ok.bsz,I.ok.noex,I.ok.exfs,I.ok.funs,I.ok.frf⟩,I.os,I.bare,I.base,I.loc,I.cell,I.free,I.freeC,I.pin,I.hok,I.len⟩
theorem GN:fZ (CXE X.prog X.w) (bO X E scope cl N C s0 H0 fp) E:=λpins σ H s e s' I h=>⟨pins,σ,H,s,ZT I,h⟩
end
variable {fin:List V->Hp->Prop}
section
variable {g:TG}
theorem AQ {J:It}{tn:Nat->Heap->Prop}{RR:Value->Addr->Result->Shared->Prop}
  (hc:X.calm=true)(B:Blk X scope cl N nl ci)(hg:∀C s0 H0 fp,PG (bO X E0x scope cl N C s0 H0 fp) tg g)(hi:∀C s0 H0 fp,PF (bO X E0x scope cl N C s0 H0 fp) ifs ti)(he:∀C s0 H0 fp,PE (bO X E0x scope cl N C s0 H0 fp) elt te)
  (I2:Inv X pins σ H2 s2)(T:uJ X.prog X.w X.K tg J fp it tn)(st2:tn 0 s2.heap)(f2:∀b∈fp,gM X pins H2 b)(hW:dD J g ti te (bQ nl ci σ) fin H2)
  (hxn:∀(D C:Addr) (pB:List (Addr×Obj)) (σB:St) (H1:Hp) (s1:Shared) (e:Value) (s':Shared),s2.heap.objs.size<=C->Inv (a8 X scope cl N C s2 H2 fp) pB σB H1 s1->CXE X.prog X.w X.stack H1 s1 E0x e s'->notedBy (model X.prog X.w) X.A (compEnvC scope cl C X.env) (λe s''=>RR (.ref D) C (.error e) s'') e s')
  (hfin:∀(D C:Addr) (s':Shared) (H':Hp) (ys:List V) (oC:Obj) (m:Str->Option Value),H' D=none->Inv X (pins++[(C,oC)]) σ (upd H' D (.lst ys)) s'->s'.heap.Ns C m->s2.heap.objs.size<=C->fin ys H'->RR (.ref D) C (.ok .next) s') :
  wpAny (model X.prog X.w) X.A (newList []) (λacc s₃=>wpAny (model X.prog X.w) X.A (newFunctionEnv scope X.env.globals cl [] X.env.qual none .none (some X.env)) (λcenv s₄=>cenv.frame=X.env.frame ∧
   codeAny (model X.prog X.w) X.A (.compStart (.ListComp elt [⟨tg,iter,ifs,0⟩] scope pos) 0 (.ref it) acc { cenv with scope:=relabel scope X.env }) (RR acc cenv.locals) s₄) E s₃) E s2:=by
 obtain⟨W,⟨m0,w0⟩,turn⟩:=hW;refine wpAny_newObj_type (wpAny_newFunctionEnv B.nocell (by intro y hy;simp at hy) (λh1 hns1 hsb1=> ?_) B.kind)
 dsimp only at hns1 hsb1 ⊢
 generalize hH2:s2.heap.push { cls:= .type "list",dict:=none,data:= .seq ([]:List Value).toArray }=G2 at hns1 hsb1 ⊢;have hCs:G2.objs.size=s2.heap.objs.size+1:=by rw[←hH2,Heap.size_push]
 generalize hCe:G2.objs.size=C at hns1 hsb1 hCs ⊢;have hDC:s2.heap.objs.size≠C:=by rw[hCs];exact Nat.ne_of_lt (Nat.lt_succ_self _)
 have hCle:s2.heap.objs.size<=C:=by rw[hCs];exact Nat.le_succ _
 have old:∀b o,s2.heap.get? b=some o->h1.get? b=some o:=λb o e=>hsb1.extBut b o (by rw[hCs];exact Nat.ne_of_lt (Nat.lt_succ_of_lt (Heap.lt_size e))) (Heap.get?_push_of_some _ (hH2▸Heap.get?_push_of_some _ e));have hacc:h1.get? s2.heap.objs.size=some { cls:= .type "list",data:= .seq ([]:List Value).toArray 0 }:=hsb1.extBut _ _ hDC (Heap.get?_push_of_some _ (hH2▸Heap.get?_push_size _ rfl));have fo:∀b∈fp,∃o,s2.heap.get? b=some o:=λb hb=>let ⟨o,e,_⟩:=T.obj 0 _ st2 b hb;⟨o,e⟩;have lt2:∀b∈fp,b<s2.heap.objs.size:=λb hb=>let ⟨o,e⟩:=fo b hb;Heap.lt_size e;have hDfp:s2.heap.objs.size∉fp:=λz=>Nat.lt_irrefl _ (lt2 _ z);have hCfp:C∉fp:=λz=>Nat.lt_irrefl _ (Nat.lt_of_lt_of_le (lt2 _ z) hCle);generalize hDe:s2.heap.objs.size=D at hCs hDC hCle hacc hDfp lt2;have loop:∀s3:Shared,s3={ s2 with heap:=h1,toks:=s2.toks+([]:List (Str×Value)).length } →
   codeAny (model X.prog X.w) X.A (.compLoop (.ListComp elt [⟨tg,iter,ifs,0⟩] scope pos) 0 (.ref it) (.ref D) (compEnvC scope cl C X.env)) (RR (.ref D) C) s3:=by
  rintro s3 rfl;have I4:Inv (bO X E0x scope cl N C s2 H2 fp) [] (bQ nl ci σ) H2 { s2 with heap:=h1,toks:=s2.toks+([]:List (Str×Value)).length }:=aDK (xT B I2 f2 fo (by rw[hDe];exact hCle) hns1 old);have fpk:∀{H':Hp},(∀b∈fp,H' b=none)->∀b∈fp,gM (bO X E0x scope cl N C s2 H2 fp) [] H' b:=λhn b hb =>
   ⟨hn b hb,(I4.ok.exf b hb).1,I4.ok.exfs b hb,.inl hb,(I4.ok.exf b hb).2,λp hp=>by cases hp⟩
  have hDX:∀x c,(bO X E0x scope cl N C s2 H2 fp).env.cells.lookup x=some c->c≠D:=λx c e=>by
   obtain⟨v,o,ho,_⟩:=I2.cell x c (B.sub x c e);rw[←hDe];exact Nat.ne_of_lt (Heap.lt_size ho)
  have hDL:D≠(bO X E0x scope cl N C s2 H2 fp).env.locals:=hDC;have hDf:D∉(bO X E0x scope cl N C s2 H2 fp).fs:=λz=>by
   rcases List.mem_cons.mp (I2.stkSub D z) with q|q
   .exact Nat.lt_irrefl _ (by have:=I2.lt;rw[hDe,←q]at this;exact this)
   .exact I2.nofs (by rw[hDe];exact Nat.le_refl _) q
  refine xY (λn s'=>∃i ys its k H',W i n ys H'/\Inv (bO X E0x scope cl N C s2 H2 fp) [] (bQ nl ci σ) H' s'/\tn i s'.heap/\(∀b∈fp,H' b=none)/\H' D=none ∧
   s'.heap.get? D=some { cls:= .type "list",data:= .seq its.toArray k }/\Vals ys its/\ys.length<=sizeLine) ?_ m0 ?_
  .rintro n s' ⟨i,ys,its,k,H',w',I',st',fr',hD',eD,rv,hz⟩;have IP:Inv (bO X E0x scope cl N C s2 H2 fp) [(D,{ cls:= .type "list",data:= .seq its.toArray k })] (bQ nl ci σ) H' s':=I'.pins_of λp hp=>by
    obtain rfl:p=_:=by simpa using hp
    exact⟨eD,hD',hDL,hDf,λv z=>by cases z⟩
   have fpD:∀{H'':Hp},(∀b∈fp,H'' b=none)->∀b∈fp,gM (bO X E0x scope cl N C s2 H2 fp) [(D,{ cls:= .type "list",data:= .seq its.toArray k })] H'' b:=λhn b hb =>
    ⟨hn b hb,(I4.ok.exf b hb).1,I4.ok.exfs b hb,.inl hb,(I4.ok.exf b hb).2,λp hp=>by
     obtain rfl:p=_:=by simpa [bO,a8] using hp
     exact λz=>hDfp ((show D=b from z)▸hb)⟩
   rcases turn i n ys H' w' with⟨stop,q⟩|⟨go,step⟩
   .refine thn (T.done (bO X E0x scope cl N C s2 H2 fp) rfl rfl rfl hc i _ s' (bQ nl ci σ) H' _ IP (fpD fr') st' stop) λr s'' ⟨hr,I''⟩=> ?_;subst hr;have eD2:=(I''.pin (D,_) (List.mem_append_right _ List.mem_cons_self)).1;have J1:Inv (bO X E0x scope cl N C s2 H2 fp) [] (bQ nl ci σ) (upd H' D (.lst ys)) s'' :=
     (I''.pins_of (pins':=[]) λp hp=>by cases hp).track hD' eD2 rv hz (by show s2.heap.objs.size<=D;rw[hDe];exact Nat.le_refl _) hDL hDX λp hp=>by cases hp
    have K1:Inv X pins σ (upd H' D (.lst ys)) s'':=vB I2 f2 (ZT J1);obtain⟨mC,nsC,_⟩:=J1.loc;obtain⟨oC,es,ep,hoC,hdC,rC⟩:=id nsC;refine hfin D C s'' H' ys oC mC hD' (K1.pins_of λp hp=> ?_) nsC (by rw[hDe];exact hCle) q;rcases List.mem_append.mp hp with hp|hp
    .exact K1.pin p (List.mem_append_right _ hp)
    .obtain rfl:p=(C,oC):=by simpa using hp
     refine⟨hoC,J1.free,Nat.ne_of_gt (Nat.lt_of_lt_of_le I2.lt (by rw[hDe];exact hCle)),I2.nofs (by rw[hDe];exact hCle),λv z=> ?_⟩;rw[hdC]at z;cases z
   .refine thn (T.item (bO X E0x scope cl N C s2 H2 fp) rfl rfl rfl hc i _ s' (bQ nl ci σ) H' _ IP (fpD fr') st' go) λr s4 ⟨u,hr,h4⟩=> ?_;subst hr;refine thn h4 λ_ s5 ⟨x,H5,I5,r5,y5,st5,fr5⟩=> ?_;have I5':=I5.pinned (fpD fr5) (T.obj _ _ st5);refine wpAny_mono (hg C s2 H2 fp _ s5 (bQ nl ci σ) H5 x u _ I5' r5 (step x H5 y5)) (λ_ s6 ⟨σ6,H6,I6,⟨hl6,hk6⟩,q6⟩=> ?_) λe s' ⟨pB,σB,H1,s1,J,hx⟩=>hxn D C pB σB H1 s1 e s' (by rw[hDe];exact hCle) J hx;refine wpAny_mono (hi C s2 H2 fp _ s6 σ6 H6 _ I6 q6) (λb s7 ⟨H7,I7,q7⟩=> ?_) λe s' ⟨pB,σB,H1,s1,J,hx⟩=>hxn D C pB σB H1 s1 e s' (by rw[hDe];exact hCle) J hx;have pinD:∀{pp:List (Addr×Obj)}{σx:St}{Hx:Hp}{sx:Shared},Inv (bO X E0x scope cl N C s2 H2 fp) ([(D,({ cls:= .type "list",data:= .seq its.toArray k }:Obj))]++gE fp s5.heap) σx Hx sx →
      sx.heap.get? D=some { cls:= .type "list",data:= .seq its.toArray k }/\Hx D=none/\tn (i+1) sx.heap/\(∀b∈fp,Hx b=none):=λ{pp σx Hx sx} Ix=>by
     refine⟨(Ix.pin (D,_) (List.mem_append_right _ (List.mem_append_left _ List.mem_cons_self))).1,(Ix.pin (D,_) (List.mem_append_right _ (List.mem_append_left _ List.mem_cons_self))).2.1,T.keep _ _ _ st5 λb hb o e=>(Ix.pin (b,o) (List.mem_append_right _ (List.mem_append_right _ (eZ hb e)))).1,λb hb=> ?_⟩;obtain⟨o,e,d⟩:=T.obj _ _ st5 b hb;exact(Ix.pin (b,o) (List.mem_append_right _ (List.mem_append_right _ (eZ hb e)))).2.1
    cases b with
    | false =>
     rw[if_neg Bool.false_ne_true]at q7 ⊢;obtain⟨m',hm',w7⟩:=q7;obtain⟨e7,n7,st7,fr7⟩:=pinD (pp:=[]) I7;exact⟨m',hm',i+1,ys,its,k,H7,w7,(I7.pins_of (pins':=[]) λp hp=>by cases hp).weak hl6.symm hk6,st7,fr7,n7,e7,rv,hz⟩
    | true =>
     rw[if_pos rfl]at q7 ⊢;refine wpAny_mono (he C s2 H2 fp _ s7 σ6 H7 _ I7 q7) (λy' s8 ⟨y,H8,I8,r8,hlt,m',hm',w8⟩=> ?_) λe s' ⟨pB,σB,H1,s1,J,hx⟩=>hxn D C pB σB H1 s1 e s' (by rw[hDe];exact hCle) J hx;obtain⟨e8,n8,st8,fr8⟩:=pinD (pp:=[]) I8;have I8f:Inv (bO X E0x scope cl N C s2 H2 fp) (gE fp s5.heap) σ6 H8 s8:=I8.pins_of λp hp=>I8.pin p (List.mem_append_right _ (List.mem_append_right _ hp));have I8t:=I8f.track n8 e8 rv hz (by show s2.heap.objs.size<=D;rw[hDe];exact Nat.le_refl _) hDL hDX λp hp=>by
      have hp':p∈gE fp s5.heap:=by simpa [bO,a8] using hp
      exact λz=>hDfp (z▸(vI hp').1)
     refine wpAny_mono (fA (X:=bO X E0x scope cl N C s2 H2 fp) (gE fp s5.heap) s8 σ6 _ (.ref D) [y] (.ref D) [y'] (λ_ H9=>H9=upd H8 D (.lst (ys++[y]))) I8t rfl (.cons r8 .nil)
      ⟨D,ys,y,rfl,rfl,aU,hlt,NC⟩) (λ_ s9 ⟨_,H9,I9,_,e9⟩=> ?_) λe s' ⟨pB,σB,H1,s1,J,hx⟩=>hxn D C pB σB H1 s1 e s' (by rw[hDe];exact hCle) J hx
     subst e9;obtain⟨hz9,its9,k9,rv9,e9⟩:=I9.hok D _ aU;have I9u:=I9.untrack n8;refine⟨m',hm',i+1,ys++[y],its9,k9,H8,w8,(I9u.pins_of (pins':=[]) λp hp=>by cases hp).weak hl6.symm hk6,?_,fr8,n8,e9,rv9,hz9⟩;exact T.keep _ _ _ st5 λb hb o e=>(I9u.pin (b,o) (List.mem_append_right _ (eZ hb e))).1
  .exact⟨0,[],[],0,H2,w0,I4,T.keep _ _ _ st2 λb hb o e=>old b o e,λb hb=>(f2 b hb).1,I2.hok.fresh (by rw[hDe];exact Nat.le_refl _),hacc,.nil,Nat.zero_le _⟩
 exact⟨rfl,codeAny_compStart_list (loop _ rfl) (T.self _ 0 _ _ _ (T.keep _ _ _ st2 λb hb o e=>old b o e) (loop _ rfl))⟩
end
def rR (M:Model)(A:Around)(E:Value->Shared->Prop)(use:Option (Value->Sem Unit))(Q:Value->Shared->Prop)(F:Option Addr)(acc:Value)(C:Addr)(r:Result)(s':Shared):Prop :=
 match r,use with
 | .ok _,none=>∃m,s'.heap.Ns C m/\∀h',Heap.SameBut C s'.heap h'->Q acc { s' with heap:=h' }
 | .ok _,some u=>wpAny M A (u acc) (λ_ s''=>∃m,s''.heap.Ns C m/\∀h',Heap.SameBut C s''.heap h'->Q .none { s'' with heap:=h' }) E s'
 | .error x,_=>∃m,s'.heap.Ns C m/\∀h',Heap.SameBut C s'.heap h'->∀cenv:Env,cenv.frame=F->wpAny M A (passOn "comprehension.variables-let-go" x cenv:Sem Value) (λ_ _=>False) E { s' with heap:=h' }
variable {use:Option (Value->Sem Unit)}{env:Env}
section
variable {M:Model}
theorem BE {newAcc first:Sem Value}{g:Comprehension}{gs:List Comprehension}
  (hcl:clausesOf e=g::gs)(hs:∀x,foldedSetIterable g.iter env x=pure x)(hclos:closureFor scope env=pure cl)(hkind:scope.kind= .function)(hnames:∀x∈scope.names,x.2= .local->scope.names.lookup x.1=some .local)
  (h:wpAny M A first (λx s1=>wpAny M A (pyIter x) (λit s2=>wpAny M A newAcc (λacc s3=>wpAny M A (newFunctionEnv scope env.globals cl [] env.qual none .none (some env)) (λcenv s4=>cenv.frame=env.frame ∧
    codeAny M A (.compStart e 0 it acc { cenv with scope:=relabel scope env }) (rR M A E use Q env.frame acc cenv.locals) s4) E s3) E s2) E s1) E s) :
  wpAny M A (comprehension e scope env pos newAcc false first use) Q E s:=by
 unfold comprehension;rw[hclos,hcl];refine wpAny_bind (wpAny_mono h (λx s1 h1=>wpAny_bind (wpAny_standAt (wpAny_bind (wpAny_of_eq (hs x) (wpAny_bind (wpAny_holding (wpAny_mono h1 (λit s2 h2 =>
  wpAny_standIf (wpAny_bind (wpAny_mono h2 (λacc s3 h3=>wpAny_bind (wpAny_pure (wpAny_bind (wpAny_mono h3 (λcenv s4 ⟨hfr,h4⟩=> ?_) λ_ _ h'=>h')))) λ_ _ h'=>h'))) λ_ _ h'=>h'))))))) λ_ _ h'=>h')
 dsimp only
 have hv:∀x∈(scope.names.filter λx=>(x.2== .local||x.2== .cell)&&x.1 !=(".0" :Str)).reverse,x.2= .local->Env.kindOf { cenv with scope:=relabel scope env } x.1=some .local:=λx hx hl=>lookup_relabel_local (hnames x (List.mem_filter.mp (List.mem_reverse.mp hx)).1 hl);have hv2:∀x∈(scope.names.filter λx=>(x.2== .local||x.2== .cell)&&x.1 !=(".0" :Str)).reverse.drop 1++(scope.names.filter λx=>(x.2== .local||x.2== .cell)&&x.1 !=(".0" :Str)).reverse.take 1,x.2= .local->Env.kindOf { cenv with scope:=relabel scope env } x.1=some .local:=λx hx hl=>by
  rcases List.mem_append.mp hx with z|z
  .exact hv x (List.mem_of_mem_drop z) hl
  .exact hv x (List.mem_of_mem_take z) hl
 refine wpAny_holding (wpAny_bind (wpAny_attempt (wpAny_holding (wpAny_run (codeAny_mono h4 λr s' hr=> ?_)))));cases r with
 | ok f =>
  cases use with
  | none =>
   obtain⟨m,hn,hr⟩:=hr;exact wpAny_bind (wpAny_holding (wpAny_comp_letGo (cenv:={ cenv with scope:=relabel scope env }) hkind _ s' m hv hn λh' m' _ hs'=>wpAny_pure (hr h' hs')))
  | some u =>
   refine wpAny_bind (wpAny_rule (wpAny_bind (wpAny_holding (wpAny_mono hr (λ_ s'' hr'=> ?_) λ_ _ h'=>h'))));obtain⟨m,hn,hr'⟩:=hr';exact wpAny_bind (wpAny_comp_letGo (cenv:={ cenv with scope:=relabel scope env }) hkind _ s'' m hv2 hn λh' m' _ hs'=>wpAny_pure (hr' h' hs'))
 | error x =>
  have hr2:∃m,s'.heap.Ns cenv.locals m/\∀h',Heap.SameBut cenv.locals s'.heap h'->∀cenv':Env,cenv'.frame=env.frame->wpAny M A (passOn "comprehension.variables-let-go" x cenv':Sem Value) (λ_ _=>False) E { s' with heap:=h' }:=by cases use<;>exact hr
  obtain⟨m,hn,hr⟩:=hr2;exact wpAny_bind (wpAny_holding (wpAny_comp_letGo (cenv:={ cenv with scope:=relabel scope env }) hkind _ s' m hv hn λh' m' _ hs'=>wpAny_mono (hr h' hs' _ hfr) (λ_ _ f=>f.elim) λ_ _ y=>y))
end
section
variable {h2 B:Heap}
theorem VF (I:Inv X pins σ H s)(hex:X.ex=[])(st:B.StaysIn h2)(sb:B.StaysIn s.heap)(up:∀b∈frs X.stack,∀o,s.heap.get? b=some o->(∀vs,o.data≠ .fields vs)->∃sl,h2.get? b=some { o with slots:=sl })(cov:∀b,(H b≠none∨∃o,X.s₀.heap.get? b=some o)->b∉frs X.stack->∃o,B.get? b=some o)(hst:X.stack=X.env::X.outer)(hf:X.env.frame=some X.env.locals):
  Un X.fs [] X.H₀ H X.s₀.heap h2/\HOk X.prog X.w H h2:=by
 have hfr:∀b,b∈frs X.stack->b=X.env.locals∨b∈X.fs:=λb hb=>List.mem_cons.mp (I.stkSub b hb);have hfs:∀b,b∈X.fs->b∈frs X.stack:=λb hb=>by
  rw[hst];unfold frs;rw[List.filterMap_cons,hf];exact List.mem_cons_of_mem _ hb
 have nloc:∀b o,X.s₀.heap.get? b=some o->b≠X.env.locals:=λb o q z=>by
  have e1:=Nat.lt_of_lt_of_le (Heap.lt_size q) I.ok.above;rw[z]at e1;exact Nat.lt_irrefl _ e1
 have same:∀b o,(H b≠none∨∃o,X.s₀.heap.get? b=some o)->b∉frs X.stack->s.heap.get? b=some o->h2.get? b=some o:=λb o hc hb q=>by
  obtain⟨o',e⟩:=cov b hc hb;have e1:=sb b o' e;rw[q]at e1;cases e1;exact st b _ e
 have ub:=I.base;rw[hex]at ub;refine⟨⟨λb o q n hb _=> ?_,λb o q n hb _=> ?_,λb o q n _=>ub.free b o q n (by simp),λb o q _=> ?_,ub.tups,ub.frzs,ub.tbls⟩,λb u e=> ?_⟩
 .have q1:=ub.keep b o q n hb (by simp);exact same b o (.inr ⟨o,q⟩) (λz=>(hfr b z).elim (nloc b o q) hb) q1
 .obtain⟨sl,q1⟩:=ub.slot b o q n hb (by simp);obtain⟨_,o',ho',hd⟩:=I.funs.mem hb;have hd1:∀vs,({ o with slots:=sl }:Obj).data≠ .fields vs:=λvs z=>by
   rw[q1]at ho';cases ho';exact hd vs z
  obtain⟨sl2,q2⟩:=up b (hfs b hb) _ q1 hd1;exact⟨sl2,q2⟩
 .obtain⟨o1,q1⟩:=ub.there b o q (by simp)
  by_cases hb:b∈frs X.stack
  .obtain⟨_,o',ho',hd⟩:=I.stack.mem hb;rw[q1]at ho';cases ho';obtain⟨sl2,q2⟩:=up b hb _ q1 hd;exact⟨_,q2⟩
  .exact⟨o1,same b o1 (.inr ⟨o,q⟩) hb q1⟩
 .refine(I.hok b u e).stay (λc v hc q=> ?_) (λ_ q=>q) λ_ _ q=>q;have hn:H c≠none:=by
   rcases hc with z|z
   .rw[z,e];simp
   .rw[z];simp
  exact same c v (.inl hn) (λz=>hn (I.stkFree c z)) q
end
def wU (X:Cx)(E:XK):Prop:=∀(pins:List (Addr×Obj)) (σ:St) (H':Hp) (s':Shared) (h3:Heap) (ea:Addr) (cls:Value) (dd:Option Addr) (a0:Value) (B:Heap),Inv X pins σ H' s'->H' ea=none->X.s₀.heap.get? ea=none->B.StaysIn s'.heap->B.StaysIn h3->B.get? ea=none->h3.FunFrames B X.stack →
 GR h3 B ea cls dd (a0,.none) (rawInt X.env.locals)->(∀b∈frs X.stack,∀o,s'.heap.get? b=some o->(∀vs,o.data≠ .fields vs)->∃sl,h3.get? b=some { o with slots:=sl })->(∀b,(H' b≠none∨∃o,X.s₀.heap.get? b=some o)->b∉frs X.stack->∃o,B.get? b=some o)->E cls dd H'->X.xe (.ref ea) { s' with heap:=h3 }
theorem GY {f:Addr}{E:XK}:
  wU (b7 (CXE P w) P w K mg base N qual scope f cd A outer s₀ H₀ E) E:=by
 intro pins σ H' s' h3 ea cls dd a0 B I hn new sb st nb ff tr up cov q;show wpAny _ _ (leaving _ _) _ _ _;obtain⟨ob,fv,tb,tbo,tv,go,ec,ed,h0,hdt,h1,nT,tne,gT,dT,hm⟩:=id tr;unfold leaving noteFrame;simp only[show (envOfC qual scope s₀.heap.objs.size f cd).frame=some s₀.heap.objs.size from rfl];refine wpAny_bind (wpAny_bind (wpAny_field go hdt h1 ?_));rw[if_pos (show (Value.ref tb !=Value.none)=true from by simp)];refine wpAny_bind (wpAny_field gT dT hm ?_);refine wpAny_ite_split (λ_=> ?_) (λz=>absurd (show (rawInt (s₀.heap.objs.size:Int)==rawInt (s₀.heap.objs.size:Int))=true from beq_self_eq_true _) z);refine wpAny_pure (p7 (s:={ s' with heap:=h3 }) st nb ff tr λh4 fl up4=> ?_);obtain⟨f1,f2,⟨_,_,f3⟩,f4⟩:=fl;obtain⟨un2,hok2⟩:=VF (B:=B) (h2:=h4) I rfl f1 sb (λb hb o e hd=>by
  obtain⟨sl,e3⟩:=up b hb o e hd;obtain⟨sl2,e4⟩:=up4 b _ e3 hd;exact⟨sl2,e4⟩) cov rfl rfl
 refine⟨ea,cls,dd,a0,H',B,rfl,I.os,I.bare,un2,hok2,hn,new,⟨f1,f2,f3,f4⟩,λb hb hs=>cov b hb λz=> ?_,q⟩;rcases List.mem_cons.mp (I.stkSub b z) with e|hb'
 .rcases hb with hb|⟨o,e2⟩
  .exact hb (by rw[e];exact I.free)
  .have e1:=Nat.lt_of_lt_of_le (Heap.lt_size e2) I.ok.above;rw[e]at e1;exact Nat.lt_irrefl _ e1
 .exact hs hb'
theorem B1 {B B':Heap}(bn:∀b,B.get? b=none->B'.get? b=none):∀{l:List Env},(∀b∈frs l,∀o,h.get? b=some o->(∀vs,o.data≠ .fields vs)->∃o',h'.get? b=some o'/\o'.data=o.data)->h.FunFrames B l->h'.FunFrames B' l
 | [],_,_=>trivial
 | env::l,k,⟨h1,⟨L,o,e1,e2,e3,e4⟩,h3⟩=>by
  have hm:∀b,b∈frs l->b∈frs (env::l):=λb hb=>by unfold frs;rw[List.filterMap_cons,e1];exact List.mem_cons_of_mem _ hb
  obtain⟨o',e5,e6⟩:=k L (by unfold frs;rw[List.filterMap_cons,e1];exact List.mem_cons_self) o e3 e4;exact⟨h1,⟨L,o',e1,bn L e2,e5,λvs z=>e4 vs (by rw[←e6];exact z)⟩,B1 bn (λb hb=>k b (hm b hb)) h3⟩
theorem JE {E:XK}{pB:List (Addr×Obj)}{σB:St}{H1:Hp}{s1:Shared}{e acc:Value}
  (hst:X.stack=X.env::X.outer)(hf:X.env.frame=some X.env.locals)(hex:X.ex=[])(pf:wU X E)(I2:Inv X pins σ H2 s2)(f2:∀b∈fp,gM X pins H2 b)(hC:s2.heap.objs.size<=C)(J:Inv (a8 X scope cl N C s2 H2 fp) pB σB H1 s1)(h:CXE X.prog X.w X.stack H1 s1 E e s') :
  notedBy (model X.prog X.w) X.A (compEnvC scope cl C X.env) (λe s''=>rR (model X.prog X.w) X.A X.xe use Q X.env.frame acc C (.error e) s'') e s':=by
 obtain⟨ea,cls,dd,a0,H',B,rfl,os,bare,un,hok,hn,new,fl,cov,q⟩:=h;have K1:=vB I2 f2 J;have K2:=K1.call' (ch:=[]) os un hok bare (λb z=>absurd z (by simp));obtain⟨mC,nsC,_⟩:=J.loc;obtain⟨oC,es,ep,hoC,hdC,rC⟩:=id nsC;have hoC:s1.heap.get? C=some oC:=hoC;have hCf:C∉frs X.stack:=λz=>by
  rcases List.mem_cons.mp (I2.stkSub C z) with q|q
  .have:=I2.lt;rw[←q]at this;exact Nat.lt_irrefl _ (Nat.lt_of_lt_of_le this hC)
  .exact I2.nofs hC q
 have hC1:H1 C=none:=J.free;have oC2:s'.heap.get? C=some oC:=un.keep C oC hoC hC1 hCf (by simp);have hC2:H' C=none:=un.free C oC hoC hC1 (by simp);obtain⟨oB,bC⟩:=cov C (.inr ⟨oC,hoC⟩) hCf;obtain rfl:oB=oC:=by
  have:=fl.1 C oB bC;rw[oC2]at this;exact(Option.some.inj this).symm
 have eaC:ea≠C:=λz=>by rw[z]at new;rw[hoC]at new;cases new
 have hfrA:X.A.frames=some (X.env::X.outer):=by rw[I2.ok.frames,hst]
 have fl':=fl;rw[hst]at fl';show wpAny _ X.A (noteFrame (.ref ea) (compEnvC scope cl C X.env)) _ _ s';rw[show noteFrame (.ref ea) (compEnvC scope cl C X.env)=noteFrame (.ref ea) X.env from rfl];refine rT hfrA hf fl' λh1 held=> ?_;obtain⟨g1,g2,g3,g4⟩:=held;have oC3:=g1 C oB bC;refine⟨mC,⟨oB,es,ep,oC3,hdC,rC⟩,λh2 sb cenv hfc=> ?_⟩;obtain⟨ob,fv,tb,tbo,tv,go,ec,ed,h0,hdt,hh1,nT,tne,gT,dT,hm⟩:=g3;have tbC:tb≠C:=λz=>by rw[z,bC]at nT;cases nT
 have go2:h2.get? ea=some ob:=(sb.2 ea eaC).trans go;have gT2:h2.get? tb=some tbo:=(sb.2 tb tbC).trans gT;have z3:=(Array.getElem?_eq_some_iff.mp hm).1;unfold PySem.passOn setFlight;refine wpAny_bind (wpAny_field go2 hdt hh1 ?_);rw[if_neg (show ¬(Value.ref tb==Value.none)=true from Bool.false_ne_true)];show wpAny _ X.A ((field (.ref ea) 1 >>= λtb=>if (tb !=Value.none)=true then setField tb 3 (cenv.frame.elim Value.none λf=>rawInt f) else pure ()) >>= λ_=>throw (Value.ref ea)) _ _ _;refine wpAny_bind (wpAny_bind (wpAny_field go2 hdt hh1 ?_));rw[if_pos (show (Value.ref tb !=Value.none)=true from by simp),hfc,hf];refine wpAny_setField gT2 dT z3 (wpAny_throw ?_);have oth:∀b,b≠tb->(h2.update tb (Obj.mapFields (·.setIfInBounds 3 (rawInt X.env.locals)))).get? b=h2.get? b:=λb hb=>Heap.get?_update_other _ _ (Ne.symm hb);have gT3:=Heap.get?_update_self (Obj.mapFields (·.setIfInBounds 3 (rawInt X.env.locals))) gT2 (Obj.isFreed_of_fields (Obj.data_mapFields dT _));have dT3:=Obj.data_mapFields dT (·.setIfInBounds 3 (rawInt X.env.locals));show X.xe (.ref ea) { s' with heap:=h2.update tb (Obj.mapFields (·.setIfInBounds 3 (rawInt X.env.locals))) };generalize h2.update tb (Obj.mapFields (·.setIfInBounds 3 (rawInt X.env.locals)))=h3 at oth gT3 ⊢;have there:∀b o,X.s₀.heap.get? b=some o->∃o',s1.heap.get? b=some o':=λb o e=>K1.base.there b o e (by rw[hex];simp);have nbC:∀b o,(hideAll B [C]).get? b=some o->b≠C/\B.get? b=some o:=λb o e=>⟨λz=>(by rw[z,hideAll_none [C] List.mem_cons_self]at e;cases e),of_hideAll _ e⟩
 have bn:∀b,B.get? b=none->(hideAll B [C]).get? b=none:=λb e=>by
  cases e2:(hideAll B [C]).get? b with
  | none=>rfl
  | some o=>rw[(nbC b o e2).2]at e;cases e
 have frC:∀b∈frs X.stack,b≠C:=λb hb z=>hCf (z▸hb);have norec:∀b o,h1.get? b=some o->(∀vs,o.data≠ .fields vs)->b≠tb:=λb o q hnf z=>by
  rw[z,gT]at q;cases q;exact hnf tv dT
 refine pf pins σ H' s' h3 ea cls dd a0 (hideAll B [C]) K2 hn ?_ (λb o e=>fl.1 b o (nbC b o e).2) (λb o e=> ?_) (bn ea fl.2.1) ?_ ?_ (λb hb o e hd=> ?_) (λb hb hs=> ?_) q
 .cases e:X.s₀.heap.get? ea with
  | none=>rfl
  | some o =>
   obtain⟨o',e'⟩:=there ea o e;rw[new]at e';cases e'
 .obtain⟨n1,e2⟩:=nbC b o e;exact(oth b λz=>by rw[z,nT]at e2;cases e2).trans ((sb.2 b n1).trans (g1 b o e2))
 .rw[hst];refine B1 bn (λb hb o e hd=> ?_) g2;have hb':b∈frs X.stack:=by rw[hst];exact hb
  exact⟨o,(oth b (norec b o e hd)).trans ((sb.2 b (frC b hb')).trans e),rfl⟩
 .exact⟨ob,fv,tb,_,_,(oth ea (Ne.symm tne)).trans go2,ec,ed,h0,hdt,hh1,bn tb nT,tne,gT3,dT3,by simp[z3]⟩
 .obtain⟨sl,e1⟩:=g4 b o e hd;exact⟨sl,(oth b (norec b _ e1 hd)).trans ((sb.2 b (frC b hb)).trans e1)⟩
 .obtain⟨o,e⟩:=cov b (hb.imp id λ⟨o,e⟩=>there b o e) hs;refine⟨o,hideAll_get _ e λz=> ?_⟩;have z:=List.mem_singleton.mp z;rcases hb with hb|⟨o',e'⟩
  .exact hb (by rw[z];exact hC2)
  .have:=Heap.lt_size e';rw[z]at this;exact Nat.lt_irrefl _ (Nat.lt_of_lt_of_le this (Nat.le_trans I2.sz hC))
section
variable {g:TG}
theorem IB (pf:wU X E0x)(hc:X.calm=true)(B:Blk X scope cl N nl ci)(hp:PI X tg iter wi)(hg:∀C s0 H0 fp,PG (bO X E0x scope cl N C s0 H0 fp) tg g)(hi:∀C s0 H0 fp,PF (bO X E0x scope cl N C s0 H0 fp) ifs ti)
  (he:∀C s0 H0 fp,PE (bO X E0x scope cl N C s0 H0 fp) elt te)(hs:∀x,foldedSetIterable iter X.env x=pure x:=by intro _;rfl)(hst:X.stack=X.env::X.outer:=by rfl)(hf0:X.env.frame=some X.env.locals:=by rfl)(hex:X.ex=[]:=by rfl):PE X (.ListComp elt [⟨tg,iter,ifs,0⟩] scope pos) (BR wi nl ci g ti te):=by
 intro pins s σ H Q I h;rw[eval_ListComp];refine BE (use:=none) rfl hs B.clos B.kind B.names (thn (hp pins s σ H _ I h) λv s1 h1=>thn h1 λitv s2 h2=> ?_);obtain⟨it,fp,tn,J,H2,e,I2,T,st2,f2,hW⟩:=h2;subst e;refine AQ (RR:=λacc C=>rR (model X.prog X.w) X.A X.xe none (EP X pins σ Q) X.env.frame acc C) hc B hg hi he I2 T st2 f2 hW (λD C pB σB H1 s1 e s2 hC J h=>JE hst hf0 hex pf I2 f2 hC J h) ?_;intro D C s' H' ys oC m hD K1 hn hC q;refine⟨m,hn,λh' hs'=> ?_⟩;have hL:C≠X.env.locals:=(K1.pin (C,oC) (by simp)).2.2.1;have I9:Inv X pins σ (upd H' D (.lst ys)) { s' with heap:=h',toks:=s'.toks }:=K1.unpinned.turned (t':=s'.toks) (it:=C) (λb o hb e=>hs'.extBut b o hb e) (K1.pin (C,oC) (by simp)).2.1 hL (.inr (Nat.le_trans I2.sz hC)) (λx c e z=> ?_) λp hp z=> ?_
 .exact⟨.ref D,_,I9,rfl,q D hD⟩
 .obtain⟨v,o,ho,_⟩:=I2.cell x c e;exact absurd (Nat.lt_of_lt_of_le (Heap.lt_size ho) (z▸hC)) (Nat.lt_irrefl _)
 .exact absurd (Nat.lt_of_lt_of_le (Heap.lt_size (I2.pin p hp).1) (z▸hC)) (Nat.lt_irrefl _)
theorem xR {i:Nat}{spos:Pos}(hN:X.N.Nodup)(hix:X.N[i]? =some x)(hx:Loc X.env.scope x)(pf:wU X E0x)(hc:X.calm=true)(B:Blk X scope cl N nl ci)(hp:PI X tg iter wi)(hg:∀C s0 H0 fp,PG (bO X E0x scope cl N C s0 H0 fp) tg g)
  (hi:∀C s0 H0 fp,PF (bO X E0x scope cl N C s0 H0 fp) ifs ti)(he:∀C s0 H0 fp,PE (bO X E0x scope cl N C s0 H0 fp) elt te)
  (hsw:swapsWith (.ListComp elt [⟨tg,iter,ifs,0⟩] scope pos) (some (.Name x pos')) spos.line X.env=pure true:=by rfl)(hs:∀x,foldedSetIterable iter X.env x=pure x:=by intro _;rfl)(hst:X.stack=X.env::X.outer:=by rfl)(hf0:X.env.frame=some X.env.locals:=by rfl)(hex:X.ex=[]:=by rfl)
  (hf:X.fn x=true∨X.env.scope.names.lookup x=some .local:=by first|exact .inl rfl|exact .inr rfl|assumption) :
  PS X (.Assign [.Name x pos'] (.ListComp elt [⟨tg,iter,ifs,0⟩] scope pos) spos) (P8 (BR wi nl ci g ti te) (cN i)):=by
 intro pins s σ H D I h;rw[exec_Assign_Name_used _ _ _ _ hsw];refine wpAny_bind (wpAny_standAt (wpAny_bind ?_));show wpAny _ X.A (do let _ ←comprehension (.ListComp elt [⟨tg,iter,ifs,0⟩] scope pos) scope X.env _ (newList []) false (eval iter X.env) (some (assign (.Name x pos') X.env))) _ _ s;refine wpAny_bind (wpAny_mono (BE (use:=some (assign (.Name x pos') X.env)) (Q:=λ_ s'=>SP X pins D .next s') rfl hs B.clos B.kind B.names
  (thn (hp pins s σ H _ I h) λv s1 h1=>thn h1 λitv s2 h2=> ?_)) (λ_ s' hq=>wpAny_pure (wpAny_pure hq)) λ_ _ e=>e)
 obtain⟨it,fp,tn,J,H2,e,I2,T,st2,f2,hW⟩:=h2;subst e;refine AQ (RR:=λacc C=>rR (model X.prog X.w) X.A X.xe (some (assign (.Name x pos') X.env)) (λ_ s'=>SP X pins D .next s') X.env.frame acc C) hc B hg hi he I2 T st2 f2 hW (λD C pB σB H1 s1 e s2 hC J h=>JE hst hf0 hex pf I2 f2 hC J h) ?_;intro Dd C s' H' ys oC m hD K1 hn hC q;show wpAny _ X.A (assign (.Name x pos') X.env (.ref Dd)) _ _ _;refine thn (aZ (i:=i) hN hix hx hf (pins++[(C,oC)]) s' σ (upd H' Dd (.lst ys)) (.ref Dd) (.ref Dd) (λσ' H''=>D.nx σ' H'') K1 rfl (q Dd hD)) λ_ s'' ⟨σ',H'',K2,q2⟩=> ?_;have eC:=K2.pin (C,oC) (by simp);obtain⟨oC',es,ep,hoC,hdC,rC⟩:=id hn;have eo:oC'=oC:=by
  have:=(K1.pin (C,oC) (by simp)).1;rw[hoC]at this;exact Option.some.inj this
 subst eo;refine⟨m,⟨oC',es,ep,eC.1,hdC,rC⟩,λh' hs'=> ?_⟩;have hL:C≠X.env.locals:=eC.2.2.1;have I9:Inv X pins σ' H'' { s'' with heap:=h',toks:=s''.toks }:=K2.unpinned.turned (t':=s''.toks) (it:=C) (λb o hb e=>hs'.extBut b o hb e) eC.2.1 hL (.inr (Nat.le_trans I2.sz hC)) (λx c e z=> ?_) λp hp z=> ?_
 .exact⟨σ',H'',I9,q2⟩
 .obtain⟨v,o,ho,_⟩:=I2.cell x c e;exact absurd (Nat.lt_of_lt_of_le (Heap.lt_size ho) (z▸hC)) (Nat.lt_irrefl _)
 .exact absurd (Nat.lt_of_lt_of_le (Heap.lt_size (I2.pin p hp).1) (z▸hC)) (Nat.lt_irrefl _)
end
open PySem.Builtin PySem.Builtin.Str
theorem E5:∀l:List (Str×Tok),Vals ((l.map (·.1)).map V.str) (strValues l)
 | []=> .nil
 | (x,t)::l=> .cons ⟨t,rfl⟩ (E5 l)
def JX:V->List V->Hp->VK->Prop:=λx vs H Q=>∃(z:Str) (c:Nat),x= .str z/\vs=[.str ⟨#[c]⟩]/\z.length<=1000000/\∀p,H p=none->Q (.ref p) (upd H p (.lst ((Txt.split z ⟨#[c]⟩).map V.str)))
theorem JS:MtR X "str.split" JX:=by
 intro pins s σ H x xs v us Q I rx rs h;obtain⟨z,c,rfl,rfl,hz,q⟩:=h;obtain⟨t,rfl⟩:=rx;obtain⟨u,rfl,u',rfl⟩:=iJ rs;have hn:(partsBetween z (occurrences z ⟨#[c]⟩ 0 z.length (z.length+1)) (⟨#[c]⟩:Str).length).length<=z.length+2:=by
  unfold partsBetween;rw[List.length_map,List.length_zip,List.length_cons,List.length_map,List.length_append];have:=StrLaws.occ_length_le z ⟨#[c]⟩ 0 z.length (z.length+1);simp only[List.length_cons,List.length_nil]
  lia
 have hzl:z.length<=sizeLine:=by rw[sizeLine_eq];lia
 have done:∀(l:List (Str×Tok)) (tk:Nat),l.map (·.1)=Txt.split z ⟨#[c]⟩->l.length<=z.length+2->EP X pins σ Q (.ref s.heap.objs.size) { s with toks:=tk,heap:=s.heap.push { cls:= .type "list",data:= .seq (strValues l).toArray } }:=λl tk e hl=>by
  refine⟨.ref s.heap.objs.size,_,I.laid (t':=tk) (λ_ _ q=>Heap.get?_push_of_some _ q) (Nat.le_refl _) (show ObjOk X.prog X.w _ _ _ (.lst ((Txt.split z ⟨#[c]⟩).map V.str)) from⟨?_,strValues l,0,?_,Heap.get?_push_size _ rfl⟩),rfl,q _ (I.hok.fresh (Nat.le_refl _))⟩
  .rw[←e,List.length_map,List.length_map,sizeLine_eq];lia
  .rw[←e];exact E5 l
 have hT:=typeIs_str s z t;cases h1:(decide (z.length<(⟨#[c]⟩:Str).length)||decide (strKind z<strKind ⟨#[c]⟩))
 .cases hf:(occurrences z ⟨#[c]⟩ 0 z.length (z.length+1)).isEmpty
  .refine call_meetsIn PySem.F.slot_str_split hT PySem.F.entry_str_split (PySem.F.args_str_split_2 _ _) ((meets_str_split_sep z ⟨#[c]⟩ t u' h1 rfl hf hzl (by rw[sizeLine_eq];lia)).inModel _ _) ?_;show wants _ _ _ { s with toks:=_,heap:=s.heap.push { cls:= .type "list",data:= .seq (strsFrom s.toks (partsBetween z (occurrences z ⟨#[c]⟩ 0 z.length (z.length+1)) (⟨#[c]⟩:Str).length)).toArray } };rw[strsFrom_eq];refine done (numbered s.toks _) _ ((numbered_texts _ _).trans ((if_neg (ne_true_of_eq_false h1)).trans (if_neg (ne_true_of_eq_false hf))).symm) ?_;rw[←List.length_map (f:=(·.1)),numbered_texts];exact hn
  .exact call_meetsIn PySem.F.slot_str_split hT PySem.F.entry_str_split (PySem.F.args_str_split_2 _ _) ((meets_str_split_not_found z ⟨#[c]⟩ t u' h1 rfl hf).inModel _ _) (done [(z,t)] s.toks ((if_neg (ne_true_of_eq_false h1)).trans (if_pos hf)).symm (by show 1<=_;lia))
 .exact call_meetsIn PySem.F.slot_str_split hT PySem.F.entry_str_split (PySem.F.args_str_split_2 _ _) ((meets_str_split_cannot_occur z ⟨#[c]⟩ t u' h1).inModel _ _) (done [(z,t)] s.toks (if_pos h1).symm (by show 1<=_;lia))
section
variable {t:Addr}{i:Nat}{its:Array Value}
theorem aB2 {x:Value}(hit:s.heap.IsTupleIter it t i)(ht:s.heap.IsTuple t its)(hx:its[i]? =some x)(k:∀h',h'.IsTupleIter it t (i+1)->Heap.SameBut it s.heap h'->Q x { s with heap:=h' }):wpAny (model prog w) A (Builtin.SmallTypes.nextOf (.ref it)) Q E s:=by
 obtain⟨o,ho,hc,hd⟩:=id hit;obtain⟨ot,hot,_,nt,hdt⟩:=ht;unfold Builtin.SmallTypes.nextOf;refine wpAny_bind (wpAny_callSpecial?_slot (name:=Str.ofString "__next__") hit.typeIs PySem.F.slot_tuple_iterator_next (wpAny_call_entry PySem.F.slot_tuple_iterator_next hit.typeIs PySem.F.entry_tuple_iterator_next ?_ (PySem.F.args_tuple_iterator_next_1 _)));show wpAny _ _ (field (.ref it) 0 >>= _) _ _ s;refine wpAny_bind (wpAny_field ho hd (x:= .ref t) rfl (show wpAny _ _ (if (Value.ref t==Value.none)=true then _ else _) _ _ s from ?_));rw[if_neg (show ¬((Value.ref t==Value.none)=true) from Bool.false_ne_true)];show wpAny _ _ (field (.ref it) 1 >>= _) _ _ s;refine wpAny_bind (wpAny_field ho hd (x:= .int i 0) rfl (show wpAny _ _ (seqItems? (.ref t) >>= _) _ _ s from wpAny_bind (wpAny_seqItems hot hdt ?_)));simp only[Int.toNat_natCast,hx];refine wpAny_bind (wpAny_setField ho hd (by simp) (wpAny_pure ⟨x,rfl,wpAny_pure (k _ ?_ (Heap.SameBut.update ..))⟩));exact⟨_,Heap.get?_update_self _ ho (Obj.isFreed_of_fields (Obj.data_mapFields hd _)),(Obj.cls_mapFields ..).trans hc,(Obj.data_mapFields hd _).trans (by simp[rawInt])⟩
theorem aCC (hh:A.handled=none)(hit:s.heap.IsTupleIter it t i)(ht:s.heap.IsTuple t its)(hx:its[i]? =none)(k:∀h' e,Heap.ExtBut it s.heap h'->(∃o,h'.get? e=some o/\o.cls= .type "StopIteration")->E (.ref e) { s with heap:=h' }):wpAny (model prog w) A (Builtin.SmallTypes.nextOf (.ref it)) Q E s:=by
 obtain⟨o,ho,hc,hd⟩:=id hit;obtain⟨ot,hot,_,nt,hdt⟩:=ht;unfold Builtin.SmallTypes.nextOf;refine wpAny_bind (wpAny_callSpecial?_slot (name:=Str.ofString "__next__") hit.typeIs PySem.F.slot_tuple_iterator_next (wpAny_call_entry PySem.F.slot_tuple_iterator_next hit.typeIs PySem.F.entry_tuple_iterator_next ?_ (PySem.F.args_tuple_iterator_next_1 _)));show wpAny _ _ (field (.ref it) 0 >>= _) _ _ s;refine wpAny_bind (wpAny_field ho hd (x:= .ref t) rfl (show wpAny _ _ (if (Value.ref t==Value.none)=true then _ else _) _ _ s from ?_));rw[if_neg (show ¬((Value.ref t==Value.none)=true) from Bool.false_ne_true)];show wpAny _ _ (field (.ref it) 1 >>= _) _ _ s;refine wpAny_bind (wpAny_field ho hd (x:= .int i 0) rfl (show wpAny _ _ (seqItems? (.ref t) >>= _) _ _ s from wpAny_bind (wpAny_seqItems hot hdt ?_)));simp only[Int.toNat_natCast,hx];refine wpAny_bind (wpAny_rule (wpAny_bind (wpAny_setField ho hd (by simp) (show wpAny _ _ (newExc (.type "StopIteration") [] >>= _) _ _ _ from wpAny_bind ?_))));simp only[newExc,newTuple];refine wpAny_bind (wpAny_newObj_type (wpAny_bind (m:=firstArgMember _ _) (wpAny_of_eq (a:=Value.none) (by first|rfl|(simp only[firstArgMember];rfl)) (wpAny_newObj_type ?_ (by size_fits)))) (by size_fits));simp only[raiseNew];refine wpAny_bind (wpAny_handled ?_)
 first|rw[show A.in1.handled=none from hh]|rw[hh]
 refine wpAny_bind (wpAny_pure (wpAny_throw (k _ _ (((Heap.SameBut.update ..).extBut.push _).push _) ⟨_,Heap.get?_push_size _ rfl,rfl⟩)))
variable {z TI TO i1 l2:Addr}{k1 k2:Nat}{ys:Array Value}{a b:Value}
theorem aBK {x y:Value}{Q:Option Value->Shared->Prop}(D:ZipApart z TI TO i1 i2 t l2)(hz:IsZip s.heap z TI TO .none)(hTI:IsPair s.heap TI (.ref i1) (.ref i2))(hTO:IsPair s.heap TO a b)(h1:s.heap.IsTupleIter i1 t k1)(h2:s.heap.IsListIter i2 l2 k2)(hl1:s.heap.IsTuple t its)(hl2:s.heap.IsList l2 ys)(hx:its[k1]? =some x)(hy:ys[k2]? =some y)
  (k:∀h',IsZip h' z TI TO (rawInt s.heap.objs.size)->IsPair h' TO x y->h'.IsTupleIter i1 t (k1+1)->h'.IsListIter i2 l2 (k2+1)->IsPair h' s.heap.objs.size x y->h'.objs.size=s.heap.objs.size+1->(∀c o,c≠z->c≠TO->c≠i1->c≠i2->s.heap.get? c=some o->h'.get? c=some o)->Q (some (.ref s.heap.objs.size)) { s with heap:=h' }) :
  wpAny (model prog w) A (pyNext (.ref z)) Q E s:=by
 have hT:s.TypeIs (.ref z) "zip" :=⟨_,hz,rfl⟩
 unfold pyNext;refine wpAny_bind (wpAny_attempt (wpAny_callSpecial?_slot (name:=Str.ofString "__next__") hT PySem.F.slot_zip_next (wpAny_call_entry PySem.F.slot_zip_next hT PySem.F.entry_zip_next ?_ (PySem.F.args_zip_next_1 _))));show wpAny _ _ (field (.ref z) 2 >>= _) _ _ _;refine wpAny_bind (wpAny_field hz rfl (x:= .bool false) rfl (show wpAny _ _ (field (.ref z) 3 >>= _) _ _ _ from wpAny_bind (wpAny_field hz rfl (x:= .ref TI) rfl (wpAny_bind (wpAny_seqItems hTI rfl ?_)))));show wpAny _ _ (Builtin.SmallTypes.ownedTupleIsFree (.ref z) >>= _) _ _ _;refine wpAny_bind ?_;unfold Builtin.SmallTypes.ownedTupleIsFree;refine wpAny_bind (wpAny_field hz rfl (x:= .none) rfl (wpAny_pure ?_));simp only[if_true];refine wpAny_bind (wpAny_rule (wpAny_bind (wpAny_field hz rfl (x:= .ref TO) rfl (wpAny_bind (wpAny_setField_rec hz (by simp) λg1 hz1 hs1=> ?_)))))
 replace hz1:IsZip g1 z TI TO .ellipsis:=hz1
 refine wpAny_bind ?_;simp only[List.zipIdx_cons,List.zipIdx_nil,List.forIn_cons,List.forIn_nil];refine wpAny_bind (wpAny_bind (wpAny_onRaise (show wpAny _ _ (Builtin.SmallTypes.nextOf (.ref i1) >>= _) _ _ _ from wpAny_bind (aB2 (h1.extBut hs1.extBut D.i1z) (hl1.extBut hs1.extBut D.l1z) hx λg2 h12 hs2=>wpAny_pure ?_))));have hTO2:IsPair g2 TO a b:=hs2.extBut _ _ D.TOi1 (hs1.extBut _ _ D.TOz hTO);refine wpAny_bind (wpAny_seqItems hTO2 rfl (wpAny_bind (wpAny_updateSeq_pair hTO2 λg3 hTO3 hs3=> ?_)))
 replace hTO3:IsPair g3 TO x b:=hTO3
 refine wpAny_bind (wpAny_letGo (wpAny_pure (wpAny_bind (wpAny_bind (wpAny_onRaise (show wpAny _ _ (Builtin.SmallTypes.nextOf (.ref i2) >>= _) _ _ _ from ?_))))));refine wpAny_bind (wpAny_nextOf_list_item (((h2.extBut hs1.extBut D.i2z).extBut hs2.extBut D.i12.symm).extBut hs3.extBut D.TOi2.symm) (((hl2.extBut hs1.extBut D.l2z).extBut hs2.extBut D.l2i1).extBut hs3.extBut D.l2TO) hy λg4 h24 hs4=>wpAny_pure ?_);have hTO4:IsPair g4 TO x b:=hs4.extBut _ _ D.TOi2 hTO3;refine wpAny_bind (wpAny_seqItems hTO4 rfl (wpAny_bind (wpAny_updateSeq_pair hTO4 λg5 hTO5 hs5=> ?_)))
 replace hTO5:IsPair g5 TO x y:=hTO5
 refine wpAny_bind (wpAny_letGo (wpAny_pure (wpAny_pure (wpAny_bind (wpAny_seqItems hTO5 rfl (wpAny_bind (wpAny_newTuple ?_)))))));have hsz:g5.objs.size=s.heap.objs.size:=by rw[hs5.1,hs4.1,hs3.1,hs2.1,hs1.1]
 have hz5:IsZip g5 z TI TO .ellipsis:=hs5.extBut _ _ D.TOz.symm (hs4.extBut _ _ D.i2z.symm (hs3.extBut _ _ D.TOz.symm (hs2.extBut _ _ D.i1z.symm hz1)));have hk5:∀c o,c≠z->c≠TO->c≠i1->c≠i2->s.heap.get? c=some o->g5.get? c=some o:=λc o c1 c2 c3 c4 e=>hs5.extBut _ _ c2 (hs4.extBut _ _ c4 (hs3.extBut _ _ c2 (hs2.extBut _ _ c3 (hs1.extBut _ _ c1 e))));have h15:g5.IsTupleIter i1 t (k1+1):=((h12.extBut hs3.extBut D.TOi1.symm).extBut hs4.extBut D.i12).extBut hs5.extBut D.TOi1.symm;have h25:g5.IsListIter i2 l2 (k2+1):=h24.extBut hs5.extBut D.TOi2.symm;have hzlt:z<g5.objs.size:=Heap.lt_size hz5;show wpAny _ _ (Builtin.SmallTypes.ownedTupleHandOut (.ref z) (.ref g5.objs.size) >>= _) _ _ _;refine wpAny_bind ?_;unfold Builtin.SmallTypes.ownedTupleHandOut;have hz6:IsZip (g5.push { cls:= .type "tuple",data:= .seq #[x,y] }) z TI TO .ellipsis:=Heap.get?_push_of_some _ hz5;refine wpAny_bind (wpAny_setField_rec hz6 (by simp) λg7 hz7 hs7=> ?_)
 replace hz7:IsZip g7 z TI TO (rawInt g5.objs.size):=hz7
 refine wpAny_setField_rec hz7 (by simp) λg8 hz8 hs8=> ?_
 replace hz8:IsZip g8 z TI TO (rawInt g5.objs.size):=hz8
 have up:∀c o,c≠z->g5.get? c=some o->g8.get? c=some o:=λc o c1 e=>hs8.extBut _ _ c1 (hs7.extBut _ _ c1 (Heap.get?_push_of_some _ e));have hT8:IsPair g8 g5.objs.size x y:=hs8.extBut _ _ (Nat.ne_of_gt hzlt) (hs7.extBut _ _ (Nat.ne_of_gt hzlt) (Heap.get?_push_size _ rfl));have hs8':g8.objs.size=g5.objs.size+1:=by rw[hs8.1,hs7.1,Heap.size_push]
 rw[hsz]at hz8 hT8 hs8';refine wpAny_pure ⟨_,rfl,?_⟩;show wpAny _ _ (pure (some (Value.ref g5.objs.size))) _ _ _;rw[hsz];exact wpAny_pure (k g8 hz8 (up _ _ D.TOz hTO5) (h15.at λo e=>up _ o D.i1z e) (h25.at λo e=>up _ o D.i2z e) hT8 hs8' λc o c1 c2 c3 c4 e=>up c o c1 (hk5 c o c1 c2 c3 c4 e))
theorem aDZ {Q:Option Value->Shared->Prop}(hh:A.handled=none)(D:ZipApart z TI TO i1 i2 t l2)(hz:IsZip s.heap z TI TO .none)(hTI:IsPair s.heap TI (.ref i1) (.ref i2))(h1:s.heap.IsTupleIter i1 t k1)(hl1:s.heap.IsTuple t its)(hx:its[k1]? =none)
  (k:∀h',(∀c o,c≠z->c≠i1->s.heap.get? c=some o->h'.get? c=some o)->Q none { s with heap:=h' }):wpAny (model prog w) A (pyNext (.ref z)) Q E s:=by
 have hT:s.TypeIs (.ref z) "zip" :=⟨_,hz,rfl⟩
 unfold pyNext;refine wpAny_bind (wpAny_attempt (wpAny_callSpecial?_slot (name:=Str.ofString "__next__") hT PySem.F.slot_zip_next (wpAny_call_entry PySem.F.slot_zip_next hT PySem.F.entry_zip_next ?_ (PySem.F.args_zip_next_1 _))));show wpAny _ _ (field (.ref z) 2 >>= _) _ _ _;refine wpAny_bind (wpAny_field hz rfl (x:= .bool false) rfl (show wpAny _ _ (field (.ref z) 3 >>= _) _ _ _ from wpAny_bind (wpAny_field hz rfl (x:= .ref TI) rfl (wpAny_bind (wpAny_seqItems hTI rfl ?_)))));show wpAny _ _ (Builtin.SmallTypes.ownedTupleIsFree (.ref z) >>= _) _ _ _;refine wpAny_bind ?_;unfold Builtin.SmallTypes.ownedTupleIsFree;refine wpAny_bind (wpAny_field hz rfl (x:= .none) rfl (wpAny_pure ?_));simp only[if_true];refine wpAny_bind (wpAny_rule (wpAny_bind (wpAny_field hz rfl (x:= .ref TO) rfl (wpAny_bind (wpAny_setField_rec hz (by simp) λg1 hz1 hs1=> ?_)))))
 replace hz1:IsZip g1 z TI TO .ellipsis:=hz1
 refine wpAny_bind ?_;simp only[List.zipIdx_cons,List.zipIdx_nil,List.forIn_cons,List.forIn_nil];refine wpAny_bind (wpAny_bind (wpAny_onRaise (show wpAny _ _ (Builtin.SmallTypes.nextOf (.ref i1) >>= _) _ _ _ from wpAny_bind (aCC hh (h1.extBut hs1.extBut D.i1z) (hl1.extBut hs1.extBut D.l1z) hx λg2 e hs2 he=> ?_))));obtain⟨oe,hoe,hce⟩:=he;have hz2:IsZip g2 z TI TO .ellipsis:=hs2 _ _ D.i1z.symm hz1;have hez:e≠z:=λx=>by subst x;rw[hz2]at hoe;cases hoe;simp at hce
 refine wpAny_setField_rec hz2 (by simp) λg3 _ hs3=> ?_;refine wpAny_bind (wpAny_isInstance (T:= "StopIteration") (b:=true) ⟨oe,hs3.extBut _ _ hez hoe,hce⟩ isSubtype_stop ?_);exact wpAny_pure (k g3 λc o c1 c3 x=>hs3.extBut _ _ c1 (hs2 _ _ c3 (hs1.extBut _ _ c1 x)))
end
def zH1 (h:Heap)(t:Addr):Heap:=h.push { cls:= .type "tuple_iterator",data:= .fields #[.ref t,.int 0 0] }
def zH2 (h:Heap)(t l:Addr):Heap:=(zH1 h t).push { cls:= .type "list_iterator",data:= .fields #[.ref l,.int 0 0] }
def zH3 (h:Heap)(t l:Addr):Heap:=(zH2 h t l).push { cls:= .type "tuple",data:= .seq #[.ref h.objs.size,.ref (zH1 h t).objs.size] }
def zH4 (h:Heap)(t l:Addr):Heap:=(zH3 h t l).push { cls:= .type "tuple",data:= .seq #[.none,.none] }
def zH5 (h:Heap)(t l:Addr):Heap:=(zH4 h t l).push { cls:= .type "zip",data:= .fields #[.none,.bool false,.bool false,.ref (zH2 h t l).objs.size,.ref (zH3 h t l).objs.size] }
theorem aDA (t l:Addr)(xs ys:Array Value):Meets (Builtin.«zip.__new__» ⟨[.type "zip",.ref t,.ref l],[]⟩) (λ_ R s=>s.heap.IsTuple t xs/\s.heap.IsList l ys/\R (.ok (.ret (.ref (zH4 s.heap t l).objs.size))) { s with heap:=zH5 s.heap t l }) :=
 .of_wp λprog w A R s h=>by
  obtain⟨hp,g,d,tk,os⟩:=s;obtain⟨hl1,hl2,h⟩:=h;have sub0:=sub_zip;have q1:Heap.IsTuple (Shared.heap ⟨hp,g,d,tk,os⟩) t xs:=hl1;have q2:Heap.IsList (Shared.heap ⟨hp.push { cls:= .type "tuple_iterator",data:= .fields #[.ref t,.int 0 0] },g,d,tk,os⟩) l ys:=Heap.IsList.push hl2 _
  wp_walk using wpAny_pyIter_tuple q1,wpAny_pyIter_list q2
  exact⟨_,rfl,h⟩
theorem SU {t l:Addr}{xs ys:Array Value}(hl1:s.heap.IsTuple t xs)(hl2:s.heap.IsList l ys)
  (k:∀h',IsZip h' (s.heap.objs.size+4) (s.heap.objs.size+2) (s.heap.objs.size+3) .none->IsPair h' (s.heap.objs.size+2) (.ref s.heap.objs.size) (.ref (s.heap.objs.size+1))->IsPair h' (s.heap.objs.size+3) .none .none->h'.IsTupleIter s.heap.objs.size t 0->h'.IsListIter (s.heap.objs.size+1) l 0->h'.objs.size=s.heap.objs.size+5 →
   (∀c o,s.heap.get? c=some o->h'.get? c=some o)->Q (.ref (s.heap.objs.size+4)) { s with heap:=h' }):wpAny (model prog w) A (call (.type "zip") [.ref t,.ref l]) Q E s:=by
 refine callType_new PySem.F.called_zip (by decide) (PySem.F.typeCall_zip_2 _ _) (PySem.F.newCall_zip_2 _ _) (λobj=>PySem.F.args_object_init_3 obj _ _) PySem.F.entry_zip_new (aDA t l xs ys) ⟨hl1,hl2,?_⟩;have z1:(zH1 s.heap t).objs.size=s.heap.objs.size+1:=Heap.size_push ..;have z2:(zH2 s.heap t l).objs.size=s.heap.objs.size+2:=by rw[zH2,Heap.size_push,z1]
 have z3:(zH3 s.heap t l).objs.size=s.heap.objs.size+3:=by rw[zH3,Heap.size_push,z2]
 have z4:(zH4 s.heap t l).objs.size=s.heap.objs.size+4:=by rw[zH4,Heap.size_push,z3]
 have z5:(zH5 s.heap t l).objs.size=s.heap.objs.size+5:=by rw[zH5,Heap.size_push,z4]
 have g5:(zH5 s.heap t l).get? (zH4 s.heap t l).objs.size=some { cls:= .type "zip",data:= .fields #[.none,.bool false,.bool false,.ref (zH2 s.heap t l).objs.size,.ref (zH3 s.heap t l).objs.size] }:=Heap.get?_push_size _ rfl;have g4:(zH5 s.heap t l).get? (zH3 s.heap t l).objs.size=some { cls:= .type "tuple",data:= .seq #[.none,.none] }:=Heap.get?_push_of_some _ (Heap.get?_push_size _ rfl);have g3:(zH5 s.heap t l).get? (zH2 s.heap t l).objs.size=some { cls:= .type "tuple",data:= .seq #[.ref s.heap.objs.size,.ref (zH1 s.heap t).objs.size] }:=Heap.get?_push_of_some _ (Heap.get?_push_of_some _ (Heap.get?_push_size _ rfl));have g2:(zH5 s.heap t l).get? (zH1 s.heap t).objs.size=some { cls:= .type "list_iterator",data:= .fields #[.ref l,.int 0 0] }:=Heap.get?_push_of_some _ (Heap.get?_push_of_some _ (Heap.get?_push_of_some _ (Heap.get?_push_size _ rfl)));have g1:(zH5 s.heap t l).get? s.heap.objs.size=some { cls:= .type "tuple_iterator",data:= .fields #[.ref t,.int 0 0] }:=Heap.get?_push_of_some _ (Heap.get?_push_of_some _ (Heap.get?_push_of_some _ (Heap.get?_push_of_some _ (Heap.get?_push_size _ rfl))));show _/\_;rw[z2,z3,z4]at g5;rw[z1,z2]at g3;rw[z3]at g4;rw[z1]at g2;rw[z4];exact⟨⟨_,g5,rfl⟩,k _ g5 g3 g4 ⟨_,g1,rfl,rfl⟩ ⟨_,g2,rfl,rfl⟩ z5 λc o x=>Heap.get?_push_of_some _ (Heap.get?_push_of_some _ (Heap.get?_push_of_some _ (Heap.get?_push_of_some _ (Heap.get?_push_of_some _ x))))⟩
def Itz (K:W.Frag)(t a:Addr):It :=
 ⟨λi H=>∃xs ys x y,SqT K H t xs/\SqL K H a ys/\xs[i]? =some x/\ys[i]? =some y,λi H x H'=>∃q,x= .ref q/\H q=none/\∀xs ys,SqT K H t xs->SqL K H a ys->∃u v,xs[i]? =some u/\ys[i]? =some v/\H'=upd H q (.tup [u,v]),λi H=>∃xs,SqT K H t xs/\xs.length<=i⟩
theorem WU {x1:Nat}{z TI TO i1:Addr}(t a:Addr)(D:ZipApart z TI TO i1 i2 t a):
  uJ P w K (.Tuple elts x1 tpos) (Itz K t a) [z,TI,TO,i1,i2] z (λi h=>IsZip h z TI TO .none/\IsPair h TI (.ref i1) (.ref i2)/\(∃u v,IsPair h TO u v)/\h.IsTupleIter i1 t i/\h.IsListIter i2 a i) where
 mem:=by simp
 obj:=λi h st b hb=>by
  obtain⟨e1,e2,⟨_,_,e3⟩,⟨o4,e4,_,d4⟩,o5,e5,_,d5⟩:=st;simp only[List.mem_cons,List.not_mem_nil,or_false]at hb;rcases hb with rfl|rfl|rfl|rfl|rfl
  .exact⟨_,e1,λv z=>by cases z⟩
  .exact⟨_,e2,λv z=>by cases z⟩
  .exact⟨_,e3,λv z=>by cases z⟩
  .exact⟨_,e4,λv z=>by rw[d4]at z;cases z⟩
  .exact⟨_,e5,λv z=>by rw[d5]at z;cases z⟩
 keep:=λi h h' st k=>⟨k z (by simp) _ st.1,k TI (by simp) _ st.2.1,let ⟨u,v,e⟩:=st.2.2.1;⟨u,v,k TO (by simp) _ e⟩,st.2.2.2.1.at λo q=>k i1 (by simp) o q,st.2.2.2.2.at λo q=>k i2 (by simp) o q⟩
 item:=by
  intro X hP hw hK hc i pins s σ H E I hf st hg;subst hP hw hK;obtain⟨xs,ys,x,y,hq,hr,hx,hy⟩:=hg;obtain⟨st1,st2,⟨u0,v0,st3⟩,st4,st5⟩:=st;obtain⟨its,rv,p,_⟩:=I.tuple hq;obtain⟨jts,rw',pl,_⟩:=I.list hr;obtain⟨u,hu,ru⟩:=rv.get hx;obtain⟨v,hv,rv'⟩:=rw'.get hy;refine aBK D st1 st2 st3 st4 st5 (show s.heap.IsTuple t its.toArray from p) pl.isList (x:=u) (y:=v) (by simpa using hu) (by simpa using hv) λh1 a1 a2 a3 a4 a5 a6 a7=> ?_;refine⟨_,rfl,?_⟩;refine wpAny_letOwnedTupleGo_zip (s:={ s with heap:=h1 }) a1 λh2 b1 sb2=> ?_;have hq0:H s.heap.objs.size=none:=I.hok.fresh (Nat.le_refl _);have lz:z<s.heap.objs.size:=Heap.lt_size st1;have lTI:TI<s.heap.objs.size:=Heap.lt_size st2;have lTO:TO<s.heap.objs.size:=Heap.lt_size st3;have l1:i1<s.heap.objs.size:=by obtain⟨o,q,_⟩:=st4;exact Heap.lt_size q
  have l2:i2<s.heap.objs.size:=by obtain⟨o,q,_⟩:=st5;exact Heap.lt_size q
  have I1:Inv X pins σ (upd H s.heap.objs.size (.tup [x,y])) { s with heap:=s.heap.push { cls:= .type "tuple",data:= .seq #[u,v] } } :=
   I.laid (t':=s.toks) (λb u e=>Heap.get?_push_of_some _ e) (Nat.le_refl _) ⟨(show 2<=sizeLine by rw[sizeLine_eq];decide),[u,v],.cons ru (.cons rv' .nil),⟨_,Heap.get?_push_size _ rfl,rfl,0,rfl⟩⟩
  have hf':∀b∈[z,TI,TO,i1,i2],gM X pins (upd H s.heap.objs.size (.tup [x,y])) b:=λb hb=>by
   obtain⟨f0,f1⟩:=hf b hb;refine⟨?_,f1⟩;simp only[List.mem_cons,List.not_mem_nil,or_false]at hb;rcases hb with rfl|rfl|rfl|rfl|rfl
   .rw[aM (Nat.ne_of_lt lz)];exact f0
   .rw[aM (Nat.ne_of_lt lTI)];exact f0
   .rw[aM (Nat.ne_of_lt lTO)];exact f0
   .rw[aM (Nat.ne_of_lt l1)];exact f0
   .rw[aM (Nat.ne_of_lt l2)];exact f0
  have I2:Inv X pins σ (upd H s.heap.objs.size (.tup [x,y])) { s with heap:=h2,toks:=s.toks }:=Inv.turns (s:={ s with heap:=s.heap.push { cls:= .type "tuple",data:= .seq #[u,v] } }) (h':=h2) (t':=s.toks) I1 (λc o hb q=>by
   simp only[List.mem_cons,List.not_mem_nil,or_false,not_or]at hb;rcases Heap.get?_push_cases q with⟨rfl,rfl⟩|q
   .exact(sb2.2 _ hb.1).trans a5
   .exact(sb2.2 c hb.1).trans (a7 c o hb.1 hb.2.2.1 hb.2.2.2.1 hb.2.2.2.2 q)) hf'
  refine⟨.ref s.heap.objs.size,_,I2,rfl,⟨_,rfl,hq0,λxs' ys' hx' hy'=>⟨x,y,by rw[I.tuple_inj hx' hq];exact hx,by rw[I.list_inj hy' hr];exact hy,rfl⟩⟩,⟨b1,?_,⟨u,v,(sb2.2 TO D.TOz).trans a2⟩,a3.at λo q=>(sb2.2 i1 D.i1z).trans q,a4.at λo q=>(sb2.2 i2 D.i2z).trans q⟩,λb hb=>(hf' b hb).1⟩;exact(sb2.2 TI D.TIz).trans (a7 TI _ D.TIz D.TITO D.TIi1 D.TIi2 st2)
 done:=by
  intro X hP hw hK hc i pins s σ H E I hf st hg;subst hP hw hK;obtain⟨xs,hq,hx⟩:=hg;obtain⟨st1,st2,⟨u0,v0,st3⟩,st4,st5⟩:=st;obtain⟨its,rv,p,_⟩:=I.tuple hq;have hl:=rv.length;exact aDZ (I.ok.hd hc) D st1 st2 st4 (show s.heap.IsTuple t its.toArray from p) (by simp;lia) λh' eb=>⟨rfl,Inv.turns (t':=s.toks) I (ch:=[z,TI,TO,i1,i2]) (λb o hb q=>by
   simp only[List.mem_cons,List.not_mem_nil,or_false,not_or]at hb;exact eb b o hb.1 hb.2.2.2.1 q) hf⟩
 self:=λA i s Q E st h=>wpAny_pyIter_zip st.1 h
theorem aCK:bootBuiltins "zip" =some (.type "zip"):=by decide +kernel
def aCZ (K:W.Frag)(ta:TA):TI:=λσ H R=>ta σ H λvs H1=>∃t b xs ys,vs=[.ref t,.ref b]/\SqT K H1 t xs/\SqL K H1 b ys/\R (Itz K t b) H1
theorem aD6 {a b:Expr}{ta:TA}{p:Pos}{x1:Nat}(hg:Gl X "zip")(hm:X.mg "zip" =none)(ha:PA X [a,b] ta)(hs:starEach [a,b] X.env=(false,eval a X.env)::starEach [b] X.env:=by rfl)(hpl:(backTo pos (starEach [b] X.env)).any (·.1)=false:=by rfl):PI X (.Tuple elts x1 tpos) (.Call (.Name "zip" p) [a,b] [] pos) (aCZ X.K ta):=by
 intro pins s σ H R I h;refine Call_ (tF I hg hm aCK (PyProof.Rows.callWith_type1 (thn (ha pos pins s σ H _ I h) λus s1 ⟨vs,H1,I1,r1,q1⟩=> ?_) hs hpl));obtain⟨t,l,xs,ys,rfl,hq,hr,q⟩:=q1;obtain⟨u,v,rfl,ru,rv⟩:∃u v,us=[u,v]/\RelV (.ref t) u/\RelV (.ref l) v:=by
  cases r1 with
  | cons a b=>cases b with
   | cons c d=>cases d;exact⟨_,_,rfl,a,c⟩
 cases ru;cases rv;obtain⟨its,_,pt,_⟩:=I1.tuple hq;obtain⟨jts,_,pl,_⟩:=I1.list hr;refine SU (show s1.heap.IsTuple t its.toArray from pt) pl.isList λh' e1 e2 e3 e4 e5 hsz kp=> ?_;refine wpAny_pyIter_zip (s:={ s1 with heap:=h' }) e1 ?_;have lt:t<s1.heap.objs.size:=by obtain⟨o,e,_⟩:=pt;exact Heap.lt_size e
 have ll:l<s1.heap.objs.size:=by obtain⟨o,e,_⟩:=pl.isList;exact Heap.lt_size e
 have I2:Inv X pins σ H1 { s1 with heap:=h' }:=I1.kept (t':=s1.toks) kp;have fr:∀n,gM X pins H1 (s1.heap.objs.size+n):=λn=>I1.fpOk (Nat.le_add_right _ _) (I1.hok.fresh (Nat.le_add_right _ _));refine⟨s1.heap.objs.size+4,[s1.heap.objs.size+4,s1.heap.objs.size+2,s1.heap.objs.size+3,s1.heap.objs.size,s1.heap.objs.size+1],_,_,H1,rfl,I2,WU t l ⟨?_,?_,?_,?_,?_,?_,?_,?_,?_,?_,?_,?_,?_,?_,?_,?_,?_,?_⟩,⟨e1,e2,⟨_,_,e3⟩,e4,e5⟩,λc hc=> ?_,q⟩
 case refine_19 =>
  simp only[List.mem_cons,List.not_mem_nil,or_false]at hc;rcases hc with rfl|rfl|rfl|rfl|rfl
  .exact fr 4
  .exact fr 2
  .exact fr 3
  .exact fr 0
  .exact fr 1
 all_goals (intro z;have z':(_:Nat)=_:=z;have lt': @LT.lt Nat _ t s1.heap.objs.size:=lt;have ll': @LT.lt Nat _ l s1.heap.objs.size:=ll;lia)
def d2 (z y:Str):Bool:=decide (0+y.length<=z.length)&&PySem.Builtin.Str.subAt z y 0
theorem EL:MtR X "str.startswith" (λx vs H Q=>∃z y:Str,x= .str z/\vs=[.str y]/\Q (.bl (d2 z y)) H):=by
 intro pins s σ H x xs v us Q I rx rs h;obtain⟨z,y,rfl,rfl,q⟩:=h;obtain⟨t,rfl⟩:=rx;obtain⟨u,rfl,u',rfl⟩:=iJ rs;exact call_gives PySem.F.slot_str_startswith (typeIs_str s z t) PySem.F.entry_str_startswith (PySem.F.args_str_startswith_2 _ _) (gives_str_startswith z y t u') ⟨.bl _,H,I,rfl,q⟩
def aE3:List V->Hp->VK->Prop:=λvs H Q=>∃(x:Str) (n:Int),vs=[.str x]/\PySem.intText? x=some n/\x.length<=640/\Q (.int n) H
theorem VI:cU X (.type "int") aE3:=by
 intro pins s σ H xs us Q I r h;obtain⟨x,n,rfl,hn,hl,q⟩:=h;obtain⟨u,rfl,t,rfl⟩:=iJ r;exact KIN.call_text hn hl ⟨.int n,H,I.tok _,⟨_,rfl⟩,q⟩
variable {xs:List V}
section
variable {rest:List (Option V)}{t:Addr}
theorem WX {H':Hp}{t:Addr}(e:Same H H')(h:SqT K H t xs):SqT K H' t xs:=by
 rcases h with h|h
 .rcases h with h|⟨o,h⟩
  .exact .inl (.inl (e _ _ h))
  .exact .inl (.inr ⟨o,e _ _ h⟩)
 .exact .inr h
theorem aEG {ys:List V}(P:Nat->V->Hp->Prop)(hm:∀i y H1 H2,P i y H1->Same H1 H2->P i y H2)(hn:xs.length<=sizeLine)(hr:ci.map (λi=>(σ[i]?).join)=rest)(hx:SqT K H t xs)(hy:SqL K H a ys)(hl:ys.length=xs.length)
  (he:∀i u v H1,xs[i]? =some u->ys[i]? =some v->Same H H1->∀R:VK,(∀y H2,P i y H2->Same H1 H2->R y H2)->te (some u::some v::rest) H1 R)
  (hf:∀zs H1,Same H H1->zs.length=xs.length->(∀i y,zs[i]? =some y->P i y H1)->fin zs H1):dD (Itz K t a) (JV K 2 (xC (cN 0) (xC (cN 1) O8))) pU te (bQ 2 ci σ) fin H:=by
 have e0:bQ 2 ci σ=none::none::rest:=aDO hr;rw[e0];refine⟨λi m zs H1=>m=xs.length - i/\i<=xs.length/\Same H H1/\zs.length=i/\∀j y,zs[j]? =some y->P j y H1,⟨xs.length,rfl,Nat.zero_le _,Same.refl _,rfl,λj y e=>by simp at e⟩,λi m zs H1 ⟨e1,e2,s1,e3,e4⟩=> ?_⟩
 by_cases hi:i<xs.length
 .right
  have hi2:i<ys.length:=by lia
  refine⟨⟨xs,ys,xs[i],ys[i],WX s1 hx,s1.seq hy,List.getElem?_eq_getElem hi,List.getElem?_eq_getElem hi2⟩,λv H' y=> ?_⟩;obtain⟨q,rfl,hq,yy⟩:=y;obtain⟨u,w,hu,hw,rfl⟩:=yy xs ys (WX s1 hx) (s1.seq hy);have s2:Same H1 (upd H1 q (.tup [u,w])):=WL hq;refine⟨q,[u,w],rfl,.inl (.inl aU),rfl,u,[w],rfl,w,[],rfl,rfl,⟨rfl,λj v hv=> ?_⟩,?_⟩
  .match j,hv with
   | 0,hv=>cases hv
   | 1,hv=>cases hv
   | j+2,hv=>exact hv
  .unfold pU;simp only[↓reduceIte];refine he i u w _ hu hw (s1.trans s2) _ λy H3 hp s3=>⟨by lia,xs.length - (i+1),by lia,rfl,by lia,(s1.trans s2).trans s3,by rw[List.length_append,e3];rfl,λj y' ej=> ?_⟩
   rcases Nat.lt_or_ge j zs.length with hj|hj
   .rw[List.getElem?_append_left hj]at ej;exact hm _ _ _ _ (e4 j y' ej) (s2.trans s3)
   .rw[List.getElem?_append_right hj]at ej;have:j=i:=by
     have:=(List.getElem?_eq_some_iff.mp ej).1;simp at this
     lia
    subst this;rw[e3,Nat.sub_self]at ej;cases ej;exact hp
 .left
  exact⟨⟨xs,WX s1 hx,by lia⟩,hf zs H1 s1 (by lia) e4⟩
end
open PySem.NumText
def noC (c:Nat)(x:Str):Prop:=c∉x.cps.toList
theorem wK {c:Nat}:∀{a b u v:List Nat},c∉a->c∉b->a++c::u=b++c::v->a=b/\u=v
 | [],[],u,v,_,_,h=>⟨rfl,(List.cons.inj h).2⟩
 | [],y::b,u,v,_,hb,h=>absurd (show c∈y::b by rw[←(List.cons.inj h).1];exact .head _) hb
 | x::a,[],u,v,ha,_,h=>absurd (show c∈x::a by rw[(List.cons.inj h).1];exact .head _) ha
 | x::a,y::b,u,v,ha,hb,h=>by
  obtain⟨h1,h2⟩:=List.cons.inj h;obtain⟨h3,h4⟩:=wK (λz=>ha (.tail _ z)) (λz=>hb (.tail _ z)) h2;exact⟨by rw[h1,h3],h4⟩
theorem bN (x y:Str):(x++y).cps.toList=x.cps.toList++y.cps.toList:=by
 show (x.cps++y.cps).toList=_;rw[Array.toList_append]
theorem cO (h:x.cps.toList=y.cps.toList):x=y:=by
 obtain⟨a⟩:=x;obtain⟨b⟩:=y
 congr 1
 exact Array.toList_inj.mp h
theorem IY {c:Nat}:∀{ps qs:List Str},ps≠[]->qs≠[]->(∀p∈ps,noC c p)->(∀p∈qs,noC c p)->Str.join ⟨#[c]⟩ ps=Str.join ⟨#[c]⟩ qs->ps=qs
 | [],_,h,_,_,_,_=>absurd rfl h
 | _,[],_,h,_,_,_=>absurd rfl h
 | [x],[y],_,_,_,_,h=>by rw[show x=y from h]
 | [x],y::y2::qs,_,_,hp,_,h=>by
  have h':=congrArg (λz:Str=>z.cps.toList) (show x=y++(⟨#[c]⟩:Str)++Str.join ⟨#[c]⟩ (y2::qs) from h);simp only[bN]at h';exact absurd (show c∈x.cps.toList by rw[h'];simp) (hp x (.head _))
 | x::x2::ps,[y],_,_,_,hq,h=>by
  have h':=congrArg (λz:Str=>z.cps.toList) (show x++(⟨#[c]⟩:Str)++Str.join ⟨#[c]⟩ (x2::ps)=y from h);simp only[bN]at h';exact absurd (show c∈y.cps.toList by rw[←h'];simp) (hq y (.head _))
 | x::x2::ps,y::y2::qs,_,_,hp,hq,h=>by
  have h':=congrArg (λz:Str=>z.cps.toList) (show x++(⟨#[c]⟩:Str)++Str.join ⟨#[c]⟩ (x2::ps)=y++(⟨#[c]⟩:Str)++Str.join ⟨#[c]⟩ (y2::qs) from h);simp only[bN]at h';obtain⟨h1,h2⟩:=wK (c:=c) (hp x (.head _)) (hq y (.head _)) (by simpa using h');have ih:=IY (ps:=x2::ps) (qs:=y2::qs) (List.cons_ne_nil _ _) (List.cons_ne_nil _ _) (λp hp'=>hp p (.tail _ hp')) (λp hq'=>hq p (.tail _ hq')) (cO h2);rw[cO h1,ih]
theorem oM {c:Nat}{ps:List Str}(hne:ps≠[])(hp:∀p∈ps,noC c p):Txt.split (Str.join ⟨#[c]⟩ ps) ⟨#[c]⟩=ps:=by
 refine(IY hne ?_ hp (λp hp=>StrLaws.split_free _ c p hp) ?_).symm
 .intro z;have:=split_pos (Str.join ⟨#[c]⟩ ps) ⟨#[c]⟩;rw[z]at this;exact absurd this (by decide)
 .exact(StrLaws.join_split _ _).symm
theorem sX (n:Nat):(toString (n:Int):Str).cps.toList=(Nat.toDigits 10 n).map Char.toNat:=KIN.signs_num n
theorem oO (n:Nat):∀c∈(toString (n:Int):Str).cps.toList,48<=c/\c<=57:=by
 intro c hc;rw[sX]at hc;obtain⟨ch,hch,e⟩:=List.mem_map.mp hc;have r:=digit_range (Nat.isDigit_of_mem_toDigits (by decide) (by decide) hch);rw[←e];exact r
theorem aCk (n:Nat):digitsVal (toString (n:Int):Str).cps.toList=n:=by rw[sX];exact KIN.val_back n
theorem aEh (n:Nat):(toString (n:Int):Str).cps.toList≠[]:=by
 rw[sX];intro e;have h:=toDigits_len_ge 10 n;rw[List.map_eq_nil_iff.mp e]at h;exact absurd h (by decide)
theorem HZ:∀(k n:Nat),n<10^k->(Nat.toDigits 10 n).length<=max 1 k
 | 0,n,h=>by
  have:n=0:=by simpa using h
  subst this;decide
 | k+1,n,h=>by
  by_cases hn:n<10
  .rw[Nat.toDigits_of_lt_base hn];simp
  .have hm:n%10<10:=Nat.mod_lt n (by decide);have t:Nat.toDigits 10 (n/10)++Nat.toDigits 10 (n%10)=Nat.toDigits 10 (10 * (n/10)+n%10):=Nat.toDigits_append_toDigits (by decide) (by lia) hm;rw[Nat.div_add_mod]at t;have h1:n/10<10^k:=by rw[Nat.pow_succ]at h;lia
   have ih:=HZ k (n/10) h1;have hk:1<=k:=by
    cases k with
    | zero=>simp at h1;lia
    | succ k=>lia
   rw[←t,List.length_append,Nat.toDigits_of_lt_base hm];simp only[List.length_cons,List.length_nil]
   lia
theorem oS {n:Int}{k:Nat}(h0:0<=n)(h1:n<10^k)(hk:1<=k):(toString n:Str).length<=k:=by
 obtain⟨m,rfl⟩:=Int.eq_ofNat_of_zero_le h0;have e:(toString (m:Int):Str).length=(toString (m:Int):Str).cps.toList.length:=by rw[Array.length_toList];rfl
 rw[e,sX,List.length_map];have:=HZ k m (by exact_mod_cast h1)
 lia
theorem UG:∀n:Nat,0<n->∀c r,Nat.toDigits 10 n=c::r->c.toNat≠48:=by
 intro n
 induction n using Nat.strongRecOn with
 | _ n ih =>
  intro h c r e
  by_cases hn:n<10
  .rw[Nat.toDigits_of_lt_base hn]at e;cases e;have:∀d:Nat,d<10->0<d->(Nat.digitChar d).toNat≠48:=by decide
   exact this n hn h
  .have hm:n%10<10:=Nat.mod_lt n (by decide);have t:Nat.toDigits 10 (n/10)++Nat.toDigits 10 (n%10)=Nat.toDigits 10 (10 * (n/10)+n%10):=Nat.toDigits_append_toDigits (by decide) (by lia) hm;rw[Nat.div_add_mod]at t;rw[←t]at e;cases hd:Nat.toDigits 10 (n/10) with
   | nil =>
    have hl:=toDigits_len_ge 10 (n/10);rw[hd]at hl;exact absurd hl (by decide)
   | cons d ds =>
    rw[hd]at e;cases e;exact ih (n/10) (by lia) (by lia) c ds hd
theorem XV (h:0<n):∀c r,(toString (n:Int):Str).cps.toList=c::r->c≠48:=by
 intro c r e hc;subst hc;rw[sX]at e;cases hd:Nat.toDigits 10 n with
 | nil=>rw[hd]at e;cases e
 | cons d ds =>
  rw[hd]at e;have e1:d.toNat=48:=(List.cons.inj e).1;exact UG n h d ds hd e1
section
variable {rest:St}
end
def PQ (X:Cx)(e:Expr)(t:TE):Prop :=
 ∀(pins:List (Addr×Obj)) (s:Shared) (σ:St) (H:Hp) (Q:VK),Inv X pins σ H s->t σ H Q->wpAny (model X.prog X.w) X.A (eval e X.env) (λu s'=>s'=s/\EP X pins σ Q u s') X.xe s
theorem aCO (i:Nat){pos:Pos}(hN:X.N[i]? =some x:=by rfl)(hv:Vis X.env.scope x:=by first|exact Or.inl rfl|exact Or.inr (Or.inl rfl)|exact Or.inr (Or.inr rfl))(hd:(x==("__debug__" :Str))=false:=by decide)
  (hcd:(x==("__classdict__" :Str))=false:=by decide):PQ X (.Name x pos) (iZ i):=by
 intro pins s σ H Q I h;obtain⟨v,e,h⟩:=h;obtain⟨m,hn,hl⟩:=I.loc;obtain⟨u,r,l⟩:=hl i x v hN e hv;have fin:s=s/\EP X pins σ Q u s:=⟨rfl,v,H,I,r,h⟩
 rcases l with⟨hk,hm⟩|⟨hk,c,hc,hcell⟩
 .exact wpAny_Name (wpAny_loadName_local I.ok.kind hk hn hm fin) hd
 .rcases hk with hk|hk
  .exact wpAny_Name (wpAny_loadName_cell I.ok.kind hk hc hcell fin) hd
  .exact wpAny_Name (wpAny_loadName_free I.ok.kind hk hc hcell fin hcd) hd
def Z5 (K:W.Frag)(b y z:Str)(ta to:TE):TA:=λσ H Q=>ta σ H λx H1=>∃z0,x= .str z0/\z0.length+b.length<=sizeLine/\to σ H1 λw H2=>∃z1,w= .str z1/\z1.length<=1000000/\Q [.str (z0++b),.str (Txt.replace z1 y z)] H2
theorem aB4 {a:Expr}{b:Str}{kb ky kz:Nat}{pb py pz pos1 apos cpos:Pos}(ha:PE X a ta)(ho:PQ X o to)(hyz:(y==z)=false)(hz:z.length<=14)
  (hbase:attributeBase o "replace" X.env (eval o X.env)=eval o X.env:=by rfl)
  (hfew:((backTo cpos (starEach [.Constant (.str y) ky py,.Constant (.str z) kz pz] X.env)).all (λx=> !x.1)&&(backToKw cpos (keywordEach [] X.env)).all (λx=>x.1.isSome)
   && decide (([.Constant (.str y) ky py,.Constant (.str z) kz pz]:List Expr).length+([]:List Keyword).length+(if ([]:List Keyword).isEmpty then 0 else 1)<30))=true:=by rfl)
  (hline:(apos.endLine==cpos.line)=true:=by rfl)
  (hs:starEach [.BinOp a .Add (.Constant (.str b) kb pb) pos1,.Call (.Attribute o "replace" apos) [.Constant (.str y) ky py,.Constant (.str z) kz pz] [] cpos] X.env=(false,eval (.BinOp a .Add (.Constant (.str b) kb pb) pos1) X.env)::(false,eval (.Call (.Attribute o "replace" apos) [.Constant (.str y) ky py,.Constant (.str z) kz pz] [] cpos) X.env)::starEach [] X.env:=by rfl)
  (hs2:starEach [.Constant (.str y) ky py,.Constant (.str z) kz pz] X.env=(false,eval (.Constant (.str y) ky py) X.env)::(false,eval (.Constant (.str z) kz pz) X.env)::starEach [] X.env:=by rfl) :
  PA X [.BinOp a .Add (.Constant (.str b) kb pb) pos1,.Call (.Attribute o "replace" apos) [.Constant (.str y) ky py,.Constant (.str z) kz pz] [] cpos] (Z5 X.K b y z ta to):=by
 intro pos pins s σ H Q I h;rw[hs];show wpAny _ _ (spliced ((false,_)::(false,_)::backTo pos (starEach [] X.env))) _ _ s;refine Calls.spliced_cons (wpAny_BinOp (thn (ha pins s σ H _ I h) λu s1 ⟨x,H1,I1,r1,q1⟩=>Calls.Constant_str ?_));obtain⟨z0,rfl,hl,q1⟩:=q1;obtain⟨t,rfl⟩:=r1;have nxt:∀t' tk,0<tk->wpAny (model X.prog X.w) X.A (spliced ((false,eval (.Call (.Attribute o "replace" apos) [.Constant (.str y) ky py,.Constant (.str z) kz pz] [] cpos) X.env)::backTo pos (starEach [] X.env))) (λus s'=>AP X pins σ Q (Value.str (z0++b) t'::us) s') X.xe { s1 with toks:=tk }:=λt' tk hk=>by
  refine Calls.spliced_cons ?_;refine wpAny_Call_method_late hbase hfew hline rfl (thn (ho pins _ σ H1 _ (I1.tok tk) q1) λv s2 ⟨e2,x,H2,I2,r2,z1,ex,hz1,q2⟩=> ?_);subst e2;subst ex;obtain⟨t2,rfl⟩:=r2;refine⟨"str",_,PySem.F.plainAttrs_str,PySem.F.slot_str_replace,PySem.F.type_str_replace,typeIs_str _ _ _,?_,?_⟩
  .intro _ z;cases z
  .rw[hs2];refine Calls.callWith_builtin rfl (Calls.evalArgs_plain ?_);refine Calls.spliced_cons (Calls.Constant_str (k:=ky) (pos:=py) (Calls.spliced_cons (Calls.Constant_str (k:=kz) (pos:=pz) (Calls.spliced_nil ?_))));refine PySem.SC.replaceW (by show tk≠0;lia) (by show tk+1≠0;lia) (by show tk≠tk+1;lia) hyz (by lia) hz λt' k=> ?_;exact Calls.spliced_nil ⟨[.str (z0++b),.str (Txt.replace z1 y z)],H2,I2.tok _,.cons ⟨_,rfl⟩ (.cons ⟨_,rfl⟩ .nil),q2⟩
 refine PySem.P.add_str ?_
 by_cases e1:(z0.length==0)=true
 .rw[if_pos e1];have e:z0++b=b:=cO (by rw[bN,List.eq_nil_of_length_eq_zero (l:=z0.cps.toList) (by rw[Array.length_toList];exact eq_of_beq e1)];rfl);have k:=nxt s1.toks (s1.toks+1) (Nat.succ_pos _);rw[e]at k;exact k
 .rw[if_neg e1]
  by_cases e2:(b.length==0)=true
  .rw[if_pos e2];have e:z0++b=z0:=cO (by rw[bN,List.eq_nil_of_length_eq_zero (l:=b.cps.toList) (by rw[Array.length_toList];exact eq_of_beq e2),List.append_nil]);have k:=nxt t (s1.toks+1) (Nat.succ_pos _);rw[e]at k;exact k
  .rw[if_neg e2];exact⟨by rw[bA];exact hl,nxt _ _ (Nat.succ_pos _)⟩
theorem U2 {t:TA}{name:Str}{apos cpos:Pos}{T id:String}{r:V->List V->Hp->VK->Prop}(hK:X.K=K)(pa:PlainAttrs T)(slot:Slot T name id)(hty:typeOf (.builtin id)=pure (.type "method_descriptor"))(hm:MtR X id r)(ho:PE X o to)(ha:PA X (e::es) t)
  (hbase:attributeBase o name X.env (eval o X.env)=eval o X.env:=by rfl)
  (hfew:((backTo cpos (starEach (e::es) X.env)).all (λx=> !x.1)&&(backToKw cpos (keywordEach [] X.env)).all (λx=>x.1.isSome)
   && decide ((e::es).length+([]:List Keyword).length+(if ([]:List Keyword).isEmpty then 0 else 1)<30))=true:=by rfl)
  (hline:(apos.endLine==cpos.line)=true:=by rfl)(hs:starEach (e::es) X.env=(false,eval e X.env)::starEach es X.env:=by rfl)(hplain:(backTo cpos (starEach es X.env)).any (·.1)=false:=by rfl) :
  PE X (.Call (.Attribute o name apos) (e::es) [] cpos) (tBM K T r to t):=by
 subst hK;exact gP pa slot hty hm ho ha hbase hfew hline hs hplain
def xE (w:World)(K:W.Frag)(D:Addr)(kvs:List (Key×V)):Prop:=(D==sysModules)=false/\∃(o:Obj) (es:Array DictEntry) (ep:Nat) (vs:List (Key×Value)),K.lookup D=some o/\o.ExactDict/\o.data= .dict es ep/\(∀P,PySem.KeysOf (bV P w) es/\Pairs (bV P w) es.toList vs)/\(vs.map (·.1)).Nodup/\KV kvs vs
section
variable {D:Addr}{kvs:List (Key×V)}
theorem GG (I:Inv X pins σ H s)(kd:xE X.w X.K D kvs):∃vs,KV kvs vs/\s.heap.DictOf (bV X.prog X.w) D vs:=by
 obtain⟨_,o,es,ep,vs,h1,h2,h3,h4,h5,h6⟩:=kd;exact⟨vs,h6,o,es,ep,I.kIn D o h1,h2,h3,(h4 X.prog).1,(h4 X.prog).2,h5⟩
def V7 (D:Addr)(kvs:List (Key×V)):R2:=λx y H Q=>∃k,x=kV k/\y= .ref D/\Q (.bl (aX kvs k).isSome) H
theorem aCJ (kd:xE X.w X.K D kvs):OpR X (compareOp .In) (V7 D kvs):=by
 intro pins s σ H x y v u Q I rx ry h;obtain⟨k,rfl,rfl,q⟩:=h;cases ry;obtain⟨vs,rel,dd⟩:=GG I kd;refine wpAny_in_of (oJ rx) kd.1 dd.mapOf ?_;rw[←(rel.val k).isSome_eq];exact⟨.bl (aX kvs k).isSome,H,I.tok _,rfl,q⟩
def aDV (D:Addr)(kvs:List (Key×V)):R2:=λx y H Q=>∃k v,x= .ref D/\y=kV k/\aX kvs k=some v/\Q v H
theorem aDj {i:Expr}{ty:TE}(kd:xE X.w X.K D kvs)(ho:PE X o td)(hi:PE X i ty)(hs:YB i):PE X (.Subscript o i pos) (tOp (aDV D kvs) td ty):=by
 intro pins s σ H Q I h;refine MR PySem.F.slot_dict_getitem.lookup hs (thn (ho pins s σ H _ I h) λu s1 ⟨x,H1,I1,rx,q1⟩=>thn (hi pins s1 σ H1 _ I1 q1) λiv s2 ⟨y,H2,I2,ry,k,v,ex,ey,l,q2⟩=> ?_);subst ex;subst ey;obtain rfl:u=Value.ref D:=rx;obtain⟨vs,rel,dd⟩:=GG I2 kd;obtain⟨w',hw,rw'⟩:=RelO.some_of (v:=v) (o:=valueAt vs k) (by rw[←l];exact rel.val k);exact⟨dd.typeIs,wpAny_getItem_of (oJ ry) dd.mapOf hw ⟨v,H2,I2.tok _,rw',q2⟩⟩
def aAk (D:Addr)(kvs:List (Key×V))(td ty:TE):TE:=λσ H Q=>td σ H λx H1=>x= .ref D/\ty σ H1 λy H2=>∃k,y=kV k/\Q ((aX kvs k).getD .non) H2
theorem aCm {ty:TE}(kd:xE X.w X.K D kvs)(ho:PE X o td)(he:PE X e ty)(m:M1 X o "get" apos e cpos):PE X (.Call (.Attribute o "get" apos) [e] [] cpos) (aAk D kvs td ty):=by
 intro pins s σ H Q I h;refine wpAny_Call_method m.base m.few m.line PySem.F.plainAttrs_dict PySem.F.slot_dict_get PySem.F.type_dict_get (thn (ho pins s σ H _ I h) λu s1 ⟨x,H1,I1,rx,ex,q1⟩=> ?_);subst ex;obtain rfl:u=Value.ref D:=rx;obtain⟨vs,rel,dd⟩:=GG I1 kd;refine⟨dd.typeIs,λb q=> ?_,?_⟩
 .cases q;obtain⟨ob,_,_,h1,h2,_⟩:=dd;exact⟨ob,h1,h2.2.1⟩
 rw[m.trees];refine Calls.callWith_builtin rfl (Calls.evalArgs_plain (Calls.spliced_cons (thn (he pins s1 σ H1 _ I1 q1) λiv s2 ⟨y,H2,I2,ry,k,ey,q2⟩=>Calls.spliced_nil ?_)));subst ey;obtain⟨vs',rel',dd'⟩:=GG I2 kd;refine call_meetsIn PySem.F.slot_dict_get dd'.typeIs PySem.F.entry_dict_get (PySem.F.args_dict_get_2 _ _) (meets_dict_get (bV X.prog X.w) D (oJ ry) kd.1) ⟨_,dd'.mapOf,(aX kvs k).getD .non,H2,I2.tok _,(rel'.val k).getD (show RelV .non Value.none from rfl),q2⟩
end
def Itb (K:W.Frag)(a:Addr)(n:Nat):It :=
 ⟨λi H=>∃xs x,SqL K H a xs/\xs.length=n/\i<n/\xs[n - 1 - i]? =some x,λi H x H'=>H'=H/\∀xs,SqL K H a xs->xs[n - 1 - i]? =some x,λi _=>i=n⟩
theorem XC (a it:Addr):uJ P w K tg (Itb K a n) [it] it (λi h=>h.IsRevIter it a ((n:Int) - 1 - (i:Int))) where
 mem:=by simp
 obj:=λi h st b hb=>by
  have e:b=it:=by simpa using hb
  subst e;obtain⟨o,e,c,d⟩:=st;exact⟨o,e,λv z=>by rw[d]at z;cases z⟩
 keep:=λi h h' st k=>st.at λo e=>k it (by simp) o e
 item:=by
  intro X hP hw hK hc i pins s σ H E I hf st hg;subst hP hw hK;obtain⟨xs,x,hq,hn,hi,hx⟩:=hg;obtain⟨its,rv,p,hz⟩:=I.list hq;obtain⟨u,hu,ru⟩:=rv.get hx;obtain⟨f0,f1,f2,f3,f4,f5⟩:=hf it (by simp);have e1:(n:Int) - 1 - (i:Int)=((n - 1 - i:Nat):Int):=by lia
  have st':=st;rw[e1]at st';refine wpAny_pyNext_rev_item st' p.isList (x:=u) (by simpa using hu) λh' st2 sb=> ?_;have e2:((n - 1 - i:Nat):Int) - 1=(n:Int) - 1 - ((i+1:Nat):Int):=by lia
  rw[e2]at st2;have I1:Inv X pins σ H { s with heap:=h' }:=I.turned (t':=s.toks) (λb o hb e=>(sb.2 b hb).trans e) f0 f1 f3 f4 f5;obtain⟨o,e,c,d⟩:=id st2;exact⟨u,rfl,GQ (s:={ s with heap:=h' }) e c d (by decide) ⟨x,H,I1,ru,⟨rfl,λys hy=>by rw[I.list_inj hy hq];exact hx⟩,st2,λb hb=>(hf b hb).1⟩⟩
 done:=by
  intro X hP hw hK hc i pins s σ H E I hf st hg;subst hP hw hK;have hg':i=n:=hg;subst hg';obtain⟨f0,f1,f2,f3,f4,f5⟩:=hf it (by simp);have e1:(i:Int) - 1 - (i:Int)= -1:=by lia
  have st':=st;rw[e1]at st';exact wpAny_pyNext_rev_end (I.ok.hd hc) st' λh' eb=>⟨rfl,I.turned (t':=s.toks) (λb o hb e=>eb b o hb e) f0 f1 f3 f4 f5⟩
 self:=λ_ _ _ _ _ st h=>wpAny_pyIter_revIter st h
theorem LU:bootBuiltins "reversed" =some (.type "reversed"):=by decide +kernel
def aDC (K:W.Frag)(ta:TA):TI:=λσ H R=>ta σ H λvs H1=>∃b xs,vs=[.ref b]/\SqL K H1 b xs/\R (Itb K b xs.length) H1
theorem aD1 {a:Expr}{ta:TA}{p:Pos}(hg:Gl X "reversed")(hm:X.mg "reversed" =none)(ha:PA X [a] ta)(hs:starEach [a] X.env=(false,eval a X.env)::starEach [] X.env:=by rfl)(hpl:(backTo pos (starEach [] X.env)).any (·.1)=false:=by rfl):PI X tg (.Call (.Name "reversed" p) [a] [] pos) (aDC X.K ta):=by
 intro pins s σ H R I h;refine Call_ (tF I hg hm LU (PyProof.Rows.callWith_type1 (thn (ha pos pins s σ H _ I h) λus s1 ⟨vs,H1,I1,r1,q1⟩=> ?_) hs hpl));obtain⟨l,xs,rfl,hq,q⟩:=q1;obtain⟨u,rfl,ru⟩:∃u,us=[u]/\RelV (.ref l) u:=by
  cases r1 with
  | cons a b=>cases b;exact⟨_,rfl,a⟩
 cases ru;obtain⟨its,rv,pl,hz⟩:=I1.list hq;refine call_reversed_list pl.isList ?_;refine wpAny_pyIter_revIter (l:=l) (i:=(its.toArray.size:Int) - 1) ⟨_,Heap.get?_push_size _ rfl,rfl,rfl⟩ ?_;have hl:=rv.length;refine⟨s1.heap.objs.size,[s1.heap.objs.size],_,_,H1,rfl,I1.kept (t':=s1.toks) λb o e=>Heap.get?_push_of_some _ e,XC l _,?_,λb hb=> ?_,q⟩
 .refine⟨_,Heap.get?_push_size _ rfl,rfl,?_⟩;show Data.fields #[.ref l,rawInt ((its.toArray.size:Int) - 1)]=_;rw[List.size_toArray,←hl];simp
 .have e:b=s1.heap.objs.size:=by simpa using hb
  subst e;exact I1.fpOk (Nat.le_refl _) (I1.hok.fresh (Nat.le_refl _))
section
variable {g:TG}{bk:St->Hp->Prop}
theorem aCb (xs:List V)(Pv:Nat->St->Hp->Prop)(h0:Pv 0 σ H)(hl:∀i σ' H',i<=xs.length->Pv i σ' H'->SqL K H' a xs)
  (hs:∀i x σ' H',xs.reverse[i]? =some x->Pv i σ' H'->g x σ' H' λσ2 H2=>tb ⟨Pv (i+1),rt,nx,Pv (i+1)⟩ σ2 H2)(hd:∀σ' H',Pv xs.length σ' H'->nx σ' H'):C5 (Itb K a xs.length) g tb ⟨nx,rt,bk,ct⟩ σ H:=by
 refine⟨λi m σ' H'=>m=xs.length - i/\i<=xs.length/\Pv i σ' H',⟨xs.length,by simp,Nat.zero_le _,h0⟩,?_⟩;rintro i m σ' H' ⟨rfl,hi,p⟩;have q:=hl i σ' H' hi p
 by_cases hlt:i<xs.length
 .have hlt':xs.length - 1 - i<xs.length:=by lia
  refine .inr ⟨⟨xs,xs[xs.length - 1 - i],q,rfl,hlt,List.getElem?_eq_getElem hlt'⟩,Pv (i+1),λσ2 H2 p'=>⟨xs.length - (i+1),by lia,rfl,hlt,p'⟩,λx H2 y=> ?_⟩;obtain⟨e,y⟩:=y;subst e;refine hs i x σ' _ ?_ p;rw[List.getElem?_reverse hlt];exact y xs q
 .have e:i=xs.length:=by lia
  subst e;exact .inl ⟨rfl,hd σ' H' p⟩
end
variable {tc:XK->TE}{b₀:Stmt}
def ZR (tc:XK->TE):XK->TS:=λR D σ H=>tc R σ H λv H1=>D.rt v H1
theorem NJ (he:PEx X e tc):PXs X [.Return (some e) epos] (ZR tc):=by
 intro R pins s σ H D I h;refine wpAny_execs_cons (wpAny_Return_some ?_);exact wpAny_mono (he R pins s σ H _ I h) (λv s1 ⟨v',H1,I1,r1,q1⟩=>⟨v',σ,H1,I1,r1,q1⟩) λ_ _ z=>z
def OnP (K:W.Frag)(T:Addr)(E:XK):XK:=λcls dd H1=>∃C,cls= .ref C/\W.exmOne K (.ref C) (.ref T)=some false/\E cls dd H1
theorem aB3 {tb:XK->TS}(pf:wU X E0x)(hst:X.stack=X.env::X.outer)(hfr:X.env.frame=some X.env.locals)(hex0:X.ex=[])(hm:X.mg x=some (.ref T))(he:PXs X body tb)
  (hg:Gl X x:=by rfl)(hdb:(x==("__debug__" :Str))=false:=by decide) :
  PS X (.Try body [.ExceptHandler (some (.Name x np)) none (b₀::suite) hpos] [] [] pos) (λD σ H=>tb (OnP X.K T E0x) D σ H):=by
 intro pins s σ H D I h;refine wpAny_Try_except ?_;refine wpAny_mono (he _ pins s σ H _ I h) (λf s1 q=> ?_) λev s' hx=> ?_
 .cases f with
  | next=>exact wpAny_execs_nil q
  | ret v=>exact q
  | brk=>exact q
  | cont=>exact q
 obtain⟨H1,s1,I1,ea,cls,dd,a0,H',B,rfl,os,bare,un,hok,hn,new,fl,cov,C,rfl,hex,hq⟩:=hx;have frms:∀b∈frs X.stack,H' b=none:=λb hb=>by
  obtain⟨_,o,ho,_⟩:=I1.stack.mem hb;exact un.free b o ho (I1.stkFree b hb) (by simp)
 have fl0:=fl;rw[hst]at fl0;refine rT (by rw[I.ok.frames,hst]) hfr fl0 λh4 ⟨k1,k2,k3,up4⟩=> ?_;refine p7 k1 fl.2.1 k2 k3 λh5 hfl5 up5=> ?_;have I0:Inv X pins σ H' s':=I1.call' (ch:=[]) os un hok bare (λb z=>absurd z (by simp));have step:∀h6,FlyD B (X.env::X.outer) ea (.ref C) dd (a0,.none) h6->s'.heap.UpToSlots h6->Inv X pins σ (upd H' ea (BV ea C dd)) { s' with heap:=h6 }:=λh6 f6 up6=>by
  obtain⟨un2,hok2⟩:=C2 un hok cov fl.1 f6.1 up6 λb hb=>⟨frms b hb,(fl.2.2.1.mem hb).2⟩
  obtain⟨oe,vs,q1,q2,q3,q4,q5⟩:=f6.there;obtain⟨un3,hok3⟩:=ME (C:=C) un2 hok2 new hn q1 q2 q3 q4 q5;exact I1.call' (s':={ s' with heap:=h6 }) (ch:=[]) os un3 hok3 bare λb z=>absurd z (by simp)
 have I5:=step h5 hfl5 (up4.trans up5);obtain⟨ob,_,hob,hobc,_⟩:=hfl5.there;have LT:Looks (model X.prog X.w) h5 (typeOf (.ref ea)) (.ref C):=by
  rw[←hobc];exact(Looks.ld hob).andThen .now
 refine wpAny_handleBy_cons (codeAny_handlers_test ?_) (by intro q;cases q);refine dI (X:=X.inx ea) (I5.inx ea) hg hm ?_ hdb;refine(W.exm_one I5.kIn LT hex).here ?_;show wpAny _ _ (handleBy (.ref ea) X.env []) _ _ _;refine wpAny_handleBy_nil ?_;have up:=up4.trans up5;obtain⟨g1,nb,g2,ob,fv,tb,tbo,tv,go,ec,ed,h0,hdt,hh1,nT,tne,gT,dT,hmk⟩:=hfl5;have z3:=(Array.getElem?_eq_some_iff.mp hmk).1;unfold PySem.passOn setFlight;refine wpAny_bind (wpAny_field go hdt hh1 ?_);rw[if_neg (show ¬(Value.ref tb==Value.none)=true from Bool.false_ne_true)];show wpAny _ X.A ((field (.ref ea) 1 >>= λtb=>if (tb !=Value.none)=true then setField tb 3 (X.env.frame.elim Value.none λf=>rawInt f) else pure ()) >>= λ_=>throw (Value.ref ea)) _ _ _;refine wpAny_bind (wpAny_bind (wpAny_field go hdt hh1 ?_));rw[if_pos (show (Value.ref tb !=Value.none)=true from by simp),hfr];refine wpAny_setField gT dT z3 (wpAny_throw ?_);have oth:∀b,b≠tb->(h5.update tb (Obj.mapFields (·.setIfInBounds 3 (rawInt X.env.locals)))).get? b=h5.get? b:=λb hb=>Heap.get?_update_other _ _ (Ne.symm hb);have gT3:=Heap.get?_update_self (Obj.mapFields (·.setIfInBounds 3 (rawInt X.env.locals))) gT (Obj.isFreed_of_fields (Obj.data_mapFields dT _));have dT3:=Obj.data_mapFields dT (·.setIfInBounds 3 (rawInt X.env.locals));show X.xe (.ref ea) { s' with heap:=h5.update tb (Obj.mapFields (·.setIfInBounds 3 (rawInt X.env.locals))) };generalize h5.update tb (Obj.mapFields (·.setIfInBounds 3 (rawInt X.env.locals)))=h3 at oth gT3 ⊢;have there:∀b o,X.s₀.heap.get? b=some o->∃o',s1.heap.get? b=some o':=λb o e=>I1.base.there b o e (by rw[hex0];simp);have norec:∀b o,h5.get? b=some o->(∀vs,o.data≠ .fields vs)->b≠tb:=λb o q hnf z=>by
  rw[z,gT]at q;cases q;exact hnf tv dT
 refine pf pins σ H' s' h3 ea (.ref C) dd a0 B I0 hn ?_ (λb o e=>fl.1 b o e) (λb o e=> ?_) nb ?_ ?_ (λb hb o e hd=> ?_) (λb hb hs=> ?_) hq
 .cases e:X.s₀.heap.get? ea with
  | none=>rfl
  | some o =>
   obtain⟨o',e'⟩:=there ea o e;rw[new]at e';cases e'
 .exact(oth b λz=>by rw[z,nT]at e;cases e).trans (g1 b o e)
 .rw[hst];refine B1 (λb e=>e) (λb hb o e hd=> ?_) g2;exact⟨o,(oth b (norec b o e hd)).trans e,rfl⟩
 .exact⟨ob,fv,tb,_,_,(oth ea (Ne.symm tne)).trans go,ec,ed,h0,hdt,hh1,nT,tne,gT3,dT3,by simp[z3]⟩
 .obtain⟨sl,e1⟩:=up b o e hd;exact⟨sl,(oth b (norec b _ e1 hd)).trans e1⟩
 .exact cov b (hb.imp id λ⟨o,e⟩=>there b o e) hs
theorem PJ:entryFor table "proto.unchain" =some Builtin.«proto.unchain»:=entryFor_of_tree (by kernel_rfl)
def DX (ea:Addr)(h:Heap):Prop:=∃o vs,h.get? ea=some o/\o.data= .fields vs/\vs[2]? =some .none
theorem ExcU.un (x:ExcU a C h):DX a h:=let ⟨o,vs,e,_,d,z⟩:=x;⟨o,vs,e,d,z⟩
theorem ExcDAt.un {dx:Addr}(x:ExcDAt a C dx h):DX a h:=let ⟨o,vs,e,_,_,d,z⟩:=x;⟨o,vs,e,d,z⟩
variable {α:Type}
theorem LB {oa:Obj}{va:Array Value}{Q:α->Shared->Prop}(hh:A.handled=some (.ref ea))(hu:DX ea s.heap)(ha:s.heap.get? a=some oa)(da:oa.data= .fields va)(hz:2<va.size)(ne:ea≠a)
  (h:E (.ref a) { s with heap:=s.heap.update a (Obj.mapFields (·.setIfInBounds 2 (.ref ea))) }):wpAny (model prog w) A (raiseNew (.ref a):Sem α) Q E s:=by
 obtain⟨o,vs,ho,hd,h2⟩:=hu;unfold raiseNew;refine wpAny_bind (wpAny_handled ?_);rw[hh];show wpAny _ _ (if (Value.ref ea !=Value.ref a)=true then _ else _) _ _ s;rw[if_pos (by simpa using ne)];refine wpAny_bind (wpAny_holding (runValue_entry PJ ?_));unfold Builtin.«proto.unchain»;refine wpAny_bind (wpAny_field ho hd h2 ?_);show wpAny _ _ (if (Value.none==Value.none)=true then _ else _) _ _ s;rw[if_pos (by decide)];refine wpAny_pure ⟨_,rfl,?_⟩;show wpAny _ _ (setField (.ref a) 2 (.ref ea) >>= _) _ _ s;exact wpAny_bind (wpAny_setField ha da hz (wpAny_throw h))
section
variable {g:TG}
end
def HX (ea:Addr)(H:Hp):Prop:=∃φ,H ea=some (.ext φ)/\∀h,φ h->DX ea h
section
variable {K:Frag}
end
section
variable {i:Nat}{n:Str}
end
section
variable {nm qn:Str}{N:Addr}{bs bm bb:List Value}{hd:Bool}{sn:List Str}{su:List Value}{ab:Bool}{co:Option Bool}{dd:Option Addr}{k0 k1 k2 k3 k5:Option Value}{B nid iid:String}
theorem EJ {x:Sem Value}{Q:Flow->Shared->Prop}(hb:bm.contains (.type "BaseException")=true)(hh:A.handled=some (.ref ea))
  (h:wpAny (model prog w) A x (λv s1=>∃e t,v= .ref e/\ea≠e/\DX ea s1.heap/\s1.heap.get? C=some (excClassObj nm qn C N bs bm hd sn su ab co dd k0 k1 k2 k3 k5 nid) ∧
   s1.heap.get? e=some { cls:= .ref C,data:= .fields #[.ref t,.none,.none,.none,.bool false,.none] }/\E (.ref e) { s1 with heap:=s1.heap.update e (Obj.mapFields (·.setIfInBounds 2 (.ref ea))) }) E s) :
  wpAny (model prog w) A (raiseStmt env (some x) none) Q E s:=by
 have hcB:(Value.ref C::bm).contains (.type "BaseException")=true:=by rw[List.contains_cons,hb,Bool.or_true]
 unfold raiseStmt;refine wpAny_bind (wpAny_mono h (λv s1 h1=> ?_) λ_ _ x=>x);obtain⟨e,t,rfl,ne,hu,hC,he,hE⟩:=h1;obtain⟨hp,g,d,tk,os⟩:=s1
 repeat (first|with_reducible refine wpAny_loadPart_at he ?_|with_reducible refine wpAny_loadPart_at hC ?_|(with_reducible refine wpAny_isSubtype_exc hC ?_;rw[hcB])|wp_step)
 exact LB hh hu he rfl (by show 2<6;decide) ne hE
theorem LV (F:ExcBaseFacts B nid iid bb){mN:Str->Option Value}{args:List Expr}{Q:Flow->Shared->Prop}
  (hb:bm.contains (.type "BaseException")=true)(hh:A.handled=some (.ref ea))(hpl:(backTo cpos (starEach args env)).any (·.1)=false)(hni:mN "__init__" =none)
  (h:wpAny (model prog w) A (eval (.Name x np) env) (λf s1=>f= .ref C/\wpAny (model prog w) A (evalArgs (.ref C) true (backTo cpos (starEach args env)) [])
   (λa s2=>a.kw=[]/\a.pos.length<=sizeLine/\DX ea s2.heap/\s2.heap.get? C=some (excClassObj nm qn C N bs bm hd sn su ab co dd k0 k1 k2 k3 k5 nid)/\s2.heap.Ns N mN/\OwnTail s2.heap bb bm ∧
    ∀h' e,Heap.MadeExcOf s2.heap h' e (.ref C) a.pos->E (.ref e) { s2 with heap:=h'.update e (Obj.mapFields (·.setIfInBounds 2 (.ref ea))) }) E s1) E s) :
  wpAny (model prog w) A (exec (.Raise (some (.Call (.Name x np) args [] cpos)) none pos) env) Q E s:=by
 rw[arm_exec_Raise]
 first
  | refine wpAny_bind (wpAny_standAt (EJ (C:=C) (nm:=nm) (qn:=qn) (N:=N) (bs:=bs) (bm:=bm) (hd:=hd) (sn:=sn) (su:=su) (ab:=ab) (co:=co) (dd:=dd) (k0:=k0) (k1:=k1) (k2:=k2) (k3:=k3) (k5:=k5) (nid:=nid) hb hh (wpAny_bind (wpAny_mono (wpAny_Call_ofName (wpAny_mono h (λf s1 h1=> ?_) λ_ _ x=>x)) (λv s3 h3=>wpAny_bind (wpAny_standAt (wpAny_pure h3))) λ_ _ x=>x))))
  | (simp only[evalOpt,Option.map];refine wpAny_bind (wpAny_standAt (EJ (C:=C) (nm:=nm) (qn:=qn) (N:=N) (bs:=bs) (bm:=bm) (hd:=hd) (sn:=sn) (su:=su) (ab:=ab) (co:=co) (dd:=dd) (k0:=k0) (k1:=k1) (k2:=k2) (k3:=k3) (k5:=k5) (nid:=nid) hb hh (wpAny_bind (wpAny_mono (wpAny_Call_ofName (wpAny_mono h (λf s1 h1=> ?_) λ_ _ x=>x)) (λv s3 h3=>wpAny_bind (wpAny_standAt (wpAny_pure h3))) λ_ _ x=>x)))))
 obtain⟨rfl,h1⟩:=h1;unfold callWith;refine wpAny_bind (wpAny_holding (wpAny_mono h1 (λa s2 h2=>wpAny_bind (wpAny_standAt ?_)) λ_ _ x=>x));obtain⟨ap,ak⟩:=a;obtain⟨hkw,hlen,hu,hC,hn,T,h2⟩:=h2;obtain rfl:ak=[]:=hkw;obtain⟨hp,g,d,tk,os⟩:=s2;simp only[hpl];refine wpAny_bind (wpAny_keeperOf_exc hC ?_);refine wpAny_bind (wpAny_call_exc_subT (hrest:=hlen) F T hC hn hni λh' e hm=>wpAny_bind (wpAny_holding (wpAny_point (wpAny_pure ?_))));obtain⟨t,ht,_,_⟩:=hm.there;obtain⟨o,vs,ho,hod,h2'⟩:=hu;have hne:ea≠e:=λz=>by
  subst z;have z1:=hm.new;rw[show hp.get? ea=some o from ho]at z1;cases z1
 exact⟨e,t,rfl,hne,⟨o,vs,hm.keeps _ _ ho,hod,h2'⟩,hm.keeps _ _ hC,ht,h2 h' e hm⟩
end
def CXC (P:Program)(w:World):CXT:=λouter H s E e s' =>
 ∃ea cls dd,∃a0:Value×Value,∃H' B,e= .ref ea/\s'.os=s.os/\AllBare s'.gens/\Un (frs outer) [] H H' s.heap s'.heap/\HOk P w H' s'.heap/\H' ea=none/\s.heap.get? ea=none ∧
  FlyD B outer ea cls dd a0 s'.heap/\(∀b,(H' b≠none∨∃o,s.heap.get? b=some o)->b∉frs outer->∃o,B.get? b=some o)/\E cls dd H'
theorem CXE.c {E:XK}{e:Value}(h:CXE P w outer H s E e s'):CXC P w outer H s E e s' :=
 let ⟨ea,cls,dd,a0,H',B,r⟩:=h;⟨ea,cls,dd,(a0,.none),H',B,r⟩
section
variable {K:Frag}{f:Addr}{E:XK}
theorem RK:fZ (CXC P w) (b7 (CXC P w) P w K mg base N qual scope f cd A outer s₀ H₀ E) E:=by
 intro pins σ H s e s' I h;obtain⟨ea,cls,dd,a0,H',B,rfl,os,bare,un,hok,hn,new,fl,cov,q⟩:=h;have I':=I.call' (ch:=[]) os un hok bare (λb z=>absurd z (by simp));have there:∀b o,s₀.heap.get? b=some o->∃o',s.heap.get? b=some o':=λb o e=>I.base.there b o e (λz=>absurd (show b∈([]:List Addr) from z) (by simp));show wpAny _ _ (leaving _ _) _ _ s';refine AB (I.ok.frames) rfl fl λh2 fl2 up=> ?_;obtain⟨un2,hok2⟩:=BY (B:=B) (h2:=h2) I' rfl fl2.1 fl.1 up (λb hb hs=>cov b (hb.imp id λ⟨o,e⟩=>there b o e) hs) rfl rfl;refine⟨ea,cls,dd,a0,H',B,rfl,I'.os,bare,un2,hok2,hn,?_,fl2,λb hb hs=>cov b (hb.imp id λ⟨o,e⟩=>there b o e) λz=> ?_,q⟩
 .cases e:s₀.heap.get? ea with
  | none=>rfl
  | some o =>
   obtain⟨o',e'⟩:=there ea o e;rw[new]at e';cases e'
 .rcases List.mem_cons.mp (I.stkSub b z) with e|hb'
  .rcases hb with hb|⟨o,e2⟩
   .exact hb (by rw[e];exact I'.free)
   .have e1:=Nat.lt_of_lt_of_le (Heap.lt_size e2) I.ok.above;rw[e]at e1;exact Nat.lt_irrefl _ e1
  .exact hs hb'
theorem AU:fZ (CXE P w) (b7 (CXC P w) P w K mg base N qual scope f cd A outer s₀ H₀ E) E:=λpins σ H s e s' I h=>RK pins σ H s e s' I h.c
def GJ (X:Cx)(E:XK):Prop:=∀(pins:List (Addr×Obj)) (σ:St) (H':Hp) (s':Shared) (h3:Heap) (ea:Addr) (cls:Value) (dd:Option Addr) (a0:Value×Value) (B:Heap),Inv X pins σ H' s'->H' ea=none->X.s₀.heap.get? ea=none->B.StaysIn s'.heap->B.StaysIn h3->B.get? ea=none->h3.FunFrames B X.stack →
 GR h3 B ea cls dd a0 (rawInt X.env.locals)->(∀b∈frs X.stack,∀o,s'.heap.get? b=some o->(∀vs,o.data≠ .fields vs)->∃sl,h3.get? b=some { o with slots:=sl })->(∀b,(H' b≠none∨∃o,X.s₀.heap.get? b=some o)->b∉frs X.stack->∃o,B.get? b=some o)->E cls dd H'->X.xe (.ref ea) { s' with heap:=h3 }
theorem ZH:GJ (b7 (CXC P w) P w K mg base N qual scope f cd A outer s₀ H₀ E) E:=by
 intro pins σ H' s' h3 ea cls dd a0 B I hn new sb st nb ff tr up cov q;show wpAny _ _ (leaving _ _) _ _ _;obtain⟨ob,fv,tb,tbo,tv,go,ec,ed,h0,hdt,h1,nT,tne,gT,dT,hm⟩:=id tr;unfold leaving noteFrame;simp only[show (envOfC qual scope s₀.heap.objs.size f cd).frame=some s₀.heap.objs.size from rfl];refine wpAny_bind (wpAny_bind (wpAny_field go hdt h1 ?_));rw[if_pos (show (Value.ref tb !=Value.none)=true from by simp)];refine wpAny_bind (wpAny_field gT dT hm ?_);refine wpAny_ite_split (λ_=> ?_) (λz=>absurd (show (rawInt (s₀.heap.objs.size:Int)==rawInt (s₀.heap.objs.size:Int))=true from beq_self_eq_true _) z);refine wpAny_pure (p7 (s:={ s' with heap:=h3 }) st nb ff tr λh4 fl up4=> ?_);obtain⟨f1,f2,⟨_,_,f3⟩,f4⟩:=fl;obtain⟨un2,hok2⟩:=VF (B:=B) (h2:=h4) I rfl f1 sb (λb hb o e hd=>by
  obtain⟨sl,e3⟩:=up b hb o e hd;obtain⟨sl2,e4⟩:=up4 b _ e3 hd;exact⟨sl2,e4⟩) cov rfl rfl
 refine⟨ea,cls,dd,a0,H',B,rfl,I.os,I.bare,un2,hok2,hn,new,⟨f1,f2,f3,f4⟩,λb hb hs=>cov b hb λz=> ?_,q⟩;rcases List.mem_cons.mp (I.stkSub b z) with e|hb'
 .rcases hb with hb|⟨o,e2⟩
  .exact hb (by rw[e];exact I.free)
  .have e1:=Nat.lt_of_lt_of_le (Heap.lt_size e2) I.ok.above;rw[e]at e1;exact Nat.lt_irrefl _ e1
 .exact hs hb'
end
section
variable {a₀:Expr}{ta:TA}
def RO (K:Frag)(T CN:Addr)(ta:TA)(E:XK)(σ:St):XK:=λcls dd H1=>∃C,cls= .ref C/\((exmOne K (.ref C) (.ref T)=some true/\∀ea,H1 ea=none->ta σ (upd H1 ea (BV ea C dd)) λvs H2=>vs.length<=sizeLine/\HX ea H2/\E (.ref CN) none H2)∨(exmOne K (.ref C) (.ref T)=some false/\E cls dd H1))
theorem SW {e':Addr}{args:List Value}{E:XK}(pf:GJ X E)(hst:X.stack=X.env::X.outer)(hfr:X.env.frame=some X.env.locals)(hex0:X.ex=[])(I2:Inv X pins σ H2 s2)
  (m:Heap.MadeExcOf s2.heap h' e' (.ref CN) args)(q:E (.ref CN) none H2) :
  notedBy (model X.prog X.w) (X.A.mark (some (.ref ea))) X.env (cameBackBy (model X.prog X.w) X.A X.env X.xe) (.ref e') { s2 with heap:=h'.update e' (Obj.mapFields (·.setIfInBounds 2 (.ref ea))) }:=by
 obtain⟨t,go,_,_⟩:=m.there;have nw:=m.new;have dU:=Obj.data_mapFields (show ({ cls:= .ref CN,data:= .fields #[.ref t,.none,.none,.none,.bool false,.none] }:Obj).data= .fields #[.ref t,.none,.none,.none,.bool false,.none] from rfl) (·.setIfInBounds 2 (.ref ea));have gU:=Heap.get?_update_self (Obj.mapFields (·.setIfInBounds 2 (Value.ref ea))) go (Obj.isFreed_of_fields dU);have keepU:∀b o,s2.heap.get? b=some o->(h'.update e' (Obj.mapFields (·.setIfInBounds 2 (.ref ea)))).get? b=some o:=λb o z=>by
  rw[Heap.get?_update_other _ _ (λy=>by rw[y,z]at nw;cases nw)];exact m.keeps b o z
 have clsU:(Obj.mapFields (·.setIfInBounds 2 (Value.ref ea)) ({ cls:= .ref CN,data:= .fields #[.ref t,.none,.none,.none,.bool false,.none] }:Obj)).cls= .ref CN:=Obj.cls_mapFields _ _;have dictU:(Obj.mapFields (·.setIfInBounds 2 (Value.ref ea)) ({ cls:= .ref CN,data:= .fields #[.ref t,.none,.none,.none,.bool false,.none] }:Obj)).dict=none:=vV _ _;generalize Obj.mapFields (·.setIfInBounds 2 (Value.ref ea)) ({ cls:= .ref CN,data:= .fields #[.ref t,.none,.none,.none,.bool false,.none] }:Obj)=ob at dU gU clsU dictU;generalize h'.update e' (Obj.mapFields (·.setIfInBounds 2 (.ref ea)))=hU at gU keepU ⊢;have there:∀b o,X.s₀.heap.get? b=some o->∃o',s2.heap.get? b=some o':=λb o e=>I2.base.there b o e (by rw[hex0];simp);have hin:∀env∈X.stack,∀b,env.frame=some b->b∈frs X.stack:=λenv he b hb=>List.mem_filterMap.mpr ⟨env,he,hb⟩;have hk:(hideAll s2.heap (frs X.stack)).StaysIn s2.heap:=λb o e=>of_hideAll _ e;have cov:∀b,(H2 b≠none∨∃o,X.s₀.heap.get? b=some o)->b∉frs X.stack->∃o,(hideAll s2.heap (frs X.stack)).get? b=some o:=λb hb hs=>by
  have:∃o,s2.heap.get? b=some o:=by
   rcases hb with hb|⟨o,e⟩
   .cases e:H2 b with
    | none=>exact absurd e hb
    | some u=>exact(I2.hok b u e).there
   .exact there b o e
  obtain⟨o,e⟩:=this;exact⟨o,hideAll_get _ e hs⟩
 have ff0:=funFrames_hide I2.stack hin;have nB:(hideAll s2.heap (frs X.stack)).get? e'=none:=by
  cases z:(hideAll s2.heap (frs X.stack)).get? e' with
  | none=>rfl
  | some o=>rw[hk _ _ z]at nw;cases nw
 generalize hideAll s2.heap (frs X.stack)=B at hk cov ff0 nB;have ffU:hU.FunFrames B X.stack:=ff0.of_keeps λb o z _=>⟨o,keepU b o z,rfl⟩
 rw[hst]at ffU;show wpAny _ _ (noteFrame (.ref e') X.env) _ _ _;unfold noteFrame;simp only[hfr];refine wpAny_bind (wpAny_field gU dU (x:= .none) rfl ?_);rw[if_neg (by decide)];refine xS (outer:=X.outer) (L:=X.env.locals) (a0:=(.ref t,.ref ea)) (by show X.A.frames=_;rw[I2.ok.frames,hst]) ffU hfr gU (λb o z=>keepU b o (hk b o z)) nB dU (by show 1<6;decide) ⟨rfl,rfl⟩ λh7 held=> ?_;obtain⟨g1,g2,g3,up⟩:=held;rw[clsU,dictU]at g3;obtain⟨ob7,fv,tb,tbo,tv,go7,ec,ed,h0,hdt,hh1,nT,tne,gT,dT,hmk⟩:=g3;have z3:=(Array.getElem?_eq_some_iff.mp hmk).1;unfold cameBackBy setFlight;refine wpAny_bind (wpAny_field go7 hdt hh1 ?_);rw[if_neg (show ¬(Value.ref tb==Value.none)=true from Bool.false_ne_true)];show wpAny _ X.A (field (.ref e') 1 >>= λtb=>if (tb !=Value.none)=true then setField tb 3 (X.env.frame.elim Value.none λf=>rawInt f) else pure ()) _ _ _;refine wpAny_bind (wpAny_field go7 hdt hh1 ?_);rw[if_pos (show (Value.ref tb !=Value.none)=true from by simp),hfr];refine wpAny_setField gT dT z3 ?_;have oth:∀b,b≠tb->(h7.update tb (Obj.mapFields (·.setIfInBounds 3 (rawInt X.env.locals)))).get? b=h7.get? b:=λb hb=>Heap.get?_update_other _ _ (Ne.symm hb);have gT3:=Heap.get?_update_self (Obj.mapFields (·.setIfInBounds 3 (rawInt X.env.locals))) gT (Obj.isFreed_of_fields (Obj.data_mapFields dT _));have dT3:=Obj.data_mapFields dT (·.setIfInBounds 3 (rawInt X.env.locals));show X.xe (.ref e') { s2 with heap:=h7.update tb (Obj.mapFields (·.setIfInBounds 3 (rawInt X.env.locals))) };generalize h7.update tb (Obj.mapFields (·.setIfInBounds 3 (rawInt X.env.locals)))=h3 at oth gT3 ⊢;have norec:∀b o,h7.get? b=some o->(∀vs,o.data≠ .fields vs)->b≠tb:=λb o q hnf z=>by
  rw[z,gT]at q;cases q;exact hnf tv dT
 refine pf pins σ H2 s2 h3 e' (.ref CN) none (.ref t,.ref ea) B I2 ?_ ?_ hk (λb o z=>(oth b λy=>by rw[y,nT]at z;cases z).trans (g1 b o z)) nB ?_ ?_ (λb hb o z hd=> ?_) cov q
 .cases z:H2 e' with
  | none=>rfl
  | some u =>
   obtain⟨o,z2⟩:=(I2.hok e' u z).there;rw[nw]at z2;cases z2
 .cases z:X.s₀.heap.get? e' with
  | none=>rfl
  | some o =>
   obtain⟨o',z2⟩:=there e' o z;rw[nw]at z2;cases z2
 .rw[hst];exact B1 (λb z=>z) (λb hb o z hd=>⟨o,(oth b (norec b o z hd)).trans z,rfl⟩) g2
 .exact⟨ob7,fv,tb,_,_,(oth e' (Ne.symm tne)).trans go7,ec,ed,h0,hdt,hh1,nT,tne,gT3,dT3,by simp[z3]⟩
 .obtain⟨sl,z1⟩:=up b o (keepU b o z) hd;exact⟨sl,(oth b (norec b _ z1 hd)).trans z1⟩
end
section
variable {a₀:Expr}{ta:TA}
theorem aBU {tb:XK->TS}(pf:GJ X E0x)(hst:X.stack=X.env::X.outer)(hfr:X.env.frame=some X.env.locals)(hex0:X.ex=[])(hm:X.mg x=some (.ref T))(hm2:X.mg y=some (.ref CN))(hc:DW X.K CN)(he:PXs X body tb)(ha:∀ea,PA (X.inx ea) (a₀::as) ta)
  (hg:Gl X x:=by rfl)(hdb:(x==("__debug__" :Str))=false:=by decide)(hg2:Gl X y:=by rfl)(hdb2:(y==("__debug__" :Str))=false:=by decide)
  (hes:starEach (a₀::as) X.env=(false,eval a₀ X.env)::starEach as X.env:=by rfl)(hpl:(backTo cpos (starEach as X.env)).any (·.1)=false:=by rfl) :
  PS X (.Try body [.ExceptHandler (some (.Name x np)) none [.Raise (some (.Call (.Name y np2) (a₀::as) [] cpos)) none rpos] hpos] [] [] pos) (λD σ H=>tb (RO X.K T CN ta E0x σ) D σ H):=by
 intro pins s σ H D I h;refine wpAny_Try_except ?_;refine wpAny_mono (he _ pins s σ H _ I h) (λf s1 q=> ?_) λev s' hx=> ?_
 .cases f with
  | next=>exact wpAny_execs_nil q
  | ret v=>exact q
  | brk=>exact q
  | cont=>exact q
 obtain⟨H1,s1,I1,ea,cls,dd,a0,H',B,rfl,os,bare,un,hok,hn,new,fl,cov,C,rfl,hq⟩:=hx;have frms:∀b∈frs X.stack,H' b=none:=λb hb=>by
  obtain⟨_,o,ho,_⟩:=I1.stack.mem hb;exact un.free b o ho (I1.stkFree b hb) (by simp)
 have fl0:=fl;rw[hst]at fl0;refine rT (by rw[I.ok.frames,hst]) hfr fl0 λh4 ⟨k1,k2,k3,up4⟩=> ?_;refine p7 k1 fl.2.1 k2 k3 λh5 hfl5 up5=> ?_;have I0:Inv X pins σ H' s':=I1.call' (ch:=[]) os un hok bare (λb z=>absurd z (by simp));have step:∀h6,FlyD B (X.env::X.outer) ea (.ref C) dd (a0,.none) h6->s'.heap.UpToSlots h6->Inv X pins σ (upd H' ea (BV ea C dd)) { s' with heap:=h6 }:=λh6 f6 up6=>by
  obtain⟨un2,hok2⟩:=C2 un hok cov fl.1 f6.1 up6 λb hb=>⟨frms b hb,(fl.2.2.1.mem hb).2⟩
  obtain⟨oe,vs,q1,q2,q3,q4,q5⟩:=f6.there;obtain⟨un3,hok3⟩:=ME (C:=C) un2 hok2 new hn q1 q2 q3 q4 q5;exact I1.call' (s':={ s' with heap:=h6 }) (ch:=[]) os un3 hok3 bare λb z=>absurd z (by simp)
 have I5:=step h5 hfl5 (up4.trans up5);obtain⟨ob,_,hob,hobc,_⟩:=hfl5.there;have LT:Looks (model X.prog X.w) h5 (typeOf (.ref ea)) (.ref C):=by
  rw[←hobc];exact(Looks.ld hob).andThen .now
 refine wpAny_handleBy_cons (codeAny_handlers_test ?_) (by intro q;cases q);refine dI (X:=X.inx ea) (I5.inx ea) hg hm ?_ hdb;rcases hq with⟨hex,hq⟩|⟨hex,hq⟩
 .refine(W.exm_one I5.kIn LT hex).here ?_;show codeAny _ _ _ _ _;refine codeAny_handlers_suite ?_;obtain⟨l1,l2,l3,l4⟩:=hfl5;refine p7 l1 l2 l3 l4 λh6 hfl6 up6=> ?_;have I6:=step h6 hfl6 ((up4.trans up5).trans up6);obtain⟨tl,N,nm,q,bs,hdct,sn,sub,ab,col,dd',k0,k1,k2,k3,k5,mN,hC,hN,hni,TT⟩:=MA I.ok.mod.kin hc;refine wpAny_execs_cons ?_;refine LV (C:=CN) (nm:=nm) (qn:=q) (N:=N) (bs:=bs) (bm:=tl) (hd:=hdct) (sn:=sn) (su:=sub) (ab:=ab) (co:=col) (dd:=dd') (k0:=k0) (k1:=k1) (k2:=k2) (k3:=k3) (k5:=k5) (ea:=ea)
   PySem.F.excBase_ValueError (mN:=mN) (TT.hasType PySem.F.excBase_ValueError.hasBase) rfl (by rw[hes];show (false||(backTo cpos (starEach as X.env)).any (·.1))=false;rw[hpl];rfl) hni (dI (X:=X.inx ea) (I6.inx ea) hg2 hm2 ⟨rfl,?_⟩ hdb2)
  have hh:=ha ea cpos pins _ σ _ _ (I6.inx ea) (hq ea hn);rw[show starEach (a₀::as) (X.inx ea).env=(false,eval a₀ X.env)::starEach as X.env from hes]at hh;rw[hes];refine Calls.evalArgs_plain (wpAny_mono hh (λvs s2 h2=> ?_) λ_ _ z=>False.elim z);obtain⟨us,H2,I2,r,z,⟨φ,hx,hu⟩,q2⟩:=h2;have I2':=I2.outx I.ok;exact⟨rfl,by rw[←r.length];exact z,hu _ (I2.hok ea _ hx).1,I2'.bk _ _ hC,hN.keeps I2'.bk,TT.keeps I2'.bk,λh' e' m=>SW pf hst hfr hex0 I2' m q2⟩
 .refine(W.exm_one I5.kIn LT hex).here ?_;show wpAny _ _ (handleBy (.ref ea) X.env []) _ _ _;refine wpAny_handleBy_nil ?_;have up:=up4.trans up5;obtain⟨g1,nb,g2,ob,fv,tb,tbo,tv,go,ec,ed,h0,hdt,hh1,nT,tne,gT,dT,hmk⟩:=hfl5;have z3:=(Array.getElem?_eq_some_iff.mp hmk).1;unfold PySem.passOn setFlight;refine wpAny_bind (wpAny_field go hdt hh1 ?_);rw[if_neg (show ¬(Value.ref tb==Value.none)=true from Bool.false_ne_true)];show wpAny _ X.A ((field (.ref ea) 1 >>= λtb=>if (tb !=Value.none)=true then setField tb 3 (X.env.frame.elim Value.none λf=>rawInt f) else pure ()) >>= λ_=>throw (Value.ref ea)) _ _ _;refine wpAny_bind (wpAny_bind (wpAny_field go hdt hh1 ?_));rw[if_pos (show (Value.ref tb !=Value.none)=true from by simp),hfr];refine wpAny_setField gT dT z3 (wpAny_throw ?_);have oth:∀b,b≠tb->(h5.update tb (Obj.mapFields (·.setIfInBounds 3 (rawInt X.env.locals)))).get? b=h5.get? b:=λb hb=>Heap.get?_update_other _ _ (Ne.symm hb);have gT3:=Heap.get?_update_self (Obj.mapFields (·.setIfInBounds 3 (rawInt X.env.locals))) gT (Obj.isFreed_of_fields (Obj.data_mapFields dT _));have dT3:=Obj.data_mapFields dT (·.setIfInBounds 3 (rawInt X.env.locals));show X.xe (.ref ea) { s' with heap:=h5.update tb (Obj.mapFields (·.setIfInBounds 3 (rawInt X.env.locals))) };generalize h5.update tb (Obj.mapFields (·.setIfInBounds 3 (rawInt X.env.locals)))=h3 at oth gT3 ⊢;have there:∀b o,X.s₀.heap.get? b=some o->∃o',s1.heap.get? b=some o':=λb o e=>I1.base.there b o e (by rw[hex0];simp);have norec:∀b o,h5.get? b=some o->(∀vs,o.data≠ .fields vs)->b≠tb:=λb o q hnf z=>by
   rw[z,gT]at q;cases q;exact hnf tv dT
  refine pf pins σ H' s' h3 ea (.ref C) dd (a0,.none) B I0 hn ?_ (λb o e=>fl.1 b o e) (λb o e=> ?_) nb ?_ ?_ (λb hb o e hd=> ?_) (λb hb hs=> ?_) hq
  .cases e:X.s₀.heap.get? ea with
   | none=>rfl
   | some o =>
    obtain⟨o',e'⟩:=there ea o e;rw[new]at e';cases e'
  .exact(oth b λz=>by rw[z,nT]at e;cases e).trans (g1 b o e)
  .rw[hst];refine B1 (λb e=>e) (λb hb o e hd=> ?_) g2;exact⟨o,(oth b (norec b o e hd)).trans e,rfl⟩
  .exact⟨ob,fv,tb,_,_,(oth ea (Ne.symm tne)).trans go,ec,ed,h0,hdt,hh1,nT,tne,gT3,dT3,by simp[z3]⟩
  .obtain⟨sl,e1⟩:=up b o e hd;exact⟨sl,(oth b (norec b _ e1 hd)).trans e1⟩
  .exact cov b (hb.imp id λ⟨o,e⟩=>there b o e) hs
end
structure FcQ (P:Program)(w:World)(K:Frag)(mg:Str->Option Value)(base:Heap)(x:Str)(k:Nat)(ps:List Str)(sp:Sp):Prop where
 ex:∃f fd,mg x=some (.ref f)/\keepIn K (.ref f)=true/\Binds K fd ps []/\FnOk P w K mg base (CXC P w) k f fd ps sp
variable {fd:FuncData}{sp:Sp}
section
variable {K:Frag}
theorem FunV.okQ {st:Stmt}{f:Addr}{ps:List Str}{k:Nat}(F:FunV K x qual st f fd)(S:aN N ps (aH st))(len:∀vs H Q E,sp vs H Q E->vs.length=ps.length)
  (hbody:∀(cdv:Value) (A:Around) (outer:List Env) (s:Shared) (H:Hp) (vs:List V) (Q:VK) (E:XK),Room k (A.deeper (envOfC qual (aH st) s.heap.objs.size f cdv))->sp vs H Q E →
   ∃t,PSs (b7 (CXC P w) P w K mg base N qual (aH st) f cdv A outer s H E) (c8 st) t/\t { nx:=λ_ H'=>Q .non H',rt:=Q } (jE N vs) H):FnOk P w K mg base (CXC P w) (k+1) f fd ps sp:=by
 obtain⟨oc,od,dV,kV,doc,pm,an,cdv,ct,osl,rfl,lk,hcd⟩:=F.ex;exact P4 lk hcd S len λA outer s H vs Q E hr h=>hbody cdv A outer s H vs Q E hr h
end
section
variable {k k':Nat}{m:Str}{p:Pos}{t:TA}{f:Addr}{dvs:List V}{ds:List Value}{E R:XK}{ps:List Str}
theorem GF (F:FcQ X.prog X.w X.K X.mg X.base x k ps sp)(hr:Room k' X.A)(hx:fZ (CXC X.prog X.w) X E)(ha:PA X (e::es) t)(hk:k<=k':=by decide)(hg:Gl X x:=by rfl)
  (hdb:(x==("__debug__" :Str))=false:=by decide)(he:starEach (e::es) X.env=(false,eval e X.env)::starEach es X.env:=by rfl)(hpl:(backTo pos (starEach es X.env)).any (·.1)=false:=by rfl) :
  PE X (.Call (.Name x p) (e::es) [] pos) (j8 sp [] E t):=by
 obtain⟨f,fd,hm,kp,b,G⟩:=F.ex;exact DG G (hr.mono hk) hg hm kp b .nil hx ha hdb he hpl
def aFT (a C dx:Addr)(h:Heap):Prop:=∃o vs,h.get? a=some o/\o.cls= .ref C/\o.dict=some dx/\o.data= .fields vs
def tL (a C:Addr):Option Addr->HO
 | none=> .ext (wZ a C)
 | some dx=> .ext (aFT a C dx)
def XWQ (X:Cx)(pins:List (Addr×Obj))(σ:St)(R:XK)(e:Value)(s':Shared):Prop:=∃H1 s1,Inv X pins σ H1 s1/\CXC X.prog X.w X.stack H1 s1 R e s'
def aDb (X:Cx)(e:Expr)(t:XK->TE):Prop :=
 ∀(R:XK) (pins:List (Addr×Obj)) (s:Shared) (σ:St) (H:Hp) (Q:VK),Inv X pins σ H s->t R σ H Q->wpAny (model X.prog X.w) X.A (eval e X.env) (EP X pins σ Q) (XWQ X pins σ R) s
theorem aCH (F:FcQ X.prog X.w X.K X.mg X.base x k ps sp)(hr:Room k' X.A)(ha:PA X.nox (e::es) t)(hk:k<=k':=by decide)(hg:Gl X x:=by rfl)
  (hdb:(x==("__debug__" :Str))=false:=by decide)(he:starEach (e::es) X.env=(false,eval e X.env)::starEach es X.env:=by rfl)(hpl:(backTo pos (starEach es X.env)).any (·.1)=false:=by rfl) :
  aDb X (.Call (.Name x p) (e::es) [] pos) (λR=>j8 sp [] R t):=by
 intro R pins s σ H Q I h;obtain⟨f,fd,hm,kp,b,G⟩:=F.ex;refine wpAny_Call_Name_kw (dI I hg hm ?_ hdb);refine W.callWith_K (h₀:=X.base) I.ok.mod.kin kp (thn (ha.noxx pos pins s σ H _ I h) λus s1 ⟨vs,H1,I1,r,q⟩=>⟨I1.kIn,?_⟩) he hpl;have r2:Vals (vs++[]) (us++[]):=r.append .nil;have hl:(us++[]).length=ps.length:=by rw[←r2.length];exact G.len _ _ _ _ q
 refine wpAny_call (codeAny_mono (G.run X.A X.stack s1 H1 ⟨us,[]⟩ (us++[]) (vs++[]) Q R (hr.mono hk) I1.env0 (b s1 us I1.kIn hl) r2 q) λr s' hq=> ?_);cases r with
 | error e=>exact⟨H1,s1,I1,hq⟩
 | ok fl =>
  cases fl with
  | ret u=>exact I1.after hq
  | next=>exact False.elim hq
  | brk=>exact False.elim hq
  | cont=>exact False.elim hq
end
section
variable {i:Nat}{n:Str}{ts:TS}
def N2 (K:Frag)(T:Addr)(i:Nat)(ts:TS)(D:gN)(σ:St):XK:=λcls dd H1=>∃C,cls= .ref C/\exmOne K (.ref C) (.ref T)=some true ∧
 ∀ea,H1 ea=none->ts { nx:=λσ' H'=>D.nx (σ'.set i none) H',rt:=D.rt,bk:=λσ' H'=>D.bk (σ'.set i none) H',ct:=λσ' H'=>D.ct (σ'.set i none) H' } (σ.set i (some (.ref ea))) (upd H1 ea (tL ea C dd))
def ZU (K:Frag)(T:Addr)(i:Nat)(tc:XK->TE)(ts:TS):TS:=λD σ H=>tc (N2 K T i ts D σ) σ H λ_ H1=>D.nx σ H1
theorem aBC (hN:X.N.Nodup)(hi:X.N[i]? =some n)(hk:X.env.scope.names.lookup n=some .local)(hst:X.stack=X.env::X.outer)(hfr:X.env.frame=some X.env.locals)(hm:X.mg x=some (.ref T))(he:aDb X e tc)(hs:∀ea,PSs (X.inx ea) (b₀::suite) ts)
  (hg:Gl X x:=by rfl)(hdb:(x==("__debug__" :Str))=false:=by decide)(hsw:swapsWith e none epos.line X.env=pure false:=by rfl) :
  PS X (.Try [.Expr e epos] [.ExceptHandler (some (.Name x np)) (some n) (b₀::suite) hpos] [] [] pos) (ZU X.K T i tc ts):=by
 intro pins s σ H D I h;refine wpAny_Try_except ?_;have run:wpAny (model X.prog X.w) X.A (execs [.Expr e epos] X.env) (SP X pins D) (XWQ X pins σ (N2 X.K T i ts D σ)) s:=by
  refine wpAny_execs_cons (wpAny_Expr_any ?_ I.quiet hsw);exact wpAny_mono (he _ pins s σ H _ I h) (λv s1 ⟨v',H1,I1,r1,q1⟩=>wpAny_execs_nil ⟨σ,H1,I1,q1⟩) λ_ _ z=>z
 refine wpAny_mono run (λf s1 q=> ?_) λev s' hx=> ?_
 .cases f with
  | next=>exact wpAny_execs_nil q
  | ret v=>exact q
  | brk=>exact q
  | cont=>exact q
 obtain⟨H1,s1,I1,ea,cls,dd,a0,H',B,rfl,os,bare,un,hok,hn,new,fl,cov,C,rfl,hex,hq⟩:=hx;have frms:∀b∈frs X.stack,H' b=none:=λb hb=>by
  obtain⟨_,o,ho,_⟩:=I1.stack.mem hb;exact un.free b o ho (I1.stkFree b hb) (by simp)
 have fl0:=fl;rw[hst]at fl0;refine rT (by rw[I.ok.frames,hst]) hfr fl0 λh4 ⟨k1,k2,k3,up4⟩=> ?_;refine p7 k1 fl.2.1 k2 k3 λh5 hfl5 up5=> ?_;have step:∀h6,FlyD B (X.env::X.outer) ea (.ref C) dd a0 h6->s'.heap.UpToSlots h6->Inv X pins σ (upd H' ea (tL ea C dd)) { s' with heap:=h6 }:=λh6 f6 up6=>by
  obtain⟨un2,hok2⟩:=C2 un hok cov fl.1 f6.1 up6 λb hb=>⟨frms b hb,(fl.2.2.1.mem hb).2⟩
  obtain⟨oe,vs,q1,q2,q3,q4,q5⟩:=f6.there;have un3:Un (frs X.stack) [] H1 (upd H' ea (tL ea C dd)) s1.heap h6/\HOk X.prog X.w (upd H' ea (tL ea C dd)) h6:=by
   cases dd with
   | none=>exact AZ (C:=C) un2 hok2 new hn ⟨oe,vs,q1,q2,q4⟩ ⟨_,q1⟩ λg1 g2 ⟨o',vs',z1,z2⟩ k=>⟨o',vs',k _ z1,z2⟩
   | some dx=>exact AZ (C:=C) un2 hok2 new hn ⟨oe,vs,q1,q2,q3,q4⟩ ⟨_,q1⟩ λg1 g2 ⟨o',vs',z1,z2⟩ k=>⟨o',vs',k _ z1,z2⟩
  exact I1.call' (s':={ s' with heap:=h6 }) (ch:=[]) os un3.1 un3.2 bare λb z=>absurd z (by simp)
 have I5:=step h5 hfl5 (up4.trans up5);obtain⟨ob,_,hob,hobc,_⟩:=hfl5.there;have LT:Looks (model X.prog X.w) h5 (typeOf (.ref ea)) (.ref C):=by
  rw[←hobc];exact(Looks.ld hob).andThen .now
 refine wpAny_handleBy_cons (codeAny_handlers_test ?_) (by intro q;cases q);refine dI (X:=X.inx ea) (I5.inx ea) hg hm ?_ hdb;refine(W.exm_one I5.kIn LT hex).here ?_;show codeAny _ _ _ _ _;refine codeAny_handlers_suite_as ?_;obtain⟨l1,l2,l3,l4⟩:=hfl5;refine p7 l1 l2 l3 l4 λh6 hfl6 up6=> ?_;have I6:=step h6 hfl6 ((up4.trans up5).trans up6);refine yD (X:=X.inx ea) (v:= .ref ea) (I6.inx ea) hN hi (.inl hk) rfl (λs7 I7=> ?_) (.inr hk);refine wpAny_mono (hs ea pins s7 _ _ _ I7 (hq ea hn)) (λf s8 hsp=> ?_) λ_ _ z=>False.elim z;cases f with
 | next =>
  obtain⟨σ',H8,I8,q8⟩:=hsp;exact rM (I8.outx I.ok) hN hi hk λs9 I9=>⟨_,H8,I9,q8⟩
 | brk =>
  obtain⟨σ',H8,I8,q8⟩:=hsp;exact rM (I8.outx I.ok) hN hi hk λs9 I9=>⟨_,H8,I9,q8⟩
 | cont =>
  obtain⟨σ',H8,I8,q8⟩:=hsp;exact rM (I8.outx I.ok) hN hi hk λs9 I9=>⟨_,H8,I9,q8⟩
 | ret u =>
  obtain⟨v,σ',H8,I8,r8,q8⟩:=hsp;exact rM (I8.outx I.ok) hN hi hk λs9 I9=>⟨v,_,H8,I9,r8,q8⟩
end
section
variable {f:Str}
end
def aEZ (K:Frag):List V->Hp->VK->Prop:=λxs H Q=>∃(a tp C:Addr) (Ds:List Addr) (b:Bool),xs=[.ref a,.ref tp]/\IsX H a C/\ExcK K C/\H tp=some (.tup (Ds.map V.ref))/\kitAny K (.ref C) (Ds.map Value.ref)=some b/\Q (.bl b) H
theorem EK:∀{Ds:List Addr}{us:List Value},Vals (Ds.map V.ref) us->us=Ds.map Value.ref
 | [],_,.nil=>rfl
 | _::_,_,.cons r t=>by rw[EK t];cases (show _=_ from r);rfl
theorem TL (K:Frag)(h:X.K=K):cU X (.builtin "isinstance") (aEZ K):=by
 subst h;intro pins s σ H xs us Q I r h;obtain⟨a,tp,C,Ds,b,rfl,hs,k,ht,e,q⟩:=h;obtain⟨v1,v2,rfl,r1,r2⟩:=GS r;obtain rfl:v1= .ref a:=r1;obtain rfl:v2= .ref tp:=r2;obtain⟨φ,hs,hφ⟩:=hs;obtain⟨z,_⟩:=I.hok a _ hs;obtain⟨_,its,rv,⟨cl,d,dt,sl⟩,ho,hc,hd⟩:=I.hok tp _ ht;obtain rfl:=EK rv
 dsimp only at hc hd
 obtain⟨n,hd⟩:=hd;subst hc hd;exact kia_tup (yJ k) I.kIn (hφ _ z) ho e (λz=>by cases z) λtk=>⟨.bl b,H,I.tok tk,rfl,q⟩
theorem yP {l:List Stmt}:PSs X l (λ_ _ _=>False):=λ_ _ _ _ _ _ h=>h.elim
section
variable {D:Addr}{ks:List Key}
end
def ZN (K:Frag)(T CN:Addr)(ta:TA)(E:XK)(tb:XK->TS):TS:=λD σ H=>tb (RO K T CN ta E σ) D σ H
theorem aBq {K:Frag}{ta:TA}{E:XK}{tb:XK->TS}{D:gN}(h:tb (RO K T CN ta E σ) D σ H):ZN K T CN ta E tb D σ H:=h
theorem aBi {np np2 cpos rpos hpos pos:Pos}{a₀:Expr}{ta:TA}{tb:XK->TS}(pf:GJ X E0x)(hst:X.stack=X.env::X.outer)(hfr:X.env.frame=some X.env.locals)(hex0:X.ex=[])(hm:X.mg x=some (.ref T))(hm2:X.mg y=some (.ref CN))(hc:DW X.K CN)(he:PXs X body tb)(ha:∀ea,PA (X.inx ea) (a₀::as) ta)
  (hg:Gl X x:=by rfl)(hdb:(x==("__debug__" :Str))=false:=by decide)(hg2:Gl X y:=by rfl)(hdb2:(y==("__debug__" :Str))=false:=by decide)
  (hes:starEach (a₀::as) X.env=(false,eval a₀ X.env)::starEach as X.env:=by rfl)(hpl:(backTo cpos (starEach as X.env)).any (·.1)=false:=by rfl) :
  PS X (.Try body [.ExceptHandler (some (.Name x np)) none [.Raise (some (.Call (.Name y np2) (a₀::as) [] cpos)) none rpos] hpos] [] [] pos) (ZN X.K T CN ta E0x tb):=aBU pf hst hfr hex0 hm hm2 hc he ha hg hdb hg2 hdb2 hes hpl
theorem WB {R:XK}{D:gN}(h:tc R σ H λv H1=>D.rt v H1):ZR tc R D σ H:=h
theorem X1 (K:Frag)(h:X.K=K):SlR X (YV K):=by
 subst h;exact cQ
theorem LG {f:Addr}{E:XK}
  {pins:List (Addr×Obj)}{σ:St}{H:Hp}{s1:Shared}{h':Heap}{ea:Addr}{cls:Value}{args:List Value} (I:Inv (b7 (CXC P w) P w K mg base N qual scope f cd A outer s₀ H₀ E) pins σ H s1)
  (m:Heap.MadeExcOf s1.heap h' ea cls args)(q:E cls none H):(b7 (CXC P w) P w K mg base N qual scope f cd A outer s₀ H₀ E).xe (.ref ea) { s1 with heap:=h' }:=by
 have there:∀b o,s₀.heap.get? b=some o->∃o',s1.heap.get? b=some o':=λb o e=>I.base.there b o e (λz=>absurd (show b∈([]:List Addr) from z) (by simp));have hin:∀env∈(b7 (CXC P w) P w K mg base N qual scope f cd A outer s₀ H₀ E).stack,∀b,env.frame=some b->b∈frs (b7 (CXC P w) P w K mg base N qual scope f cd A outer s₀ H₀ E).stack:=λenv he b hb=>List.mem_filterMap.mpr ⟨env,he,hb⟩;have hk:(hideAll s1.heap (frs (b7 (CXC P w) P w K mg base N qual scope f cd A outer s₀ H₀ E).stack)).StaysIn s1.heap:=λb o e=>of_hideAll _ e;have cov:∀b,(H b≠none∨∃o,s₀.heap.get? b=some o)->b∉frs (b7 (CXC P w) P w K mg base N qual scope f cd A outer s₀ H₀ E).stack →
   ∃o,(hideAll s1.heap (frs (b7 (CXC P w) P w K mg base N qual scope f cd A outer s₀ H₀ E).stack)).get? b=some o:=λb hb hs=>by
  have:∃o,s1.heap.get? b=some o:=by
   rcases hb with hb|⟨o,e⟩
   .cases e:H b with
    | none=>exact absurd e hb
    | some u=>exact(I.hok b u e).there
   .exact there b o e
  obtain⟨o,e⟩:=this;exact⟨o,hideAll_get _ e hs⟩
 show wpAny _ _ (leaving _ _) _ _ _;refine u8 (s:={ s1 with heap:=h' }) (h:=s1.heap) (base:=hideAll s1.heap (frs (b7 (CXC P w) P w K mg base N qual scope f cd A outer s₀ H₀ E).stack)) (I.ok.frames) rfl hk (funFrames_hide I.stack hin) m λh2 t fl up=> ?_;have up2:s1.heap.UpToSlots h2:=(Heap.UpToSlots.of_keeps m.keeps).trans up;obtain⟨un2,hok2⟩:=BY (h2:=h2) I rfl fl.1 hk up2 cov rfl rfl;have hn:H ea=none:=by
  cases e:H ea with
  | none=>rfl
  | some u =>
   obtain⟨o,e2⟩:=(I.hok ea u e).there;rw[m.new]at e2;cases e2
 refine⟨ea,cls,none,(.ref t,.none),H,_,rfl,I.os,I.bare,un2,hok2,hn,?_,fl,λb hb hs=>cov b hb λz=> ?_,q⟩
 .cases e:s₀.heap.get? ea with
  | none=>rfl
  | some o =>
   obtain⟨o',e'⟩:=there ea o e;rw[m.new]at e';cases e'
 .rcases List.mem_cons.mp (I.stkSub b z) with e|hb'
  .rcases hb with hb|⟨o,e2⟩
   .exact hb (by rw[e];exact I.free)
   .have e1:=Nat.lt_of_lt_of_le (Heap.lt_size e2) I.ok.above;rw[e]at e1;exact Nat.lt_irrefl _ e1
  .exact hs hb'
theorem UM {f:Addr}{E:XK}:
  IC (b7 (CXC P w) P w K mg base N qual scope f cd A outer s₀ H₀ E) E:=λ_ _ _ _ _ _ _ _ I m q=>LG I m q
theorem aDW {f:Addr}{E:XK}:
  wU (b7 (CXC P w) P w K mg base N qual scope f cd A outer s₀ H₀ E) E:=λpins σ H' s' h3 ea cls dd a0 B=>ZH pins σ H' s' h3 ea cls dd (a0,.none) B
theorem MY:fZ (CXC P w) X E0:=λ_ _ _ _ _ _ _ h=>by
 obtain⟨_,_,_,_,_,_,_,_,_,_,_,_,_,_,_,q⟩:=h;exact q.elim
def aF8 (K:W.Frag):R2:=λx y H Q=>∃(a b:Addr) (xs ys:List Str),x= .ref a/\y= .ref b/\SqL K H a (xs.map V.str)/\SqL K H b (ys.map V.str)/\Q (.bl (!decide (xs=ys))) H
theorem J3:∀{xs:List Str}{us:List Value},Vals (xs.map V.str) us->∀j (h:j<us.length),∃x,RelV (.str x) us[j]/\xs[j]? =some x
 | [],_,.nil,_,h=>absurd h (Nat.not_lt_zero _)
 | x::_,_,.cons r1 _,0,_=>⟨x,r1,rfl⟩
 | _::_,_,.cons _ r2,j+1,h=>J3 r2 j (Nat.lt_of_succ_lt_succ h)
theorem aCX (hu:X.A.units<cLine):OpR X (compareOp .NotEq) (aF8 X.K):=by
 intro pins s σ H x y v u Q I rx ry h;obtain⟨a,b,ra,rb,rfl,rfl,ha,hb,q⟩:=h;cases rx;cases ry;obtain⟨its,r,pl,hz⟩:=I.list ha;obtain⟨its2,r2,pl2,_⟩:=I.list hb;have l1:=r.length;have l2:=r2.length;rw[List.length_map]at l1 l2
 by_cases hl:ra.length=rb.length
 .refine SeqAt.RcNeAt.lists (e:=λj=>decide (ra[j]? =rb[j]?)) pl.isList pl2.isList (by rw[List.size_toArray,List.size_toArray];lia) hu (λj h1 h2=> ?_) X.prog X.w X.xe _ ⟨.bl (!decide (ra=rb)),H,I,?_,q⟩
  .obtain⟨x1,e1,f1⟩:=J3 r j (by simpa using h1);obtain⟨x2,e2,f2⟩:=J3 r2 j (by simpa using h2);have:=aEK (A:=X.A.in1) (s:=s) e1 e2 rfl rfl;have ee:decide (ra[j]? =rb[j]?)=eqV (.str x1) (.str x2):=by
    rw[f1,f2,Bool.eq_iff_iff,decide_eq_true_eq];show some x1=some x2↔(x1==x2)=true;rw[beq_iff_eq];exact⟨λh=>Option.some.inj h,λh=>by rw[h]⟩
   rw[ee]
   simpa using this
  .have e:(List.range its.toArray.size).all (λj=>decide (ra[j]? =rb[j]?))=decide (ra=rb):=by
    rw[Bool.eq_iff_iff,List.all_eq_true,decide_eq_true_eq]
    constructor
    .intro h
     apply List.ext_getElem?
     intro i
     by_cases hi:i<ra.length
     .exact of_decide_eq_true (h i (List.mem_range.mpr (by rw[List.size_toArray];lia)))
     .rw[List.getElem?_eq_none (by lia),List.getElem?_eq_none (by lia)]
    .rintro rfl i _;exact decide_eq_true rfl
   rw[e];rfl
 .refine SeqAt.RcNeAt.lists_lengths pl.isList pl2.isList (by rw[List.size_toArray,List.size_toArray,bne_iff_ne];lia) hu X.prog X.w X.xe _ ⟨.bl (!decide (ra=rb)),H,I,?_,q⟩;rw[decide_eq_false (λz=>hl (by rw[z]))];rfl
section
variable {t:Tok}
theorem WW {D:Addr}{items:Array Value}{ys:List Str}(hl:s.heap.IsList D items)(hi:StrsAre items.toList ys)(hok:(ys.map (·.length)).sum+ys.length * x.length<=16777216)(h2:2<=ys.length)
  (h:∀t' k,0<k->Q (.str (Txt.join x ys) t') { s with toks:=k }):wpAny (model prog w) A (call (.builtin "str.join") [.str x t,.ref D]) Q E s:=by
 obtain⟨l,hv,ht⟩:=strsAre_values hi;have e:items=(strValues l).toArray:=by rw[←hv]
 subst e;subst ht;have hok:=joinOk_of hok;unfold JoinOk at hok;rw[Bool.not_eq_true']at hok;refine call_meets PySem.F.slot_str_join (typeIs_str _ _ _) PySem.F.entry_str_join (PySem.F.args_str_join_2 _ _) (meets_str_join_list x t D l hok) ⟨hl,?_⟩;rcases l with _|⟨a,_|⟨b,l⟩⟩
 .exact absurd h2 (by decide)
 .exact absurd h2 (by show ¬2<=1;decide)
 .have q:∀k t',0<k->Q (.str (Txt.join x ((a::b::l).map (·.1))) t') { s with toks:=k }:=λk t' hk=>h t' k hk;exact⟨joinFit_length hok,q (s.toks+1) s.toks (Nat.succ_pos _)⟩
end
def PEp (X:Cx)(e:Expr)(t:TE):Prop :=
 ∀(pins:List (Addr×Obj)) (s:Shared) (σ:St) (H:Hp) (Q:VK),Inv X pins σ H s->t σ H Q->wpAny (model X.prog X.w) X.A (eval e X.env) (λu s'=>0<s'.toks/\EP X pins σ Q u s') X.xe s
def J9 (K:W.Frag)(z:Str)(t:TE):TE:=λσ H Q=>t σ H λx H1=>∃p ys,x= .ref p/\SqL K H1 p (ys.map V.str)/\(ys.map (·.length)).sum+ys.length * z.length<=16777216/\2<=ys.length/\Q (.str (Txt.join z ys)) H1
theorem JK {a:Expr}{apos cpos:Pos}(ha:PE X a ta)
  (hbase:attributeBase (.Constant (.str z) kz pz) "join" X.env (eval (.Constant (.str z) kz pz) X.env)=eval (.Constant (.str z) kz pz) X.env:=by rfl)
  (hfew:((backTo cpos (starEach [a] X.env)).all (λx=> !x.1)&&(backToKw cpos (keywordEach [] X.env)).all (λx=>x.1.isSome)
   && decide (([a]:List Expr).length+([]:List Keyword).length+(if ([]:List Keyword).isEmpty then 0 else 1)<30))=true:=by rfl)
  (hline:(apos.endLine==cpos.line)=true:=by rfl)
  (hs:starEach [a] X.env=(false,eval a X.env)::starEach [] X.env:=by rfl) :
  PEp X (.Call (.Attribute (.Constant (.str z) kz pz) "join" apos) [a] [] cpos) (J9 X.K z ta):=by
 intro pins s σ H Q I h;refine wpAny_Call_method_late hbase hfew hline rfl (Calls.Constant_str ?_);refine⟨"str",_,PySem.F.plainAttrs_str,PySem.F.slot_str_join,PySem.F.type_str_join,typeIs_str _ _ _,?_,?_⟩
 .intro _ z;cases z
 .rw[hs];refine Calls.callWith_builtin rfl (Calls.evalArgs_plain (Calls.spliced_cons ?_));refine thn (ha pins _ σ H _ (I.tok _) h) λu s1 ⟨x,H1,I1,r1,q1⟩=>Calls.spliced_nil ?_;obtain⟨p,ys,rfl,hq,hz,h2,q⟩:=q1;cases r1;obtain⟨its,r',pl,_⟩:=I1.list hq;exact WW pl.isList (by rw[List.toList_toArray];exact uI r') hz h2 λt' k hk=>⟨hk,.str _,H1,I1.tok k,⟨t',rfl⟩,q⟩
def JG (y:Str)(cs:List Str)(to tx:TE):TE:=λσ H Q=>to σ H λx H1=>∃z1,x= .str z1/\z1.length<=1000000/\tx σ H1 λi H2=>∃(j:Nat) (c:Str),i= .int j/\cs[j]? =some c/\Q (.str (Txt.replace z1 y c)) H2
theorem JH {ix:Expr}{tx:TE}{c0 c1 c2 c3:Str}{ky k0 k1 k2 k3:Nat}{py p0 p1 p2 p3 lpos xpos apos cpos:Pos}(ho:PEp X o to)(hx:PE X ix tx)(hp:NK ix)
  (hc:(([c0,c1,c2,c3]:List Str).all λc=>(!(y==c))&&decide (c.length<=14))=true)
  (hbase:attributeBase o "replace" X.env (eval o X.env)=eval o X.env:=by rfl)
  (hfew:((backTo cpos (starEach [.Constant (.str y) ky py,.Subscript (.List [.Constant (.str c0) k0 p0,.Constant (.str c1) k1 p1,.Constant (.str c2) k2 p2,.Constant (.str c3) k3 p3] lpos) ix xpos] X.env)).all (λx=> !x.1)&&(backToKw cpos (keywordEach [] X.env)).all (λx=>x.1.isSome)
   && decide (([.Constant (.str y) ky py,.Subscript (.List [.Constant (.str c0) k0 p0,.Constant (.str c1) k1 p1,.Constant (.str c2) k2 p2,.Constant (.str c3) k3 p3] lpos) ix xpos]:List Expr).length+([]:List Keyword).length+(if ([]:List Keyword).isEmpty then 0 else 1)<30))=true:=by rfl)
  (hline:(apos.endLine==cpos.line)=true:=by rfl)
  (hs2:starEach [.Constant (.str y) ky py,.Subscript (.List [.Constant (.str c0) k0 p0,.Constant (.str c1) k1 p1,.Constant (.str c2) k2 p2,.Constant (.str c3) k3 p3] lpos) ix xpos] X.env=(false,eval (.Constant (.str y) ky py) X.env)::(false,eval (.Subscript (.List [.Constant (.str c0) k0 p0,.Constant (.str c1) k1 p1,.Constant (.str c2) k2 p2,.Constant (.str c3) k3 p3] lpos) ix xpos) X.env)::starEach [] X.env:=by rfl)
  (hs4:starEach [.Constant (.str c0) k0 p0,.Constant (.str c1) k1 p1,.Constant (.str c2) k2 p2,.Constant (.str c3) k3 p3] X.env=(false,eval (.Constant (.str c0) k0 p0) X.env)::(false,eval (.Constant (.str c1) k1 p1) X.env)::(false,eval (.Constant (.str c2) k2 p2) X.env)::(false,eval (.Constant (.str c3) k3 p3) X.env)::starEach [] X.env:=by rfl) :
  PE X (.Call (.Attribute o "replace" apos) [.Constant (.str y) ky py,.Subscript (.List [.Constant (.str c0) k0 p0,.Constant (.str c1) k1 p1,.Constant (.str c2) k2 p2,.Constant (.str c3) k3 p3] lpos) ix xpos] [] cpos) (JG y [c0,c1,c2,c3] to tx):=by
 intro pins s σ H Q I h;refine wpAny_Call_method_late hbase hfew hline rfl (thn (ho pins s σ H _ I h) λv s1 ⟨tp,x,H1,I1,r1,z1,ex,hz1,q1⟩=> ?_);subst ex;obtain⟨t1,rfl⟩:=r1;refine⟨"str",_,PySem.F.plainAttrs_str,PySem.F.slot_str_replace,PySem.F.type_str_replace,typeIs_str _ _ _,?_,?_⟩
 .intro _ z;cases z
 .rw[hs2];refine Calls.callWith_builtin rfl (Calls.evalArgs_plain ?_);refine Calls.spliced_cons (Calls.Constant_str (k:=ky) (pos:=py) (Calls.spliced_cons (Subscript_ (wpAny_List_spliced ?_))));rw[hs4];show wpAny _ _ (spliced ((false,_)::(false,_)::(false,_)::(false,_)::backTo lpos (starEach [] X.env))) _ _ _;refine Calls.spliced_cons (Calls.Constant_str (k:=k0) (pos:=p0) (Calls.spliced_cons (Calls.Constant_str (k:=k1) (pos:=p1) (Calls.spliced_cons (Calls.Constant_str (k:=k2) (pos:=p2) (Calls.spliced_cons (Calls.Constant_str (k:=k3) (pos:=p3) (Calls.spliced_nil ?_))))))));refine⟨by show 4<=sizeLine;decide,?_⟩;have hlt:=I1.lt;have hf:H1 s1.heap.objs.size=none:=I1.hok.fresh (Nat.le_refl _);have I2:Inv X pins σ H1 { s1 with heap:=s1.heap.push { cls:= .type "list",data:= .seq #[.str c0 (s1.toks+1),.str c1 (s1.toks+1+1),.str c2 (s1.toks+1+1+1),.str c3 (s1.toks+1+1+1+1)] 0 },toks:=s1.toks+1+1+1+1+1 }:=I1.kept λb u e=>Heap.get?_push_of_some _ e;have I3:=I2.pins_of (pins':=(s1.heap.objs.size,{ cls:= .type "list",data:= .seq #[.str c0 (s1.toks+1),.str c1 (s1.toks+1+1),.str c2 (s1.toks+1+1+1),.str c3 (s1.toks+1+1+1+1)] 0 })::pins) λp hp=>by
   rcases List.mem_cons.mp hp with rfl|hp
   .exact⟨Heap.get?_push_size _ rfl,hf,Nat.ne_of_gt hlt,I1.nofs (Nat.le_refl _),λ_ z=>nomatch z⟩
   .exact I2.pin p (List.mem_append_right _ hp)
  refine thn (hx _ _ σ H1 _ I3 q1) λu s2 ⟨i,H2,I4,r4,q4⟩=> ?_;obtain⟨j,c,rfl,hj,q⟩:=q4;obtain⟨t',rfl⟩:=r4;have hg:=(I4.pin _ (List.mem_append_right _ (.head _))).1;have I5:Inv X pins σ H2 s2:=I4.pins_of λp hp=>I4.pin p (List.mem_append_right _ (.tail _ hp));have key:∃tk,(#[Value.str c0 (s1.toks+1),.str c1 (s1.toks+1+1),.str c2 (s1.toks+1+1+1),.str c3 (s1.toks+1+1+1+1)]:Array Value)[j]? =some (.str c tk)/\s1.toks<tk/\(y==c)=false/\c.length<=14/\j<4:=by
   have hc:∀d∈([c0,c1,c2,c3]:List Str),(y==d)=false/\d.length<=14:=λd hd=>by
    have:=List.all_eq_true.mp hc d hd;rw[Bool.and_eq_true,Bool.not_eq_true',decide_eq_true_eq]at this;exact this
   obtain⟨hc1,hc2⟩:=hc c (List.mem_of_getElem? hj)
   match j,hj with
   | 0,hj=>cases hj;exact⟨_,rfl,by lia,hc1,hc2,by lia⟩
   | 1,hj=>cases hj;exact⟨_,rfl,by lia,hc1,hc2,by lia⟩
   | 2,hj=>cases hj;exact⟨_,rfl,by lia,hc1,hc2,by lia⟩
   | 3,hj=>cases hj;exact⟨_,rfl,by lia,hc1,hc2,by lia⟩
  obtain⟨tk,hk,htk,hyc,hcl,hj4⟩:=key;have hn:=u9;refine item_listR (l:=s1.heap.objs.size) ⟨_,hg,rfl,_,rfl⟩ (Int.natCast_nonneg j) (by lia) (by rw[Int.toNat_natCast];exact hk) ?_ (hp _ _);exact Calls.spliced_nil (PySem.SC.replaceW (show s1.toks≠0 from Nat.ne_of_gt tp) (show (tk:Nat)≠0 from Nat.ne_of_gt (Nat.lt_trans tp htk)) (show s1.toks≠tk from Nat.ne_of_lt htk) hyc (by lia) hcl λt' k=>⟨.str _,H2,I5.tok _,⟨_,rfl⟩,q⟩)
section
variable {t:TA}
theorem bY (ho:PE X o to)(ha:PA X (e::es) t)
  (hbase:attributeBase o "join" X.env (eval o X.env)=eval o X.env:=by rfl)
  (hfew:((backTo cpos (starEach (e::es) X.env)).all (λx=> !x.1)&&(backToKw cpos (keywordEach [] X.env)).all (λx=>x.1.isSome)
   && decide ((e::es).length+([]:List Keyword).length+(if ([]:List Keyword).isEmpty then 0 else 1)<30))=true:=by rfl)
  (hline:(apos.endLine==cpos.line)=true:=by rfl)(hs:starEach (e::es) X.env=(false,eval e X.env)::starEach es X.env:=by rfl)(hplain:(backTo cpos (starEach es X.env)).any (·.1)=false:=by rfl) :
  PE X (.Call (.Attribute o "join" apos) (e::es) [] cpos) (tBM X.K "str" (AC X.K) to t):=gP PySem.F.plainAttrs_str PySem.F.slot_str_join PySem.F.type_str_join aBu ho ha hbase hfew hline hs hplain
theorem rD (ho:PE X o to)(ha:PA X (e::es) t)
  (hbase:attributeBase o "split" X.env (eval o X.env)=eval o X.env:=by rfl)
  (hfew:((backTo cpos (starEach (e::es) X.env)).all (λx=> !x.1)&&(backToKw cpos (keywordEach [] X.env)).all (λx=>x.1.isSome)
   && decide ((e::es).length+([]:List Keyword).length+(if ([]:List Keyword).isEmpty then 0 else 1)<30))=true:=by rfl)
  (hline:(apos.endLine==cpos.line)=true:=by rfl)(hs:starEach (e::es) X.env=(false,eval e X.env)::starEach es X.env:=by rfl)(hplain:(backTo cpos (starEach es X.env)).any (·.1)=false:=by rfl) :
  PE X (.Call (.Attribute o "split" apos) (e::es) [] cpos) (tBM X.K "str" JX to t):=gP PySem.F.plainAttrs_str PySem.F.slot_str_split PySem.F.type_str_split JS ho ha hbase hfew hline hs hplain
end
def aEL:Nat->(List α->Prop)->Prop
 | 0,p=>p []
 | n+1,p=>∀a,aEL n (λl=>p (a::l))
theorem aAL:∀(n:Nat) (p:List α->Prop),aEL n p->∀us:List α,us.length=n->p us
 | 0,_,h,[],_=>h
 | n+1,_,h,a::us,e=>aAL n _ (h a) us (by simpa using e)
 | 0,_,_,_::_,e=>by simp at e
 | _+1,_,_,[],e=>by simp at e
end L2
namespace Prf
open PySem L2
set_option hygiene false
local macro_rules| `(tactic| walk_at"fs")=> `(tactic| exact⟨rfl,rfl,rfl,by decide +kernel,rfl,by decide +kernel,by decide +kernel⟩)
local macro_rules| `(tactic| walk_at"hu")=> `(tactic| (have hu0:=Room.units0 hr;have hu1:=Room.units1 hr;have hu9:=Room.units9 hr))
set_option hygiene true
def top (i:Nat):Stmt:=PySem.Challenge.pw_firstout_k73_texts_that_are_no_house.main.body.getD i (.Pass ⟨0,0,0,0⟩)
abbrev jP:Stmt:=cK (top 7) 0
theorem aGD:aN ["self","name"] ["self","name"] (aH jP):=by walk_at"fs"
abbrev iX:Stmt:=cK (top 8) 0
theorem aGw:aN ["self","name"] ["self","name"] (aH iX):=by walk_at"fs"
abbrev uE:Stmt:=top 11
theorem aHt:aN ["thing"] ["thing"] (aH uE):=by walk_at"fs"
abbrev vN:Stmt:=top 14
theorem aHy:aN ["thing"] ["thing"] (aH vN):=by walk_at"fs"
abbrev rY:Stmt:=top 15
theorem aHk:aN ["part","thing"] ["part","thing"] (aH rY):=by walk_at"fs"
abbrev pJ:Stmt:=top 16
theorem aHf:aN ["part","thing","least"] ["part","thing","least"] (aH pJ):=by walk_at"fs"
abbrev lQ:Stmt:=top 17
theorem aGM:aN ["kind","door","numbers","end"] ["kind","door","numbers"] (aH lQ):=by walk_at"fs"
abbrev eU:Stmt:=cK (top 18) 0
theorem aGI:aN ["self","name","start","end","wide"] ["self","name","start","end","wide"] (aH eU):=by walk_at"fs"
abbrev lO:Stmt:=cK (top 18) 2
theorem aGR:aN ["self"] ["self"] (aH lO):=by walk_at"fs"
abbrev pI:Stmt:=cK (top 18) 3
theorem aG4:aN ["self"] ["self"] (aH pI):=by walk_at"fs"
abbrev jJ:Stmt:=cK (top 19) 0
theorem aGA:aN ["self","name","start","end","wide","since"] ["self","name","start","end","wide","since"] (aH jJ):=by walk_at"fs"
abbrev nJ:Stmt:=cK (top 19) 2
theorem aGX:aN ["self"] ["self"] (aH nJ):=by walk_at"fs"
abbrev eV:Stmt:=cK (top 21) 0
theorem aGE:aN ["self","name","start","end","wide","every","since"] ["self","name","start","end","wide","every","since"] (aH eV):=by walk_at"fs"
abbrev oZ:Stmt:=cK (top 21) 2
theorem aHh:aN ["self"] ["self"] (aH oZ):=by walk_at"fs"
abbrev kD:Stmt:=cK (top 23) 0
theorem aGJ:aN ["self","door","turn"] ["self","door","turn"] (aH kD):=by walk_at"fs"
abbrev o9:Stmt:=cK (top 23) 2
theorem aHa:aN ["self"] ["self"] (aH o9):=by walk_at"fs"
abbrev pV:Stmt:=top 26
theorem aG5:aN ["first","last"] ["first","last"] (aH pV):=by walk_at"fs"
abbrev jL:Stmt:=top 27
theorem aGC:aN ["names","seen","name"] ["names"] (aH jL):=by walk_at"fs"
abbrev iY:Stmt:=top 28
theorem aGx:aN ["doors","people","names","door"] ["doors","people"] (aH iY):=by walk_at"fs"
abbrev qD:Stmt:=top 29
theorem aGo:aN ["names","sizes","name"] ["names","sizes"] (aH qD):=by walk_at"fs"
abbrev lJ:Stmt:=top 30
theorem aGU:aN ["sizes","people","inside","room","number"] ["sizes","people"] (aH lJ):=by walk_at"fs"
abbrev oX:Stmt:=top 31
theorem aG8:aN ["sizes","people","inside"] ["sizes","people"] (aH oX):=by walk_at"fs"
abbrev eI:Stmt:=cK (top 32) 0
theorem aGB:aN ["self","rooms","doors","people","last","first","sizes","door"] ["self","rooms","doors","people","last","first"] (aH eI):=by walk_at"fs"
abbrev nK:Stmt:=cK (top 32) 1
theorem aGY:aN ["self"] ["self"] (aH nK):=by walk_at"fs"
abbrev nI:Stmt:=cK (top 32) 2
theorem aGZ:aN ["self"] ["self"] (aH nI):=by walk_at"fs"
abbrev iW:Stmt:=cK (top 32) 3
theorem aGv:aN ["self","room"] ["self","room"] (aH iW):=by walk_at"fs"
abbrev nM:Stmt:=cK (top 32) 4
theorem aG0:aN ["self","room"] ["self","room"] (aH nM):=by walk_at"fs"
abbrev m7:Stmt:=cK (top 32) 5
theorem aGW:aN ["self","room"] ["self","room"] (aH m7):=by walk_at"fs"
abbrev pF:Stmt:=cK (top 32) 8
theorem aHd:aN ["self","name"] ["self","name"] (aH pF):=by walk_at"fs"
abbrev zK:Stmt:=top 37
theorem aHE:aN ["parts"] ["parts"] (aH zK):=by walk_at"fs"
abbrev sJ:Stmt:=top 38
theorem aHo:aN ["thing"] ["thing"] (aH sJ):=by walk_at"fs"
abbrev hJ:Stmt:=top 39
theorem aGs:aN ["text"] ["text"] (aH hJ):=by walk_at"fs"
abbrev p9:Stmt:=top 40
theorem aG7:aN ["text"] ["text"] (aH p9):=by walk_at"fs"
abbrev rZ:Stmt:=top 41
theorem aHm:aN ["text"] ["text"] (aH rZ):=by walk_at"fs"
abbrev r9:Stmt:=top 42
theorem aHq:aN ["form","word"] ["form","word"] (aH r9):=by walk_at"fs"
abbrev pX:Stmt:=top 43
theorem aG9:aN ["forms","words"] ["forms","words"] (aH pX):=by walk_at"fs"
abbrev pQ:Stmt:=top 44
theorem aHc:aN ["inner","words"] ["inner","words"] (aH pQ):=by walk_at"fs"
abbrev jR:Stmt:=top 45
theorem aGz:aN ["words","name","start","end","numbers"] ["words"] (aH jR):=by walk_at"fs"
abbrev kI:Stmt:=top 46
theorem aGG:aN ["words","rounds","at","behind","door","words_round"] ["words"] (aH kI):=by walk_at"fs"
abbrev r6:Stmt:=top 47
theorem aHp:aN ["text"] ["text"] (aH r6):=by walk_at"fs"
abbrev pY:Stmt:=top 49
theorem aG3:aN ["house","rooms","rows"] ["house"] (aH pY):=by walk_at"fs"
abbrev qC:Stmt:=top 50
theorem aHb:aN ["house"] ["house"] (aH qC):=by walk_at"fs"
abbrev lZ:Stmt:=top 51
theorem aGN:aN ["rows","first_word","forms","rows_of_words"] ["rows","first_word","forms"] (aH lZ):=by walk_at"fs"
abbrev o7:Stmt:=top 52
theorem aHg:aN ["rows","turns","rooms","doors","people"] ["rows"] (aH o7):=by walk_at"fs"
abbrev kG:Stmt:=top 53
theorem aGH:aN ["rows","house"] ["rows"] (aH kG):=by walk_at"fs"
abbrev pH:Stmt:=top 54
theorem aHe:aN ["text"] ["text"] (aH pH):=by walk_at"fs"
abbrev l8:Stmt:=top 56
theorem aGO:aN ["_law_script","_law_k"] ["_law_script","_law_k"] (aH l8):=by walk_at"fs"
abbrev qE:Stmt:=top 57
theorem aG6:aN ["_law_cell","_law_k","_law_number"] ["_law_cell","_law_k"] (aH qE):=by walk_at"fs"
abbrev sI:Stmt:=top 58
theorem aHl:aN ["_law_script","_law_cell","_law_names","_law_rows_here","_law_k","_law_draw","_law_end","_law_door","_law_kinds"] ["_law_script"] (aH sI):=by walk_at"fs"
abbrev j9:Stmt:=top 59
theorem aGL:aN ["_law_rows_here","_law_cell","_law_needed","_law_at"] ["_law_rows_here","_law_cell"] (aH j9):=by walk_at"fs"
abbrev tZ:Stmt:=top 60
theorem aHu:aN ["_law_rows_here","_law_at","_law_row"] ["_law_rows_here","_law_at","_law_row"] (aH tZ):=by walk_at"fs"
abbrev lW:Stmt:=top 61
theorem aGT:aN ["_law_rows_here","_law_cell","_law_some","_law_at"] ["_law_rows_here","_law_cell"] (aH lW):=by walk_at"fs"
abbrev lL:Stmt:=top 62
theorem aGP:aN ["_law_rows_here","_law_cell","_law_at","_law_words","_law_last","_law_odd"] ["_law_rows_here","_law_cell"] (aH lL):=by walk_at"fs"
abbrev lN:Stmt:=top 63
theorem aGQ:aN ["_law_rows_here","_law_cell","_law_way","_law_more","_law_end","_law_at","_law_row","_law_name"] ["_law_rows_here","_law_cell"] (aH lN):=by walk_at"fs"
abbrev lT:Stmt:=top 64
theorem aGS:aN ["_law_text","e","_law_others"] ["_law_text"] (aH lT):=by walk_at"fs"
abbrev rH:Stmt:=top 65
theorem aHT:aN ["_law_script","_law_rows_here","_law_text","_law_cell"] ["_law_script"] (aH rH):=by walk_at"fs"
theorem WH:("a" :Str).length=1:=by rw[aG];rfl
theorem X2:("z" :Str).length=1:=by rw[aG];rfl
theorem XJ:(" is no name" :Str).length=11:=by rw[aG];rfl
theorem VZ:(" is no whole number from " :Str).length=25:=by rw[aG];rfl
theorem WP:(" on" :Str).length=3:=by rw[aG];rfl
theorem WQ:("-" :Str).length=1:=by rw[aG];rfl
theorem X9:(" " :Str).length=1:=by rw[aG];rfl
theorem WA:("name" :Str).length=4:=by rw[aG];rfl
theorem Y2:("start" :Str).length=5:=by rw[aG];rfl
theorem YH:("wide" :Str).length=4:=by rw[aG];rfl
theorem OY:("end" :Str).length=3:=by rw[aG];rfl
theorem RM:("door" :Str).length=4:=by rw[aG];rfl
theorem Q5:("since" :Str).length=5:=by rw[aG];rfl
theorem OV:("every" :Str).length=5:=by rw[aG];rfl
theorem NX:("beat" :Str).length=4:=by rw[aG];rfl
theorem RC:("turn" :Str).length=4:=by rw[aG];rfl
theorem QQ:("shut" :Str).length=4:=by rw[aG];rfl
theorem NU:("the first turn is below 0" :Str).length=25:=by rw[aG];rfl
theorem NP:("the last turn is below the first one" :Str).length=36:=by rw[aG];rfl
theorem RV:("a row of people is below 0" :Str).length=26:=by rw[aG];rfl
theorem RA:("more are in a room than it holds" :Str).length=32:=by rw[aG];rfl
theorem N5:("it is no text" :Str).length=13:=by rw[aG];rfl
theorem QH:("0" :Str).length=1:=by rw[aG];rfl
theorem QJ:("9" :Str).length=1:=by rw[aG];rfl
theorem O1:("the text is no number" :Str).length=21:=by rw[aG];rfl
theorem PK:("the text is no name" :Str).length=19:=by rw[aG];rfl
theorem PU:("there are words too few or too many" :Str).length=35:=by rw[aG];rfl
theorem OK:("until" :Str).length=5:=by rw[aG];rfl
theorem OW:("these are no words of a door" :Str).length=28:=by rw[aG];rfl
theorem OA:("there is no door within" :Str).length=23:=by rw[aG];rfl
theorem O2:("the door is refused" :Str).length=19:=by rw[aG];rfl
theorem Q6:("the name of a room is no name" :Str).length=29:=by rw[aG];rfl
theorem OC:("turns" :Str).length=5:=by rw[aG];rfl
theorem OJ:("room" :Str).length=4:=by rw[aG];rfl
theorem OE:("way" :Str).length=3:=by rw[aG];rfl
theorem QE:("people" :Str).length=6:=by rw[aG];rfl
theorem QV:("\n" :Str).length=1:=by rw[aG];rfl
theorem PH:("number" :Str).length=6:=by rw[aG];rfl
theorem OS:("there is not just one row of turns" :Str).length=34:=by rw[aG];rfl
theorem Q8:("way " :Str).length=4:=by rw[aG];rfl
theorem OI:("the house is refused" :Str).length=20:=by rw[aG];rfl
theorem Q0:("no house is written so" :Str).length=22:=by rw[aG];rfl
theorem QN:("hall" :Str).length=4:=by rw[aG];rfl
theorem NY:("yard" :Str).length=4:=by rw[aG];rfl
theorem N4:("loft" :Str).length=4:=by rw[aG];rfl
theorem OT:("den" :Str).length=3:=by rw[aG];rfl
theorem Q2:("barn" :Str).length=4:=by rw[aG];rfl
theorem O5:("door " :Str).length=5:=by rw[aG];rfl
theorem QR:(" 3" :Str).length=2:=by rw[aG];rfl
theorem P0:(" 2 1" :Str).length=4:=by rw[aG];rfl
theorem RX:("shut 4 door " :Str).length=12:=by rw[aG];rfl
theorem Q3:(" 1" :Str).length=2:=by rw[aG];rfl
theorem QS:("turns " :Str).length=6:=by rw[aG];rfl
theorem RP:("since " :Str).length=6:=by rw[aG];rfl
theorem RE:("beat " :Str).length=5:=by rw[aG];rfl
theorem OG:("people " :Str).length=7:=by rw[aG];rfl
theorem OX:("room " :Str).length=5:=by rw[aG];rfl
theorem O6:("gate" :Str).length=4:=by rw[aG];rfl
theorem ON:("arch" :Str).length=4:=by rw[aG];rfl
theorem N9:("hatch" :Str).length=5:=by rw[aG];rfl
theorem QP:("gap" :Str).length=3:=by rw[aG];rfl
theorem QW:("room hall" :Str).length=9:=by rw[aG];rfl
theorem RQ:("room hall 2 3" :Str).length=13:=by rw[aG];rfl
theorem QF:("way door x hall" :Str).length=15:=by rw[aG];rfl
theorem RW:("people yard" :Str).length=11:=by rw[aG];rfl
theorem OP:("door gone hall - 1" :Str).length=18:=by rw[aG];rfl
theorem O0:("turns 1 2" :Str).length=9:=by rw[aG];rfl
theorem QZ:("rooms x 3" :Str).length=9:=by rw[aG];rfl
theorem Q4:("people hall 1 1" :Str).length=15:=by rw[aG];rfl
theorem QT:("way since x hall - 1" :Str).length=20:=by rw[aG];rfl
theorem OD:("" :Str).length=0:=by rw[aG];rfl
theorem RU:("house" :Str).length=5:=by rw[aG];rfl
theorem Q1:("way told x hall - 1" :Str).length=19:=by rw[aG];rfl
theorem OQ:("Room den 2" :Str).length=10:=by rw[aG];rfl
theorem NZ:("x" :Str).length=1:=by rw[aG];rfl
theorem QC:("+" :Str).length=1:=by rw[aG];rfl
theorem NW:("." :Str).length=1:=by rw[aG];rfl
theorem O7:("1" :Str).length=1:=by rw[aG];rfl
theorem P3:("people nowhere 1" :Str).length=16:=by rw[aG];rfl
theorem RH:("hallhallx" :Str).length=9:=by rw[aG];rfl
theorem QI:("Hall" :Str).length=4:=by rw[aG];rfl
theorem NQ:("ha11" :Str).length=4:=by rw[aG];rfl
theorem RF:("h-ll" :Str).length=4:=by rw[aG];rfl
theorem RD:("turns 9 " :Str).length=8:=by rw[aG];rfl
theorem N8:("hall room" :Str).length=9:=by rw[aG];rfl
theorem PD:("Room hall" :Str).length=9:=by rw[aG];rfl
theorem PX:("room  hall" :Str).length=10:=by rw[aG];rfl
theorem QM:("roomhall" :Str).length=8:=by rw[aG];rfl
theorem RG:("\n\n" :Str).length=2:=by rw[aG];rfl
theorem N3:("  " :Str).length=2:=by rw[aG];rfl
theorem QB:("12" :Str).length=2:=by rw[aG];rfl
theorem OB:("1000" :Str).length=4:=by rw[aG];rfl
abbrev aF2:List Str:=["name","start","end","wide","since","until","every","inner","turn","first","last","sizes","people","named_doors"]
structure DCls (K:W.Frag)(C:Addr):Prop where
 ic:ICls K C
 nf:noF K C aF2=true
variable {K:W.Frag}{C NH NR NT TW a b dx dxq q:Addr}
theorem DCls.n_name (d:DCls K C):NoAttr K C "name" :=fO d.nf 0 rfl
theorem DCls.n_start (d:DCls K C):NoAttr K C "start" :=fO d.nf 1 rfl
theorem DCls.n_end (d:DCls K C):NoAttr K C "end" :=fO d.nf 2 rfl
theorem DCls.n_wide (d:DCls K C):NoAttr K C "wide" :=fO d.nf 3 rfl
theorem DCls.n_since (d:DCls K C):NoAttr K C "since" :=fO d.nf 4 rfl
theorem DCls.n_every (d:DCls K C):NoAttr K C "every" :=fO d.nf 6 rfl
theorem DCls.n_inner (d:DCls K C):NoAttr K C "inner" :=fO d.nf 7 rfl
theorem DCls.n_turn (d:DCls K C):NoAttr K C "turn" :=fO d.nf 8 rfl
theorem DCls.n_first (d:DCls K C):NoAttr K C "first" :=fO d.nf 9 rfl
theorem DCls.n_last (d:DCls K C):NoAttr K C "last" :=fO d.nf 10 rfl
theorem DCls.n_sizes (d:DCls K C):NoAttr K C "sizes" :=fO d.nf 11 rfl
theorem DCls.n_people (d:DCls K C):NoAttr K C "people" :=fO d.nf 12 rfl
theorem DCls.n_named_doors (d:DCls K C):NoAttr K C "named_doors" :=fO d.nf 13 rfl
set_option genInjectivity false in set_option genSizeOf false in structure M (w:World) (K:W.Frag) (mg:Str->Option Value) where
 uQ:Addr
 oQ:FX K "is_whole" "is_whole" uE ["thing"] uQ
 wD:Addr
 rW:FX K "is_name" "is_name" vN ["thing"] wD
 sL:Addr
 mV:FX K "need_name" "need_name" rY ["part","thing"] sL
 q9:Addr
 k8:FX K "need_whole" "need_whole" pJ ["part","thing","least"] q9
 l9:Addr
 iQ:FX K "row_of_words" "row_of_words" lQ ["kind","door","numbers"] l9
 qM:Addr
 lC:FX K "need_turns" "need_turns" pV ["first","last"] qM
 jZ:Addr
 fX:FX K "need_each_once" "need_each_once" jL ["names"] jZ
 i4:Addr
 fN:FX K "rooms_spoken_of" "rooms_spoken_of" iY ["doors","people"] i4
 kY:Addr
 dF:FX K "need_rooms" "need_rooms" qD ["names","sizes"] kY
 mI:Addr
 iT:FX K "added_people" "added_people" lJ ["sizes","people"] mI
 qN:Addr
 k7:FX K "need_space" "need_space" oX ["sizes","people"] qN
 zU:Addr
 uO:FX K "row_of" "row_of" zK ["parts"] zU
 sK:Addr
 mT:FX K "need_text" "need_text" sJ ["thing"] sK
 iF:Addr
 fG:FX K "is_written_whole" "is_written_whole" hJ ["text"] iF
 qO:Addr
 kW:FX K "read_whole" "read_whole" p9 ["text"] qO
 sM:Addr
 mY:FX K "read_name" "read_name" rZ ["text"] sM
 sO:Addr
 mW:FX K "read_part" "read_part" r9 ["form","word"] sO
 qV:Addr
 kU:FX K "read_parts" "read_parts" pX ["forms","words"] qV
 qU:Addr
 kQ:FX K "door_round" "door_round" pQ ["inner","words"] qU
 jU:Addr
 fY:FX K "door_by_itself" "door_by_itself" jR ["words"] jU
 kS:Addr
 gW:FX K "door_of_words" "door_of_words" kI ["words"] kS
 sN:Addr
 mU:FX K "read_door" "read_door" r6 ["text"] sN
 qK:Addr
 lE:FX K "house_rows" "house_rows" pY ["house"] qK
 qR:Addr
 kZ:FX K "house_text" "house_text" qC ["house"] qR
 mH:Addr
 iR:FX K "parts_behind" "parts_behind" lZ ["rows","first_word","forms"] mH
 qT:Addr
 kN:FX K "made_house" "made_house" o7 ["rows"] qT
 kP:Addr
 gX:FX K "house_of_rows" "house_of_rows" kG ["rows"] kP
 qQ:Addr
 kK:FX K "read_house" "read_house" pH ["text"] qQ
 mG:Addr
 iV:FX K "_law_cell_at" "_law_cell_at" l8 ["_law_script","_law_k"] mG
 qL:Addr
 kR:FX K "_law_drawn" "_law_drawn" qE ["_law_cell","_law_k"] qL
 sP:Addr
 mX:FX K "_law_rows" "_law_rows" sI ["_law_script"] sP
 k6:Addr
 gS:FX K "_law_left_out" "_law_left_out" j9 ["_law_rows_here","_law_cell"] k6
 uP:Addr
 oP:FX K "_law_put" "_law_put" tZ ["_law_rows_here","_law_at","_law_row"] uP
 mB:Addr
 iO:FX K "_law_odd_row" "_law_odd_row" lW ["_law_rows_here","_law_cell"] mB
 mF:Addr
 iS:FX K "_law_numbers" "_law_numbers" lL ["_law_rows_here","_law_cell"] mF
 mE:Addr
 iP:FX K "_law_spoiled" "_law_spoiled" lN ["_law_rows_here","_law_cell"] mE
 mK:Addr
 iN:FX K "_law_refused" "_law_refused" lT ["_law_text"] mK
 R1:Addr
 RZ:FuncData
 aFN:FunV K "law" "law" rH R1 RZ
 aGg:Binds K RZ ["_law_script"] []
 jY:Addr
 jX:FX K "__init__" "Twice.__init__" jP ["self","name"] jY
 i6:Addr
 i5:FX K "__init__" "NoRoom.__init__" iX ["self","name"] i6
 gY:Addr
 fF:FuncData
 lF:FunV K "__init__" "Door.__init__" eU gY fF
 rX:Binds K fF ["self","name","start","end","wide"] []
 cI:Addr
 d6:FX K "is_exit" "Door.is_exit" lO ["self"] cI
 qY:Addr
 qP:FX K "words" "Door.words" pI ["self"] qY
 jT:Addr
 jW:FX K "__init__" "Since.__init__" jJ ["self","name","start","end","wide","since"] jT
 nU:Addr
 nW:FX K "words" "Since.words" nJ ["self"] nU
 kX:Addr
 gZ:FuncData
 CA:FunV K "__init__" "Beat.__init__" eV kX gZ
 B7:Binds K gZ ["self","name","start","end","wide","every","since"] []
 qX:Addr
 qW:FX K "words" "Beat.words" oZ ["self"] qX
 kT:Addr
 kM:FX K "__init__" "Shut.__init__" kD ["self","door","turn"] kT
 qZ:Addr
 qS:FX K "words" "Shut.words" o9 ["self"] qZ
 jV:Addr
 fV:FuncData
 z6:FunV K "__init__" "House.__init__" eI jV fV
 zS:Binds K fV ["self","rooms","doors","people","last","first"] []
 nN:Addr
 nZ:FX K "rooms" "House.rooms" nK ["self"] nN
 nX:Addr
 n9:FX K "doors" "House.doors" nI ["self"] nX
 i3:Addr
 i7:FX K "need_room" "House.need_room" iW ["self","room"] i3
 oA:Addr
 nY:FX K "holds" "House.holds" nM ["self","room"] oA
 nQ:Addr
 nV:FX K "found" "House.found" m7 ["self","room"] nQ
 rA:Addr
 qJ:FX K "door" "House.door" pF ["self","name"] rA
 R4:mg "is_whole" =some (.ref uQ)
 VU:mg "is_name" =some (.ref wD)
 LZ:mg "need_name" =some (.ref sL)
 K6:mg "need_whole" =some (.ref q9)
 EA:mg "row_of_words" =some (.ref l9)
 KU:mg "need_turns" =some (.ref qM)
 zX:mg "need_each_once" =some (.ref jZ)
 xO:mg "rooms_spoken_of" =some (.ref i4)
 wC:mg "need_rooms" =some (.ref kY)
 D7:mg "added_people" =some (.ref mI)
 K7:mg "need_space" =some (.ref qN)
 ZD:mg "row_of" =some (.ref zU)
 LY:mg "need_text" =some (.ref sK)
 v8:mg "is_written_whole" =some (.ref iF)
 K8:mg "read_whole" =some (.ref qO)
 LX:mg "read_name" =some (.ref sM)
 LW:mg "read_part" =some (.ref sO)
 KR:mg "read_parts" =some (.ref qV)
 K9:mg "door_round" =some (.ref qU)
 zY:mg "door_by_itself" =some (.ref jU)
 CI:mg "door_of_words" =some (.ref kS)
 L3:mg "read_door" =some (.ref sN)
 KS:mg "house_rows" =some (.ref qK)
 K5:mg "house_text" =some (.ref qR)
 D6:mg "parts_behind" =some (.ref mH)
 K4:mg "made_house" =some (.ref qT)
 CF:mg "house_of_rows" =some (.ref kP)
 KW:mg "read_house" =some (.ref qQ)
 D4:mg "_law_cell_at" =some (.ref mG)
 KQ:mg "_law_drawn" =some (.ref qL)
 L4:mg "_law_rows" =some (.ref sP)
 CL:mg "_law_left_out" =some (.ref k6)
 R3:mg "_law_put" =some (.ref uP)
 D5:mg "_law_odd_row" =some (.ref mB)
 EB:mg "_law_numbers" =some (.ref mF)
 D1:mg "_law_spoiled" =some (.ref mE)
 ED:mg "_law_refused" =some (.ref mK)
 aGh:mg "law" =some (.ref R1)
 wB:∃ds,Vals [.int 1] ds/\Binds K fF ["self","name","start","end","wide"] ds
 VS:∃ds,Vals [.non,.int 1] ds/\Binds K fF ["self","name","start","end","wide"] ds
 VV:∃ds,Vals [.int 0] ds/\Binds K gZ ["self","name","start","end","wide","every","since"] ds
 R5:∃ds,Vals [.int 0] ds/\Binds K fV ["self","rooms","doors","people","last","first"] ds
 cF:Addr
 KZ:mg "Door" =some (.ref cF)
 cX:Addr
 aCp:mg "Since" =some (.ref cX)
 EC:Addr
 aGf:mg "Until" =some (.ref EC)
 dR:Addr
 aER:mg "Beat" =some (.ref dR)
 z7:Addr
 aGc:mg "Marked" =some (.ref z7)
 c6:Addr
 aEP:mg "Shut" =some (.ref c6)
 D0:Addr
 aGe:mg "Wider" =some (.ref D0)
 aW:Addr
 aCr:mg "House" =some (.ref aW)
 iU:Addr
 CK:mg "OutError" =some (.ref iU)
 uM:Addr
 K3:mg "NoDoor" =some (.ref uM)
 dY:Addr
 wF:mg "NoHouse" =some (.ref dY)
 fJ:Addr
 zZ:mg "NoTurn" =some (.ref fJ)
 aO:Addr
 fK:mg "NoText" =some (.ref aO)
 d7:Addr
 NO:mg "Twice" =some (.ref d7)
 dA:Addr
 KP:mg "NoRoom" =some (.ref dA)
 j3:DCls K cF
 aCn:Mk K cF gY
 CJ:Meth K cF "is_exit" cI
 GD:Meth K cF "words" qY
 mJ:DCls K cX
 ZA:Mk K cX jT
 D8:Meth K cX "words" nU
 z8:Meth K cX "is_exit" cI
 aGb:DCls K EC
 Y9:Meth K EC "is_exit" cI
 oV:DCls K dR
 aCq:Mk K dR kX
 GA:Meth K dR "words" qX
 CG:Meth K dR "is_exit" cI
 aFQ:DCls K z7
 VX:Meth K z7 "is_exit" cI
 oU:DCls K c6
 aCo:Mk K c6 kT
 GB:Meth K c6 "words" qZ
 CC:Meth K c6 "is_exit" cI
 aGd:DCls K D0
 ZE:Meth K D0 "is_exit" cI
 cV:DCls K aW
 ZF:Mk K aW jV
 DY:Meth K aW "rooms" nN
 D3:Meth K aW "doors" nX
 v9:Meth K aW "need_room" i3
 D2:Meth K aW "holds" oA
 D9:Meth K aW "found" nQ
 GC:Meth K aW "door" rA
 dB:W.specialIn K (.ref cF) "__getattribute__" =some (some (.builtin "type.__getattribute__"))/\W.readsIn K cF (.type "type")=true/\W.findCls K (.ref cF) (.type "type") "__init__" =some (.val (.ref gY))
 FC:DW K dY
 aFO:ExcK K dY
 K0:DW K fJ
 aFR:ExcK K fJ
 fW:DW K aO
 wG:ExcK K aO
 ZB:zI K d7 jY=true
 ZC:DJ K d7
 ZG:NoAttr K d7 "name"
 VW:zI K dA i6=true
 VR:DJ K dA
 VT:NoAttr K dA "name"
 u6:W.exmOne K (.ref dY) (.ref iU)=some true
 wA:W.exmOne K (.ref fJ) (.ref iU)=some true
 wE:W.exmOne K (.ref aO) (.ref iU)=some true
 oE:W.exmOne K (.ref d7) (.ref iU)=some true
 v7:W.exmOne K (.ref dA) (.ref iU)=some true
 zV:W.exmOne K (.ref aO) (.ref uM)=some false
 zT:W.kitOne K (.ref aO) (.ref uM)=some false
 xN:W.kitOne K (.ref aO) (.ref dY)=some false
 z9:W.kitOne K (.ref aO) (.ref fJ)=some false
 zW:W.kitOne K (.ref aO) (.ref aO)=some true
 B6:W.kitOne K (.ref aO) (.ref d7)=some false
 AA:W.kitOne K (.ref aO) (.ref dA)=some false
 uN:W.kitOne K (.ref aO) (.type "ValueError")=some true
 KY:mg "ValueError" =none
 aAv:mg "any" =none
 aAu:mg "int" =none
 NN:mg "tuple" =none
 RY:mg "reversed" =none
 DZ:mg "range" =none
 eJ:mg "isinstance" =none
 kO:mg "str" =none
 R0:mg "all" =none
 aEQ:mg "dict" =none
 VQ:mg "list" =none
 eK:mg "len" =none
 aES:mg "bool" =none
 aFP:mg "zip" =none
 u3:Addr
 uY:mg "WORDS_ROUND" =some (.ref u3)
 uZ:xE w K u3 [(.inr "shut",.int 2),(.inr "wider",.int 3)]
 tJ:Addr
 EE:mg "WORDS_IN_ALL" =some (.ref tJ)
 EF:xE w K tJ [(.inr "door",.int 5),(.inr "since",.int 6),(.inr "until",.int 6),(.inr "beat",.int 7),(.inr "marked",.int 6)]
 mL:∃t:Tok,mg "LONGEST_NAME" =some (.int 8 t)
 mD:∃t:Tok,mg "MOST_FIGURES" =some (.int 60 t)
theorem gl_ {G:Prop}(h:∀G':Prop,G'=G->G'):G:=h G rfl
set_option hygiene false
local macro_rules| `(tactic| walk_at"w0")=> `(tactic| (intro vs H Q E h;cases h;subst_vars;rfl))
local macro_rules| `(tactic| walk_at"w1")=> `(tactic| (intro cdv A outer s H vs Q E hr h;refine gl_ ?_;intro G_ hG_))
local macro_rules| `(tactic| walk_at"g1")=> `(tactic| (refine gl_ ?_;intro G_ hG_))
local macro_rules| `(tactic| walk_at"g2")=> `(tactic| subst hG_)
local macro_rules| `(tactic| walk_at"cx")=> `(tactic| try dsimp only[cxK,cxP,cxW,cxM,cxB])
set_option hygiene true
local macro_rules| `(tactic| walk_at"hp")=> `(tactic| first|assumption|(refine' Same.at ?s ?h;(case s=>assumption);(case h=>walk_at"hp"))|(refine' SqL.of ?h;(case h=>walk_at"hp"))|(refine' SqT.of ?h;(case h=>walk_at"hp"))|(refine' Same.seq ?s ?h;(case s=>assumption);(case h=>walk_at"hp"))|(refine' Same.sqT ?s ?h;(case s=>assumption);(case h=>walk_at"hp")))
local macro_rules| `(tactic| walk_at"sm")=> `(tactic| first|assumption|exact Same.refl _|(refine' Same.snoc ?s ?h;(case s=>assumption);(case h=>walk_at"sm")))
local macro_rules| `(tactic| walk_at"sb")=> `(tactic| first|assumption|exact SameBut.refl|(refine' SameBut.snoc ?s ?h;(case s=>assumption);(case h=>walk_at"sb"))|(refine' SameBut.snocS ?s ?h;(case s=>assumption);(case h=>walk_at"sb")))
local macro_rules| `(tactic| walk_at"lk")=> `(tactic| first|assumption|(with_reducible exact R6)|(with_reducible exact aBE)|(refine' aFE ?d ?h;(case d=>decide +kernel);(case h=>walk_at"lk"))|exact R6)
local macro_rules| `(tactic| walk_at"sz")=> `(tactic| first|with_reducible assumption|lia|omega|(simp only[bA,CU,WH,X2,XJ,VZ,WP,WQ,X9,WA,Y2,YH,OY,RM,Q5,OV,NX,RC,QQ,NU,NP,RV,RA,N5,QH,QJ,O1,PK,PU,OK,OW,OA,O2,Q6,OC,OJ,OE,QE,QV,PH,OS,Q8,OI,Q0,QN,NY,N4,OT,Q2,O5,QR,P0,RX,Q3,QS,RP,RE,OG,OX,O6,ON,N9,QP,QW,RQ,QF,RW,OP,O0,QZ,Q4,QT,OD,RU,Q1,OQ,NZ,QC,NW,O7,P3,RH,QI,NQ,RF,RD,N8,PD,PX,QM,RG,N3,QB,OB,sizeLine_eq,List.length_cons,List.length_nil,List.length_append,List.length_map];done)|(simp only[bA,CU,WH,X2,XJ,VZ,WP,WQ,X9,WA,Y2,YH,OY,RM,Q5,OV,NX,RC,QQ,NU,NP,RV,RA,N5,QH,QJ,O1,PK,PU,OK,OW,OA,O2,Q6,OC,OJ,OE,QE,QV,PH,OS,Q8,OI,Q0,QN,NY,N4,OT,Q2,O5,QR,P0,RX,Q3,QS,RP,RE,OG,OX,O6,ON,N9,QP,QW,RQ,QF,RW,OP,O0,QZ,Q4,QT,OD,RU,Q1,OQ,NZ,QC,NW,O7,P3,RH,QI,NQ,RF,RD,N8,PD,PX,QM,RG,N3,QB,OB,sizeLine_eq,List.length_cons,List.length_nil,List.length_append,List.length_map];omega)|(simp only[bA,CU,WH,X2,XJ,VZ,WP,WQ,X9,WA,Y2,YH,OY,RM,Q5,OV,NX,RC,QQ,NU,NP,RV,RA,N5,QH,QJ,O1,PK,PU,OK,OW,OA,O2,Q6,OC,OJ,OE,QE,QV,PH,OS,Q8,OI,Q0,QN,NY,N4,OT,Q2,O5,QR,P0,RX,Q3,QS,RP,RE,OG,OX,O6,ON,N9,QP,QW,RQ,QF,RW,OP,O0,QZ,Q4,QT,OD,RU,Q1,OQ,NZ,QC,NW,O7,P3,RH,QI,NQ,RF,RD,N8,PD,PX,QM,RG,N3,QB,OB,sizeLine_eq,List.length_cons,List.length_nil,List.length_append,List.length_map]at *;omega))
local macro_rules| `(tactic| walk_at"sd")=> `(tactic| first|with_reducible assumption|lia|omega|decide)
local macro_rules| `(tactic| walk_at"dc")=> `(tactic| first|((with_reducible refine ICls.cl (DCls.ic ?_));assumption)|((with_reducible refine DCls.ic ?_);assumption)|((with_reducible refine DCls.n_name ?_);assumption)|((with_reducible refine DCls.n_start ?_);assumption)|((with_reducible refine DCls.n_end ?_);assumption)|((with_reducible refine DCls.n_wide ?_);assumption)|((with_reducible refine DCls.n_since ?_);assumption)|((with_reducible refine DCls.n_until ?_);assumption)|((with_reducible refine DCls.n_every ?_);assumption)|((with_reducible refine DCls.n_bits ?_);assumption)|((with_reducible refine DCls.n_inner ?_);assumption)|((with_reducible refine DCls.n_turn ?_);assumption)|((with_reducible refine DCls.n_more ?_);assumption)|((with_reducible refine DCls.n_first ?_);assumption)|((with_reducible refine DCls.n_last ?_);assumption)|((with_reducible refine DCls.n_sizes ?_);assumption)|((with_reducible refine DCls.n_people ?_);assumption)|((with_reducible refine DCls.n_named_doors ?_);assumption))
local macro_rules| `(tactic| walk_at"rd1")=> `(tactic| first|(with_reducible first|refine aCT ?_|refine aD5 ?_|refine aFZ ?_|refine aFv ?_|refine aEY ?_|refine aFw ?_|refine aFB ?_|refine aEW ?_|refine aFg ?_|refine aE7 ?_|refine aET ?_|refine aFl ?_|refine aFp ?_|refine rd_v9 ?_|refine rd_v10 ?_|refine rd_v11 ?_|refine rd_v12 ?_|refine aBe ?_|refine aEx ?_|refine aFk ?_|refine aE9 ?_|refine aBw ?_|refine aFa ?_|refine aCL ?_|refine aB9 ?_|refine aFH ?_|refine aEC ?_|refine aFd ?_|refine VE ?_|refine HV ?_|refine aBM ?_|refine aCd ?_|refine rd_s0 ?_|refine aFI ?_|refine aFn ?_|refine aFi ?_|refine aFj ?_|refine aE1 ?_|refine aFF ?_|refine aFr ?_|refine aE2 ?_|refine rd_s9 ?_|refine rd_s10 ?_|refine rd_s11 ?_|refine rd_s12 ?_|refine aEF ?_|refine aBo ?_|refine aBb ?_|refine rd_retN ?_|refine aEk ?_|refine aDD ?_|refine aFx ?_|refine aA0 ?_|refine aCF ?_|refine aB8 ?_|refine aCM ?_|refine V4 ?_|refine aE5 ?_|refine aFY ?_|refine aDL ?_|refine rd_eqB ?_|refine aDz ?_|refine rd_eqSN ?_|refine rd_eqNS ?_|refine rd_eqNN ?_|refine aCB ?_|refine rd_neB ?_|refine aDJ ?_|refine rd_neNN ?_|refine rd_isNN ?_|refine rd_isNS ?_|refine rd_isNI ?_|refine rd_isNR ?_|refine aBj ?_|refine aBJ ?_|refine rd_ntNI ?_|refine rd_ntNR ?_|refine aBW ?_|refine rd_ntNV ?_|refine aEE ?_|refine aDn ?_|refine aBg ?_|refine aBX ?_|refine aBs ?_|refine aFq ?_|refine aFG ?_|refine rd_bm0 ?_|refine aDi ?_|refine rd_bm0I ?_|refine rd_isiII ?_|refine rd_isiIB ?_|refine rd_isiBB ?_|refine rd_isiBI ?_|refine rd_isiSS ?_|refine rd_isiNS ?_|refine rd_max2 ?_|refine rd_min2 ?_|refine rd_intB ?_|refine rd_intI ?_|refine UQ ?_|refine aBD ?_|refine aEO ?_|refine rd_gsub ?_|refine aA1 ?_|refine YY ?_|refine aEp ?_|refine X6 ?_|refine rd_iTup ?_|refine V1 ?_|refine rd_iRng2 ?_|refine aA7 ?_|refine X3 ?_|refine rd_break ?_|refine rd_cont ?_|refine rd_aug ?_)|((with_reducible refine' aC0 ?s ?_);(case s=>decide))|((with_reducible refine' aA3 ?s ?_);(case s=>walk_at"sd");intro h0' h1')|((with_reducible refine' rd_repL ?e ?a ?b ?s ?_);(case e=>walk_at"hp");(case a=>decide);(case b=>decide);(case s=>first|(simp;done)|(simp[sizeLine_eq];done)|walk_at"sz");intro p' H' n' S' e')|((with_reducible refine' aC1 ?s ?r ?_);(case s=>walk_at"sd");(case r=>walk_at"sd"))|((with_reducible refine' aAx ?s ?r ?_);(case s=>walk_at"sd");(case r=>walk_at"sd"))|((with_reducible refine' aBd ?s ?r ?_);(case s=>walk_at"sd");(case r=>walk_at"sd"))|((with_reducible refine' aCl ?s ?_);(case s=>walk_at"sz");intro p' H' n' S' e')|((with_reducible refine' aAU ?s ?_);(case s=>walk_at"sz");intro p' H' n' S' e')|((with_reducible refine aBc ?_);intro p' H' n' S' e')|((with_reducible refine' aBx ?e ?c ?n ?l ?_);(case e=>walk_at"hp");(case c=>walk_at"dc");(case n=>walk_at"dc");(case l=>walk_at"lk"))|((with_reducible refine' XT ?e ?c ?n ?l ?_);(case e=>walk_at"hp");(case c=>walk_at"dc");(case n=>walk_at"dc");(case l=>kernel_rfl);intro H' B' e')|((with_reducible refine' aDw ?e ?l ?F ?_);(case e=>walk_at"hp");(case l=>walk_at"lk");(case F=>assumption))|((with_reducible refine' rd_isiC ?e ?i ?k ?_);(case e=>walk_at"hp");(case i=>walk_at"dc");(case k=>assumption))|((with_reducible refine' rd_ixL ?e ?l ?_);(case e=>walk_at"hp");(case l=>rfl))|((with_reducible refine' rd_ix2i ?e ?s ?r ?_);(case e=>walk_at"hp");(case s=>walk_at"sd");(case r=>walk_at"sd");intro v' hv')|((with_reducible refine' aBv ?e ?s ?r ?_);(case e=>walk_at"hp");(case s=>walk_at"sd");(case r=>walk_at"sd");intro v' hv')|((with_reducible refine' rd_setLm ?e ?l ?_);(case e=>walk_at"hp");(case l=>rfl);intro H' B' e')|((with_reducible refine' aB6 ?e ?_);(case e=>walk_at"hp"))|((with_reducible refine' aAF ?e ?_);(case e=>walk_at"sz"))|((with_reducible refine' aAy ?e ?_);(case e=>walk_at"sz"))|((with_reducible refine' aD3 ?e ?_);(case e=>walk_at"sz");intro hl')|((with_reducible refine' rd_slI ?e ?_);(case e=>walk_at"hp");intro p' H' n' S' e')|((with_reducible refine' aDH ?e ?_);(case e=>walk_at"hp");intro p' H' n' S' e')|((with_reducible refine' gJ ?e ?f ?s ?_);(case e=>walk_at"hp");(case f=>walk_at"hp");(case s=>walk_at"sz");intro p' H' n' S' e')|((with_reducible refine' rd_listOf ?e ?_);(case e=>walk_at"hp");intro p' H' n' S' e')|((with_reducible refine' aEI ?e ?_);(case e=>walk_at"hp"))|((with_reducible refine' EG ?e ?_);(case e=>walk_at"hp"))|((with_reducible refine' T5 ?s ?r ?_);(case s=>walk_at"sd");(case r=>walk_at"sd"))|((with_reducible refine' rd_iRng2V ?s ?r ?t ?u ?_);(case s=>walk_at"sd");(case r=>walk_at"sd");(case t=>walk_at"sd");(case u=>walk_at"sd"))|((with_reducible refine' aEi ?s ?r ?_);(case s=>walk_at"sd");(case r=>walk_at"sd");intro hl')|((with_reducible refine' rd_gtupL ?e ?l ?_);(case e=>walk_at"hp");(case l=>rfl))|((with_reducible refine' aBV ?e ?l ?_);(case e=>walk_at"hp");(case l=>rfl))|((with_reducible refine' aD9 ?s ?_);(case s=>walk_at"sd"))|((with_reducible refine' aDv ?s ?_);(case s=>walk_at"sd"))|((with_reducible refine' aAA ?s ?_);(case s=>walk_at"sd"))|((with_reducible refine' rd_ifnN ?s ?_);(case s=>walk_at"sd")))
local macro_rules| `(tactic| walk_at"go")=> `(tactic| repeat walk_at"rd1")
local macro_rules| `(tactic| walk_at"gs")=> `(tactic| repeat ((fail_if_success (with_reducible refine XI ?_));walk_at"rd1"))
local macro_rules| `(tactic| walk_at"nn")=> `(tactic| repeat first|exact nn_nil|refine nn_app ?_ ?_|refine nn_cons (by omega) ?_|exact nn_map (λn=>by omega))
variable {H H' H1:Hp}{f f' i i0 i1 j' l l' wd:Int}{first kd kind nm part x y z:Str}{α β γ:Type}{dvs vs xs ys:List V}{v x0:V}{cs ps ps' ps0 rz rz':List (Str×Int)}{rs ss:List Str}{kvs nk:List (Key×V)}{ns:List Int}{fsq:List (Str×V)}{σ:St}{j n:Nat}{sh:Option Int}{Wl:List (List Str)}{w:World}{mg:Str->Option Value}
section
variable {P:Program}{w:World}{K:W.Frag}{mg:Str->Option Value}{base:Heap}
def aDM:V->Bool
 | .int _=>true
 | _=>false
def x9 (K:W.Frag):Sp:=λvs H Q _=>∃x n,vs=[x]/\BTy K H x n/\Q (.bl (aDM x)) H
theorem YZ {Q:VK}{E:XK}(h:Q (.bl true) H):x9 K [.int i] H Q E:=⟨_,_,rfl,.int i,h⟩
theorem LN (m:M w K mg):FnOk P w K mg base CX0 1 m.uQ m.oQ.d ["thing"] (x9 K):=by
 refine m.oQ.F.ok aHt (λvs H Q E h=> ?_) (λcdv A outer s H vs Q E hr h=> ?_)
 .walk_at"g1";obtain⟨x,n,rfl,b,k⟩:=h;walk_at"g2";rfl
 .walk_at"g1";obtain⟨x,n,rfl,b,k⟩:=h;walk_at"g2";have nd:=aHt.nd;walk_at"hu";refine⟨_,(aE (aP (BB (bD uL rfl m.eJ dL (aA (pv 0) (aA (A0 rfl m.aAu TV) aB))) (A3 (IE (bD uL rfl m.eJ dL (aA (pv 0) (aA (A0 rfl m.aES aAM) aB)))))))),?_⟩;refine aL (σ:=[some (x)]) rfl ?_;walk_at"cx";refine⟨_,rfl,_,_,_,_,_,rfl,b.ty,rfl,GW b "int" (.inl rfl),_,rfl,?_⟩;refine zO (λh1=>⟨_,rfl,_,_,_,_,_,rfl,b.ty,rfl,GW b "bool" (.inr (.inl rfl)),_,rfl,?_⟩) (λh1=> ?_)
  .cases b<;>first|exact k|exact absurd h1 (by decide)
  .cases b<;>first|exact k|exact absurd (by decide) h1
theorem LA (m:M w K mg):Fc P w K mg base "is_whole" 1 ["thing"] (x9 K):=⟨_,_,m.R4,m.oQ.F.kp,m.oQ.b,LN m⟩
def nmB:V->Bool
 | .str z=>aK z
 | _=>false
def DD (K:W.Frag):Sp:=λvs H Q _=>∃x n,vs=[x]/\BTy K H x n/\(∀z,x= .str z->z.length<=10000)/\∀H',Same H H'->Q (.bl (nmB x)) H'
theorem aAV {Q:VK}{E:XK}(hz:aK z=true)(h:∀H',Same H H'->Q (.bl true) H'):DD K [.str z] H Q E :=
 ⟨_,_,rfl,.str z,λy e=>by cases e;exact Nat.le_trans (cB hz) (by decide),λH' s=>by rw[show nmB (.str z)=true from hz];exact h H' s⟩
theorem le1 (a c:Nat):(!decide ([c]<[a]))=decide (a<=c):=by
 have:([c]<[a])↔c<a:=by
  constructor
  .intro h;cases h with
   | rel h=>exact h
   | cons h=>cases h
  .exact λh=> .rel h
 by_cases h:c<a
 .rw[decide_eq_true (this.mpr h),decide_eq_false (by lia)];rfl
 .rw[decide_eq_false (λz=>h (this.mp z)),decide_eq_true (by lia)];rfl
theorem aFL:("a" :Str).cps.toList=[97]:=by decide +kernel
theorem aFf:("z" :Str).cps.toList=[122]:=by decide +kernel
theorem v6 (p:α->Bool)(d:α):∀l:List α,((List.range l.length).map λi=>p (l.getD i d)).all id=l.all p
 | []=>rfl
 | a::l=>by
  rw[List.length_cons,List.range_succ_eq_map,List.map_cons,List.all_cons,List.map_map,List.all_cons,←v6 p d l];rfl
theorem l7 {p:Addr}{o:HO}(h:H p=none):Same H (upd H p o):=λb u e=>by rw[aM (aY e h)];exact e
theorem QL (m:M w K mg):FnOk P w K mg base CX0 1 m.wD m.rW.d ["thing"] (DD K):=by
 refine m.rW.F.ok aHy (λvs H Q E h=> ?_) (λcdv A outer s H vs Q E hr h=> ?_)
 .walk_at"g1";obtain⟨x,n,rfl,b,hz,k⟩:=h;walk_at"g2";rfl
 .walk_at"g1";obtain⟨x,n,rfl,b,hz,k⟩:=h;walk_at"g2";have nd:=aHy.nd;walk_at"hu";obtain⟨aHY,mL⟩:=m.mL;refine⟨_,(aC (bH (hG (eY (bD uL rfl m.eJ dL (aA (pv 0) (aA (A0 rfl m.kO hZ) aB))))) (aE (aP t9)) aS)
   (aE (aP (BB (zD GL GL aF (bD vE rfl m.eK c5 (aA (pv 0) aB)) (MQ rfl mL)) (A3 (bD (yK rfl) rfl m.R0 IK (aA (dG (N:=["sign"]) (nl:=1) (ci:=[]) rfl (blk (s.heap.objs.size+1) rfl rfl rfl (by kernel_rfl)) (SG (pv 0)) (λ_ _ _ _=>(aZ (i:=0) (show (["sign"]:List Str).Nodup by decide +kernel) rfl (by walk_at"oi"))) (λ_ _ _ _=>dO) (λ_ _ _ _=>(zD AX AX aD (pv 0) aD))) aB))))))),?_⟩
  refine aL (σ:=[some (x)]) rfl ?_;walk_at"cx";refine⟨_,rfl,_,_,_,_,_,rfl,b.ty,rfl,GW b "str" (.inr (.inr rfl)),_,rfl,?_⟩;refine zO (λh1=> ?_) (λh1=> ?_)
  .show Q (.bl false) H;cases b<;>first|exact k H (Same.refl H)|exact absurd h1 (by decide)
  .have hs:∃z,x= .str z:=by
    cases b<;>first|exact⟨_,rfl⟩|exact absurd (by decide) h1
   obtain⟨z,rfl⟩:=hs;have hl:=hz z rfl;have hl':z.length<=sizeLine:=Nat.le_trans hl (by decide);refine⟨_,rfl,z,rfl,hl',_,_,rfl,rfl,_,rfl,?_⟩;refine zO (λh2=>⟨_,_,rfl,rfl,_,rfl,?_⟩) (λh2=>⟨_,rfl,?_⟩)
   .refine zO (λh3=> ?_) (λh3=> ?_)
    .refine⟨_,rfl,z,rfl,?_⟩;refine MK z.cps.size (λi=> .bl (sgB (z.cps.toList.getD i 0))) hl' (λH'=>H'=H) rfl (λ_ _=>rfl) (λi _ hi _=>hi) ?_ ?_ ?_ ?_ ?_
     .rintro i _ x H' hi rfl hq_;walk_at"g1";obtain⟨rfl,c,hc,rfl⟩:=hq_;walk_at"g2";refine⟨⟨rfl,λj v hv=> ?_⟩,rfl,?_⟩
      .match j,hv with
       | 0,hv=>cases hv
       | j+1,hv=>cases hv
      .have hc':z.cps.toList.getD i 0=c:=by
        rw[List.getD_eq_getElem?_getD,Array.getElem?_toList,hc];rfl
       refine⟨_,rfl,_,_,rfl,rfl,_,rfl,?_⟩;rw[aFL,hc'];refine zO (λh4=>⟨_,_,rfl,rfl,?_,rfl⟩) (λh4=>⟨?_,rfl⟩)
       .have h4':97<=c:=by rw[show (⟨#[c]⟩:Str).cps.toList=[c] from rfl,le1]at h4;exact of_decide_eq_true h4
        rw[aFf,show (⟨#[c]⟩:Str).cps.toList=[c] from rfl,le1];unfold sgB;rw[decide_eq_true h4',Bool.true_and]
       .have h4':¬97<=c:=by rw[show (⟨#[c]⟩:Str).cps.toList=[c] from rfl,le1]at h4;exact λz=>h4 (decide_eq_true z)
        unfold sgB;rw[decide_eq_false h4',Bool.false_and]
     .exact λ_ _ _ _ f q=>f _ _ q
     .rintro σ H Q Q' f hq_;walk_at"g1";obtain⟨v,e,i,j,e1,e2,k,e3,q⟩:=hq_;walk_at"g2";refine⟨v,e,i,j,e1,e2,k,e3,?_⟩;revert q
      split
      .rintro hq_;walk_at"g1";obtain⟨i,j,e1,e2,q⟩:=hq_;walk_at"g2";exact⟨i,j,e1,e2,f _ _ q⟩
      .exact λq=>f _ _ q
     .exact λ_ _ _ _ _ f q=>f _ _ q
     .rintro _ rfl p hp;refine⟨p,(List.range z.cps.size).map (λi=>sgB (z.cps.toList.getD i 0)),rfl,SqL.of ?_,?_⟩
      .rw[aU,List.map_map];rfl
      .have e:=v6 sgB 0 z.cps.toList;rw[Array.length_toList]at e;rw[e];have e2:nmB (.str z)=z.cps.toList.all sgB:=by
        show aK z=_;unfold aK;rw[show decide (1<=(z.length:Int))=true from h2,show decide ((z.length:Int)<=8)=true from h3];rfl
       rw[←e2];exact k _ (l7 hp)
    .have e2:nmB (.str z)=false:=by
      show aK z=_;unfold aK;rw[show decide ((z.length:Int)<=8)=false from by simpa using h3];simp
     have:=k H (Same.refl H);rw[e2]at this;exact this
   .have e2:nmB (.str z)=false:=by
     show aK z=_;unfold aK;rw[show decide (1<=(z.length:Int))=false from by simpa using h2];simp
    have:=k H (Same.refl H);rw[e2]at this;exact this
theorem tR (m:M w K mg):Fc P w K mg base "is_name" 1 ["thing"] (DD K):=⟨_,_,m.VU,m.rW.F.kp,m.rW.b,QL m⟩
local macro_rules| `(tactic| walk_at"rd1")=> `(tactic| first|(with_reducible refine YZ ?_)|((with_reducible refine' aAV ?s ?_);(case s=>assumption);intro H' S'))
inductive kF (K:W.Frag)(vs:List V)(H:Hp)(Q:VK)(E:XK):Prop
 | mk (part z:Str) (_:vs=[.str part,.str z]) (_:aK z=true) (_:∀H',Same H H'->Q .non H'):kF K vs H Q E
theorem LD {Q:VK}{E:XK}(hz:aK z=true)(h:∀H',Same H H'->Q .non H'):kF K [.str part,.str z] H Q E:=⟨_,_,rfl,hz,h⟩
theorem ID (m:M w K mg):FnOk P w K mg base CX0 2 m.sL m.mV.d ["part","thing"] (kF K):=by
 refine m.mV.F.ok aHk ?_ ?_;walk_at"w0";walk_at"w1";obtain⟨part,z,rfl,hz,k⟩:=h;walk_at"g2";have nd:=aHk.nd;walk_at"hu";have aGy:= @tR P w K mg base m;refine⟨_,(aE (bH (hG (eY (bT aGy hr (aA (pv 1) aB)))) (aE pZ) aS)),?_⟩;refine aL (σ:=[some (.str part),some (.str z)]) rfl ?_;walk_at"cx";walk_at"go";exact k _ (by walk_at"sm")
theorem JO (m:M w K mg):Fc P w K mg base "need_name" 2 ["part","thing"] (kF K):=⟨_,_,m.LZ,m.mV.F.kp,m.mV.b,ID m⟩
inductive jD (K:W.Frag)(vs:List V)(H:Hp)(Q:VK)(E:XK):Prop
 | mk (part:Str) (i l:Int) (_:vs=[.str part,.int i,.int l]) (_:l<=i) (_:Q .non H):jD K vs H Q E
theorem KG {Q:VK}{E:XK}(hz:l<=i)(h:Q .non H):jD K [.str part,.int i,.int l] H Q E:=⟨_,_,_,rfl,hz,h⟩
theorem F7 (m:M w K mg):FnOk P w K mg base CX0 2 m.q9 m.k8.d ["part","thing","least"] (jD K):=by
 refine m.k8.F.ok aHf ?_ ?_;walk_at"w0";walk_at"w1";obtain⟨part,i,l,rfl,hz,k⟩:=h;walk_at"g2";have nd:=aHf.nd;walk_at"hu";have aHR:= @LA P w K mg base m;refine⟨_,(aE (bH (PW.pt (aAc (hG (eY (bT aHR hr (aA (pv 1) aB)))) (UD (a9 wN (pv 1) (pv 2) (bE _))))) (aE pZ) aS)),?_⟩;refine aL (σ:=[some (.str part),some (.int i),some (.int l)]) rfl ?_;walk_at"cx";walk_at"go";exact k
theorem jF (m:M w K mg):Fc P w K mg base "need_whole" 2 ["part","thing","least"] (jD K):=⟨_,_,m.K6,m.k8.F.kp,m.k8.b,F7 m⟩
local macro_rules| `(tactic| walk_at"rd1")=> `(tactic| first|((with_reducible refine' LD ?s ?_);(case s=>assumption);intro H' S')|((with_reducible refine' KG ?s ?_);(case s=>walk_at"sd")))
abbrev kE (n s e w:V):List (Str×V):=cG "wide" w (cG "end" e (cG "start" s (cG "name" n [])))
def bW (e:V):Prop:=e= .non∨∃z,e= .str z/\aK z=true
inductive dE (K:W.Frag)(vs:List V)(H:Hp)(Q:VK)(E:XK):Prop
 | mk (p C dx:Addr) (n s:Str) (e:V) (wd:Int) (_:vs=[.ref p,.str n,.str s,e,.int wd]) (_:DCls K C) (_:H p=some (.ins C dx [])) (_:aK n=true) (_:aK s=true) (_:bW e) (_:0<=wd) (_:∀H',SameBut p H H'->H' p=some (.ins C dx (kE (.str n) (.str s) e (.int wd)))->Q .non H'):dE K vs H Q E
theorem mQ {Q:VK}{E:XK}{p:Addr}{n s:Str}{e:V}(dc:DCls K C)(hp:H p=some (.ins C dx []))(hn:aK n=true)(hs:aK s=true)(he:bW e)(hw:0<=wd)
  (k:∀H',SameBut p H H'->H' p=some (.ins C dx (kE (.str n) (.str s) e (.int wd)))->Q .non H'):dE K [.ref p,.str n,.str s,e,.int wd] H Q E:=⟨_,_,_,_,_,_,_,rfl,dc,hp,hn,hs,he,hw,k⟩
theorem jM (m:M w K mg):FnOk P w K mg base CX0 3 m.gY m.fF ["self","name","start","end","wide"] (dE K):=by
 refine m.lF.ok aGI ?_ ?_;walk_at"w0";walk_at"w1";obtain⟨p,C,dx,n,st,e,wd,rfl,dc,hp,hn,hs,he,hw,k⟩:=h;walk_at"g2";have nd:=aGI.nd;walk_at"hu";have aGV:= @JO P w K mg base m;have aGi:= @jF P w K mg base m;refine⟨_,(aC (bG (bT aGV hr (aA aD (aA (pv 1) aB))))
  (aC (bG (bT aGV hr (aA aD (aA (pv 2) aB))))
  (aC (bH (a9 aBh (pv 3) AF (bE _)) (aE (bG (bT aGV hr (aA aD (aA (pv 3) aB))))) aS)
  (aC (bG (bT aGi hr (aA aD (aA (pv 4) (aA aF aB)))))
  (aC (fD (pv 0) (pv 1) rfl)
  (aC (fD (pv 0) (pv 2) rfl)
  (aC (fD (pv 0) (pv 3) rfl)
  (aE (fD (pv 0) (pv 4) rfl))))))))),?_⟩
 refine aL (σ:=[some (.ref p),some (.str n),some (.str st),some (e),some (.int wd)]) rfl ?_;walk_at"cx";rcases he with rfl|⟨z,rfl,hz⟩
 .walk_at"go";exact k _ (by walk_at"sb") (by assumption)
 .walk_at"go";exact k _ (by walk_at"sb") (by assumption)
theorem UR (m:M w K mg):Kc P w K mg base "Door" m.cF 3 [] (dE K):=⟨_,_,_,_,m.KZ,m.aCn,.nil,m.rX,jM m⟩
theorem lH (m:M w K mg):Dc P w K mg base "Door" "__init__" 3 (dE K):=⟨_,_,_,_,m.KZ,m.dB.1,m.dB.2.1,m.dB.2.2,m.lF.kp,m.rX,jM m⟩
theorem sF (m:M w K mg):DcD P w K mg base "Door" "__init__" 3 [.int 1] (dE K):=by
 obtain⟨ds,h1,h2⟩:=m.wB;exact⟨_,_,_,_,_,m.KZ,m.dB.1,m.dB.2.1,m.dB.2.2,m.lF.kp,h1,h2,jM m⟩
theorem YA {Q:VK}{E:XK}{n s:Str}{e:V}(ev:vs++dvs=[.str n,.str s,e,.int wd])(dc:DCls K C)(hn:aK n=true)(hs:aK s=true)(he:bW e)(hw:0<=wd)
  (k:∀p dx H',H p=none->Same H H'->H' p=some (.ins C dx (kE (.str n) (.str s) e (.int wd)))->Q (.ref p) H'):uH C (dE K) dvs E Q vs H :=
 tQ (λp dx H0 Q' h k' s0=>by rw[ev];exact mQ dc h hn hs he hw k') k
local macro_rules| `(tactic| walk_at"rd1")=> `(tactic| ((with_reducible refine' YA ?v ?d ?hn ?hs ?he ?hw ?_);(case v=>rfl);(case d=>assumption);(case hn=>assumption);(case hs=>assumption);(case he=>first|assumption|exact .inl rfl|exact .inr ⟨_,rfl,by assumption⟩);(case hw=>walk_at"sd");intro p' dx' H' n' S' e'))
inductive cM (K:W.Frag)(vs:List V)(H:Hp)(Q:VK)(E:XK):Prop
 | mk (p C dx:Addr) (fs:List (Str×V)) (e:V) (_:vs=[.ref p]) (_:DCls K C) (_:H p=some (.ins C dx fs)) (_:fs.lookup ("end" :Str)=some e) (_:Q (.bl (decide (e= .non))) H):cM K vs H Q E
theorem aB5 {Q:VK}{E:XK}{p:Addr}{fs:List (Str×V)}(hp:H p=some (.ins C dx fs))(dc:DCls K C)(l:fs.lookup ("end" :Str)=some .non)(k:Q (.bl true) H):cM K [.ref p] H Q E:=⟨_,_,_,_,_,rfl,dc,hp,l,k⟩
theorem aBN {Q:VK}{E:XK}{p:Addr}{fs:List (Str×V)}(hp:H p=some (.ins C dx fs))(dc:DCls K C)(l:fs.lookup ("end" :Str)=some (.str z))(k:Q (.bl false) H):cM K [.ref p] H Q E :=
 ⟨_,_,_,_,_,rfl,dc,hp,l,by rw[decide_eq_false (λz=>by cases z)];exact k⟩
theorem gQ (m:M w K mg):FnOk P w K mg base CX0 1 m.cI m.d6.d ["self"] (cM K):=by
 refine m.d6.F.ok aGR ?_ ?_;walk_at"w0";walk_at"w1";obtain⟨p,C,dx,fs,e,rfl,dc,hp,l,k⟩:=h;walk_at"g2";have nd:=aGR.nd;walk_at"hu";refine⟨_,(aE (aP (sU aDr (bS (pv 0) rfl) AF (bE _)))),?_⟩;refine aL (σ:=[some (.ref p)]) rfl ?_;walk_at"cx";walk_at"go";exact k
theorem kH (m:M w K mg):Mc P w K mg base m.cF "is_exit" 1 (cM K):=⟨_,_,_,m.j3.ic.cl,m.CJ,m.d6.b,gQ m⟩
theorem qB (m:M w K mg):Mc P w K mg base m.cX "is_exit" 1 (cM K):=⟨_,_,_,m.mJ.ic.cl,m.z8,m.d6.b,gQ m⟩
theorem rG (m:M w K mg):Mc P w K mg base m.dR "is_exit" 1 (cM K):=⟨_,_,_,m.oV.ic.cl,m.CG,m.d6.b,gQ m⟩
theorem A8 (m:M w K mg):Mc P w K mg base m.c6 "is_exit" 1 (cM K):=⟨_,_,_,m.oU.ic.cl,m.CC,m.d6.b,gQ m⟩
local macro_rules| `(tactic| walk_at"rd1")=> `(tactic| first|((with_reducible refine' aB5 ?e ?d ?l ?_);(case e=>walk_at"hp");(case d=>assumption);(case l=>walk_at"lk"))|((with_reducible refine' aBN ?e ?d ?l ?_);(case e=>walk_at"hp");(case d=>assumption);(case l=>walk_at"lk")))
local macro_rules| `(tactic| walk_at"rd1")=> `(tactic| ((with_reducible refine' mQ ?d ?e ?hn ?hs ?he ?hw ?_);(case d=>assumption);(case e=>walk_at"hp");(case hn=>assumption);(case hs=>assumption);(case he=>assumption);(case hw=>walk_at"sd");intro H' B' e'))
abbrev bJ:=Str×Str×V×(Int->Int)
def Y6:HO->Prop
 | .lst _=>True
 | .dK _=>True
 | .dT _=>True
 | .tbl _=>True
 | .ins _ _ fs=>fs=[]
 | _=>False
structure cZ where
 at':Hp->V->bJ->Prop
 same:∀{H H' v d},at' H v d->Same H H'->at' H' v d
 but:∀{H H' v d p o},at' H v d->H p=some o->Y6 o->SameBut p H H'->at' H' v d
def Z1 (P:Program)(w:World)(K:W.Frag)(mg:Str->Option Value)(base:Heap)(kL:Option Nat)(p C dx:Addr)(fs:List (Str×V))(fp:List (Addr×HO))(lt:Int->Int):Prop:=∀kl,kL=some kl →
 ∃sp,Mc P w K mg base C "lets" kl sp/\∀(H':Hp) (t:Int) (Q:VK),H' p=some (.ins C dx fs)->(∀x∈fp,H' x.1=some x.2)->0<=t->(∀H'',Same H' H''->Q (.int (lt t)) H'')->sp [.ref p,.int t] H' Q E0
inductive DoorAt (P:Program)(w:World)(K:W.Frag)(mg:Str->Option Value)(base:Heap)(kL:Option Nat)(H:Hp)(v:V)(d:bJ):Prop
 | mk (p C dx:Addr) (fs:List (Str×V)) (fp:List (Addr×HO)) (_:v= .ref p) (_:H p=some (.ins C dx fs)) (_:DCls K C) (_:fs.lookup ("name" :Str)=some (.str d.1)) (_:fs.lookup ("start" :Str)=some (.str d.2.1)) (_:fs.lookup ("end" :Str)=some d.2.2.1) (_:fs.lookup ("is_exit" :Str)=none) (_:fs.lookup ("lets" :Str)=none) (_:Mc P w K mg base C "is_exit" 1 (cM K)) (_:∀x∈fp,H x.1=some x.2/\¬Y6 x.2) (_:Z1 P w K mg base kL p C dx fs fp d.2.2.2):DoorAt P w K mg base kL H v d
inductive ZS (P:Program)(w:World)(K:W.Frag)(mg:Str->Option Value)(base:Heap)(kL:Option Nat)(H:Hp)(v:V)(n st:Str)(e:V)(lt:Int->Int):Prop
 | mk (p C dx:Addr) (fs:List (Str×V)) (fp:List (Addr×HO)) (_:v= .ref p) (_:H p=some (.ins C dx fs)) (_:DCls K C) (_:fs.lookup ("name" :Str)=some (.str n)) (_:fs.lookup ("start" :Str)=some (.str st)) (_:fs.lookup ("end" :Str)=some e) (_:fs.lookup ("is_exit" :Str)=none) (_:fs.lookup ("lets" :Str)=none) (_:Mc P w K mg base C "is_exit" 1 (cM K)) (_:∀x∈fp,H x.1=some x.2/\¬Y6 x.2) (_:Z1 P w K mg base kL p C dx fs fp lt):ZS P w K mg base kL H v n st e lt
theorem DoorAt.ex {kL:Option Nat}{n st:Str}{e:V}{lt:Int->Int}(h:DoorAt P w K mg base kL H v (n,st,e,lt)):ZS P w K mg base kL H v n st e lt:=by
 walk_at"g1";obtain⟨p,C,dx,fs,fp,h1,h2,h3,h4,h5,h6,h7,h8,h9,h10,h11⟩:=h;walk_at"g2";exact⟨p,C,dx,fs,fp,h1,h2,h3,h4,h5,h6,h7,h8,h9,h10,h11⟩
def cH (P:Program)(w:World)(K:W.Frag)(mg:Str->Option Value)(base:Heap)(kL:Option Nat):cZ where
 at':=DoorAt P w K mg base kL
 same:=λ⟨p,C,dx,fs,fp,e,hp,dc,l1,l2,l3,l4,l5,mc,hf,lt⟩ s=>⟨p,C,dx,fs,fp,e,s _ _ hp,dc,l1,l2,l3,l4,l5,mc,λx hx=>⟨s _ _ (hf x hx).1,(hf x hx).2⟩,lt⟩
 but:=λ{H H' v d q o} ⟨p,C,dx,fs,fp,e,hp,dc,l1,l2,l3,l4,l5,mc,hf,lt⟩ ho so sb=>⟨p,C,dx,fs,fp,e,sb _ _ hp (λz=>by
   rw[z,ho]at hp;cases hp;have h:fs=[]:=so;rw[h]at l1;cases l1),dc,l1,l2,l3,l4,l5,mc,λx hx=>⟨sb _ _ (hf x hx).1 (λz=>by
   have h:=(hf x hx).1;rw[z,ho]at h;cases h;exact(hf x hx).2 so),(hf x hx).2⟩,lt⟩
local macro_rules| `(tactic| walk_at"rd1")=> `(tactic| first|(with_reducible refine aCh ?_)|(with_reducible refine aAW ?_)|(with_reducible refine aC5 ?_)|(with_reducible refine SV ?_)|(with_reducible refine U9 ?_)|(with_reducible refine rd_iItemsK ?_)|(with_reducible refine rd_iItemsT ?_)|(with_reducible refine rd_dget2 ?_)|((with_reducible refine WF ?_);intro p' H' n' S' e')|((with_reducible refine rd_dnewT ?_);intro p' H' n' S' e'))
theorem iB {Q:VK}{l:Addr}{y:V}(e:H l=some (.lst xs))(hz:xs.length<sizeLine)(h:∀H',SameBut l H H'->H' l=some (.lst (xs++[y]))->Q .non H'):C6 (.ref l) [y] H Q :=
 ⟨l,xs,y,rfl,rfl,e,hz,h _ SameBut.upd aU⟩
theorem yZ {α:Type}{ss:List α}(nd:ss.Nodup){i:Nat}{z:α}(hz:ss[i]? =some z):z∉ss.take i:=λh=>by
 obtain⟨hi,e⟩:=List.getElem?_eq_some_iff.mp hz;obtain⟨j,hj,ej⟩:=List.getElem_of_mem h;rw[List.length_take]at hj;rw[List.getElem_take]at ej;exact(List.pairwise_iff_getElem.mp nd) j i (by lia) hi (by lia) (ej.trans e.symm)
theorem dS {α:Type}{ss:List α}{i:Nat}{z:α}(hz:ss[i]? =some z):ss.take (i+1)=ss.take i++[z]:=by rw[List.take_succ,hz];rfl
def fL (H:Hp)(v:V)(p:Str×Int):Prop:=∃q,v= .ref q/\H q=some (.tup [.str p.1,.int p.2])
theorem tH (h:Paired (fL H) vs ps)(s:Same H H'):Paired (fL H') vs ps:=Paired.imp' (λv z ⟨q,e,h⟩=>⟨q,e,s _ _ h⟩) h
inductive tN (K:W.Frag)(vs:List V)(H:Hp)(Q:VK)(E:XK):Prop
 | mk (a b:Addr) (ss:List Str) (kvs:List (Key×V)) (_:vs=[.ref a,.ref b]) (_:SqL K H a (ss.map V.str)) (_:Rd H b (.dK kvs)) (_:(∀z∈ss,(aX kvs (.inr z)).isSome=true)) (_:∀H',Same H H'->Q .non H'):tN K vs H Q E
theorem aCf {Q:VK}{E:XK}(hS:SqL K H a (ss.map V.str))(hb:Rd H b (.dK kvs))(hk:∀z∈ss,(aX kvs (.inr z)).isSome=true)(h:∀H',Same H H'->Q .non H'):tN K [.ref a,.ref b] H Q E:=⟨_,_,_,_,rfl,hS,hb,hk,h⟩
theorem MZ {u:HO}(s:Same H H')(r:Rd H a u):Rd H' a u:=r.elim (λe=> .inl (s _ _ e)) λ⟨o,e⟩=> .inr ⟨o,s _ _ e⟩
theorem FI (m:M w K mg):FnOk P w K mg base CX0 1 m.kY m.dF.d ["names","sizes"] (tN K):=by
 refine m.dF.F.ok aGo ?_ ?_;walk_at"w0";walk_at"w1";obtain⟨a,b,ss,kvs,rfl,hS,hb,hk,k⟩:=h;walk_at"g2";have nd:=aGo.nd;walk_at"hu";refine⟨_,(aE (iA PassesOwn.never rfl (bZ (pv 0)) (aZ (i:=2) nd rfl (by walk_at"oi")) (aE (bH (AJ (v3 hu1 (pv 2) (pv 1)) (by with_unfolding_all rfl)) (aE pZ) aS)))),?_⟩;refine aL (σ:=[some (.ref a),some (.ref b),none]) rfl ?_;walk_at"cx";walk_at"go";let Pv1:Nat->St->Hp->Prop:=λi σ' H'=>Same H H'/\∃x,σ'=[some (.ref a),some (.ref b),x];refine lI (ss.map V.str) Pv1 ⟨Same.refl _,_,rfl⟩ (λi σ' H' _ q=>q.1.seq hS) ?_ ?_
 .rintro i x _ H' hx ⟨s1,y,rfl⟩;rw[List.getElem?_map]at hx;obtain⟨z,hz,rfl⟩:=Option.map_eq_some_iff.mp hx;have hz':=hk z (List.mem_of_getElem? hz);walk_at"go";refine tX (MZ s1 hb) ?_;rw[hz'];walk_at"go";exact⟨s1,_,rfl⟩
 .rintro _ H' ⟨s1,y,rfl⟩;exact k _ s1
theorem F9 (m:M w K mg):Fc P w K mg base "need_rooms" 1 ["names","sizes"] (tN K):=⟨_,_,m.wC,m.dF.F.kp,m.dF.b,FI m⟩
theorem WK {Q:VK}{j:Int}(h:Q (.int (i+j)) H):aCA (.int i) (.int j) H Q:=by
 first|exact h|exact⟨_,_,rfl,rfl,h⟩|exact .inl ⟨_,_,rfl,rfl,h⟩
theorem HU {p c:Addr}(h:SqL K H c xs)(hp:H p=some (.dK kvs))(sb:SameBut p H H'):SqL K H' c xs:=by
 rcases h with (h|⟨o,h⟩)|h
 .exact .inl (.inl (sb _ _ h λz=>by rw[z,hp]at h;cases h))
 .exact .inl (.inr ⟨o,sb _ _ h λz=>by rw[z,hp]at h;cases h⟩)
 .exact .inr h
def szK (rz:List (Str×Int)):List (Key×V):=rz.map λe=>((.inr e.1:Key),V.int e.2)
theorem MB (rz:List (Str×Int)):(szK rz).map (·.1)=(rz.map (·.1)).map (Sum.inr:Str->Key):=by unfold szK;rw[List.map_map,List.map_map];rfl
theorem E3 (nd:rs.Nodup):(rs.map (Sum.inr:Str->Key)).Nodup:=by
 rw[List.Nodup,List.pairwise_map];exact List.Pairwise.imp (λh z=>h (Sum.inr.inj z)) nd
theorem zP (nd:(rz.map (·.1)).Nodup):((szK rz).map (·.1)).Nodup:=by rw[MB];exact E3 nd
theorem DM (nd:(rz.map (·.1)).Nodup){e:Str×Int}(h:e∈rz):aX (szK rz) (.inr e.1)=some (.int e.2) :=
 wM (e:=((.inr e.1:Key),V.int e.2)) (zP nd) (List.mem_map.mpr ⟨e,h,rfl⟩)
theorem KF (nd:(rz.map (·.1)).Nodup)(h:z∈rz.map (·.1)):∃i,(z,i)∈rz/\aX (szK rz) (.inr z)=some (.int i):=by
 obtain⟨e,he,rfl⟩:=List.mem_map.mp h;exact⟨e.2,he,DM nd he⟩
theorem vD {k:Key}(h:∀e∈kvs,e.1≠k):aX kvs k=none:=by
 induction kvs with
 | nil=>rfl
 | cons a l ih =>
  rw[c7 (h a (.head _))];exact ih λe he=>h e (List.mem_cons_of_mem _ he)
theorem E9:∀(ps kvs:List (Key×V)),(ps.map (·.1)).Nodup->(∀e∈kvs,∀q∈ps,e.1≠q.1)->kB kvs ps=kvs++ps
 | [],kvs,_,_=>(List.append_nil _).symm
 | (k,v)::ps,kvs,nd,h=>by
  have nd':=List.pairwise_cons.mp nd;show kB (dW kvs k v) ps=_;rw[yV v (vD λe he=>h e he _ (.head _)),E9 ps _ nd'.2,List.append_assoc]
  .rfl
  .intro e he q hq;rcases List.mem_append.mp he with he|he
   .exact h e he q (List.mem_cons_of_mem _ hq)
   .cases List.mem_singleton.mp he;exact nd'.1 q.1 (List.mem_map.mpr ⟨q,hq,rfl⟩)
theorem WO (nd:(rz.map (·.1)).Nodup):kB [] (szK rz)=szK rz:=by
 rw[E9 _ _ (zP nd) (λe he=>absurd he (List.not_mem_nil))];rfl
theorem aAr:∀(o:Obj) (x:HO),HO.dK kvs≠ .frz o x:=λ_ _ z=>by cases z
def vW (rz:List (Str×Int))(ps:List (Str×Int))(kvs:List (Key×V)):Prop:=∀z∈rz.map (·.1),aX kvs (.inr z)=some (.int (bU ps z))
inductive tV (K:W.Frag)(vs:List V)(H:Hp)(Q:VK)(E:XK):Prop
 | mk (a b:Addr) (rz:List (Str×Int)) (ws:List V) (ps:List (Str×Int)) (_:vs=[.ref a,.ref b]) (_:H a=some (.dK (szK rz))) (_:SqL K H b ws) (_:Paired (fL H) ws ps) (_:(∀p∈ps,p.1∈rz.map (·.1))) (_:(rz.map (·.1)).Nodup) (_:rz.length<=100) (_:∀p H' kvs,H p=none->Same H H'->H' p=some (.dK kvs)->kvs.map (·.1)=(szK rz).map (·.1)->vW rz ps kvs->Q (.ref p) H'):tV K vs H Q E
theorem M4 {Q:VK}{E:XK}{ws:List V}(ha:H a=some (.dK (szK rz)))(hb:SqL K H b ws)(hw:Paired (fL H) ws ps)(hwr:∀p∈ps,p.1∈rz.map (·.1))(nd:(rz.map (·.1)).Nodup)(hl:rz.length<=100)(h:∀p H' kvs,H p=none->Same H H'->H' p=some (.dK kvs)->kvs.map (·.1)=(szK rz).map (·.1)->vW rz ps kvs->Q (.ref p) H'):tV K [.ref a,.ref b] H Q E:=⟨_,_,_,_,_,rfl,ha,hb,hw,hwr,nd,hl,h⟩
theorem XD {k:Key}(h:(aX kvs k).isSome=true):(dW kvs k v).map (·.1)=kvs.map (·.1):=by
 unfold dW;rw[jO,if_pos h,List.map_map]
 apply List.map_congr_left
 intro x _;show (if x.1=k then (x.1,v) else x).1=x.1
 split<;>rfl
theorem AN (m:M w K mg):FnOk P w K mg base CX0 1 m.mI m.iT.d ["sizes","people"] (tV K):=by
 refine m.iT.F.ok aGU ?_ ?_;walk_at"w0";walk_at"w1";obtain⟨a,b,rz,ws,ps,rfl,ha,hb,hw,hwr,ndz,hlen,k⟩:=h;walk_at"g2";have nd:=aGU.nd;walk_at"hu";refine⟨_,(aC (aT (i:=2) nd rfl (by walk_at"oi") yT)
  (aC (aAw (iA PassesOwn.never rfl (KD (pv 0)) (aZ (i:=3) nd rfl (by walk_at"oi")) (aE (CO hu1 (pv 2) (pv 3) aF rfl))))
  (aC (iA PassesOwn.never rfl (bZ (pv 1)) (SQ (n:=2) rfl (fH (aZ (i:=3) nd rfl (by walk_at"oi")) (fH (aZ (i:=4) nd rfl (by walk_at"oi")) tI))) (aE (aBI hu1 (pv 2) (pv 3) (pv 4) aDh (λ_ _ _=>rfl))))
  (aE (aP (pv 2)))))),?_⟩
 refine aL (σ:=[some (.ref a),some (.ref b),none,none,none]) rfl ?_;walk_at"cx";walk_at"go";rename_i p H1 n1 S1 e1;have hap:a≠p:=λz=>by rw[z,n1]at ha;cases ha
 have ha1:=S1 _ _ ha;have hl2:(szK rz).length=rz.length:=by unfold szK;rw[List.length_map]
 refine YC ha1 aAr ?_;walk_at"go";refine JC ha1 λo H2 B2 e2=> ?_;have ep2:H2 p=some (.dK []):=B2 _ _ e1 (Ne.symm hap);have hwl:ws.length=ps.length:=Paired.length hw;let Pv1:Nat->St->Hp->Prop:=λi σ' H'=>SameBut p H2 H'/\H' p=some (.dK ((rz.take i).map λe=>((.inr e.1:Key),V.int 0)))/\∃x,σ'=[some (.ref a),some (.ref b),some (.ref p),x,none];refine W5 (szK rz) Pv1 ⟨SameBut.refl,ep2,_,rfl⟩ (λi σ' H' q=>q.1 _ _ e2 hap) ?_ ?_
 .rintro i kk v _ H' hx hq_;walk_at"g1";obtain⟨sb,ek,y,rfl⟩:=hq_;walk_at"g2";unfold szK at hx;rw[List.getElem?_map]at hx;walk_at"g1";obtain⟨⟨z,sz⟩,hz,ez⟩:=Option.map_eq_some_iff.mp hx;walk_at"g2";cases ez;have hi:i<rz.length:=(List.getElem?_eq_some_iff.mp hz).1;have hnone:aX ((rz.take i).map λe=>((.inr e.1:Key),V.int 0)) (.inr z)=none:=vD λe he=>by
   obtain⟨d,hd,rfl⟩:=List.mem_map.mp he;intro zz;have hn:z∉(rz.map (·.1)).take i:=yZ ndz (by rw[List.getElem?_map,hz];rfl)
   apply hn
   rw[←List.map_take];exact List.mem_map.mpr ⟨d,hd,Sum.inr.inj zz⟩
  show (_:TG) (.str z) _ _ _;walk_at"go";refine yH ek (by rw[sizeLine_eq,List.length_map,List.length_take];lia) λH9 B9 e9=> ?_;refine⟨by walk_at"sb",?_,_,rfl⟩;rw[e9,yV _ hnone,dS hz,List.map_append];rfl
 .rintro _ H' hq_;walk_at"g1";obtain⟨sb,ek,y,rfl⟩:=hq_;walk_at"g2";rw[hl2,List.take_length]at ek;refine EO (sb _ _ e2 hap) λH3 B3 e3=> ?_;have ep3:=B3 _ _ ek (Ne.symm hap);have sH:Same H H3:=λx u hx=>by
   by_cases ex:x=a
   .subst ex;rw[ha]at hx;cases hx;exact e3
   .have hxp:x≠p:=λz=>by rw[z,n1]at hx;cases hx
    exact B3 _ _ (sb _ _ (B2 _ _ (S1 _ _ hx) ex) hxp) ex
  have hb3:=sH.seq hb;have hw3:=tH hw sH;have hnb:∀{H':Hp}{v:V}{r:Str×Int},SameBut p H3 H'->fL H3 v r->fL H' v r:=λsb ⟨q,e,hq⟩=>⟨q,e,sb _ _ hq λz=>by rw[z,ep3]at hq;cases hq⟩
  walk_at"go";let Pv2:Nat->St->Hp->Prop:=λi σ' H'=>SameBut p H3 H'/\(∃kvs,H' p=some (.dK kvs)/\kvs.map (·.1)=(szK rz).map (·.1)/\vW rz (ps.take i) kvs)/\∃x y,σ'=[some (.ref a),some (.ref b),some (.ref p),x,y];refine lI ws Pv2 ⟨SameBut.refl,⟨_,ep3,?_,?_⟩,_,_,rfl⟩ (λi σ' H' _ q=>HU hb3 ep3 q.1) ?_ ?_
  .unfold szK;rw[List.map_map,List.map_map];rfl
  .intro z hz;obtain⟨e,he,rfl⟩:=List.mem_map.mp hz;exact wM (e:=((.inr e.1:Key),V.int 0)) (by rw[show (rz.map λe=>((.inr e.1:Key),V.int 0)).map (·.1)=(szK rz).map (·.1) from by unfold szK;rw[List.map_map,List.map_map];rfl];exact zP ndz) (List.mem_map.mpr ⟨e,he,rfl⟩)
  .rintro i x _ H' hx hq_;walk_at"g1";obtain⟨sb',⟨kvs,ek',hkk,hin⟩,x1,x2,rfl⟩:=hq_;walk_at"g2";have hi:i<ws.length:=(List.getElem?_eq_some_iff.mp hx).1;obtain⟨⟨z,nn⟩,hpx⟩:∃d,ps[i]? =some d:=⟨_,List.getElem?_eq_getElem (by lia)⟩
   obtain⟨q,rfl,hq⟩:=Paired.at2 hw3 hx hpx;have hq':H' q=some (.tup [.str z,.int nn]):=sb' _ _ hq λzz=>by rw[zz,ep3]at hq;cases hq
   have hzr:z∈rz.map (·.1):=hwr _ (List.mem_of_getElem? hpx);have hkl:kvs.length=rz.length:=by rw[←List.length_map (f:=λe:Key×V=>e.1),hkk,List.length_map,hl2]
   walk_at"go";refine aB0 ?_;walk_at"go";refine XU (.inl ek') (hin z hzr) ?_;walk_at"go";refine WK ?_;refine aBO ek' (by rw[sizeLine_eq];lia) λH9 B9 e9=> ?_;refine⟨by walk_at"sb",⟨_,e9,?_,λy hy=> ?_⟩,_,_,rfl⟩
   .rw[XD (by rw[hin z hzr];rfl)];exact hkk
   .rw[IL,dS hpx,TC]
    by_cases e:(Sum.inr y:Key)= .inr z
    .cases e;rw[if_pos rfl,if_pos rfl]
    .rw[if_neg e,if_neg (λzz=>e (by rw[show z=y from zz])),Int.add_zero];exact hin y hy
  .rintro _ H' hq_;walk_at"g1";obtain⟨sb',⟨kvs,ek',hkk,hin⟩,x1,x2,rfl⟩:=hq_;walk_at"g2";rw[hwl,List.take_length]at hin;walk_at"go";exact k _ _ _ n1 (SameBut.same n1 (λx u hx=>sH x u hx) sb') ek' hkk hin
theorem rK (m:M w K mg):Fc P w K mg base "added_people" 1 ["sizes","people"] (tV K):=⟨_,_,m.D7,m.iT.F.kp,m.iT.b,AN m⟩
def tK (rz ps:List (Str×Int)):Prop:=(∀p∈ps,0<=p.2)/\∀e∈rz,bU ps e.1<=e.2
def RoomsAt (H:Hp)(vs:List V)(rz:List (Str×Int)):Prop:=Paired (fL H) vs rz
theorem RoomsAt.sm {rs:List (Str×Int)}(h:RoomsAt H vs rs)(s:Same H H'):RoomsAt H' vs rs:=Paired.imp' (λv z ⟨q,e,h⟩=>⟨q,e,s _ _ h⟩) h
theorem xW:∀{vs:List V}{rs:List (Str×Int)},RoomsAt H vs rs->GP H vs (szK rs)
 | _,_,.nil=> .nil
 | _,_,.cons h t=> .cons h (xW t)
theorem uA {D:cZ}{us:List V}{ds:List bJ}(h:Paired (D.at' H) us ds)(s:Same H H'):Paired (D.at' H') us ds:=Paired.imp' (λv d h=>D.same h s) h
abbrev DI (f l:Int)(qs qp qd:Addr):List (Str×V):=cG "named_doors" (.ref qd) (cG "people" (.ref qp) (cG "sizes" (.ref qs) (cG "last" (.int l) (cG "first" (.int f) []))))
def AR (D:cZ)(H:Hp)(nk:List (Key×V))(ds:List bJ):Prop:=Paired (λe d=>e.1= .inr d.1/\D.at' H e.2 d) nk ds
theorem W3 {D:cZ}{ds:List bJ}(h:AR D H nk ds)(s:Same H H'):AR D H' nk ds:=Paired.imp' (λe d h=>⟨h.1,D.same h.2 s⟩) h
structure fQ (C:Addr)(D:cZ)(H:Hp)(h:Addr)(f l:Int)(rz ps:List (Str×Int))(ds:List bJ):Prop where
 ex:∃dx qs qp qd nk kvs,H h=some (.ins C dx (DI f l qs qp qd))/\H qs=some (.dK (szK rz))/\H qp=some (.dK kvs)/\kvs.map (·.1)=(szK rz).map (·.1)/\vW rz ps kvs/\H qd=some (.dK nk)/\AR D H nk ds
theorem qF {D:cZ}{h:Addr}{ds:List bJ}(x:fQ C D H h f l rz ps ds)(s:Same H H'):fQ C D H' h f l rz ps ds:=by
 walk_at"g1";obtain⟨dx,qs,qp,qd,nk,kvs,e1,e2,e3,e4,e5,e6,e7⟩:=x.ex;walk_at"g2";exact⟨dx,qs,qp,qd,nk,kvs,s _ _ e1,s _ _ e2,s _ _ e3,e4,e5,s _ _ e6,W3 e7 s⟩
theorem MO {p c:Addr}{fs:List (Str×V)}(h:SqL K H c xs)(hp:H p=some (.ins C dx fs))(sb:SameBut p H H'):SqL K H' c xs:=by
 rcases h with (h|⟨o,h⟩)|h
 .exact .inl (.inl (sb _ _ h λz=>by rw[z,hp]at h;cases h))
 .exact .inl (.inr ⟨o,sb _ _ h λz=>by rw[z,hp]at h;cases h⟩)
 .exact .inr h
theorem xK (m:M w K mg):FnOk P w K mg base CX0 1 m.jY m.jX.d ["self","name"] (spX K m.d7 "name"):=by
 refine m.jX.F.ok aGD (λvs H Q E h=> ?_) (λcdv A outer s H vs Q E hr h=> ?_)
 .walk_at"g1";obtain⟨e,y,fv,rfl,he,xf,na,k⟩:=h;walk_at"g2";rfl
 .walk_at"g1";obtain⟨e,y,fv,rfl,he,xf,na,k⟩:=h;walk_at"g2";have nd:=aGD.nd;walk_at"hu";refine⟨_,(aE (M9 (pv 0) (pv 1) rfl)),?_⟩;refine aL (σ:=[some (.ref e),some (y)]) rfl ?_;walk_at"cx";refine MT rfl rfl he xf na λdx n1 n2=> ?_;exact k dx n1 n2
theorem V8 (m:M w K mg):XcE P w K mg base "Twice" m.d7 "name" :=⟨_,_,_,m.NO,m.ZB,m.ZC,m.ZG,m.jX.b,xK m⟩
theorem vZ (m:M w K mg):FnOk P w K mg base CX0 1 m.i6 m.i5.d ["self","name"] (spX K m.dA "name"):=by
 refine m.i5.F.ok aGw (λvs H Q E h=> ?_) (λcdv A outer s H vs Q E hr h=> ?_)
 .walk_at"g1";obtain⟨e,y,fv,rfl,he,xf,na,k⟩:=h;walk_at"g2";rfl
 .walk_at"g1";obtain⟨e,y,fv,rfl,he,xf,na,k⟩:=h;walk_at"g2";have nd:=aGw.nd;walk_at"hu";refine⟨_,(aE (M9 (pv 0) (pv 1) rfl)),?_⟩;refine aL (σ:=[some (.ref e),some (y)]) rfl ?_;walk_at"cx";refine MT rfl rfl he xf na λdx n1 n2=> ?_;exact k dx n1 n2
theorem UP (m:M w K mg):XcE P w K mg base "NoRoom" m.dA "name" :=⟨_,_,_,m.KP,m.VW,m.VR,m.VT,m.i5.b,vZ m⟩
def Refd (C:Addr)(z:Str)(H:Hp)(E:XK):Prop:=∀H' dx,Same H H'->H' dx=some (.xd [("name",.str z)])->E (.ref C) (some dx) H'
theorem Refd.sm {E:XK}(x:Refd C z H E)(s:Same H H1):Refd C z H1 E:=λH2 dx s2 e=>x H2 dx (s.trans s2) e
theorem Refd.go {E:XK}(x:Refd C z H E)(s:Same H H1)(dx:Addr)(n:H1 dx=none):E (.ref C) (some dx) (upd H1 dx (.xd [("name",.str z)])):=x _ _ (s.trans λb o e=>by rw[aM (aY e n)];exact e) aU
def Ref0 (C:Addr)(H:Hp)(E:XK):Prop:=∀H',Same H H'->E (.ref C) none H'
theorem Ref0.sm {E:XK}(x:Ref0 C H E)(s:Same H H1):Ref0 C H1 E:=λH2 s2=>x H2 (s.trans s2)
theorem rN {E:XK}(k:Ref0 C H E)(s:Same H H1):[V.str x].length<=sizeLine/\E (.ref C) none H1:=⟨by rw[sizeLine_eq];show 1<=_;lia,k _ s⟩
local macro_rules| `(tactic| walk_at"rd1")=> `(tactic| (with_reducible refine WG ?_))
inductive rJ (C:Addr)(vs:List V)(H:Hp)(Q:VK)(E:XK):Prop
 | mk (f l:Int) (_:vs=[.int f,.int l]) (_:(0<=f->f<=l->Q .non H)) (_:(f<0∨l<f->Ref0 C H E)):rJ C vs H Q E
theorem YK {Q:VK}{E:XK}(h0:0<=f->f<=l->Q .non H)(h1:f<0∨l<f->Ref0 C H E):rJ C [.int f,.int l] H Q E:=⟨_,_,rfl,h0,h1⟩
theorem FL (m:M w K mg):FnOk P w K mg base (CXE P w) 3 m.qM m.lC.d ["first","last"] (rJ m.fJ):=by
 refine m.lC.F.okE aG5 ?_ ?_;walk_at"w0";walk_at"w1";obtain⟨f,l,rfl,h0,h1⟩:=h;walk_at"g2";have nd:=aG5.nd;walk_at"hu";refine⟨_,(aC (bH (a9 wN (pv 0) aF (bE _)) (aE (dM m.zZ m.K0 i8 (aA aD aB))) aS)
  (aE (bH (a9 wN (pv 1) (pv 0) (bE _)) (aE (dM m.zZ m.K0 i8 (aA aD aB))) aS))),?_⟩
 refine aL (σ:=[some (.int f),some (.int l)]) rfl ?_;walk_at"cx";walk_at"gs";refine NG (λσ' G=>H=G/\0<=f/\σ'=[some (.int f),some (.int l)]) ?_ ?_
 rotate_left
 .intro nx' hnx;walk_at"go";refine dQ (λhc=> ?_) (λhc=> ?_)
  .walk_at"go";exact rN (h1 (.inl hc)) (Same.refl _)
  .walk_at"go";exact hnx _ _ ⟨rfl,by lia,rfl⟩
 rintro _ _ ⟨rfl,hf,rfl⟩;walk_at"go";refine dQ (λhc=> ?_) (λhc=> ?_)
 .walk_at"go";exact rN (h1 (.inr hc)) (Same.refl _)
 .walk_at"go";exact h0 hf (by lia)
theorem FV (m:M w K mg):FcE P w K mg base "need_turns" 3 ["first","last"] (rJ m.fJ):=⟨_,_,m.KU,m.lC.F.kp,m.lC.b,FL m⟩
def Dup (ss:List Str)(z:Str):Prop:=∃i,ss[i]? =some z/\z∈ss.take i/\(ss.take i).Nodup
inductive t5 (K:W.Frag)(C:Addr)(vs:List V)(H:Hp)(Q:VK)(E:XK):Prop
 | mk (a:Addr) (ss:List Str) (_:vs=[.ref a]) (_:SqL K H a (ss.map V.str)) (_:ss.length<=100) (_:(ss.Nodup->∀H',Same H H'->Q .non H')) (_:∀z,Dup ss z->Refd C z H E):t5 K C vs H Q E
theorem M0 {Q:VK}{E:XK}(hS:SqL K H a (ss.map V.str))(hl:ss.length<=100)(h:ss.Nodup->∀H',Same H H'->Q .non H')(hd:∀z,Dup ss z->Refd C z H E):t5 K C [.ref a] H Q E:=⟨_,_,rfl,hS,hl,h,hd⟩
theorem P1 {i:Nat}(hz:ss[i]? =some z)(nd:(ss.take i).Nodup)(hn:z∉ss.take i):(ss.take (i+1)).Nodup:=by
 rw[dS hz,List.nodup_append];refine⟨nd,List.pairwise_singleton _ _,λa ha b hb e=> ?_⟩;cases List.mem_singleton.mp hb;rw[e]at ha;exact hn ha
theorem xI (m:M w K mg):FnOk P w K mg base (CXE P w) 4 m.jZ m.fX.d ["names"] (t5 K m.d7):=by
 refine m.fX.F.okE aGC ?_ ?_;walk_at"w0";walk_at"w1";obtain⟨a,ss,rfl,hS,hlen,h0,hd⟩:=h;walk_at"g2";have nd:=aGC.nd;walk_at"hu";have X_Twice:=V8 (P:=P) (w:=w) (base:=base) m;refine⟨_,(aC (aT (i:=1) nd rfl (by walk_at"oi") yT)
  (aE (iA o6 rfl (bZ (pv 0)) (aZ (i:=2) nd rfl (by walk_at"oi")) (aC (bH (AJ (aDQ hu1 (pv 2) (pv 1)) (by with_unfolding_all rfl)) (aE (EW X_Twice hr U3 (pv 2) rfl)) aS)
  (aE (CO hu1 (pv 1) (pv 2) t9 rfl)))))),?_⟩
 refine aL (σ:=[some (.ref a),none,none]) rfl ?_;walk_at"cx";walk_at"go";rename_i p H1 n1 S1 e1;let Pv1:Nat->St->Hp->Prop:=λi σ' H'=>SameBut p H1 H'/\(ss.take i).Nodup/\∃kvs,H' p=some (.dK kvs)/\kvs.length<=i/\(∀z,(aX kvs (.inr z)).isSome=true↔z∈ss.take i)/\∃x,σ'=[some (.ref a),some (.ref p),x];refine lI (ss.map V.str) Pv1 ⟨SameBut.refl,.nil,[],e1,Nat.le_refl _,(λz=>⟨λh=>(by cases h),λh=>nomatch h⟩),_,rfl⟩ (λi σ' H' _ q=>(SameBut.same n1 S1 q.1).seq hS) ?_ ?_
 .rintro i x _ H' hx hq_;walk_at"g1";obtain⟨sb,ndi,kvs,ek,hk,hin,y,rfl⟩:=hq_;walk_at"g2";rw[List.getElem?_map]at hx;obtain⟨z,hz,rfl⟩:=Option.map_eq_some_iff.mp hx;have hi:i<ss.length:=(List.getElem?_eq_some_iff.mp hz).1;walk_at"go";refine aA2 (.inl ek) ?_
  by_cases hm:z∈ss.take i
  .rw[(hin z).mpr hm];walk_at"go";refine EZ ?_;walk_at"go";exact(hd z ⟨i,hz,hm,ndi⟩).go (SameBut.same n1 S1 sb)
  .have hno:(aX kvs (.inr z)).isSome=false:=by
    cases e:(aX kvs (.inr z)).isSome with
    | false=>rfl
    | true=>exact absurd ((hin z).mp e) hm
   rw[hno];walk_at"go";refine yH ek (by rw[sizeLine_eq];lia) λH9 B9 e9=> ?_;refine⟨by walk_at"sb",P1 hz ndi hm,_,e9,Nat.le_trans (mP _ _ _) (by lia),λy=> ?_,_,rfl⟩;rw[IL,dS hz,List.mem_append]
   by_cases e:(Sum.inr y:Key)= .inr z
   .cases e;rw[if_pos rfl];exact⟨λ_=> .inr (.head _),λ_=>rfl⟩
   .rw[if_neg e,hin y];exact⟨.inl,λh=>h.elim id λh=>absurd (by rw[List.mem_singleton.mp h]) e⟩
 .rintro _ H' hq_;walk_at"g1";obtain⟨sb,ndi,kvs,ek,hk,hin,y,rfl⟩:=hq_;walk_at"g2";rw[List.length_map,List.take_length]at ndi;exact h0 ndi _ (SameBut.same n1 S1 sb)
theorem xJ (m:M w K mg):FcE P w K mg base "need_each_once" 4 ["names"] (t5 K m.d7):=⟨_,_,m.zX,m.fX.F.kp,m.fX.b,xI m⟩
def YT:V->List Str
 | .str z=>[z]
 | _=>[]
def mS (d:bJ):List Str:=d.2.1::YT d.2.2.1
def c9 (ds:List bJ)(ps:List (Str×Int)):List Str:=(ds.map mS).flatten++ps.map (·.1)
def C8 (d:bJ):Prop:=d.2.2.1= .non∨∃z,d.2.2.1= .str z
inductive oN (K:W.Frag)(D:cZ)(vs:List V)(H:Hp)(Q:VK)(E:XK):Prop
 | mk (a b:Addr) (us:List V) (ds:List bJ) (ws:List V) (ps:List (Str×Int)) (_:vs=[.ref a,.ref b]) (_:SqL K H a us) (_:Paired (D.at' H) us ds) (_:(∀d∈ds,C8 d)) (_:ds.length<=20) (_:SqL K H b ws) (_:Paired (fL H) ws ps) (_:ps.length<=40) (_:∀p H',Same H H'->H' p=some (.lst ((c9 ds ps).map V.str))->Q (.ref p) H'):oN K D vs H Q E
theorem VC {D:cZ}{Q:VK}{E:XK}{us:List V}{ds:List bJ}{ws:List V}(hS:SqL K H a us)(hd:Paired (D.at' H) us ds)(hr:∀d∈ds,C8 d)(hl:ds.length<=20)(hb:SqL K H b ws)(hw:Paired (fL H) ws ps)(hwl:ps.length<=40)(h:∀p H',Same H H'->H' p=some (.lst ((c9 ds ps).map V.str))->Q (.ref p) H'):oN K D [.ref a,.ref b] H Q E:=⟨_,_,_,_,_,_,rfl,hS,hd,hr,hl,hb,hw,hwl,h⟩
theorem zL:∀ds:List bJ,((ds.map mS).flatten).length<=2 * ds.length
 | []=>Nat.le_refl _
 | d::ds=>by
  have:=zL ds;have h1:(mS d).length<=2:=by
   unfold mS YT
   split<;>simp
  rw[List.map_cons,List.flatten_cons,List.length_append,List.length_cons]
  lia
theorem vG (m:M w K mg):FnOk P w K mg base CX0 2 m.i4 m.fN.d ["doors","people"] (oN K (cH P w K mg base none)):=by
 refine m.fN.F.ok aGx ?_ ?_;walk_at"w0";walk_at"w1";obtain⟨a,b,us,ds,ws,ps,rfl,hS,hd,hr',hlen,hb,hw,hwl,k⟩:=h;walk_at"g2";have nd:=aGx.nd;walk_at"hu";refine⟨_,(aC (aT (i:=2) nd rfl (by walk_at"oi") (bM aB))
  (aC (iA PassesOwn.never rfl (bZ (pv 0)) (aZ (i:=3) nd rfl (by walk_at"oi")) (aC (bG (gP PySem.F.plainAttrs_list PySem.F.slot_list_append PySem.F.type_list_append fA (pv 2) (aA (bS (pv 3) rfl) aB)))
  (aE (bH (hG (eY (sW 1 hr (pv 3)))) (aE (bG (gP PySem.F.plainAttrs_list PySem.F.slot_list_append PySem.F.type_list_append fA (pv 2) (aA (bS (pv 3) rfl) aB)))) aS))))
  (aE (aP (aI eF (pv 2) (dG (N:=["room","number"]) (nl:=2) (ci:=[]) rfl (blk (s.heap.objs.size+1) rfl rfl rfl (by kernel_rfl)) (bZ (pv 1)) (λ_ _ _ _=>(wH (K:=K) (n:=2) rfl (fH (aZ (i:=0) (show (["room","number"]:List Str).Nodup by decide +kernel) rfl (by walk_at"oi")) (fH (aZ (i:=1) (show (["room","number"]:List Str).Nodup by decide +kernel) rfl (by walk_at"oi")) tI)))) (λ_ _ _ _=>dO) (λ_ _ _ _=>(pv 0)))))))),?_⟩
 refine aL (σ:=[some (.ref a),some (.ref b),none,none]) rfl ?_;walk_at"cx";have hul:us.length=ds.length:=Paired.length hd;walk_at"go";rename_i p H1 n1 S1 e1;let Pv2:Nat->St->Hp->Prop:=λi σ' H'=>SameBut p H1 H'/\H' p=some (.lst ((((ds.take i).map mS).flatten).map V.str))/\∃x,σ'=[some (.ref a),some (.ref b),some (.ref p),x];refine lI us Pv2 ⟨SameBut.refl,e1,_,rfl⟩ (λi σ' H' _ q=>(SameBut.same n1 S1 q.1).seq hS) ?_ ?_
 .rintro i x _ H' hx hq_;walk_at"g1";obtain⟨sb,es,y,rfl⟩:=hq_;walk_at"g2";have hi:i<us.length:=(List.getElem?_eq_some_iff.mp hx).1;obtain⟨d,hdx⟩:∃d,ds[i]? =some d:=⟨_,List.getElem?_eq_getElem (by lia)⟩
  have hsl:=zL (ds.take i);rw[List.length_take]at hsl;have hnext:((ds.take (i+1)).map mS).flatten=((ds.take i).map mS).flatten++mS d:=by rw[dS hdx,List.map_append,List.flatten_append];simp
  walk_at"g1";obtain⟨n,st,e,lt⟩:=d;walk_at"g2";walk_at"g1";obtain⟨q,C9,dx,fs,fp,rfl,hq,dcC,l1,l2,l3,l4,l5,mcE,hfp,hlt⟩:=DoorAt.ex (Paired.at2 hd hx hdx);walk_at"g2";have r2:=hr' _ (List.mem_of_getElem? hdx);have hqp:q≠p:=λz=>by rw[z,n1]at hq;cases hq
  have hq':H' q=some (.ins C9 dx fs):=sb _ _ (S1 _ _ hq) hqp;rcases r2 with r2|⟨z,r2⟩
  .have r2:e= .non:=r2;subst r2;walk_at"go";refine iB es (by rw[sizeLine_eq,List.length_map];lia) λH8 B8 e8=> ?_;have hq8:=B8 _ _ hq' hqp;walk_at"go";exact⟨by walk_at"sb",by rw[e8,hnext,List.map_append];rfl,_,rfl⟩
  .have r2:e= .str z:=r2;subst r2;walk_at"go";refine iB es (by rw[sizeLine_eq,List.length_map];lia) λH8 B8 e8=> ?_;have hq8:=B8 _ _ hq' hqp;walk_at"go";refine iB e8 (by rw[sizeLine_eq,List.length_append,List.length_map];show _+1<_;lia) λH9 B9 e9=> ?_;walk_at"go";exact⟨by walk_at"sb",by rw[e9,hnext,List.map_append,List.append_assoc];rfl,_,rfl⟩
 .rintro _ H' hq_;walk_at"g1";obtain⟨sb,es,y,rfl⟩:=hq_;walk_at"g2";have sH:Same H H':=SameBut.same n1 S1 sb;have hb':=sH.seq hb;rw[hul,List.take_length]at es;have hsl:=zL ds;walk_at"go";refine DO (α:=Str×Int) (xs:=ps) (vs:=ws) (λp=> .str p.1) (λp=> .int p.2) (λ_=>true) (λp y _=>y= .str p.1) (λ_ _ _ _ h _=>h) (by rw[sizeLine_eq];lia) (rest:=[]) (by rfl) hb' (tH hw sH) (λx H1 hx s1 R hR=>hR _ (Same.refl _)) (λx H1 hx _ s1 R hR=> ?_) ?_
  .walk_at"go";exact hR _ _ rfl (Same.refl _)
  intro ys H2 s2 hys;rw[g6]at hys;obtain rfl:=rQ hys;walk_at"go";rename_i q3 H3 n3 S3 e3 q4 H4 n4 S4 e4;refine k _ _ (by walk_at"sm") ?_;rw[e4];unfold c9;rw[List.map_append,List.map_map];rfl
theorem vM (m:M w K mg):Fc P w K mg base "rooms_spoken_of" 2 ["doors","people"] (oN K (cH P w K mg base none)):=⟨_,_,m.xO,m.fN.F.kp,m.fN.b,vG m⟩
inductive rL (K:W.Frag)(C:Addr)(vs:List V)(H:Hp)(Q:VK)(E:XK):Prop
 | mk (a b:Addr) (ss:List Str) (kvs:List (Key×V)) (_:vs=[.ref a,.ref b]) (_:SqL K H a (ss.map V.str)) (_:Rd H b (.dK kvs)) (_:((∀z∈ss,(aX kvs (.inr z)).isSome=true)->∀H',Same H H'->Q .non H')) (_:∀i z,ss[i]? =some z->(aX kvs (.inr z)).isSome=false->(∀y∈ss.take i,(aX kvs (.inr y)).isSome=true)->Refd C z H E):rL K C vs H Q E
theorem YR {Q:VK}{E:XK}(hS:SqL K H a (ss.map V.str))(hb:Rd H b (.dK kvs))(h:(∀z∈ss,(aX kvs (.inr z)).isSome=true)->∀H',Same H H'->Q .non H')(hd:∀i z,ss[i]? =some z->(aX kvs (.inr z)).isSome=false->(∀y∈ss.take i,(aX kvs (.inr y)).isSome=true)->Refd C z H E):rL K C [.ref a,.ref b] H Q E:=⟨_,_,_,_,rfl,hS,hb,h,hd⟩
theorem CY (m:M w K mg):FnOk P w K mg base (CXE P w) 4 m.kY m.dF.d ["names","sizes"] (rL K m.dA):=by
 refine m.dF.F.okE aGo ?_ ?_;walk_at"w0";walk_at"w1";obtain⟨a,b,ss,kvs,rfl,hS,hb,h0,hd⟩:=h;walk_at"g2";have nd:=aGo.nd;walk_at"hu";have X_NoRoom:=UP (P:=P) (w:=w) (base:=base) m;refine⟨_,(aE (iA o6 rfl (bZ (pv 0)) (aZ (i:=2) nd rfl (by walk_at"oi")) (aE (bH (AJ (v3 hu1 (pv 2) (pv 1)) (by with_unfolding_all rfl)) (aE (EW X_NoRoom hr U3 (pv 2) rfl)) aS)))),?_⟩;refine aL (σ:=[some (.ref a),some (.ref b),none]) rfl ?_;walk_at"cx";walk_at"go";let Pv3:Nat->St->Hp->Prop:=λi σ' H'=>Same H H'/\(∀y∈ss.take i,(aX kvs (.inr y)).isSome=true)/\∃x,σ'=[some (.ref a),some (.ref b),x];refine lI (ss.map V.str) Pv3 ⟨Same.refl _,(λ_ z=>nomatch z),_,rfl⟩ (λi σ' H' _ q=>q.1.seq hS) ?_ ?_
 .rintro i x _ H' hx hq_;walk_at"g1";obtain⟨s1,hy,y,rfl⟩:=hq_;walk_at"g2";rw[List.getElem?_map]at hx;obtain⟨z,hz,rfl⟩:=Option.map_eq_some_iff.mp hx;walk_at"go";refine tX (MZ s1 hb) ?_;cases hm:(aX kvs (.inr z)).isSome with
  | true =>
   walk_at"go";refine⟨s1,λy' hy'=> ?_,_,rfl⟩;rw[dS hz]at hy';rcases List.mem_append.mp hy' with h|h
   .exact hy y' h
   .cases List.mem_singleton.mp h;exact hm
  | false =>
   walk_at"go";refine EZ ?_;walk_at"go";exact(hd i z hz hm hy).go s1
 .rintro _ H' hq_;walk_at"g1";obtain⟨s1,hy,y,rfl⟩:=hq_;walk_at"g2";rw[List.length_map,List.take_length]at hy;exact h0 hy _ s1
theorem DA (m:M w K mg):FcE P w K mg base "need_rooms" 4 ["names","sizes"] (rL K m.dA):=⟨_,_,m.wC,m.dF.F.kp,m.dF.b,CY m⟩
inductive rV (K:W.Frag)(C:Addr)(vs:List V)(H:Hp)(Q:VK)(E:XK):Prop
 | mk (a b:Addr) (rz:List (Str×Int)) (ws:List V) (ps:List (Str×Int)) (_:vs=[.ref a,.ref b]) (_:H a=some (.dK (szK rz))) (_:SqL K H b ws) (_:Paired (fL H) ws ps) (_:(∀p∈ps,p.1∈rz.map (·.1))) (_:(rz.map (·.1)).Nodup) (_:rz.length<=100) (_:ps.length<=100) (_:(tK rz ps->∀H',Same H H'->Q .non H')) (_:(¬tK rz ps->Ref0 C H E)):rV K C vs H Q E
theorem XX {Q:VK}{E:XK}{ws:List V}(ha:H a=some (.dK (szK rz)))(hb:SqL K H b ws)(hw:Paired (fL H) ws ps)(hwr:∀p∈ps,p.1∈rz.map (·.1))(nd:(rz.map (·.1)).Nodup)(hl:rz.length<=100)(hpl:ps.length<=100)(h:tK rz ps->∀H',Same H H'->Q .non H')(hn:¬tK rz ps->Ref0 C H E):rV K C [.ref a,.ref b] H Q E:=⟨_,_,_,_,_,rfl,ha,hb,hw,hwr,nd,hl,hpl,h,hn⟩
theorem E2 {g:α->Bool}:∀{l:List α}{ys:List V},Paired (λx y=>y=V.bl (g x)) l ys->ys=(l.map g).map V.bl
 | _,_,.nil=>rfl
 | _,_,.cons h t=>by rw[h,E2 t];rfl
theorem any_map (g:α->Bool)(l:List α):(l.map g).any id=l.any g:=by induction l with|nil=>rfl|cons a l ih=>rw[List.map_cons,List.any_cons,List.any_cons,ih];rfl
theorem FJ (m:M w K mg):FnOk P w K mg base (CXE P w) 3 m.qN m.k7.d ["sizes","people"] (rV K m.dY):=by
 refine m.k7.F.okE aG8 ?_ ?_;walk_at"w0";walk_at"w1";obtain⟨a,b,rz,ws,ps,rfl,ha,hb,hw,hwr,ndz,hlen,hpl,k,kn⟩:=h;walk_at"g2";have nd:=aG8.nd;walk_at"hu";have aGu:= @rK P w K mg base m;refine⟨_,(aC (bH (eY (bD (E7 rfl) rfl m.aAv SZ (aA (dG (N:=["room","number"]) (nl:=2) (ci:=[]) rfl (blk (s.heap.objs.size+1) rfl rfl rfl (by kernel_rfl)) (bZ (pv 1)) (λ_ _ _ _=>(wH (K:=K) (n:=2) rfl (fH (aZ (i:=0) (show (["room","number"]:List Str).Nodup by decide +kernel) rfl (by walk_at"oi")) (fH (aZ (i:=1) (show (["room","number"]:List Str).Nodup by decide +kernel) rfl (by walk_at"oi")) tI)))) (λ_ _ _ _=>dO) (λ_ _ _ _=>(sU wN (pv 1) aF (bE _)))) aB))) (aE (dM m.wF m.FC i8 (aA aD aB))) aS)
  (aC (aT (i:=2) nd rfl (by walk_at"oi") (bT aGu hr (aA (pv 0) (aA (pv 1) aB))))
  (aE (bH (eY (bD (E7 rfl) rfl m.aAv SZ (aA (aAR (dG (N:=["room","inside","sizes"]) (nl:=1) (ci:=[2,0]) rfl (blk (s.heap.objs.size+1) rfl rfl rfl (by kernel_rfl)) (KD (pv 0)) (λ_ _ _ _=>(aZ (i:=0) (show (["room","inside","sizes"]:List Str).Nodup by decide +kernel) rfl (by walk_at"oi"))) (λ_ _ _ _=>dO) (λ_ _ _ _=>(sU aAh (sV hu1 (pv 1) (pv 0) (λ_ _=>rfl)) (sV hu1 (pv 2) (pv 0) (λ_ _=>rfl)) (bE _))))) aB))) (aE (dM m.wF m.FC i8 (aA aD aB))) aS)))),?_⟩
 refine aL (σ:=[some (.ref a),some (.ref b),none]) rfl ?_;walk_at"cx";walk_at"gs";refine NG (λσ' G=>Same H G/\(∀p∈ps,0<=p.2)/\σ'=[some (.ref a),some (.ref b),none]) ?_ ?_
 rotate_left
 .intro nx' hnx;walk_at"go";refine DO (α:=Str×Int) (xs:=ps) (vs:=ws) (λp=> .str p.1) (λp=> .int p.2) (λ_=>true) (λp y _=>y= .bl (decide (p.2<0))) (λ_ _ _ _ h _=>h) (by rw[sizeLine_eq];lia) (rest:=[]) (by rfl) hb hw (λx H1 hx s1 R hR=>hR _ (Same.refl _)) (λx H1 hx _ s1 R hR=> ?_) ?_
  .walk_at"go";exact hR _ _ rfl (Same.refl _)
  intro ys H2 s2 hys;rw[g6]at hys;obtain rfl:=E2 (g:=λp:Str×Int=>decide (p.2<0)) hys;walk_at"go";rename_i q H3 n3 S3 e3;refine VH (SqL.of e3) ?_;rw[any_map];have sA:Same H H3:=s2.trans S3;cases hany:ps.any λp=>decide (p.2<0) with
  | true =>
   walk_at"go";obtain⟨p,hp,hp0⟩:=List.any_eq_true.mp hany;exact rN (kn λhf=>by have:=hf.1 p hp;have:=of_decide_eq_true hp0;lia) sA
  | false =>
   walk_at"go";refine hnx _ _ ⟨sA,λp hp=> ?_,rfl⟩;have:=(List.any_eq_false.mp hany) p hp;have:¬p.2<0:=λz=>this (decide_eq_true z)
   lia
 rintro _ H3 ⟨sA,hp0,rfl⟩;walk_at"go";refine M4 (sA _ _ ha) (sA.seq hb) (tH hw sA) hwr ndz hlen λp H4 kvs n4 S4 e4 hkk hv=> ?_;have ha4:=S4 _ _ (sA _ _ ha);walk_at"go";refine XS ha4 aAr ?_;walk_at"go";refine JC ha4 λo H5 B5 e5=> ?_;have hpa:p≠a:=λz=>by rw[z,sA _ _ ha]at n4;cases n4
 have ep5:=B5 _ _ e4 hpa;refine aCy (λ_=>true) (λx y _=>∀e∈rz,x=((.inr e.1:Key),V.int e.2)->y= .bl (decide (bU ps e.1>e.2))) (λ_ _ _ _ h _=>h) (by rw[sizeLine_eq];unfold szK;rw[List.length_map];lia) (rest:=[some (.ref p),some (.ref a)]) (by rfl) e5 (λx H6 hx s6 R hR=>hR _ (Same.refl _)) ?_ ?_
 .rintro x H6 hx - s6 R hR;obtain⟨e,he,rfl⟩:=List.mem_map.mp hx;show (_:TE) (some (V.str e.1)::[some (.ref p),some (.ref a)]) H6 R;walk_at"go";refine o8 (.inl (s6 _ _ ep5)) (hv e.1 (List.mem_map.mpr ⟨e,he,rfl⟩)) ?_;walk_at"go";refine o8 (.inr ⟨o,s6 _ _ e5⟩) (DM ndz he) ?_;walk_at"go";refine hR _ _ (λe' he' q=> ?_) (Same.refl _);have q1:e.1=e'.1:=Sum.inr.inj (Prod.mk.inj q).1;have q2:e.2=e'.2:=V.int.inj (Prod.mk.inj q).2;rw[q1,q2]
 intro ys H6 s6 hys;rw[g6]at hys;have hyb:ys=(rz.map λe=>decide (bU ps e.1>e.2)).map V.bl:=by
  have key:∀(l:List (Str×Int)) (ys:List V),(∀e∈l,e∈rz)->Paired (λx y=>∀e∈rz,x=((.inr e.1:Key),V.int e.2)->y= .bl (decide (bU ps e.1>e.2))) (l.map λe=>((.inr e.1:Key),V.int e.2)) ys->ys=(l.map λe=>decide (bU ps e.1>e.2)).map V.bl:=λl=>by
   induction l with
   | nil=>intro ys _ h;cases h;rfl
   | cons e l ih =>
    intro ys hl h;cases h with
    | cons h t=>rw[h e (hl e (.head _)) rfl,ih _ (λe' he'=>hl e' (List.mem_cons_of_mem _ he')) t];rfl
  exact key rz ys (λ_ h=>h) hys
 subst hyb;walk_at"go";rename_i q7 H7 n7 S7 e7;refine EO (S7 _ _ (s6 _ _ e5)) λH8 B8 e8=> ?_;have hq7:q7≠a:=λz=>by rw[z,s6 _ _ e5]at n7;cases n7
 have e78:=B8 _ _ e7 hq7;have s08:Same H H8:=VM (ha) (λx u hx hxa=>B5 _ _ (S4 _ _ (sA _ _ hx)) hxa) (Same.but (s6.trans S7)) B8 e8;walk_at"go";refine VH (SqL.of e78) ?_;rw[any_map];cases hany:rz.any λe=>decide (bU ps e.1>e.2) with
 | true =>
  walk_at"go";obtain⟨e,he,he0⟩:=List.any_eq_true.mp hany;exact rN (kn λhf=>by have:=hf.2 e he;have:=of_decide_eq_true he0;lia) s08
 | false =>
  walk_at"go";refine k ⟨hp0,λe he=> ?_⟩ _ s08;have:=(List.any_eq_false.mp hany) e he;have:¬bU ps e.1>e.2:=λz=>this (decide_eq_true z)
  lia
theorem FE (m:M w K mg):FcE P w K mg base "need_space" 3 ["sizes","people"] (rV K m.dY):=⟨_,_,m.K7,m.k7.F.kp,m.k7.b,FJ m⟩
def Odd (rs ss:List Str)(z:Str):Prop:=∃i,ss[i]? =some z/\z∉rs/\∀y∈ss.take i,y∈rs
def HouseU (C:Addr)(H:Hp)(h:Addr)(f l:Int)(rz ps:List (Str×Int))(us:List V)(ds:List bJ):Prop:=∃dx qs qp qd nk kvs,H h=some (.ins C dx (DI f l qs qp qd))/\H qs=some (.dK (szK rz))/\H qp=some (.dK kvs)/\kvs.map (·.1)=(szK rz).map (·.1)/\vW rz ps kvs/\H qd=some (.dK nk)/\nk.map (·.1)=(ds.map λd=>(.inr d.1:Key))/\nk.map (·.2)=us
theorem JP {D:cZ}:∀{nk:List (Key×V)}{ds:List bJ},nk.map (·.1)=(ds.map λd=>(.inr d.1:Key))->Paired (D.at' H) (nk.map (·.2)) ds->AR D H nk ds
 | [],[],_,_=> .nil
 | [],_::_,h,_=>nomatch h
 | _::_,[],h,_=>nomatch h
 | e::nk,d::ds,h,.cons r t=> .cons ⟨(List.cons.inj h).1,r⟩ (JP (List.cons.inj h).2 t)
theorem HouseU.house {D:cZ}{h:Addr}{us:List V}{ds:List bJ}(x:HouseU C H h f l rz ps us ds)(hd:Paired (D.at' H) us ds):fQ C D H h f l rz ps ds:=by
 walk_at"g1";obtain⟨dx,qs,qp,qd,nk,kvs,e1,e2,e3,e4,e5,e6,e7,rfl⟩:=x;walk_at"g2";exact⟨dx,qs,qp,qd,nk,kvs,e1,e2,e3,e4,e5,e6,JP e7 hd⟩
structure HX (NT TW NR NH p C:Addr)(f l:Int)(rz ps:List (Str×Int))(us:List V)(ds:List bJ)(H:Hp)(Q:VK)(E:XK):Prop where
 tn:f<0∨l<f->Ref0 NT H E
 dr:0<=f->f<=l->∀z,Dup (rz.map (·.1)) z->Refd TW z H E
 dd:0<=f->f<=l->(rz.map (·.1)).Nodup->∀z,Dup (ds.map (·.1)) z->Refd TW z H E
 st:0<=f->f<=l->(rz.map (·.1)).Nodup->(ds.map (·.1)).Nodup->∀z,Odd (rz.map (·.1)) (c9 ds ps) z->Refd NR z H E
 sp:0<=f->f<=l->(rz.map (·.1)).Nodup->(ds.map (·.1)).Nodup->(∀z∈c9 ds ps,z∈rz.map (·.1))->¬tK rz ps->Ref0 NH H E
 ok:0<=f->f<=l->(rz.map (·.1)).Nodup->(ds.map (·.1)).Nodup->(∀z∈c9 ds ps,z∈rz.map (·.1))->tK rz ps->∀H',SameBut p H H'->HouseU C H' p f l rz ps us ds->Q .non H'
inductive m6 (K:W.Frag)(D:cZ)(NT TW NR NH:Addr)(vs:List V)(H:Hp)(Q:VK)(E:XK):Prop
 | mk (p C dx a b c:Addr) (ws us cs:List V) (rz ps:List (Str×Int)) (ds:List bJ) (f l:Int) (_:vs=[.ref p,.ref a,.ref b,.ref c,.int l,.int f]) (_:DCls K C) (_:H p=some (.ins C dx [])) (_:H a=some (.lst ws)) (_:RoomsAt H ws rz) (_:SqL K H b us) (_:Paired (D.at' H) us ds) (_:SqL K H c cs) (_:Paired (fL H) cs ps) (_:(∀d∈ds,C8 d)) (_:rz.length<=20) (_:ds.length<=20) (_:ps.length<=40) (_:HX NT TW NR NH p C f l rz ps us ds H Q E):m6 K D NT TW NR NH vs H Q E
theorem XL {D:cZ}{Q:VK}{E:XK}{p c:Addr}{ws us cs:List V}{ds:List bJ}(dc:DCls K C)(hp:H p=some (.ins C dx []))(ha:H a=some (.lst ws))(hr:RoomsAt H ws rz)(hb:SqL K H b us)(hd:Paired (D.at' H) us ds)(hc:SqL K H c cs)(hcp:Paired (fL H) cs ps)(hes:∀d∈ds,C8 d)(lr:rz.length<=20)(ld:ds.length<=20)(lp:ps.length<=40)(k:HX NT TW NR NH p C f l rz ps us ds H Q E):m6 K D NT TW NR NH [.ref p,.ref a,.ref b,.ref c,.int l,.int f] H Q E:=⟨_,_,_,_,_,_,_,_,_,_,_,_,_,_,rfl,dc,hp,ha,hr,hb,hd,hc,hcp,hes,lr,ld,lp,k⟩
theorem xG (m:M w K mg):FnOk P w K mg base (CXE P w) 6 m.jV m.fV ["self","rooms","doors","people","last","first"] (m6 K (cH P w K mg base none) m.fJ m.d7 m.dA m.dY):=by
 refine m.z6.okE aGB ?_ ?_;walk_at"w0";walk_at"w1";obtain⟨p,C,dx,a,b,c,ws,us,cs,rz,ps,ds,f,l,rfl,dc,hp,ha,hra,hb,hd,hc,hcp,hes,lr,ld,lp,k⟩:=h;walk_at"g2";have nd:=aGB.nd;walk_at"hu";have aGu:= @rK P w K mg base m;have aGF:= @xJ P w K mg base m;have aHJ:= @FE P w K mg base m;have aHG:= @FV P w K mg base m;have aHs:= @vM P w K mg base m;have Fx_need_rooms:=DA (P:=P) (w:=w) (base:=base) m;refine⟨_,(aC (bG (dH aHG hr jH (aA (pv 5) (aA (pv 4) aB))))
  (aC (bG (dH aGF hr jH (aA (dG (N:=["name","size"]) (nl:=2) (ci:=[]) rfl (blk (s.heap.objs.size+1) rfl rfl rfl (by kernel_rfl)) (bZ (pv 1)) (λ_ _ _ _=>(wH (K:=K) (n:=2) rfl (fH (aZ (i:=0) (show (["name","size"]:List Str).Nodup by decide +kernel) rfl (by walk_at"oi")) (fH (aZ (i:=1) (show (["name","size"]:List Str).Nodup by decide +kernel) rfl (by walk_at"oi")) tI)))) (λ_ _ _ _=>dO) (λ_ _ _ _=>(pv 0))) aB)))
  (aC (bG (dH aGF hr jH (aA (dG (N:=["door"]) (nl:=1) (ci:=[]) rfl (blk (s.heap.objs.size+1) rfl rfl rfl (by kernel_rfl)) (bZ (pv 2)) (λ_ _ _ _=>(aZ (i:=0) (show (["door"]:List Str).Nodup by decide +kernel) rfl (by walk_at"oi"))) (λ_ _ _ _=>dO) (λ_ _ _ _=>(aAQ (K:=K) (pv 0) rfl))) aB)))
  (aC (aT (i:=6) nd rfl (by walk_at"oi") (cD (P5 rfl) rfl m.aEQ aBL (aA (pv 1) aB)))
  (aC (bG (dH Fx_need_rooms hr jH (aA (bT aHs hr (aA (pv 2) (aA (pv 3) aB))) (aA (pv 6) aB))))
  (aC (bG (dH aHJ hr jH (aA (pv 6) (aA (pv 3) aB))))
  (aC (fD (pv 0) (pv 5) rfl)
  (aC (fD (pv 0) (pv 4) rfl)
  (aC (fD (pv 0) (pv 6) rfl)
  (aC (fD (pv 0) (bT aGu hr (aA (pv 6) (aA (pv 3) aB))) rfl)
  (aC (fD (pv 0) yT rfl)
  (aE (iA o6 rfl (bZ (pv 2)) (aZ (i:=7) nd rfl (by walk_at"oi")) (aE (CO hu1 (bS (pv 0) rfl) (bS (pv 7) rfl) (pv 7) rfl))))))))))))))),?_⟩
 refine aL (σ:=[some (.ref p),some (.ref a),some (.ref b),some (.ref c),some (.int l),some (.int f),none,none]) rfl ?_;walk_at"cx";have hul:us.length=ds.length:=Paired.length hd;have hwl:ws.length=rz.length:=Paired.length hra;walk_at"go";refine YK (λh0 h1=> ?_) k.tn;walk_at"go";refine DO (α:=Str×Int) (xs:=rz) (vs:=ws) (λe=> .str e.1) (λe=> .int e.2) (λ_=>true) (λz y _=>y= .str z.1) (λ_ _ _ _ h _=>h) (by rw[sizeLine_eq];lia) (rest:=[]) (by rfl) (SqL.of ha) hra (λx H1 hx s1 R hR=>hR _ (Same.refl _)) (λx H1 hx _ s1 R hR=> ?_) ?_
 .walk_at"go";exact hR _ _ rfl (Same.refl _)
 intro ys H1 s1 hys;rw[g6]at hys;obtain rfl:=rQ hys;walk_at"go";rename_i q1 H2 n2 S2 e2;refine M0 (ss:=rz.map (·.1)) (SqL.of (by rw[e2,List.map_map];rfl)) (by rw[List.length_map];lia) (λnr H3 S3=> ?_) λz hz=>(k.dr h0 h1 z hz).sm (s1.trans S2);have sA:Same H H3:=(s1.trans S2).trans S3;walk_at"go";refine gF (α:=bJ) (xs:=ds) (vs:=us) ((cH P w K mg base none).at' H3) (λ_=>true) (λd y _=>y= .str d.1) (λ_ _ _ _ h _=>h) (by rw[sizeLine_eq];lia) (rest:=[]) (by rfl) (sA.seq hb) (uA hd sA) (λv x H1 _ hx s1 R hR=>hR _ (Same.refl _)) ?_ ?_
 .rintro v ⟨n,st,e,lt⟩ H4 hv hm - s4 R hR;walk_at"g1";obtain⟨q,C9,dx',fs,fp,rfl,hq,dcC,l1,l2,l3,l4,l5,mcE,hfp,hlt⟩:=DoorAt.ex hv;walk_at"g2";have hq':=s4 _ _ hq;walk_at"go";exact hR _ _ rfl (Same.refl _)
 intro ys H4 s4 hys;rw[g6]at hys;obtain rfl:=rQ hys;walk_at"go";rename_i q5 H5 n5 S5 e5;refine M0 (ss:=ds.map (·.1)) (SqL.of (by rw[e5,List.map_map];rfl)) (by rw[List.length_map];lia) (λnd' H6 S6=> ?_) λz hz=>(k.dd h0 h1 nr z hz).sm ((sA.trans s4).trans S5);have sB:Same H H6:=((sA.trans s4).trans S5).trans S6;walk_at"go";refine XE (sB _ _ ha) (xW (hra.sm sB)) λqs H7 n7 S7 e7=> ?_;rw[WO nr]at e7;have sC:Same H H7:=sB.trans S7;walk_at"go";refine VC (sC.seq hb) (uA hd sC) hes ld (sC.seq hc) (tH hcp sC) lp λq8 H8 S8 e8=> ?_;have isz:∀z,(aX (szK rz) (.inr z)).isSome=true↔z∈rz.map (·.1):=λz=>by
  constructor
  .intro h;obtain⟨v,hv⟩:=Option.isSome_iff_exists.mp h;have:=aBZ hv;rw[MB]at this;obtain⟨y,hy,e⟩:=List.mem_map.mp this;cases e;exact hy
  .intro h;obtain⟨i,_,e⟩:=KF nr h;rw[e];rfl
 walk_at"go";refine YR (SqL.of e8) (.inl (S8 _ _ e7)) (λhall H9 S9=> ?_) λi z hz hno hbef=> ?_
 rotate_left
 .refine(k.st h0 h1 nr nd' z ⟨i,hz,λhm=> ?_,λy hy=>(isz y).mp (hbef y hy)⟩).sm (sC.trans S8);rw[(isz z).mpr hm]at hno;cases hno
 have hsp:∀z∈c9 ds ps,z∈rz.map (·.1):=λz hz=>(isz z).mp (hall z hz);have hpr:∀p∈ps,p.1∈rz.map (·.1):=λp hp=>hsp _ (List.mem_append_right _ (List.mem_map.mpr ⟨p,hp,rfl⟩));have sD:Same H7 H9:=S8.trans S9;walk_at"go";refine XX (sD _ _ e7) ((sC.trans sD).seq hc) (tH hcp (sC.trans sD)) hpr nr (by lia) (by lia) (λhf H10 S10=> ?_) λhf=>(k.sp h0 h1 nr nd' hsp hf).sm (sC.trans sD);have sE:Same H H10:=(sC.trans sD).trans S10;have es:H10 qs=some (.dK (szK rz)):=S10 _ _ (sD _ _ e7);have hp10:=sE _ _ hp;have hqp:qs≠p:=λz=>by rw[z,hp10]at es;cases es
 walk_at"go";rename_i H11 B11 e11 H12 B12 e12 H13 B13 e13;have sb13:SameBut p H10 H13:=by walk_at"sb"
 have es13:=sb13 _ _ es hqp;have hc13:SqL K H13 c cs:=MO (sE.seq hc) hp10 sb13;have hcp13:Paired (fL H13) cs ps:=Paired.imp' (λv r ⟨q,e,hq⟩=>⟨q,e,sb13 _ _ (sE _ _ hq) λz=>by rw[z,hp]at hq;cases hq⟩) hcp;refine M4 es13 hc13 hcp13 hpr nr (by lia) λqp H14 kvs n14 S14 e14 hkk hv14=> ?_;have hp14:=S14 _ _ e13;walk_at"go";rename_i H15 B15 e15 qd H16 n16 S16 e16 H17 B17 e17;have hqd:qd≠p:=λz=>by rw[z,e15]at n16;cases n16
 have sb17:SameBut p H10 H17:=((((sb13.trans S14.but).trans B15).trans S16.but).trans B17)
 have ed17:=B17 _ _ e16 hqd;have es17:=sb17 _ _ es hqp;have hqpp:qp≠p:=λz=>by rw[z,e13]at n14;cases n14
 have eq17:H17 qp=some (.dK kvs):=B17 _ _ (S16 _ _ (B15 _ _ e14 hqpp)) hqpp;have hqpd:qp≠qd:=λz=>by rw[←z,B15 _ _ e14 hqpp]at n16;cases n16
 have fresh:∀x u,H10 x=some u->x≠p->x≠qd:=λx u hx hxp z=>by
  have h15:H15 x=some u:=B15 _ _ (S14 _ _ (sb13 _ _ hx hxp)) hxp;rw[z,n16]at h15;cases h15
 have hb17:SqL K H17 b us:=MO (sE.seq hb) hp10 sb17;have hd17:Paired ((cH P w K mg base none).at' H17) us ds:=Paired.imp' (λv d h=>(cH P w K mg base none).but ((cH P w K mg base none).same h sE) hp10 rfl sb17) hd;have ddq:∀{H':Hp}{v:V}{d:bJ},SameBut qd H17 H'->(cH P w K mg base none).at' H17 v d->(cH P w K mg base none).at' H' v d:=λsb h=>(cH P w K mg base none).but h ed17 trivial sb;refine EG hb17 ?_;let Pv1:Nat->St->Hp->Prop:=λi σ' H'=>SameBut qd H17 H'/\(∃nk,H' qd=some (.dK nk)/\nk.length<=i/\nk.map (·.1)=((ds.take i).map λd=>(.inr d.1:Key))/\nk.map (·.2)=us.take i)/\∃x,σ'=[some (.ref p),some (.ref a),some (.ref b),some (.ref c),some (.int l),some (.int f),some (.ref qs),x];refine lI us Pv1 ⟨SameBut.refl,⟨[],ed17,Nat.le_refl _,rfl,rfl⟩,_,rfl⟩ (λi σ' H' _ q=>HU hb17 ed17 q.1) ?_ ?_
 .rintro i x _ H' hx hq_;walk_at"g1";obtain⟨sb,⟨nk,ek,hk,pk,pv'⟩,y,rfl⟩:=hq_;walk_at"g2";have hi:i<us.length:=(List.getElem?_eq_some_iff.mp hx).1;obtain⟨d,hdx⟩:∃d,ds[i]? =some d:=⟨_,List.getElem?_eq_getElem (by lia)⟩
  have hD:=Paired.at2 hd17 hx hdx;walk_at"g1";obtain⟨n,st,e,lt⟩:=d;walk_at"g2";have hD':=ddq sb hD;walk_at"g1";obtain⟨q,C9,dx',fs,fp,rfl,hq',dcC,l1,l2,l3,l4,l5,mcE,hfp,hlt⟩:=DoorAt.ex hD';walk_at"g2";have hpp:H' p=some (.ins C dx (DI f l qs qp qd)):=sb _ _ e17 (Ne.symm hqd);have hnone:aX nk (.inr n)=none:=vD λe he z=>by
   have h1:e.1∈nk.map (·.1):=List.mem_map.mpr ⟨e,he,rfl⟩;rw[pk,z]at h1;obtain⟨d',hd',e'⟩:=List.mem_map.mp h1;have hn:n∉(ds.map (·.1)).take i:=yZ nd' (by rw[List.getElem?_map,hdx];rfl)
   apply hn
   rw[←List.map_take];exact List.mem_map.mpr ⟨d',hd',Sum.inr.inj e'⟩
  walk_at"go";refine yH ek (by rw[sizeLine_eq];lia) λH9' B9' e9'=> ?_;rw[yV _ hnone]at e9';exact⟨by walk_at"sb",⟨_,e9',by rw[List.length_append];show nk.length+1<=_;lia,by rw[dS hdx,List.map_append,List.map_append,pk];rfl,by rw[dS hx,List.map_append,pv'];rfl⟩,_,rfl⟩
 .rintro _ H' hq_;walk_at"g1";obtain⟨sb,⟨nk,ek,hk,pk,pv'⟩,y,rfl⟩:=hq_;walk_at"g2";rw[hul,List.take_length]at pk;rw[List.take_length]at pv';exact k.ok h0 h1 nr nd' hsp hf _ (λx u hx hxp=>sb _ _ (sb17 _ _ (sE _ _ hx) hxp) (fresh x u (sE _ _ hx) hxp)) ⟨dx,qs,qp,qd,nk,kvs,sb _ _ e17 (Ne.symm hqd),sb _ _ es17 (fresh _ _ es hqp),sb _ _ eq17 hqpd,hkk,hv14,ek,pk,pv'⟩
theorem PZ (m:M w K mg):KcE P w K mg base "House" m.aW 6 [] (m6 K (cH P w K mg base none) m.fJ m.d7 m.dA m.dY):=⟨_,_,_,_,m.aCr,m.ZF,.nil,m.zS,xG m⟩
structure HM (NT TW NR NH C:Addr)(f l:Int)(rz ps:List (Str×Int))(us:List V)(ds:List bJ)(H:Hp)(Q:VK)(E:XK):Prop where
 tn:f<0∨l<f->Ref0 NT H E
 dr:0<=f->f<=l->∀z,Dup (rz.map (·.1)) z->Refd TW z H E
 dd:0<=f->f<=l->(rz.map (·.1)).Nodup->∀z,Dup (ds.map (·.1)) z->Refd TW z H E
 st:0<=f->f<=l->(rz.map (·.1)).Nodup->(ds.map (·.1)).Nodup->∀z,Odd (rz.map (·.1)) (c9 ds ps) z->Refd NR z H E
 sp:0<=f->f<=l->(rz.map (·.1)).Nodup->(ds.map (·.1)).Nodup->(∀z∈c9 ds ps,z∈rz.map (·.1))->¬tK rz ps->Ref0 NH H E
 ok:0<=f->f<=l->(rz.map (·.1)).Nodup->(ds.map (·.1)).Nodup->(∀z∈c9 ds ps,z∈rz.map (·.1))->tK rz ps->∀p H',H p=none->Same H H'->HouseU C H' p f l rz ps us ds->Q (.ref p) H'
theorem R8 {D:cZ}{Q:VK}{E:XK}{c:Addr}{ws us cs:List V}{ds:List bJ}(ev:vs++dvs=[.ref a,.ref b,.ref c,.int l,.int f])(dc:DCls K C)(ha:H a=some (.lst ws))(hr:RoomsAt H ws rz)(hb:SqL K H b us)(hd:Paired (D.at' H) us ds)(hc:SqL K H c cs)(hcp:Paired (fL H) cs ps)(hes:∀d∈ds,C8 d)(lr:rz.length<=20)(ld:ds.length<=20)(lp:ps.length<=40)(k:HM NT TW NR NH C f l rz ps us ds H Q E):uH C (m6 K D NT TW NR NH) dvs E Q vs H:=by
 intro x dx nx nd0 ne;have s0:Same H (upd (upd H dx (.own x)) x (.ins C dx [])):=λb o e=>by
  rw[aM (aY e nx),aM (aY e nd0)];exact e
 rw[ev];exact XL dc aU (s0 _ _ ha) (hr.sm s0) (s0.seq hb) (uA hd s0) (s0.seq hc) (tH hcp s0) hes lr ld lp ⟨λh=>(k.tn h).sm s0,λa b z h=>(k.dr a b z h).sm s0,λa b c z h=>(k.dd a b c z h).sm s0,λa b c d z h=>(k.st a b c d z h).sm s0,λa b c d e h=>(k.sp a b c d e h).sm s0,λa b c d e h H' sb hh=>⟨rfl,k.ok a b c d e h x H' nx (λb o q=>sb b o (s0 b o q) (aY q nx)) hh⟩⟩
theorem aA9 (rz:List (Str×Int)):((szK rz).map λe=>kV e.1)=(rz.map (·.1)).map V.str:=by unfold szK;rw[List.map_map,List.map_map];rfl
theorem BX {D:cZ}:∀{nk:List (Key×V)}{ds:List bJ},AR D H nk ds->(nk.map λe=>kV e.1)=(ds.map (·.1)).map V.str
 | _,_,.nil=>rfl
 | (k,v)::_,_,.cons h t=>by
  rw[List.map_cons,BX t,List.map_cons,List.map_cons];have:k= .inr _:=h.1;rw[this];rfl
inductive lR (C:Addr)(D:cZ)(g:List (Str×Int)->List bJ->List Str)(vs:List V)(H:Hp)(Q:VK)(E:XK):Prop
 | mk (h:Addr) (f l:Int) (rz ps:List (Str×Int)) (ds:List bJ) (_:vs=[.ref h]) (_:fQ C D H h f l rz ps ds) (_:∀p H',H p=none->Same H H'->H' p=some (.lst ((g rz ds).map V.str))->Q (.ref p) H'):lR C D g vs H Q E
theorem ML {D:cZ}{g:List (Str×Int)->List bJ->List Str}{Q:VK}{E:XK}{h:Addr}{ds:List bJ}(hh:fQ C D H h f l rz ps ds)(k:∀p H',H p=none->Same H H'->H' p=some (.lst ((g rz ds).map V.str))->Q (.ref p) H'):lR C D g [.ref h] H Q E:=⟨_,_,_,_,_,_,rfl,hh,k⟩
theorem DN (m:M w K mg):FnOk P w K mg base CX0 1 m.nN m.nZ.d ["self"] (lR m.aW (cH P w K mg base none) λrz _=>rz.map (·.1)):=by
 refine m.nZ.F.ok aGY ?_ ?_;walk_at"w0";walk_at"w1";obtain⟨h,f,l,rz,ps,ds,rfl,hh,k⟩:=h;walk_at"g2";have nd:=aGY.nd;walk_at"hu";have aGm:=m.cV;refine⟨_,(aE (aP (cD (B0 rfl) rfl m.VQ MN (aA (bS (pv 0) rfl) aB)))),?_⟩;refine aL (σ:=[some (.ref h)]) rfl ?_;walk_at"cx";walk_at"g1";obtain⟨dx,qs,qp,qd,nk,kvs,e1,e2,e3,e4,e5,e6,e7⟩:=hh.ex;walk_at"g2";walk_at"go";refine IG (.inl e2) λp H1 n1 S1 e8=> ?_;rw[aA9]at e8;walk_at"go";exact k _ _ n1 S1 e8
theorem DE (m:M w K mg):Mc P w K mg base m.aW "rooms" 1 (lR m.aW (cH P w K mg base none) λrz _=>rz.map (·.1)):=⟨_,_,_,m.cV.ic.cl,m.DY,m.nZ.b,DN m⟩
theorem DP (m:M w K mg):FnOk P w K mg base CX0 1 m.nX m.n9.d ["self"] (lR m.aW (cH P w K mg base none) λ_ ds=>ds.map (·.1)):=by
 refine m.n9.F.ok aGZ ?_ ?_;walk_at"w0";walk_at"w1";obtain⟨h,f,l,rz,ps,ds,rfl,hh,k⟩:=h;walk_at"g2";have nd:=aGZ.nd;walk_at"hu";have aGm:=m.cV;refine⟨_,(aE (aP (cD (B0 rfl) rfl m.VQ MN (aA (bS (pv 0) rfl) aB)))),?_⟩;refine aL (σ:=[some (.ref h)]) rfl ?_;walk_at"cx";walk_at"g1";obtain⟨dx,qs,qp,qd,nk,kvs,e1,e2,e3,e4,e5,e6,e7⟩:=hh.ex;walk_at"g2";walk_at"go";refine IG (.inl e6) λp H1 n1 S1 e8=> ?_;rw[BX e7]at e8;walk_at"go";exact k _ _ n1 S1 e8
theorem CZ (m:M w K mg):Mc P w K mg base m.aW "doors" 1 (lR m.aW (cH P w K mg base none) λ_ ds=>ds.map (·.1)):=⟨_,_,_,m.cV.ic.cl,m.D3,m.n9.b,DP m⟩
inductive kC (C:Addr)(D:cZ)(vs:List V)(H:Hp)(Q:VK)(E:XK):Prop
 | mk (h:Addr) (z:Str) (f l:Int) (rz ps:List (Str×Int)) (ds:List bJ) (_:vs=[.ref h,.str z]) (_:fQ C D H h f l rz ps ds) (_:(rz.map (·.1)).Nodup) (_:z∈rz.map (·.1)) (_:∀H',Same H H'->Q .non H'):kC C D vs H Q E
theorem xQ {D:cZ}{Q:VK}{E:XK}{h:Addr}{ds:List bJ}(hh:fQ C D H h f l rz ps ds)(nr:(rz.map (·.1)).Nodup)(hz:z∈rz.map (·.1))(k:∀H',Same H H'->Q .non H'):kC C D [.ref h,.str z] H Q E:=⟨_,_,_,_,_,_,_,rfl,hh,nr,hz,k⟩
theorem vQ (m:M w K mg):FnOk P w K mg base CX0 2 m.i3 m.i7.d ["self","room"] (kC m.aW (cH P w K mg base none)):=by
 refine m.i7.F.ok aGv ?_ ?_;walk_at"w0";walk_at"w1";obtain⟨h,z,f,l,rz,ps,ds,rfl,hh,nr,hz,k⟩:=h;walk_at"g2";have nd:=aGv.nd;walk_at"hu";have aHI:= @F9 P w K mg base m;have aGm:=m.cV;refine⟨_,(aE (bG (bT aHI hr (aA (bM (aA (pv 1) aB)) (aA (bS (pv 0) rfl) aB))))),?_⟩;refine aL (σ:=[some (.ref h),some (.str z)]) rfl ?_;walk_at"cx";walk_at"g1";obtain⟨dx,qs,qp,qd,nk,kvs,e1,e2,e3,e4,e5,e6,e7⟩:=hh.ex;walk_at"g2";obtain⟨i,hi,ev⟩:=KF nr hz;walk_at"go";rename_i p H1 n1 S1 e8;refine aCf (ss:=[z]) (SqL.of e8) (.inl (S1 _ _ e2)) (λy hy=>by cases List.mem_singleton.mp hy;rw[ev];rfl) λH2 S2=> ?_;walk_at"go";exact k _ (S1.trans S2)
theorem m5 (m:M w K mg):Mc P w K mg base m.aW "need_room" 2 (kC m.aW (cH P w K mg base none)):=⟨_,_,_,m.cV.ic.cl,m.v9,m.i7.b,vQ m⟩
inductive uD (C:Addr)(D:cZ)(vs:List V)(H:Hp)(Q:VK)(E:XK):Prop
 | mk (h:Addr) (z:Str) (i f l:Int) (rz ps:List (Str×Int)) (ds:List bJ) (_:vs=[.ref h,.str z]) (_:fQ C D H h f l rz ps ds) (_:(rz.map (·.1)).Nodup) (_:(z,i)∈rz) (_:∀H',Same H H'->Q (.int i) H'):uD C D vs H Q E
theorem aA5 {D:cZ}{Q:VK}{E:XK}{h:Addr}{ds:List bJ}(hh:fQ C D H h f l rz ps ds)(nr:(rz.map (·.1)).Nodup)(hz:(z,i)∈rz)(k:∀H',Same H H'->Q (.int i) H'):uD C D [.ref h,.str z] H Q E:=⟨_,_,_,_,_,_,_,_,rfl,hh,nr,hz,k⟩
theorem C7 (m:M w K mg):FnOk P w K mg base CX0 3 m.oA m.nY.d ["self","room"] (uD m.aW (cH P w K mg base none)):=by
 refine m.nY.F.ok aG0 ?_ ?_;walk_at"w0";walk_at"w1";obtain⟨h,z,i,f,l,rz,ps,ds,rfl,hh,nr,hz,k⟩:=h;walk_at"g2";have nd:=aG0.nd;walk_at"hu";have aGm:=m.cV;have aG1:= @m5 P w K mg base m;refine⟨_,(aC (bG (QU 2 hr (pv 0) (aA (pv 1) aB)))
  (aE (aP (sV hu1 (bS (pv 0) rfl) (pv 1) (λ_ _=>rfl))))),?_⟩
 refine aL (σ:=[some (.ref h),some (.str z)]) rfl ?_;walk_at"cx";walk_at"g1";obtain⟨dx,qs,qp,qd,nk,kvs,e1,e2,e3,e4,e5,e6,e7⟩:=hh.ex;walk_at"g2";walk_at"go";refine xQ hh nr (List.mem_map.mpr ⟨_,hz,rfl⟩) λH1 S1=> ?_;have e11:=S1 _ _ e1;walk_at"go";refine o8 (.inl (S1 _ _ e2)) (DM nr hz) ?_;walk_at"go";exact k _ S1
theorem CP (m:M w K mg):Mc P w K mg base m.aW "holds" 3 (uD m.aW (cH P w K mg base none)):=⟨_,_,_,m.cV.ic.cl,m.D2,m.nY.b,C7 m⟩
inductive uC (C:Addr)(D:cZ)(vs:List V)(H:Hp)(Q:VK)(E:XK):Prop
 | mk (h:Addr) (z:Str) (f l:Int) (rz ps:List (Str×Int)) (ds:List bJ) (_:vs=[.ref h,.str z]) (_:fQ C D H h f l rz ps ds) (_:(rz.map (·.1)).Nodup) (_:z∈rz.map (·.1)) (_:∀H',Same H H'->Q (.int (bU ps z)) H'):uC C D vs H Q E
theorem MD {D:cZ}{Q:VK}{E:XK}{h:Addr}{ds:List bJ}(hh:fQ C D H h f l rz ps ds)(nr:(rz.map (·.1)).Nodup)(hz:z∈rz.map (·.1))(k:∀H',Same H H'->Q (.int (bU ps z)) H'):uC C D [.ref h,.str z] H Q E:=⟨_,_,_,_,_,_,_,rfl,hh,nr,hz,k⟩
theorem CV (m:M w K mg):FnOk P w K mg base CX0 3 m.nQ m.nV.d ["self","room"] (uC m.aW (cH P w K mg base none)):=by
 refine m.nV.F.ok aGW ?_ ?_;walk_at"w0";walk_at"w1";obtain⟨h,z,f,l,rz,ps,ds,rfl,hh,nr,hz,k⟩:=h;walk_at"g2";have nd:=aGW.nd;walk_at"hu";have aGm:=m.cV;have aG1:= @m5 P w K mg base m;refine⟨_,(aC (bG (QU 2 hr (pv 0) (aA (pv 1) aB)))
  (aE (aP (sV hu1 (bS (pv 0) rfl) (pv 1) (λ_ _=>rfl))))),?_⟩
 refine aL (σ:=[some (.ref h),some (.str z)]) rfl ?_;walk_at"cx";walk_at"g1";obtain⟨dx,qs,qp,qd,nk,kvs,e1,e2,e3,e4,e5,e6,e7⟩:=hh.ex;walk_at"g2";walk_at"go";refine xQ hh nr hz λH1 S1=> ?_;have e11:=S1 _ _ e1;walk_at"go";refine o8 (.inl (S1 _ _ e3)) (e5 z hz) ?_;walk_at"go";exact k _ S1
theorem DC (m:M w K mg):Mc P w K mg base m.aW "found" 3 (uC m.aW (cH P w K mg base none)):=⟨_,_,_,m.cV.ic.cl,m.D9,m.nV.b,CV m⟩
def cP:V->Str
 | .str z=>z
 | _=> "-"
def dP (kind n s:Str)(e:V)(ns:List Int):Str:=Txt.join " " ([kind,n,s,cP e]++ns.map aJ)
def cA (i:Int):Prop:= -1000000000000000000000000000000<i/\i<1000000000000000000000000000000
inductive AH (P:Program)(w:World)(K:W.Frag)(mg:Str->Option Value)(base:Heap)(vs:List V)(H:Hp)(Q:VK)(E:XK):Prop
 | mk (kind:Str) (p q C dx:Addr) (fs:List (Str×V)) (n s:Str) (e:V) (ns:List Int) (_:vs=[.str kind,.ref p,.ref q]) (_:DCls K C) (_:Mc P w K mg base C "is_exit" 1 (cM K)) (_:H p=some (.ins C dx fs)) (_:fs.lookup ("is_exit" :Str)=none) (_:fs.lookup ("name" :Str)=some (.str n)) (_:fs.lookup ("start" :Str)=some (.str s)) (_:fs.lookup ("end" :Str)=some e) (_:kind.length<=8) (_:aK n=true) (_:aK s=true) (_:bW e) (_:SqL K H q (ns.map V.int)) (_:ns.length<=3) (_:(∀i∈ns,cA i)) (_:∀H',Same H H'->Q (.str (dP kind n s e ns)) H'):AH P w K mg base vs H Q E
theorem NV {Q:VK}{E:XK}{p:Addr}{fs:List (Str×V)}{n s:Str}{e:V}(hp:H p=some (.ins C dx fs))(hq:SqL K H q (ns.map V.int))(dc:DCls K C)(mc:Mc P w K mg base C "is_exit" 1 (cM K))(l0:fs.lookup ("is_exit" :Str)=none)
  (l1:fs.lookup ("name" :Str)=some (.str n))(l2:fs.lookup ("start" :Str)=some (.str s))(l3:fs.lookup ("end" :Str)=some e)(hk:kind.length<=8)(hn:aK n=true)(hs:aK s=true)(he:bW e)(hl:ns.length<=3)(hb:∀i∈ns,cA i)
  (k:∀H',Same H H'->Q (.str (dP kind n s e ns)) H'):AH P w K mg base [.str kind,.ref p,.ref q] H Q E:=⟨_,_,_,_,_,_,_,_,_,_,rfl,dc,mc,hp,l0,l1,l2,l3,hk,hn,hs,he,hq,hl,hb,k⟩
theorem aCj {n s:Str}(h1:kind.length<=8)(h2:n.length<=8)(h3:s.length<=8)(h4:z.length<=8)(h5:ns.length<=3)(hb:∀i∈ns,cA i):
  (([kind,n,s,z]++ns.map aJ).map (·.length)).sum+([kind,n,s,z]++ns.map aJ).length * (" " :Str).length<=16777216:=by
 have e:=iK 40 ([kind,n,s,z]++ns.map aJ) λy hy=>by
  rcases List.mem_append.mp hy with h|h
  .simp only[List.mem_cons,List.not_mem_nil,or_false]at h;rcases h with rfl|rfl|rfl|rfl<;>lia
  .obtain⟨i,hi,rfl⟩:=List.mem_map.mp h;exact tO (hb i hi).1 (hb i hi).2
 have e2:([kind,n,s,z]++ns.map aJ).length<=7:=by simp;lia
 have e3:(" " :Str).length=1:=by rw[aG];rfl
 rw[e3]
 lia
theorem AO (m:M w K mg):FnOk P w K mg base CX0 2 m.l9 m.iQ.d ["kind","door","numbers"] (AH P w K mg base):=by
 refine m.iQ.F.ok aGM ?_ ?_;walk_at"w0";walk_at"w1";obtain⟨kind,p,q,C,dx,fs,n,st,e,ns,rfl,dc,mc,hp,l0,l1,l2,l3,hk,hn,hs,he,hq,hl,hb,k⟩:=h;walk_at"g2";have nd:=aGM.nd;walk_at"hu";refine⟨_,(aC (aT (i:=3) nd rfl (by walk_at"oi") (yX (eY (sW 1 hr (pv 1))) aD (bS (pv 1) rfl)))
  (aE (aP (bY aD (by exact(aA (aI eF (bM (aA (pv 0) (aA (bS (pv 1) rfl) (aA (bS (pv 1) rfl) (aA (pv 3) aB))))) (dG (N:=["number"]) (nl:=1) (ci:=[]) rfl (blk (s.heap.objs.size+1) rfl rfl rfl (by kernel_rfl)) (bZ (pv 2)) (λ_ _ _ _=>(aZ (i:=0) (show (["number"]:List Str).Nodup by decide +kernel) rfl (by walk_at"oi"))) (λ_ _ _ _=>dO) (λ_ _ _ _=>(cD fE rfl m.kO hZ (aA (pv 0) aB))))) aB)))))),?_⟩
 refine aL (σ:=[some (.str kind),some (.ref p),some (.ref q),none]) rfl ?_;walk_at"cx";have hn8:=cB hn;have hs8:=cB hs;have fin:∀z:Str,z.length<=8->cP e=z->∀(H1:Hp) (p1:Addr),Same H H1->H1 p1=some (.lst ([.str kind,.str n,.str st,.str z]++ns.map λi=>V.str (aJ i)))->AC K (.str " ") [.ref p1] H1 Q:=by
  intro z hz ez H1 p1 s1 h1;refine gG (ys:=[kind,n,st,z]++ns.map aJ) (SqL.of ?_) (aCj hk hn8 hs8 hz hl hb) ?_
  .rw[List.map_append,List.map_map];exact h1
  .have:=k H1 s1;unfold dP at this;rw[ez]at this;exact this
 have item:∀(i:Int) (H1:Hp),i∈ns->∀R:VK,(∀H2,Same H1 H2->R (.str (aJ i)) H2)->tCB QX (GI (iZ 0) CM) (some (.int i)::[]) H1 R:=by
  intro i H1 hi R hR;obtain⟨b0,b1⟩:=hb i hi;walk_at"go";exact hR _ (Same.refl _)
 have hsz:ns.length<=sizeLine:=by rw[sizeLine_eq];lia
 rcases he with rfl|⟨z,rfl,hz⟩
 .walk_at"go";refine ER (ns:=ns) (rest:=[]) (λi=>V.str (aJ i)) hsz (by rfl) (λH1 s1=>by walk_at"hp") ?_ (λH1 s1=> ?_)
  .exact λi H1 hi s1 R hR=>item i H1 hi R hR
  walk_at"go";exact fin "-" (by rw[aG];decide) rfl _ _ (by walk_at"sm") (by assumption)
 .have hz8:=cB hz;walk_at"go";refine ER (ns:=ns) (rest:=[]) (λi=>V.str (aJ i)) hsz (by rfl) (λH1 s1=>by walk_at"hp") ?_ (λH1 s1=> ?_)
  .exact λi H1 hi s1 R hR=>item i H1 hi R hR
  walk_at"go";exact fin z hz8 rfl _ _ (by walk_at"sm") (by assumption)
theorem j7 (m:M w K mg):Fc P w K mg base "row_of_words" 2 ["kind","door","numbers"] (AH P w K mg base):=⟨_,_,m.EA,m.iQ.F.kp,m.iQ.b,AO m⟩
theorem aC4 {a:Int}(h:cA a):∀i∈[a],cA i:=λi hi=>by
 rw[List.mem_singleton]at hi;subst hi;exact h
theorem aF7 {a b:Int}(h:cA a)(h':cA b):∀i∈[a,b],cA i:=λi hi=>by
 simp only[List.mem_cons,List.not_mem_nil,or_false]at hi;rcases hi with rfl|rfl
 .exact h
 .exact h'
theorem aF9 {a b c:Int}(h:cA a)(h':cA b)(h'':cA c):∀i∈[a,b,c],cA i:=λi hi=>by
 simp only[List.mem_cons,List.not_mem_nil,or_false]at hi;rcases hi with rfl|rfl|rfl
 .exact h
 .exact h'
 .exact h''
inductive jI (P:Program)(w:World)(K:W.Frag)(mg:Str->Option Value)(base:Heap)(vs:List V)(H:Hp)(Q:VK)(E:XK):Prop
 | mk (p C dx:Addr) (fs:List (Str×V)) (n s:Str) (e:V) (i0:Int) (_:vs=[.ref p]) (_:DCls K C) (_:Mc P w K mg base C "is_exit" 1 (cM K)) (_:H p=some (.ins C dx fs)) (_:fs.lookup ("is_exit" :Str)=none) (_:fs.lookup ("name" :Str)=some (.str n)) (_:fs.lookup ("start" :Str)=some (.str s)) (_:fs.lookup ("end" :Str)=some e) (_:fs.lookup ("wide" :Str)=some (.int i0)) (_:aK n=true) (_:aK s=true) (_:bW e) (_:cA i0) (_:∀H',Same H H'->Q (.str (dP "door" n s e [i0])) H'):jI P w K mg base vs H Q E
theorem oW {Q:VK}{E:XK}{p:Addr}{fs:List (Str×V)}{n s:Str}{e:V}(hp:H p=some (.ins C dx fs))(dc:DCls K C)(mc:Mc P w K mg base C "is_exit" 1 (cM K))(l0:fs.lookup ("is_exit" :Str)=none)
  (l1:fs.lookup ("name" :Str)=some (.str n))(l2:fs.lookup ("start" :Str)=some (.str s))(l3:fs.lookup ("end" :Str)=some e)(m0:fs.lookup ("wide" :Str)=some (.int i0))(hn:aK n=true)(hs:aK s=true)(he:bW e)(b0:cA i0)
  (k:∀H',Same H H'->Q (.str (dP "door" n s e [i0])) H'):jI P w K mg base [.ref p] H Q E:=⟨_,_,_,_,_,_,_,_,rfl,dc,mc,hp,l0,l1,l2,l3,m0,hn,hs,he,b0,k⟩
theorem F1 (m:M w K mg):FnOk P w K mg base CX0 3 m.qY m.qP.d ["self"] (jI P w K mg base):=by
 refine m.qP.F.ok aG4 ?_ ?_;walk_at"w0";walk_at"w1";obtain⟨p,C,dx,fs,n,st,e,i0,rfl,dc,mc,hp,l0,l1,l2,l3,m0,hn,hs,he,b0,k⟩:=h;walk_at"g2";have nd:=aG4.nd;walk_at"hu";have aGk:= @j7 P w K mg base m;refine⟨_,(aE (aP (bT aGk hr (aA aD (aA (pv 0) (aA (bM (aA (bS (pv 0) rfl) aB)) aB)))))),?_⟩;refine aL (σ:=[some (.ref p)]) rfl ?_;walk_at"cx";walk_at"go";exact NV (ns:=[i0]) (by walk_at"hp") (SqL.of (by assumption)) dc mc l0 l1 l2 l3 (by rw[aG];decide) hn hs he (by simp) (aC4 b0) (λH2 s2=>k H2 (by walk_at"sm"))
theorem uT (m:M w K mg):Mc P w K mg base m.cF "words" 3 (jI P w K mg base):=⟨_,_,_,m.j3.ic.cl,m.GD,m.qP.b,F1 m⟩
local macro_rules| `(tactic| walk_at"rd1")=> `(tactic| ((with_reducible refine' oW ?e ?d ?m ?l0 ?l1 ?l2 ?l3 ?m0 ?hn ?hs ?he ?b0 ?_);(case e=>walk_at"hp");(case d=>assumption);(case m=>assumption);(case l0=>walk_at"lk");(case l1=>walk_at"lk");(case l2=>walk_at"lk");(case l3=>walk_at"lk");(case m0=>walk_at"lk");(case hn=>assumption);(case hs=>assumption);(case he=>assumption);(case b0=>exact⟨by omega,by omega⟩);intro H' S'))
local macro_rules| `(tactic| walk_at"rd1")=> `(tactic| ((with_reducible refine' mQ ?d ?e ?hn ?hs ?he ?hw ?_);(case d=>assumption);(case e=>walk_at"hp");(case hn=>assumption);(case hs=>assumption);(case he=>assumption);(case hw=>walk_at"sd");intro H' B' e'))
abbrev wX (n s e w i0:V):List (Str×V):=cG "since" i0 (kE n s e w)
inductive gD (K:W.Frag)(vs:List V)(H:Hp)(Q:VK)(E:XK):Prop
 | mk (p C dx:Addr) (n s:Str) (e:V) (wd i0:Int) (_:vs=[.ref p,.str n,.str s,e,.int wd,.int i0]) (_:DCls K C) (_:H p=some (.ins C dx [])) (_:aK n=true) (_:aK s=true) (_:bW e) (_:0<=wd) (_:0<=i0) (_:∀H',SameBut p H H'->H' p=some (.ins C dx (wX (.str n) (.str s) e (.int wd) (.int i0)))->Q .non H'):gD K vs H Q E
theorem IN {Q:VK}{E:XK}{p:Addr}{n s:Str}{e:V}(dc:DCls K C)(hp:H p=some (.ins C dx []))(hn:aK n=true)(hs:aK s=true)(he:bW e)(hw:0<=wd)(b0:0<=i0)
  (k:∀H',SameBut p H H'->H' p=some (.ins C dx (wX (.str n) (.str s) e (.int wd) (.int i0)))->Q .non H'):gD K [.ref p,.str n,.str s,e,.int wd,.int i0] H Q E:=⟨_,_,_,_,_,_,_,_,rfl,dc,hp,hn,hs,he,hw,b0,k⟩
theorem xL (m:M w K mg):FnOk P w K mg base CX0 4 m.jT m.jW.d ["self","name","start","end","wide","since"] (gD K):=by
 refine m.jW.F.ok aGA ?_ ?_;walk_at"w0";walk_at"w1";obtain⟨p,C,dx,n,st,e,wd,i0,rfl,dc,hp,hn,hs,he,hw,b0,k⟩:=h;walk_at"g2";have nd:=aGA.nd;walk_at"hu";have aGq:= @lH P w K mg base m;have aGi:= @jF P w K mg base m;refine⟨_,(aC (bG (aAa aGq hr (aA (pv 0) (aA (pv 1) (aA (pv 2) (aA (pv 3) (aA (pv 4) aB)))))))
  (aC (bG (bT aGi hr (aA aD (aA (pv 5) (aA aF aB)))))
  (aE (fD (pv 0) (pv 5) rfl)))),?_⟩
 refine aL (σ:=[some (.ref p),some (.str n),some (.str st),some (e),some (.int wd),some (.int i0)]) rfl ?_;walk_at"cx";walk_at"go";exact k _ (by walk_at"sb") (by assumption)
theorem RI (m:M w K mg):Kc P w K mg base "Since" m.cX 4 [] (gD K):=⟨_,_,_,_,m.aCp,m.ZA,.nil,m.jW.b,xL m⟩
theorem T7 {Q:VK}{E:XK}{n s:Str}{e:V}(ev:vs++dvs=[.str n,.str s,e,.int wd,.int i0])(dc:DCls K C)(hn:aK n=true)(hs:aK s=true)(he:bW e)(hw:0<=wd)(b0:0<=i0)
  (k:∀p dx H',H p=none->Same H H'->H' p=some (.ins C dx (wX (.str n) (.str s) e (.int wd) (.int i0)))->Q (.ref p) H'):uH C (gD K) dvs E Q vs H :=
 tQ (λp dx H0 Q' h k' s0=>by rw[ev];exact IN dc h hn hs he hw b0 k') k
local macro_rules| `(tactic| walk_at"rd1")=> `(tactic| ((with_reducible refine' T7 ?v ?d ?hn ?hs ?he ?hw ?b0 ?_);(case v=>rfl);(case d=>assumption);(case hn=>assumption);(case hs=>assumption);(case he=>first|assumption|exact .inl rfl|exact .inr ⟨_,rfl,by assumption⟩);(case hw=>walk_at"sd");(case b0=>walk_at"sd");intro p' dx' H' n' S' e'))
inductive iM (P:Program)(w:World)(K:W.Frag)(mg:Str->Option Value)(base:Heap)(vs:List V)(H:Hp)(Q:VK)(E:XK):Prop
 | mk (p C dx:Addr) (fs:List (Str×V)) (n s:Str) (e:V) (i0 i1:Int) (_:vs=[.ref p]) (_:DCls K C) (_:Mc P w K mg base C "is_exit" 1 (cM K)) (_:H p=some (.ins C dx fs)) (_:fs.lookup ("is_exit" :Str)=none) (_:fs.lookup ("name" :Str)=some (.str n)) (_:fs.lookup ("start" :Str)=some (.str s)) (_:fs.lookup ("end" :Str)=some e) (_:fs.lookup ("wide" :Str)=some (.int i0)) (_:fs.lookup ("since" :Str)=some (.int i1)) (_:aK n=true) (_:aK s=true) (_:bW e) (_:cA i0) (_:cA i1) (_:∀H',Same H H'->Q (.str (dP "since" n s e [i0,i1])) H'):iM P w K mg base vs H Q E
theorem uU {Q:VK}{E:XK}{p:Addr}{fs:List (Str×V)}{n s:Str}{e:V}(hp:H p=some (.ins C dx fs))(dc:DCls K C)(mc:Mc P w K mg base C "is_exit" 1 (cM K))(l0:fs.lookup ("is_exit" :Str)=none)
  (l1:fs.lookup ("name" :Str)=some (.str n))(l2:fs.lookup ("start" :Str)=some (.str s))(l3:fs.lookup ("end" :Str)=some e)(m0:fs.lookup ("wide" :Str)=some (.int i0))(m1:fs.lookup ("since" :Str)=some (.int i1))(hn:aK n=true)(hs:aK s=true)(he:bW e)(b0:cA i0)(b1:cA i1)
  (k:∀H',Same H H'->Q (.str (dP "since" n s e [i0,i1])) H'):iM P w K mg base [.ref p] H Q E:=⟨_,_,_,_,_,_,_,_,_,rfl,dc,mc,hp,l0,l1,l2,l3,m0,m1,hn,hs,he,b0,b1,k⟩
theorem DK (m:M w K mg):FnOk P w K mg base CX0 3 m.nU m.nW.d ["self"] (iM P w K mg base):=by
 refine m.nW.F.ok aGX ?_ ?_;walk_at"w0";walk_at"w1";obtain⟨p,C,dx,fs,n,st,e,i0,i1,rfl,dc,mc,hp,l0,l1,l2,l3,m0,m1,hn,hs,he,b0,b1,k⟩:=h;walk_at"g2";have nd:=aGX.nd;walk_at"hu";have aGk:= @j7 P w K mg base m;refine⟨_,(aE (aP (bT aGk hr (aA aD (aA (pv 0) (aA (bM (aA (bS (pv 0) rfl) (aA (bS (pv 0) rfl) aB))) aB)))))),?_⟩;refine aL (σ:=[some (.ref p)]) rfl ?_;walk_at"cx";walk_at"go";exact NV (ns:=[i0,i1]) (by walk_at"hp") (SqL.of (by assumption)) dc mc l0 l1 l2 l3 (by rw[aG];decide) hn hs he (by simp) (aF7 b0 b1) (λH2 s2=>k H2 (by walk_at"sm"))
theorem DF (m:M w K mg):Mc P w K mg base m.cX "words" 3 (iM P w K mg base):=⟨_,_,_,m.mJ.ic.cl,m.D8,m.nW.b,DK m⟩
local macro_rules| `(tactic| walk_at"rd1")=> `(tactic| ((with_reducible refine' uU ?e ?d ?m ?l0 ?l1 ?l2 ?l3 ?m0 ?m1 ?hn ?hs ?he ?b0 ?b1 ?_);(case e=>walk_at"hp");(case d=>assumption);(case m=>assumption);(case l0=>walk_at"lk");(case l1=>walk_at"lk");(case l2=>walk_at"lk");(case l3=>walk_at"lk");(case m0=>walk_at"lk");(case m1=>walk_at"lk");(case hn=>assumption);(case hs=>assumption);(case he=>assumption);(case b0=>exact⟨by omega,by omega⟩);(case b1=>exact⟨by omega,by omega⟩);intro H' S'))
abbrev AD (n s e w i0 i1:V):List (Str×V):=cG "since" i1 (cG "every" i0 (kE n s e w))
inductive hV (K:W.Frag)(vs:List V)(H:Hp)(Q:VK)(E:XK):Prop
 | mk (p C dx:Addr) (n s:Str) (e:V) (wd i0 i1:Int) (_:vs=[.ref p,.str n,.str s,e,.int wd,.int i0,.int i1]) (_:DCls K C) (_:H p=some (.ins C dx [])) (_:aK n=true) (_:aK s=true) (_:bW e) (_:0<=wd) (_:1<=i0) (_:0<=i1) (_:∀H',SameBut p H H'->H' p=some (.ins C dx (AD (.str n) (.str s) e (.int wd) (.int i0) (.int i1)))->Q .non H'):hV K vs H Q E
theorem LJ {Q:VK}{E:XK}{p:Addr}{n s:Str}{e:V}(dc:DCls K C)(hp:H p=some (.ins C dx []))(hn:aK n=true)(hs:aK s=true)(he:bW e)(hw:0<=wd)(b0:1<=i0)(b1:0<=i1)
  (k:∀H',SameBut p H H'->H' p=some (.ins C dx (AD (.str n) (.str s) e (.int wd) (.int i0) (.int i1)))->Q .non H'):hV K [.ref p,.str n,.str s,e,.int wd,.int i0,.int i1] H Q E:=⟨_,_,_,_,_,_,_,_,_,rfl,dc,hp,hn,hs,he,hw,b0,b1,k⟩
theorem yE (m:M w K mg):FnOk P w K mg base CX0 4 m.kX m.gZ ["self","name","start","end","wide","every","since"] (hV K):=by
 refine m.CA.ok aGE ?_ ?_;walk_at"w0";walk_at"w1";obtain⟨p,C,dx,n,st,e,wd,i0,i1,rfl,dc,hp,hn,hs,he,hw,b0,b1,k⟩:=h;walk_at"g2";have nd:=aGE.nd;walk_at"hu";have aGq:= @lH P w K mg base m;have aGi:= @jF P w K mg base m;refine⟨_,(aC (bG (aAa aGq hr (aA (pv 0) (aA (pv 1) (aA (pv 2) (aA (pv 3) (aA (pv 4) aB)))))))
  (aC (bG (bT aGi hr (aA aD (aA (pv 5) (aA aF aB)))))
  (aC (bG (bT aGi hr (aA aD (aA (pv 6) (aA aF aB)))))
  (aC (fD (pv 0) (pv 5) rfl)
  (aE (fD (pv 0) (pv 6) rfl)))))),?_⟩
 refine aL (σ:=[some (.ref p),some (.str n),some (.str st),some (e),some (.int wd),some (.int i0),some (.int i1)]) rfl ?_;walk_at"cx";walk_at"go";exact k _ (by walk_at"sb") (by assumption)
theorem R9 (m:M w K mg):Kc P w K mg base "Beat" m.dR 4 [] (hV K):=⟨_,_,_,_,m.aER,m.aCq,.nil,m.B7,yE m⟩
theorem V9 {Q:VK}{E:XK}{n s:Str}{e:V}(ev:vs++dvs=[.str n,.str s,e,.int wd,.int i0,.int i1])(dc:DCls K C)(hn:aK n=true)(hs:aK s=true)(he:bW e)(hw:0<=wd)(b0:1<=i0)(b1:0<=i1)
  (k:∀p dx H',H p=none->Same H H'->H' p=some (.ins C dx (AD (.str n) (.str s) e (.int wd) (.int i0) (.int i1)))->Q (.ref p) H'):uH C (hV K) dvs E Q vs H :=
 tQ (λp dx H0 Q' h k' s0=>by rw[ev];exact LJ dc h hn hs he hw b0 b1 k') k
local macro_rules| `(tactic| walk_at"rd1")=> `(tactic| ((with_reducible refine' V9 ?v ?d ?hn ?hs ?he ?hw ?b0 ?b1 ?_);(case v=>rfl);(case d=>assumption);(case hn=>assumption);(case hs=>assumption);(case he=>first|assumption|exact .inl rfl|exact .inr ⟨_,rfl,by assumption⟩);(case hw=>walk_at"sd");(case b0=>walk_at"sd");(case b1=>walk_at"sd");intro p' dx' H' n' S' e'))
inductive jG (P:Program)(w:World)(K:W.Frag)(mg:Str->Option Value)(base:Heap)(vs:List V)(H:Hp)(Q:VK)(E:XK):Prop
 | mk (p C dx:Addr) (fs:List (Str×V)) (n s:Str) (e:V) (i0 i1 i2:Int) (_:vs=[.ref p]) (_:DCls K C) (_:Mc P w K mg base C "is_exit" 1 (cM K)) (_:H p=some (.ins C dx fs)) (_:fs.lookup ("is_exit" :Str)=none) (_:fs.lookup ("name" :Str)=some (.str n)) (_:fs.lookup ("start" :Str)=some (.str s)) (_:fs.lookup ("end" :Str)=some e) (_:fs.lookup ("wide" :Str)=some (.int i0)) (_:fs.lookup ("every" :Str)=some (.int i1)) (_:fs.lookup ("since" :Str)=some (.int i2)) (_:aK n=true) (_:aK s=true) (_:bW e) (_:cA i0) (_:cA i1) (_:cA i2) (_:∀H',Same H H'->Q (.str (dP "beat" n s e [i0,i1,i2])) H'):jG P w K mg base vs H Q E
theorem vP {Q:VK}{E:XK}{p:Addr}{fs:List (Str×V)}{n s:Str}{e:V}{i2:Int}(hp:H p=some (.ins C dx fs))(dc:DCls K C)(mc:Mc P w K mg base C "is_exit" 1 (cM K))(l0:fs.lookup ("is_exit" :Str)=none)
  (l1:fs.lookup ("name" :Str)=some (.str n))(l2:fs.lookup ("start" :Str)=some (.str s))(l3:fs.lookup ("end" :Str)=some e)(m0:fs.lookup ("wide" :Str)=some (.int i0))(m1:fs.lookup ("every" :Str)=some (.int i1))(m2:fs.lookup ("since" :Str)=some (.int i2))(hn:aK n=true)(hs:aK s=true)(he:bW e)(b0:cA i0)(b1:cA i1)(b2:cA i2)
  (k:∀H',Same H H'->Q (.str (dP "beat" n s e [i0,i1,i2])) H'):jG P w K mg base [.ref p] H Q E:=⟨_,_,_,_,_,_,_,_,_,_,rfl,dc,mc,hp,l0,l1,l2,l3,m0,m1,m2,hn,hs,he,b0,b1,b2,k⟩
theorem FR (m:M w K mg):FnOk P w K mg base CX0 3 m.qX m.qW.d ["self"] (jG P w K mg base):=by
 refine m.qW.F.ok aHh ?_ ?_;walk_at"w0";walk_at"w1";obtain⟨p,C,dx,fs,n,st,e,i0,i1,i2,rfl,dc,mc,hp,l0,l1,l2,l3,m0,m1,m2,hn,hs,he,b0,b1,b2,k⟩:=h;walk_at"g2";have nd:=aHh.nd;walk_at"hu";have aGk:= @j7 P w K mg base m;refine⟨_,(aE (aP (bT aGk hr (aA aD (aA (pv 0) (aA (bM (aA (bS (pv 0) rfl) (aA (bS (pv 0) rfl) (aA (bS (pv 0) rfl) aB)))) aB)))))),?_⟩;refine aL (σ:=[some (.ref p)]) rfl ?_;walk_at"cx";walk_at"go";exact NV (ns:=[i0,i1,i2]) (by walk_at"hp") (SqL.of (by assumption)) dc mc l0 l1 l2 l3 (by rw[aG];decide) hn hs he (by simp) (aF9 b0 b1 b2) (λH2 s2=>k H2 (by walk_at"sm"))
theorem FG (m:M w K mg):Mc P w K mg base m.dR "words" 3 (jG P w K mg base):=⟨_,_,_,m.oV.ic.cl,m.GA,m.qW.b,FR m⟩
local macro_rules| `(tactic| walk_at"rd1")=> `(tactic| ((with_reducible refine' vP ?e ?d ?m ?l0 ?l1 ?l2 ?l3 ?m0 ?m1 ?m2 ?hn ?hs ?he ?b0 ?b1 ?b2 ?_);(case e=>walk_at"hp");(case d=>assumption);(case m=>assumption);(case l0=>walk_at"lk");(case l1=>walk_at"lk");(case l2=>walk_at"lk");(case l3=>walk_at"lk");(case m0=>walk_at"lk");(case m1=>walk_at"lk");(case m2=>walk_at"lk");(case hn=>assumption);(case hs=>assumption);(case he=>assumption);(case b0=>exact⟨by omega,by omega⟩);(case b1=>exact⟨by omega,by omega⟩);(case b2=>exact⟨by omega,by omega⟩);intro H' S'))
local macro_rules| `(tactic| walk_at"rd1")=> `(tactic| ((with_reducible refine' mQ ?d ?e ?hn ?hs ?he ?hw ?_);(case e=>walk_at"hp");(case d=>assumption);(case hn=>assumption);(case hs=>assumption);(case he=>assumption);(case hw=>walk_at"sd");intro H' B' e'))
abbrev vR (q n s e a:V):List (Str×V):=cG "turn" a (cG "inner" q (kE n s e (.int 1)))
inductive iC (K:W.Frag)(vs:List V)(H:Hp)(Q:VK)(E:XK):Prop
 | mk (p q C dx D dxq:Addr) (fsq:List (Str×V)) (n s:Str) (e:V) (a:Int) (_:vs=[.ref p,.ref q,.int a]) (_:DCls K C) (_:DCls K D) (_:H p=some (.ins C dx [])) (_:H q=some (.ins D dxq fsq)) (_:fsq.lookup ("name" :Str)=some (.str n)) (_:fsq.lookup ("start" :Str)=some (.str s)) (_:fsq.lookup ("end" :Str)=some e) (_:aK n=true) (_:aK s=true) (_:bW e) (_:0<=a) (_:∀H',SameBut p H H'->H' p=some (.ins C dx (vR (.ref q) (.str n) (.str s) e (.int a)))->Q .non H'):iC K vs H Q E
theorem LO {Q:VK}{E:XK}{p D:Addr}{n s:Str}{e:V}{a:Int}(dc:DCls K C)(dd:DCls K D)(hp:H p=some (.ins C dx []))(hq:H q=some (.ins D dxq fsq))(l1:fsq.lookup ("name" :Str)=some (.str n))(l2:fsq.lookup ("start" :Str)=some (.str s))(l3:fsq.lookup ("end" :Str)=some e)(hn:aK n=true)(hs:aK s=true)(he:bW e)(ha:0<=a)
  (k:∀H',SameBut p H H'->H' p=some (.ins C dx (vR (.ref q) (.str n) (.str s) e (.int a)))->Q .non H'):iC K [.ref p,.ref q,.int a] H Q E:=⟨_,_,_,_,_,_,_,_,_,_,_,rfl,dc,dd,hp,hq,l1,l2,l3,hn,hs,he,ha,k⟩
theorem zN (m:M w K mg):FnOk P w K mg base CX0 4 m.kT m.kM.d ["self","door","turn"] (iC K):=by
 refine m.kM.F.ok aGJ ?_ ?_;walk_at"w0";walk_at"w1";obtain⟨p,q,C,dx,D,dxq,fsq,n,st,e,a,rfl,dc,dd,hp,hq,l1,l2,l3,hn,hs,he,ha,k⟩:=h;walk_at"g2";have nd:=aGJ.nd;walk_at"hu";have aGi:= @jF P w K mg base m;have DD_Door___init___1:=sF (P:=P) (w:=w) (base:=base) m;refine⟨_,(aC (bG (aCY DD_Door___init___1 hr (aA (pv 0) (aA (bS (pv 1) rfl) (aA (bS (pv 1) rfl) (aA (bS (pv 1) rfl) aB))))))
  (aC (bG (bT aGi hr (aA aD (aA (pv 2) (aA aF aB)))))
  (aC (fD (pv 0) (pv 1) rfl)
  (aE (fD (pv 0) (pv 2) rfl))))),?_⟩
 refine aL (σ:=[some (.ref p),some (.ref q),some (.int a)]) rfl ?_;walk_at"cx";walk_at"go";refine XG ?_;walk_at"go";show dE K [.ref p,.str n,.str st,e,.int 1] _ _ _;walk_at"go";exact k _ (by walk_at"sb") (by assumption)
theorem UH (m:M w K mg):Kc P w K mg base "Shut" m.c6 4 [] (iC K):=⟨_,_,_,_,m.aEP,m.aCo,.nil,m.kM.b,zN m⟩
theorem X7 {Q:VK}{E:XK}{D:Addr}{n s:Str}{e:V}{a:Int}(ev:vs++dvs=[.ref q,.int a])(dc:DCls K C)(dd:DCls K D)(hq:H q=some (.ins D dxq fsq))(l1:fsq.lookup ("name" :Str)=some (.str n))(l2:fsq.lookup ("start" :Str)=some (.str s))(l3:fsq.lookup ("end" :Str)=some e)(hn:aK n=true)(hs:aK s=true)(he:bW e)(ha:0<=a)
  (k:∀p dx H',H p=none->Same H H'->H' p=some (.ins C dx (vR (.ref q) (.str n) (.str s) e (.int a)))->Q (.ref p) H'):uH C (iC K) dvs E Q vs H :=
 tQ (λp dx H0 Q' h k' s0=>by rw[ev];exact LO dc dd h (s0 _ _ hq) l1 l2 l3 hn hs he ha k') k
inductive m8 (CD CS:Addr)(K:W.Frag)(vs:List V)(H:Hp)(Q:VK)(E:XK):Prop
 | mk (p dx:Addr) (fs:List (Str×V)) (q dxq:Addr) (fsq:List (Str×V)) (n s:Str) (e:V) (wd a:Int) (_:vs=[.ref p]) (_:H p=some (.ins CS dx fs)) (_:fs.lookup ("inner" :Str)=some (.ref q)) (_:fs.lookup ("turn" :Str)=some (.int a)) (_:H q=some (.ins CD dxq fsq)) (_:fsq.lookup ("words" :Str)=none) (_:fsq.lookup ("is_exit" :Str)=none) (_:fsq.lookup ("name" :Str)=some (.str n)) (_:fsq.lookup ("start" :Str)=some (.str s)) (_:fsq.lookup ("end" :Str)=some e) (_:fsq.lookup ("wide" :Str)=some (.int wd)) (_:aK n=true) (_:aK s=true) (_:bW e) (_:cA wd) (_:cA a) (_:∀H',Same H H'->Q (.str (Txt.join " " ["shut",aJ a,dP "door" n s e [wd]])) H'):m8 CD CS K vs H Q E
theorem yA (z:Str):∀(x:Str) (ys:List Str),(Txt.join z (x::ys)).length<=((x::ys).map (·.length)).sum+(x::ys).length * z.length
 | x,[]=>by rw[dJ];simp
 | x,y::r=>by
  have h:=yA z y r;rw[bL,bA,bA];simp only[List.map_cons,List.sum_cons,List.length_cons,Nat.add_mul,Nat.one_mul]at *
  lia
theorem AK {n s:Str}{e:V}(h1:kind.length<=8)(h2:aK n=true)(h3:aK s=true)(he:bW e)(h5:ns.length<=3)(hb:∀i∈ns,cA i):(dP kind n s e ns).length<=200 * 4:=by
 have h2':=cB h2;have h3':=cB h3;have h4:(cP e).length<=8:=by
  rcases he with rfl|⟨z,rfl,hz⟩
  .show ("-" :Str).length<=8;rw[aG];decide
  .exact cB hz
 have e1:=yA " " kind ([n,s,cP e]++ns.map aJ);have e0:=iK 40 ([kind,n,s,cP e]++ns.map aJ) λy hy=>by
  rcases List.mem_append.mp hy with h|h
  .simp only[List.mem_cons,List.not_mem_nil,or_false]at h;rcases h with rfl|rfl|rfl|rfl<;>lia
  .obtain⟨i,hi,rfl⟩:=List.mem_map.mp h;exact tO (hb i hi).1 (hb i hi).2
 have e2:([kind,n,s,cP e]++ns.map aJ).length<=7:=by simp;lia
 have e3:(" " :Str).length=1:=by rw[aG];rfl
 rw[e3]at e1;have e4:kind::([n,s,cP e]++ns.map aJ)=[kind,n,s,cP e]++ns.map aJ:=rfl;rw[e4]at e1;unfold dP
 lia
theorem FH (m:M w K mg):FnOk P w K mg base CX0 5 m.qZ m.qS.d ["self"] (m8 m.cF m.c6 K):=by
 refine m.qS.F.ok aHa ?_ ?_;walk_at"w0";walk_at"w1";obtain⟨p,dx,fs,q,dxq,fsq,n,st,e,wd,a,rfl,hp,l1,l2,hq,l0,l00,l3,l4,l5,l6,hn,hs,he,bw,ba,k⟩:=h;walk_at"g2";have nd:=aHa.nd;walk_at"hu";have aHn:=m.j3;have aHF:=m.oU;have aH4:= @uT P w K mg base m;have aHr:= @kH P w K mg base m;refine⟨_,(aE (aP (bY aD (by exact(aA (bM (aA aD (aA (cD fE rfl m.kO hZ (aA (bS (pv 0) rfl) aB)) (aA (sW 3 hr (bS (pv 0) rfl)) aB)))) aB))))),?_⟩;refine aL (σ:=[some (.ref p)]) rfl ?_;walk_at"cx";obtain⟨b00,b01⟩:=ba;have hz':=AK (kind:= "door") (n:=n) (s:=st) (e:=e) (ns:=[wd]) (by rw[aG];decide) hn hs he (by show 1<=3;decide) (aC4 bw);walk_at"go";refine oW hq aHn aHr l00 l3 l4 l5 l6 hn hs he bw λH1 s1=> ?_;walk_at"go";refine gG (ys:=["shut",aJ a,dP "door" n st e [wd]]) (SqL.of (by assumption)) ?_ ?_
 .simp only[List.map_cons,List.map_nil,List.sum_cons,List.sum_nil,List.length_cons,List.length_nil];walk_at"sz"
 .exact k _ (by walk_at"sm")
theorem FO (m:M w K mg):Mc P w K mg base m.c6 "words" 5 (m8 m.cF m.c6 K):=⟨_,_,_,m.oU.ic.cl,m.GB,m.qS.b,FH m⟩
def jK (c:Nat):Bool:=decide (48<=c)&&decide (c<=57)
def wrB (x:Str):Bool:=decide (1<=x.length)&&decide (x.length<=60)&&x.cps.toList.all jK&&(decide (x= "0")|| !d2 x "0")
theorem aFe:("0" :Str).cps.toList=[48]:=by decide +kernel
theorem aE0:("9" :Str).cps.toList=[57]:=by decide +kernel
inductive GV (vs:List V)(H:Hp)(Q:VK)(E:XK):Prop
 | mk (x:Str) (_:vs=[.str x]) (_:x.length<=1000000) (_:∀H',Same H H'->Q (.bl (wrB x)) H'):GV vs H Q E
theorem aFV {Q:VK}{E:XK}(hl:x.length<=1000000)(h:∀H',Same H H'->Q (.bl (wrB x)) H'):GV [.str x] H Q E:=⟨_,rfl,hl,h⟩
theorem u5 (m:M w K mg):FnOk P w K mg base CX0 1 m.iF m.fG.d ["text"] (GV):=by
 refine m.fG.F.ok aGs ?_ ?_;walk_at"w0";walk_at"w1";obtain⟨x,rfl,hl,k⟩:=h;walk_at"g2";have nd:=aGs.nd;walk_at"hu";obtain⟨aH3,mD⟩:=m.mD;refine⟨_,(aC (bH (PW.pt (aAc (hG (YF GL GL aF (bD vE rfl m.eK c5 (aA (pv 0) aB)) (MQ rfl mD))) (UD (hG (eY (bD (yK rfl) rfl m.R0 IK (aA (dG (N:=["sign"]) (nl:=1) (ci:=[]) rfl (blk (s.heap.objs.size+1) rfl rfl rfl (by kernel_rfl)) (SG (pv 0)) (λ_ _ _ _=>(aZ (i:=0) (show (["sign"]:List Str).Nodup by decide +kernel) rfl (by walk_at"oi"))) (λ_ _ _ _=>dO) (λ_ _ _ _=>(zD AX AX aD (pv 0) aD))) aB))))))) (aE (aP t9)) aS)
  (aE (aP (aFc (sU cS (pv 0) aD (bE _)) (A3 (IE (gP PySem.F.plainAttrs_str PySem.F.slot_str_startswith PySem.F.type_str_startswith EL (pv 0) (aA aD aB)))))))),?_⟩
 refine aL (σ:=[some (.str x)]) rfl ?_;walk_at"cx";have hl':x.length<=sizeLine:=by rw[sizeLine_eq];lia
 walk_at"go"
 by_cases h2:1<=(x.length:Int)
 .rw[if_pos (decide_eq_true h2)];walk_at"go"
  by_cases h3:(x.length:Int)<=60
  .rw[decide_eq_true h3];walk_at"go";refine MK x.cps.size (λi=> .bl (jK (x.cps.toList.getD i 0))) hl' (λH'=>H'=H) rfl (λ_ _=>rfl) (λi _ hi _=>hi) ?_ ?_ ?_ ?_ ?_
   .rintro i _ y H' hi rfl hq_;walk_at"g1";obtain⟨rfl,c,hc,rfl⟩:=hq_;walk_at"g2";refine⟨⟨rfl,λj v hv=> ?_⟩,rfl,?_⟩
    .match j,hv with
     | 0,hv=>cases hv
     | j+1,hv=>cases hv
    .have hc':x.cps.toList.getD i 0=c:=by
      rw[List.getD_eq_getElem?_getD,Array.getElem?_toList,hc];rfl
     refine⟨_,rfl,_,_,rfl,rfl,_,rfl,?_⟩;rw[aFe,hc'];refine zO (λh4=>⟨_,_,rfl,rfl,?_,rfl⟩) (λh4=>⟨?_,rfl⟩)
     .have h4':48<=c:=by rw[show (⟨#[c]⟩:Str).cps.toList=[c] from rfl,le1]at h4;exact of_decide_eq_true h4
      rw[aE0,show (⟨#[c]⟩:Str).cps.toList=[c] from rfl,le1];unfold jK;rw[decide_eq_true h4',Bool.true_and]
     .have h4':¬48<=c:=by rw[show (⟨#[c]⟩:Str).cps.toList=[c] from rfl,le1]at h4;exact λz=>h4 (decide_eq_true z)
      unfold jK;rw[decide_eq_false h4',Bool.false_and]
   .exact λ_ _ _ _ f q=>f _ _ q
   .rintro σ H Q Q' f hq_;walk_at"g1";obtain⟨v,e,i,j,e1,e2,k,e3,q⟩:=hq_;walk_at"g2";refine⟨v,e,i,j,e1,e2,k,e3,?_⟩;revert q
    split
    .rintro hq_;walk_at"g1";obtain⟨i,j,e1,e2,q⟩:=hq_;walk_at"g2";exact⟨i,j,e1,e2,f _ _ q⟩
    .exact λq=>f _ _ q
   .exact λ_ _ _ _ _ f q=>f _ _ q
   .rintro _ rfl p hp;refine⟨p,(List.range x.cps.size).map (λi=>jK (x.cps.toList.getD i 0)),rfl,SqL.of ?_,?_⟩
    .rw[aU,List.map_map];rfl
    .have e:=v6 jK 0 x.cps.toList;rw[Array.length_toList]at e;rw[e];have sm:=l7 (o:= .lst ((List.range x.cps.size).map λi=>V.bl (jK (x.cps.toList.getD i 0)))) hp;have e2:wrB x=(x.cps.toList.all jK&&(decide (x= "0")|| !d2 x "0")):=by
      unfold wrB;rw[decide_eq_true (show 1<=x.length by lia),decide_eq_true (show x.length<=60 by lia)];rfl
     have kk:=k _ sm;rw[e2]at kk;cases hd:x.cps.toList.all jK with
     | true =>
      rw[hd]at kk;walk_at"go"
      by_cases h0:x= "0"
      .rw[if_pos (decide_eq_true h0)];rw[decide_eq_true h0]at kk;exact kk
      .rw[if_neg (by simpa using h0)];rw[decide_eq_false h0]at kk;rw[Bool.true_and,Bool.false_or]at kk;walk_at"go";exact⟨_,_,rfl,rfl,_,rfl,kk⟩
     | false =>
      rw[hd]at kk;walk_at"go";exact kk
  .rw[decide_eq_false h3];have kk:=k _ (Same.refl _);rw[show wrB x=false by unfold wrB;rw[decide_eq_false (show ¬x.length<=60 by lia),Bool.and_false];rfl]at kk;walk_at"go";exact kk
 .rw[if_neg (by simpa using h2)];have kk:=k _ (Same.refl _);rw[show wrB x=false by unfold wrB;rw[decide_eq_false (show ¬1<=x.length by lia)];rfl]at kk;walk_at"go";exact kk
theorem u4 (m:M w K mg):Fc P w K mg base "is_written_whole" 1 ["text"] (GV):=⟨_,_,m.v8,m.fG.F.kp,m.fG.b,u5 m⟩
inductive j5 (K:W.Frag)(N:Addr)(vs:List V)(H:Hp)(Q:VK)(E:XK):Prop
 | mk (x:V) (n:String) (_:vs=[x]) (_:BTy K H x n) (_:(n= "str" ->Q .non H)) (_:(n≠ "str" ->E (.ref N) none H)):j5 K N vs H Q E
theorem J6 {N:Addr}{Q:VK}{E:XK}(h:Q .non H):j5 K N [.str x] H Q E:=⟨_,_,rfl,.str x,λ_=>h,λz=>absurd rfl z⟩
theorem KL (m:M w K mg):FnOk P w K mg base (CXE P w) 1 m.sK m.mT.d ["thing"] (j5 K m.aO):=by
 refine m.mT.F.okE aHo ?_ ?_;walk_at"w0";walk_at"w1";obtain⟨x,n,rfl,b,k,k2⟩:=h;walk_at"g2";have nd:=aHo.nd;walk_at"hu";refine⟨_,(aE (bH (hG (eY (bD uL rfl m.eJ dL (aA (pv 0) (aA (A0 rfl m.kO hZ) aB))))) (aE (dM m.fK m.fW i8 (aA aD aB))) aS)),?_⟩;refine aL (σ:=[some (x)]) rfl ?_;walk_at"cx";refine⟨_,rfl,_,_,_,_,_,rfl,b.ty,rfl,GW b "str" (.inr (.inr rfl)),_,rfl,?_⟩
 by_cases hn:n= "str"
 .subst hn;walk_at"go";exact k rfl
 .have k2:=k2 hn;have hb:isB n "str" =false:=by cases b<;>first|exact absurd rfl hn|rfl
  rw[hb];walk_at"go";exact⟨(by show 1<=sizeLine;decide),k2⟩
theorem qA (m:M w K mg):FcE P w K mg base "need_text" 1 ["thing"] (j5 K m.aO):=⟨_,_,m.LY,m.mT.F.kp,m.mT.b,KL m⟩
local macro_rules| `(tactic| walk_at"rd1")=> `(tactic| first|(with_reducible refine J6 ?_))
def b6 (x:Str):Int:=(NumText.digitsVal x.cps.toList:Nat)
theorem aDB (h:wrB x=true):PySem.intText? x=some (b6 x)/\x.length<=60:=by
 unfold wrB at h;simp only[Bool.and_eq_true,decide_eq_true_eq]at h;walk_at"g1";obtain⟨⟨⟨h1,h2⟩,h3⟩,_⟩:=h;walk_at"g2";refine⟨intText_digits (λc hc=> ?_) (λz=> ?_) (by lia),h2⟩
 .have:=List.all_eq_true.mp h3 c hc;unfold jK at this
  simpa using this
 .have:x.length=0:=by
   have e:x.length=x.cps.toList.length:=by rw[Array.length_toList];rfl
   rw[e,z];rfl
  lia
inductive rS (N:Addr)(vs:List V)(H:Hp)(Q:VK)(E:XK):Prop
 | mk (x:Str) (_:vs=[.str x]) (_:x.length<=1000000) (_:(wrB x=true->∀H',Same H H'->Q (.int (b6 x)) H')) (_:(wrB x=false->∀H',Same H H'->E (.ref N) none H')):rS N vs H Q E
theorem zM {N:Addr}{Q:VK}{E:XK}(hl:x.length<=1000000)(h:wrB x=true->∀H',Same H H'->Q (.int (b6 x)) H')(h2:wrB x=false->∀H',Same H H'->E (.ref N) none H'):rS N [.str x] H Q E:=⟨_,rfl,hl,h,h2⟩
theorem F6 (m:M w K mg):FnOk P w K mg base (CXE P w) 2 m.qO m.kW.d ["text"] (rS m.aO):=by
 refine m.kW.F.okE aG7 ?_ ?_;walk_at"w0";walk_at"w1";obtain⟨x,rfl,hl,k,k2⟩:=h;walk_at"g2";have nd:=aG7.nd;walk_at"hu";have aHj:= @u4 P w K mg base m;have aGn:= @qA P w K mg base m;refine⟨_,(aC (bG (dH aGn hr jH (aA (pv 0) aB)))
  (aC (bH (hG (eY (bT aHj hr (aA (pv 0) aB)))) (aE (dM m.fK m.fW i8 (aA aD aB))) aS)
  (aE (aP (cD VI rfl m.aAu TV (aA (pv 0) aB)))))),?_⟩
 refine aL (σ:=[some (.str x)]) rfl ?_;walk_at"cx";walk_at"go";refine aFV hl λH1 S1=> ?_;cases e:wrB x with
 | true =>
  walk_at"go";obtain⟨hv,h60⟩:=aDB e;exact⟨x,_,rfl,hv,by lia,k e _ S1⟩
 | false =>
  walk_at"go";exact⟨(by show 1<=sizeLine;decide),k2 e _ S1⟩
theorem nH (m:M w K mg):FcE P w K mg base "read_whole" 2 ["text"] (rS m.aO):=⟨_,_,m.K8,m.kW.F.kp,m.kW.b,F6 m⟩
inductive yQ (N:Addr)(vs:List V)(H:Hp)(Q:VK)(E:XK):Prop
 | mk (x:Str) (_:vs=[.str x]) (_:x.length<=10000) (_:(aK x=true->∀H',Same H H'->Q (.str x) H')) (_:(aK x=false->∀H',Same H H'->E (.ref N) none H')):yQ N vs H Q E
theorem HJ (m:M w K mg):FnOk P w K mg base (CXE P w) 2 m.sM m.mY.d ["text"] (yQ m.aO):=by
 refine m.mY.F.okE aHm ?_ ?_;walk_at"w0";walk_at"w1";obtain⟨x,rfl,hl,k,k2⟩:=h;walk_at"g2";have nd:=aHm.nd;walk_at"hu";have aGy:= @tR P w K mg base m;refine⟨_,(aC (bH (hG (eY (bT aGy hr (aA (pv 0) aB)))) (aE (dM m.fK m.fW i8 (aA aD aB))) aS)
  (aE (aP (pv 0)))),?_⟩
 refine aL (σ:=[some (.str x)]) rfl ?_;walk_at"cx";walk_at"go";refine⟨.str x,_,rfl,.str x,λz e=>(by cases e;exact hl),λH1 S1=> ?_⟩;cases e:aK x with
 | true =>
  rw[show nmB (.str x)=true from e];walk_at"go";exact k e _ S1
 | false =>
  rw[show nmB (.str x)=false from e];walk_at"go";exact⟨(by show 1<=sizeLine;decide),k2 e _ S1⟩
theorem IQ (m:M w K mg):FcE P w K mg base "read_name" 2 ["text"] (yQ m.aO):=⟨_,_,m.LX,m.mY.F.kp,m.mY.b,HJ m⟩
inductive zA (N:Addr)(vs:List V)(H:Hp)(Q:VK)(E:XK):Prop
 | mk (f x:Str) (_:vs=[.str f,.str x]) (_:x.length<=10000) (_:((f= "name" /\(aK x=true->∀H',Same H H'->Q (.str x) H')/\(aK x=false->∀H',Same H H'->E (.ref N) none H'))∨(f≠ "name" /\(wrB x=true->∀H',Same H H'->Q (.int (b6 x)) H')/\(wrB x=false->∀H',Same H H'->E (.ref N) none H')))):zA N vs H Q E
theorem JW (m:M w K mg):FnOk P w K mg base (CXE P w) 3 m.sO m.mW.d ["form","word"] (zA m.aO):=by
 refine m.mW.F.okE aHq ?_ ?_;walk_at"w0";walk_at"w1";obtain⟨f,x,rfl,hl,hc⟩:=h;walk_at"g2";have nd:=aHq.nd;walk_at"hu";have aHP:= @IQ P w K mg base m;have aGl:= @nH P w K mg base m;refine⟨_,(aE (aP (yX (a9 cS (pv 0) aD (bE _)) (dH aHP hr jH (aA (pv 1) aB)) (dH aGl hr jH (aA (pv 1) aB))))),?_⟩;refine aL (σ:=[some (.str f),some (.str x)]) rfl ?_;walk_at"cx";walk_at"go";rcases hc with⟨hf,k,k2⟩|⟨hf,k,k2⟩
 .rw[decide_eq_true hf];walk_at"go";exact⟨x,rfl,hl,k,k2⟩
 .rw[decide_eq_false hf];walk_at"go";exact zM (by lia) k k2
theorem HH (m:M w K mg):FcE P w K mg base "read_part" 3 ["form","word"] (zA m.aO):=⟨_,_,m.LW,m.mW.F.kp,m.mW.b,JW m⟩
def rdF (f x:Str):Bool:=if f= "name" then aK x else wrB x
def rdV (f x:Str):V:=if f= "name" then .str x else .int (b6 x)
def rd2 (f:Str)(ws:List Str):Option (V×Int):=match ws with
 | [x,y]=>if rdF f x&&wrB y then some (rdV f x,b6 y) else none
 | _=>none
inductive vJ (K:W.Frag)(N:Addr)(vs:List V)(H:Hp)(Q:VK)(E:XK):Prop
 | mk (p q:Addr) (f:Str) (ws:List Str) (_:vs=[.ref p,.ref q]) (_:H p=some (.tup [.str f,.str "number"])) (_:H q=some (.lst (ws.map V.str))) (_:(∀x∈ws,x.length<=10000)) (_:(∀v n,rd2 f ws=some (v,n)->∀r H',H r=none->Same H H'->H' r=some (.tup [v,.int n])->Q (.ref r) H')) (_:(rd2 f ws=none->Ref0 N H E)):vJ K N vs H Q E
theorem FU (m:M w K mg):FnOk P w K mg base (CXE P w) 4 m.qV m.kU.d ["forms","words"] (vJ K m.aO):=by
 refine m.kU.F.okE aG9 ?_ ?_;walk_at"w0";walk_at"w1";obtain⟨p,q,f,ws,rfl,hp,hq,hx,k,k2⟩:=h;walk_at"g2";have nd:=aG9.nd;walk_at"hu";have aHO:= @HH P w K mg base m;refine⟨_,(aC (bH (a9 GM (bD cE rfl m.eK c5 (aA (pv 0) aB)) (bD cE rfl m.eK c5 (aA (pv 1) aB)) (bE _)) (aE (dM m.fK m.fW i8 (aA aD aB))) aS)
  (aE (aP (cD uS rfl m.NN JD (aA (IB (N:=["form","word"]) (nl:=2) (ci:=[]) GY rfl (blk (s.heap.objs.size+1) rfl rfl rfl (by kernel_rfl)) (aD6 rfl m.aFP (aA (pv 0) (aA (pv 1) aB))) (λ_ _ _ _=>(wH (K:=K) (n:=2) rfl (fH (aZ (i:=0) (show (["form","word"]:List Str).Nodup by decide +kernel) rfl (by walk_at"oi")) (fH (aZ (i:=1) (show (["form","word"]:List Str).Nodup by decide +kernel) rfl (by walk_at"oi")) tI)))) (λ_ _ _ _=>dO) (λ_ _ _ _=>(dH aHO hr GN (aA (pv 0) (aA (pv 1) aB))))) aB))))),?_⟩
 refine aL (σ:=[some (.ref p),some (.ref q)]) rfl ?_;walk_at"cx";walk_at"go";refine⟨p,_,rfl,.inr (SqT.of hp),?_⟩;walk_at"go";rw[List.length_map]
 by_cases h2:ws.length=2
 .rw[decide_eq_true (by show ((2:Nat):Int)=_;rw[h2])];obtain⟨x,y,rfl⟩:∃x y,ws=[x,y]:=by
   match ws,h2 with
   | [x,y],_=>exact⟨x,y,rfl⟩
  have hxx:=hx x (.head _);have hxy:=hx y (.tail _ (.head _));have k2':rdF f x=false∨wrB y=false->Ref0 m.aO H E:=λhb=>k2 (by
   show (if (rdF f x&&wrB y)=true then some (rdV f x,b6 y) else none)=none;rw[if_neg];rcases hb with h|h<;>rw[h]<;>simp)
  walk_at"go";unfold aCZ;walk_at"go";refine⟨p,q,_,_,rfl,SqT.of hp,SqL.of hq,?_⟩;refine aEG (λi u _=>(i=0->rdF f x=true/\u=rdV f x)/\(i=1->wrB y=true/\u= .int (b6 y))) (λ_ _ _ _ h _=>h) (by show 2<=sizeLine;decide) (rest:=[]) (by rfl) (SqT.of hp) (SqL.of hq) rfl ?_ ?_
  .intro i u v' H1 hu hv s1 R hR;walk_at"go"
   match i,hu,hv with
   | 0,hu,hv =>
    cases hu;cases hv;refine⟨_,_,rfl,hxx,?_⟩
    by_cases hf:f= "name"
    .refine .inl ⟨hf,λhw H2 s2=>hR _ _ ⟨λ_=>⟨?_,?_⟩,λh=>absurd h (by decide)⟩ s2,λhw H2 s2=>k2' (.inl ?_) H2 (s1.trans s2)⟩
     .unfold rdF;rw[if_pos hf];exact hw
     .unfold rdV;rw[if_pos hf]
     .unfold rdF;rw[if_pos hf];exact hw
    .refine .inr ⟨hf,λhw H2 s2=>hR _ _ ⟨λ_=>⟨?_,?_⟩,λh=>absurd h (by decide)⟩ s2,λhw H2 s2=>k2' (.inl ?_) H2 (s1.trans s2)⟩
     .unfold rdF;rw[if_neg hf];exact hw
     .unfold rdV;rw[if_neg hf]
     .unfold rdF;rw[if_neg hf];exact hw
   | 1,hu,hv =>
    cases hu;cases hv;exact⟨_,_,rfl,hxy,.inr ⟨by decide,λhw H2 s2=>hR _ _ ⟨λh=>absurd h (by decide),λ_=>⟨hw,rfl⟩⟩ s2,λhw H2 s2=>k2' (.inr hw) H2 (s1.trans s2)⟩⟩
   | i+2,hu,hv=>cases hu
  .intro zs H1 s1 hzl hzs;obtain⟨v1,v2,rfl⟩:∃v1 v2,zs=[v1,v2]:=by
    match zs,hzl with
    | [x,y],_=>exact⟨x,y,rfl⟩
   obtain⟨w1,rfl⟩:=(hzs 0 v1 rfl).1 rfl;obtain⟨w2,rfl⟩:=(hzs 1 v2 rfl).2 rfl;have e:rd2 f [x,y]=some (rdV f x,b6 y):=by
    show (if (rdF f x&&wrB y)=true then some (rdV f x,b6 y) else none)=_;rw[w1,w2];rfl
   walk_at"go";rename_i q2 H2 n2 S2 e2;have s3:=s1.trans S2;refine⟨q2,_,rfl,.inl ⟨SqL.of e2,λl hl3=> ?_⟩⟩;refine k _ _ e l _ ?_ (s3.trans (l7 hl3)) aU;cases hq':H l with
   | none=>rfl
   | some u=>rw[s3 _ _ hq']at hl3;cases hl3
 .rw[decide_eq_false (by show ¬((2:Nat):Int)=_;lia)];have e:rd2 f ws=none:=by
   match ws,h2 with
   | [],_=>rfl
   | [_],_=>rfl
   | [_,_],h=>exact absurd rfl h
   | _::_::_::_,_=>rfl
  walk_at"go";exact⟨(by show 1<=sizeLine;decide),k2 e _ (Same.refl _)⟩
theorem FT (m:M w K mg):FcE P w K mg base "read_parts" 4 ["forms","words"] (vJ K m.aO):=⟨_,_,m.KR,m.kU.F.kp,m.kU.b,FU m⟩
theorem xV {γ:Type}{F:α->β->Prop}{G:γ->β->Prop}{f:α->γ}(h:∀a b,F a b->G (f a) b):∀{as:List α}{bs:List β},Paired F as bs->Paired G (as.map f) bs
 | _,_,.nil=> .nil
 | _,_,.cons a t=> .cons (h _ _ a) (xV h t)
theorem jC:("\n" :Str)=⟨#[10]⟩:=by decide +kernel
theorem rP:(" " :Str)=⟨#[32]⟩:=by decide +kernel
theorem qG {Q:VK}(c:Nat)(hy:y=⟨#[c]⟩)(hz:z.length<=1000000)(h:∀p H',H p=none->Same H H'->H' p=some (.lst ((Txt.split z y).map V.str))->Q (.ref p) H'):JX (.str z) [.str y] H Q:=by
 subst hy;exact⟨z,c,rfl,rfl,hz,iH h⟩
local macro_rules| `(tactic| walk_at"rd1")=> `(tactic| first|(with_reducible refine aBq ?_)|(with_reducible refine rd_txSeq ?_)|(with_reducible refine WB ?_))
def PR (rs:List Str)(WS:List (List Str)):Prop:=Paired (λr ws=>Txt.split r " " =ws/\r.length<=1000000) rs WS
def hdB (first:Str)(ws:List Str):Bool:=decide (ws.head? =some first)
def TupV (H:Hp)(u:V)(v:V×Int):Prop:=∃q,u= .ref q/\H q=some (.tup [v.1,.int v.2])
theorem TupV.same {u:V}{v:V×Int}(h:TupV H u v)(s:Same H H'):TupV H' u v:=let ⟨q,a,b⟩:=h;⟨q,a,s _ _ b⟩
theorem Z3 {F:α->β->Prop}{G:β->α->Prop}(h:∀a b,F a b->G b a):∀{as:List α}{bs:List β},Paired F as bs->Paired G bs as
 | _,_,.nil=> .nil
 | _,_,.cons a t=> .cons (h _ _ a) (Z3 h t)
theorem fP {p:Addr}(s:Same H H')(h:H' p=none):H p=none:=by
 cases e:H p with
 | none=>rfl
 | some u=>rw[s _ _ e]at h;cases h
theorem EH {f:Str}:∀{WS:List (List Str)}{us:List V},Paired (λws u=>∃v,rd2 f ws.tail=some v/\TupV H u v) WS us->∃vs,Paired (λws v=>rd2 f ws.tail=some v) WS vs/\Paired (TupV H) us vs
 | _,_,.nil=>⟨[],.nil,.nil⟩
 | _,_,.cons ⟨v,h1,h2⟩ t=>by
  obtain⟨vs,a,b⟩:=EH t;exact⟨v::vs,.cons h1 a,.cons h2 b⟩
theorem wK (v:V)(l:List V):iD (v::l) (some 1) none=l:=by
 unfold iD;rw[show (some (1:Int))=some ((1:Nat):Int) from rfl,HT.sIx_nat,List.length_cons,show min 1 (l.length+1)=1 by lia];show l.take (l.length+1 - 1)=l;rw[Nat.add_sub_cancel,List.take_length]
inductive GU (K:W.Frag)(N:Addr)(vs:List V)(H:Hp)(Q:VK)(E:XK):Prop
 | mk (a p:Addr) (rs:List Str) (WS:List (List Str)) (first f:Str) (_:vs=[.ref a,.str first,.ref p]) (_:SqL K H a (rs.map V.str)) (_:H p=some (.tup [.str f,.str "number"])) (_:PR rs WS) (_:(∀ws∈WS,∃h t,ws=h::t/\∀x∈t,x.length<=10000)) (_:rs.length<=20000) (_:((∃ws∈WS,hdB first ws=true/\rd2 f ws.tail=none)->Ref0 N H E)) (_:∀r us rv H',H r=none->Same H H'->H' r=some (.lst us)->Paired (λws v=>rd2 f ws.tail=some v) (WS.filter (hdB first)) rv->Paired (TupV H') us rv->Q (.ref r) H'):GU K N vs H Q E
theorem YO {N:Addr}{Q:VK}{E:XK}{p:Addr}{WS:List (List Str)}{f:Str}(hS:SqL K H a (rs.map V.str))(hp:H p=some (.tup [.str f,.str "number"]))(hW:PR rs WS)(h1:∀ws∈WS,∃h t,ws=h::t/\∀x∈t,x.length<=10000)(hl:rs.length<=20000)(hb:(∃ws∈WS,hdB first ws=true/\rd2 f ws.tail=none)->Ref0 N H E)
  (k:∀r us rv H',H r=none->Same H H'->H' r=some (.lst us)->Paired (λws v=>rd2 f ws.tail=some v) (WS.filter (hdB first)) rv->Paired (TupV H') us rv->Q (.ref r) H'):GU K N [.ref a,.str first,.ref p] H Q E:=⟨_,_,_,_,_,_,rfl,hS,hp,hW,h1,hl,hb,k⟩
theorem AY (m:M w K mg):FnOk P w K mg base (CXE P w) 5 m.mH m.iR.d ["rows","first_word","forms"] (GU K m.aO):=by
 refine m.iR.F.okE aGN ?_ ?_;walk_at"w0";walk_at"w1";obtain⟨a,p,rs,WS,first,f,rfl,hS,hp,hW,h1,hl,hb,k⟩:=h;walk_at"g2";have nd:=aGN.nd;walk_at"hu";have aHM:= @FT P w K mg base m;refine⟨_,(aC (P6 (i:=3) nd rfl (by walk_at"oi") (N:=["row"]) (nl:=1) (ci:=[]) rfl (blk (s.heap.objs.size+1) rfl rfl rfl (by kernel_rfl)) (bZ (pv 0)) (λ_ _ _ _=>(aZ (i:=0) (show (["row"]:List Str).Nodup by decide +kernel) rfl (by walk_at"oi"))) (λ_ _ _ _=>dO) (λ_ _ _ _=>(U2 (K:=K) rfl PySem.F.plainAttrs_str PySem.F.slot_str_split PySem.F.type_str_split JS (pv 0) (aA aD aB))))
  (aE (aP (IB (N:=["words","forms","first_word"]) (nl:=1) (ci:=[2,1]) GY rfl (blk (s.heap.objs.size+1) rfl rfl rfl (by kernel_rfl)) (bZ (pv 3)) (λ_ _ _ _=>(aZ (i:=0) (show (["words","forms","first_word"]:List Str).Nodup by decide +kernel) rfl (by walk_at"oi"))) (λ_ _ _ _=>(J0 (a9 cS (bF (YS (K:=K)) (pv 0) aF (λ_ _=>rfl)) (pv 2) (bE _)))) (λ_ _ _ _=>(dH aHM hr GN (aA (pv 1) (aA (b8 (X1 K rfl) (pv 0) (b9 aF) cW) aB)))))))),?_⟩
 refine aL (σ:=[some (.ref a),some (.str first),some (.ref p),none]) rfl ?_;walk_at"cx";have hWl:=Paired.length hW;walk_at"go";refine gF (α:=List Str) (xs:=WS) (λv ws=>∃r,v= .str r/\Txt.split r " " =ws/\r.length<=1000000) (λ_=>true) (λws y H=>∃q,y= .ref q/\H q=some (.lst (ws.map V.str))) (λ_ _ _ _ ⟨q,h1,h2⟩ s=>⟨q,h1,s _ _ h2⟩) (by rw[sizeLine_eq];lia) (rest:=[]) (by rfl) hS (xV (λr ws h=>⟨r,rfl,h⟩) hW) ?_ ?_ ?_
 .intro v ws H2 _ _ _ R hR;exact hR _ (Same.refl _)
 .rintro v ws H2 ⟨r,rfl,hs,hrl⟩ hm - s2 R hR;walk_at"go";refine qG 32 rP hrl λq4 H4 n4 S4 e4=> ?_;rw[hs]at e4;exact hR _ _ ⟨q4,rfl,e4⟩ S4
 intro ys H1 s1 hys;rw[List.filter_eq_self.mpr (λ_ _=>rfl)]at hys;walk_at"go";rename_i p2 H2 n2 S2 e2;have s02:=s1.trans S2;refine gF (α:=List Str) (xs:=WS) (vs:=ys) (λv ws=>∃q,v= .ref q/\H2 q=some (.lst (ws.map V.str))) (hdB first) (λws y G=>∃v,rd2 f ws.tail=some v/\TupV G y v) (λ_ _ _ _ ⟨v,h1,h2⟩ s=>⟨v,h1,h2.same s⟩) (by rw[sizeLine_eq];lia) (rest:=[some (.ref p),some (.str first)]) (by rfl) (SqL.of e2) (Z3 (λ_ _ h=>h.imp λq z=>⟨z.1,S2 _ _ z.2⟩) hys) ?_ ?_ ?_
 .rintro v ws G ⟨q,rfl,hq⟩ hm s R hR;walk_at"g1";obtain⟨h,t,rfl,_⟩:=h1 ws hm;walk_at"g2";have hqG:=s _ _ hq;have hR':=hR _ (Same.refl _);walk_at"go";refine⟨q,_,_,_,rfl,rfl,SqL.of hqG,bK (j:=0) rfl,?_⟩;walk_at"go";rw[show decide (h=first)=hdB first (h::t) from decide_eq_decide.mpr ⟨λe=>by rw[e];rfl,λe=>Option.some.inj e⟩];exact hR'
 .rintro v ws G ⟨q,rfl,hq⟩ hm hc s R hR;walk_at"g1";obtain⟨h,t,rfl,ht⟩:=h1 ws hm;walk_at"g2";have hqG:=s _ _ hq;have hpG:=s _ _ (s02 _ _ hp);walk_at"go";rename_i q4 H4 n4 S4 e4;have e4':H4 q4=some (.lst (t.map V.str)):=by rw[e4,List.map_cons];exact congrArg (λz=>some (HO.lst z)) (wK _ _)
  refine⟨p,q4,f,t,rfl,S4 _ _ hpG,e4',ht,λv n hv r G' hn s' er=>hR _ _ ⟨(v,n),hv,r,rfl,er⟩ (S4.trans s'),λhv H' s'=>hb ⟨_,hm,hc,hv⟩ H' (s02.trans (s.trans (S4.trans s')))⟩
 intro us H3 s3 hus;obtain⟨rv,ha,hb2⟩:=EH hus;walk_at"go";rename_i r H4 n4 S4 e4;exact k r us rv H4 (fP (s02.trans s3) n4) ((s02.trans s3).trans S4) e4 ha (Paired.imp' (λ_ _ h=>h.same S4) hb2)
theorem B4 (m:M w K mg):FcE P w K mg base "parts_behind" 5 ["rows","first_word","forms"] (GU K m.aO):=⟨_,_,m.D6,m.iR.F.kp,m.iR.b,AY m⟩
def aEA:List V->Hp->VK->Prop:=λvs H Q=>(∃i:Int,vs=[.int i]/\i.natAbs.log2<1920/\Q (.str (toString i)) H)∨∃x:Str,vs=[.str x]/\Q (.str x) H
theorem P7 {X:Cx}:cU X (.type "str") aEA:=by
 intro pins s σ H xs us Q I r h;rcases h with⟨i,rfl,hz,q⟩|⟨x,rfl,q⟩
 .exact fE pins s σ H _ us Q I r ⟨i,rfl,hz,q⟩
 .walk_at"g1";obtain⟨u,rfl,t,rfl⟩:=iJ r;walk_at"g2";exact PySem.P.str_of_str ⟨.str x,H,I,⟨t,rfl⟩,q⟩
def yG:V->Str
 | .int i=>toString i
 | .str x=>x
 | _=>Str.empty
def fR (v:V):Prop:=(∃i:Int,v= .int i/\0<=i/\i<10^60)∨∃x:Str,v= .str x/\x.length<=1000
def qI (vs:List V):Str:=Txt.join " " (vs.map yG)
inductive wI (K:W.Frag)(vs:List V)(H:Hp)(Q:VK)(E:XK):Prop
 | mk (p:Addr) (xs:List V) (_:vs=[.ref p]) (_:SqL K H p xs) (_:(∀v∈xs,fR v)) (_:xs.length<=10) (_:∀H',Same H H'->Q (.str (qI xs)) H'):wI K vs H Q E
theorem BW {Q:VK}{E:XK}{p:Addr}(hS:SqL K H p xs)(ho:∀v∈xs,fR v)(hl:xs.length<=10)(h:∀H',Same H H'->Q (.str (qI xs)) H'):wI K [.ref p] H Q E:=⟨_,_,rfl,hS,ho,hl,h⟩
theorem P2 (h:Paired (λx y=>y=V.str (yG x)) xs ys):ys=(xs.map yG).map V.str:=by
 induction h with
 | nil=>rfl
 | cons r _ ih=>rw[r,ih];rfl
theorem V0 (h:fR v):(yG v).length<=1000:=by
 rcases h with⟨i,rfl,h0,h1⟩|⟨x,rfl,hx⟩
 .exact Nat.le_trans (oS h0 h1 (by decide)) (by decide)
 .exact hx
theorem JU {c:Nat}:∀{l:List Nat},(∀x∈l,x<=c)->l.sum<=l.length * c
 | [],_=>by simp
 | a::l,h=>by
  rw[List.sum_cons,List.length_cons,Nat.succ_mul];have h1:=h a (.head _);have h2:=JU λx hx=>h x (List.mem_cons_of_mem _ hx)
  lia
theorem UO (h0:0<=i)(h1:i<10^60):i.natAbs.log2<1920:=by
 by_cases hz:i.natAbs=0
 .rw[hz];decide
 .refine(Nat.log2_lt hz).mpr ?_;have:i.natAbs<10^60:=by lia
  exact Nat.lt_of_lt_of_le this (by decide)
theorem MS:∀l:List α,Paired (λv x=>v=x) l l
 | []=> .nil
 | _::l=> .cons rfl (MS l)
theorem VJ (m:M w K mg):FnOk P w K mg base CX0 1 m.zU m.uO.d ["parts"] (wI K):=by
 refine m.uO.F.ok aHE ?_ ?_;walk_at"w0";walk_at"w1";obtain⟨p,xs,rfl,hS,ho,hl,k⟩:=h;walk_at"g2";have nd:=aHE.nd;walk_at"hu";refine⟨_,(aE (aP (bY aD (by exact(aA (dG (N:=["part"]) (nl:=1) (ci:=[]) rfl (blk (s.heap.objs.size+1) rfl rfl rfl (by kernel_rfl)) (bZ (pv 0)) (λ_ _ _ _=>(aZ (i:=0) (show (["part"]:List Str).Nodup by decide +kernel) rfl (by walk_at"oi"))) (λ_ _ _ _=>dO) (λ_ _ _ _=>(cD P7 rfl m.kO hZ (aA (pv 0) aB)))) aB))))),?_⟩;refine aL (σ:=[some (.ref p)]) rfl ?_;walk_at"cx";walk_at"go";refine gF (α:=V) (xs:=xs) (vs:=xs) (λv x=>v=x) (λ_=>true) (λx y _=>y=V.str (yG x)) (λ_ _ _ _ h _=>h) (by rw[sizeLine_eq];lia) (rest:=[]) (by rfl) hS (MS xs) ?_ ?_ ?_
 .exact λv x H1 _ _ s1 R hR=>hR _ (Same.refl _)
 .rintro x _ H1 rfl hx - s1 R hR;walk_at"go";rcases ho x hx with⟨i,rfl,h0,h1⟩|⟨z,rfl,hz⟩
  .exact .inl ⟨i,rfl,UO h0 h1,hR _ _ rfl (Same.refl _)⟩
  .exact .inr ⟨z,rfl,hR _ _ rfl (Same.refl _)⟩
 .intro ys H1 s1 hys;rw[List.filter_eq_self.mpr (λ_ _=>rfl)]at hys;have e:=P2 hys;subst e;walk_at"go";rename_i q2 H2 n2 S2 e2;refine gG (SqL.of e2) ?_ (k _ (s1.trans S2));have h1:((xs.map yG).map (·.length)).sum<=((xs.map yG).map (·.length)).length * 1000:=JU λx hx=>by
   obtain⟨z,hz,rfl⟩:=List.mem_map.mp hx;obtain⟨v,hv,rfl⟩:=List.mem_map.mp hz;exact V0 (ho v hv)
  rw[List.length_map,List.length_map]at h1;rw[List.length_map];have:(" " :Str).length=1:=by decide
  rw[this];have:=Nat.mul_le_mul_right 1000 hl
  lia
theorem SH (m:M w K mg):Fc P w K mg base "row_of" 1 ["parts"] (wI K):=⟨_,_,m.ZD,m.uO.F.kp,m.uO.b,VJ m⟩
theorem bI (x y z:Str):x++y++z=x++(y++z):=cO (by rw[bN,bN,bN,bN,List.append_assoc])
theorem xD (x:Str):("" :Str)++x=x:=cO (by rw[bN];rfl)
theorem lP (x:Str):x++("" :Str)=x:=cO (by rw[bN];exact List.append_nil _)
theorem iL {c:Nat}(h:noC c x)(h':noC c y):noC c (x++y):=by
 unfold noC;rw[bN,List.mem_append];rintro (a|a)
 .exact h a
 .exact h' a
theorem yB {c:Nat}(hz:noC c z):∀{ys:List Str},(∀y∈ys,noC c y)->noC c (Str.join z ys)
 | [],_=>λh=>absurd h (List.not_mem_nil)
 | [y],h=>h y (.head _)
 | y::y2::r,h=>iL (iL (h y (.head _)) hz) (yB hz (ys:=y2::r) λw hw=>h w (.tail _ hw))
def cY (x:Str):Prop:=noC 32 x/\noC 10 x/\x.length<=100
theorem cJ (h:(decide (32∉x.cps.toList)&&(decide (10∉x.cps.toList)&&decide (x.length<=100)))=true):cY x:=by
 simp only[Bool.and_eq_true,decide_eq_true_eq]at h;exact h
theorem aCv {t:Int}(h0:0<=t)(h1:t<10^60):cY (toString t):=by
 have hl:=oS h0 h1 (by decide);obtain⟨n,rfl⟩:∃n:Nat,t=n:=⟨t.toNat,by lia⟩
 exact⟨λh=>by have:=oO n _ h;lia,λh=>by have:=oO n _ h;lia,by lia⟩
theorem sY (h:aK x=true):cY x:=by
 have hl:=cB h;unfold aK at h;simp only[Bool.and_eq_true]at h;have h2:=List.all_eq_true.mp h.2;have:∀c∈x.cps.toList,97<=c:=λc hc=>by
  have:=h2 c hc;unfold sgB at this;simp only[Bool.and_eq_true,decide_eq_true_eq]at this;exact this.1
 exact⟨λh=>by have:=this _ h;lia,λh=>by have:=this _ h;lia,by lia⟩
theorem TQ (h:cY x)(h':cY y)(hl:x.length+y.length<=100):cY (x++y):=⟨iL h.1 h'.1,iL h.2.1 h'.2.1,by rw[bA];exact hl⟩
theorem MG:("0" :Str)=⟨#[48]⟩:=by decide +kernel
theorem starts0:d2 x "0" =true↔x.cps.toList[0]? =some 48:=by
 rw[MG,←StrLaws.subAt_one x 48 0];unfold d2;rw[Bool.and_eq_true,decide_eq_true_eq]
theorem cR (x:Str):x.length=x.cps.toList.length:=by rw[Array.length_toList];rfl
theorem UV {t:Int}(h0:0<=t)(h1:t<10^60):wrB (toString t)=true/\b6 (toString t)=t:=by
 have hl:=oS h0 h1 (by decide);obtain⟨n,rfl⟩:∃n:Nat,t=n:=⟨t.toNat,by lia⟩
 have hne:=aEh n
 constructor
 .have l1:1<=(toString (n:Int):Str).length:=by
   rcases Nat.eq_zero_or_pos (toString (n:Int):Str).length with e|e
   .exact absurd (List.eq_nil_of_length_eq_zero (by rw[←cR];exact e)) hne
   .exact e
  have l3:((toString (n:Int):Str).cps.toList.all jK)=true:=List.all_eq_true.mpr λc hc=>by
   have:=oO n c hc;unfold jK;rw[decide_eq_true this.1,decide_eq_true this.2];rfl
  unfold wrB;rw[decide_eq_true l1,decide_eq_true hl,l3];simp only[Bool.true_and]
  by_cases hz:n=0
  .subst hz;have e:(toString ((0:Nat):Int):Str)= "0" :=by decide +kernel
   rw[e];rfl
  .have hh:=XV (n:=n) (by lia);have:d2 (toString (n:Int)) "0" =false:=by
    cases e:d2 (toString (n:Int)) "0" with
    | false=>rfl
    | true =>
     have:=starts0.mp e;cases e2:(toString (n:Int):Str).cps.toList with
     | nil=>exact absurd e2 hne
     | cons c r =>
      rw[e2]at this;exact absurd (Option.some.inj this) (hh c r e2)
   rw[this];simp
 .unfold b6;have:=aCk n;rw[this]
theorem DR {c:Nat}(hc:c∈x.cps.toList)(h:jK c=false):wrB x=false:=by
 cases e:wrB x with
 | false=>rfl
 | true =>
  unfold wrB at e;simp only[Bool.and_eq_true]at e;have:=List.all_eq_true.mp e.1.2 c hc;rw[h]at this;cases this
theorem WM (x:Str):wrB ("-" ++x)=false:=DR (c:=45) (by rw[bN];exact List.mem_append_left _ (by decide +kernel)) (by decide)
theorem T8 (h:1<=x.length):wrB ("0" ++x)=false:=by
 cases e:wrB ("0" ++x) with
 | false=>rfl
 | true =>
  unfold wrB at e;simp only[Bool.and_eq_true,Bool.or_eq_true,decide_eq_true_eq,Bool.not_eq_true']at e;rcases e.2 with e2|e2
  .have:=congrArg Str.length e2;rw[bA]at this;have h0:("0" :Str).length=1:=by decide
   lia
  .have:d2 ("0" ++x) "0" =true:=starts0.mpr (by rw[bN,MG];rfl);rw[this]at e2;cases e2
theorem bX (z:Str)(ys:List Str):Txt.join z ys=Str.join z ys:=StrLaws.glued_eq_join z ys
def WsG (ws:List Str):Prop:=ws≠[]/\ws.length<=100/\∀x∈ws,cY x
theorem aCP {ws:List Str}(h:WsG ws):(Str.join " " ws).length<=20000:=by
 have j:=StrLaws.join_length_le " " ws;have h1:=iK 100 ws λx hx=>(h.2.2 x hx).2.2;have c:(" " :Str).length=1:=by decide
 rw[c]at j;have:=h.2.1
 lia
theorem XY {ws:List Str}(h:WsG ws):Txt.split (Str.join " " ws) " " =ws:=by
 rw[rP];exact oM h.1 λp hp=>(h.2.2 p hp).1
theorem lV {a:Int}(h0:0<=a)(h1:a<1000000000000):wrB (aJ a)=true/\b6 (aJ a)=a:=UV h0 (Int.lt_trans h1 (by decide))
def N12 (a:Int):Prop:=0<=a/\a<1000000000000
theorem N12.ok {a:Int}(h:N12 a):cA a:=⟨by have:=h.1;lia,by have:=h.2;lia⟩
inductive J7 (CD CS CB:Addr)(H:Hp)(p:Addr):Str->Str->Str->V->List Int->Prop
 | door {nm st:Str}{e:V}{wd:Int} (dx:Addr) (h0:N12 wd) (h:H p=some (.ins CD dx (kE (.str nm) (.str st) e (.int wd)))):J7 CD CS CB H p "door" nm st e [wd]
 | since {nm st:Str}{e:V}{wd a:Int} (dx:Addr) (h0:N12 wd) (h1:N12 a) (h:H p=some (.ins CS dx (wX (.str nm) (.str st) e (.int wd) (.int a)))):J7 CD CS CB H p "since" nm st e [wd,a]
 | beat {nm st:Str}{e:V}{wd a b:Int} (dx:Addr) (h0:N12 wd) (h1:N12 a) (h2:N12 b) (h:H p=some (.ins CB dx (AD (.str nm) (.str st) e (.int wd) (.int a) (.int b)))):J7 CD CS CB H p "beat" nm st e [wd,a,b]
inductive Bk:Str->List Int->Prop where
 | door (wd:Int) (h0:N12 wd):Bk "door" [wd]
 | since (wd a:Int) (h0:N12 wd) (h1:N12 a):Bk "since" [wd,a]
 | beat (wd a b:Int) (h0:N12 wd) (h1:N12 a) (ha:1<=a) (h2:N12 b):Bk "beat" [wd,a,b]
theorem Bk.num (h:Bk kd ns):∀i∈ns,N12 i:=by
 cases h<;>intro i hi<;>simp only[List.mem_cons,List.not_mem_nil,or_false]at hi
 .subst hi;assumption
 .rcases hi with rfl|rfl<;>assumption
 .rcases hi with rfl|rfl|rfl<;>assumption
def wiaK:List (Key×V):=[(.inr "door",.int 5),(.inr "since",.int 6),(.inr "until",.int 6),(.inr "beat",.int 7),(.inr "marked",.int 6)]
def vA (kd:Str)(r:List Str):Prop:=(aX wiaK (.inr kd)).getD .non≠ .int ((r.length:Int)+1)∨∃x∈r.drop 3,wrB x=false
structure ZP (kd:Str)(r:List Str)(nm st:Str)(e:V)(ns:List Int):Prop where
 er:r=[nm,st,cP e]++ns.map aJ
 bk:Bk kd ns
 hn:aK nm=true
 hs:aK st=true
 he:bW e
inductive yL (N CD CS CB:Addr)(vs:List V)(H:Hp)(Q:VK)(E:XK):Prop
 | mk (q:Addr) (kd:Str) (r:List Str) (_:vs=[.ref q]) (_:H q=some (.lst (.str kd::r.map V.str))) (_:(∀x∈r,x.length<=1000)) (_:r.length<=1000) (_:((∃(nm st:Str) (e:V) (ns:List Int),ZP kd r nm st e ns/\∀p H',H p=none->Same H H'->J7 CD CS CB H' p kd nm st e ns->Q (.ref p) H')∨(vA kd r/\Ref0 N H E))):yL N CD CS CB vs H Q E
theorem aBn {D:Addr}{ty:TE}{Q:VK}(h:ty σ H λy H2=>∃k,y=kV k/\Q ((aX kvs k).getD .non) H2):aAk D kvs (tC (.ref D)) ty σ H Q:=⟨rfl,h⟩
section
variable {Q:VK}{p:Addr}{x1 x2 x3:V}
theorem aEm (e:SqL K H p (x0::xs))(h:Q x0 H):t7 K (.ref p) (.int 0) H Q:=⟨p,_,_,_,rfl,rfl,e,bK (j:=0) rfl,h⟩
theorem aDS (e:SqL K H p (x0::x1::xs))(h:Q x1 H):t7 K (.ref p) (.int 1) H Q:=⟨p,_,_,_,rfl,rfl,e,bK (j:=1) rfl,h⟩
theorem aDP (e:SqL K H p (x0::x1::x2::xs))(h:Q x2 H):t7 K (.ref p) (.int 2) H Q:=⟨p,_,_,_,rfl,rfl,e,bK (j:=2) rfl,h⟩
theorem TX (e:SqL K H p (x0::x1::x2::x3::xs))(h:Q x3 H):t7 K (.ref p) (.int 3) H Q:=⟨p,_,_,_,rfl,rfl,e,bK (j:=3) rfl,h⟩
end
theorem o0 (rs:List Str)(i:Nat):iD (rs.map V.str) none (some (i:Int))=(rs.take i).map V.str:=by
 unfold iD;rw[HT.sIx_none,HT.sIx_nat,List.drop_zero,List.length_map,Nat.sub_zero,←List.map_take]
 congr 1
 rcases Nat.le_total i rs.length with h|h
 .rw[Nat.min_eq_left h]
 .rw[Nat.min_eq_right h,List.take_length,List.take_of_length_le h]
theorem jQ (rs:List Str)(i:Nat):iD (rs.map V.str) (some (i:Int)) none=(rs.drop i).map V.str:=by
 unfold iD;rw[HT.sIx_none,HT.sIx_nat,List.length_map,←List.map_drop,←List.map_take]
 congr 1
 rcases Nat.le_total i rs.length with h|h
 .rw[Nat.min_eq_left h,List.take_of_length_le (by rw[List.length_drop];lia)]
 .rw[Nat.min_eq_right h,List.drop_of_length_le h,List.drop_of_length_le (Nat.le_refl _),List.take_nil]
theorem VO (h:aK x=true):x≠ "-" :=λz=>by subst z;revert h;decide +kernel
theorem aBG {KK:W.Frag}{Kont:VK}{x1 x2:V}{c:Str}(e:SqL KK H q (x0::x1::x2:: .str c::xs))(h:Kont (if c= "-" then .non else .str c) H):if decide (c= "-")=true then tC .non (some (.ref q)::σ) H Kont else tOp (t7 KK) (iZ 0) (tC (.int 3)) (some (.ref q)::σ) H Kont:=by
 by_cases hc:c= "-"
 .rw[if_pos (decide_eq_true hc)];rw[if_pos hc]at h;exact h
 .rw[if_neg (by simpa using hc)];rw[if_neg hc]at h;exact⟨_,rfl,TX e h⟩
theorem xZ:∀l:List Str,Paired (λv x=>v=V.str x) (l.map V.str) l
 | []=> .nil
 | _::l=> .cons rfl (xZ l)
theorem aBp {xs:List Str}(h:Paired (λx y=>wrB x=true/\y=V.int (b6 x)) xs ys):(∀x∈xs,wrB x=true)/\ys=xs.map λx=>V.int (b6 x):=by
 induction h with
 | nil=>exact⟨λ_ h=>(nomatch h),rfl⟩
 | cons r _ ih =>
  refine⟨λx hx=> ?_,?_⟩
  .rcases List.mem_cons.mp hx with rfl|hx
   .exact r.1
   .exact ih.1 x hx
  .rw[r.2,ih.2];rfl
theorem zQ {e:V}(h:bW e):(if cP e= "-" then V.non else V.str (cP e))=e:=by
 rcases h with rfl|⟨z,rfl,hz⟩
 .rfl
 .show (if z= "-" then V.non else V.str z)=V.str z;rw[if_neg (VO hz)]
theorem YQ (h:∀i∈ns,N12 i):(ns.map aJ).map (λx=>V.int (b6 x))=ns.map V.int:=by
 rw[List.map_map];exact List.map_congr_left λi hi=>by show V.int (b6 (aJ i))=_;rw[(lV (h i hi).1 (h i hi).2).2]
theorem aFm {Q:Key->Prop}(h:Q (.inr x)):∃k,V.str x=kV k/\Q k:=⟨_,rfl,h⟩
theorem VG (kd:Str):(aX wiaK (.inr kd)).getD .non= .non∨∃i:Int,5<=i/\(aX wiaK (.inr kd)).getD .non= .int i:=by
 have h:∀e∈wiaK,∃i:Int,5<=i/\e.2= .int i:=λe he=>by
  simp only[wiaK,List.mem_cons,List.not_mem_nil,or_false]at he;rcases he with rfl|rfl|rfl|rfl|rfl
  .exact⟨5,by decide,rfl⟩
  .exact⟨6,by decide,rfl⟩
  .exact⟨6,by decide,rfl⟩
  .exact⟨7,by decide,rfl⟩
  .exact⟨6,by decide,rfl⟩
 unfold aX;cases e:wiaK.find? λkv=>decide (kv.1= .inr kd) with
 | none=>exact .inl rfl
 | some x =>
  obtain⟨i,hi,ex⟩:=h x (List.mem_of_find?_eq_some e);exact .inr ⟨i,hi,ex⟩
theorem aBf {j:Int}{Q:VK}(hv:v= .int j')(ej:j'=j)(h:Q (.bl false) H):rNe v (.int j) H Q:=by
 subst hv;subst ej;exact⟨rfl,by rw[decide_eq_true rfl];exact h⟩
theorem aCi {j:Int}{Q:VK}(hc:v= .non∨∃i:Int,5<=i/\v= .int i)(hv:v≠ .int j')(ej:j'=j)(h:Q (.bl true) H):rNe v (.int j) H Q:=by
 subst ej;rcases hc with rfl|⟨i,_,rfl⟩
 .exact⟨rfl,by rw[decide_eq_false hv];exact h⟩
 .exact⟨rfl,by rw[decide_eq_false hv];exact h⟩
theorem IZ (h:Bk kd ns):(aX wiaK (.inr kd)).getD .non= .int ((ns.length:Int)+4):=by
 cases h<;>rfl
local macro_rules| `(tactic| walk_at"rd1")=> `(tactic| first|((with_reducible refine' aEm ?e ?_);(case e=>walk_at"hp"))|((with_reducible refine' aDS ?e ?_);(case e=>walk_at"hp"))|((with_reducible refine' aDP ?e ?_);(case e=>walk_at"hp"))|((with_reducible refine' TX ?e ?_);(case e=>walk_at"hp"))|(with_reducible refine aBn ?_)|(with_reducible refine aFm ?_))
theorem xH (m:M w K mg):FnOk P w K mg base (CXE P w) 6 m.jU m.fY.d ["words"] (yL m.aO m.cF m.cX m.dR):=by
 refine m.fY.F.okE aGz ?_ ?_;walk_at"w0";walk_at"w1";obtain⟨q,kd,r,rfl,hq,hx,hl,hc⟩:=h;walk_at"g2";have nd:=aGz.nd;walk_at"hu";have aGl:= @nH P w K mg base m;have aHX:= @R9 P w K mg base m;have aH1:= @UR P w K mg base m;have aHS:= @RI P w K mg base m;refine⟨_,(aC (bH (a9 GM (aCm m.EF (kA rfl m.EE) (bF aR (pv 0) aF (λ_ _=>rfl)) ⟨rfl,rfl,rfl,rfl⟩) (bD cE rfl m.eK c5 (aA (pv 0) aB)) (bE _)) (aE (dM m.fK m.fW i8 (aA aD aB))) aS)
  (aC (aT (i:=1) nd rfl (by walk_at"oi") (bF aR (pv 0) aF (λ_ _=>rfl)))
  (aC (aT (i:=2) nd rfl (by walk_at"oi") (bF aR (pv 0) aF (λ_ _=>rfl)))
  (aC (aT (i:=3) nd rfl (by walk_at"oi") (yX (a9 cS (bF aR (pv 0) aF (λ_ _=>rfl)) aD (bE _)) AF (bF aR (pv 0) aF (λ_ _=>rfl))))
  (aC (xR (i:=4) nd rfl (by walk_at"oi") (N:=["word"]) (nl:=1) (ci:=[]) GY rfl (blk (s.heap.objs.size+1) rfl rfl rfl (by kernel_rfl)) (bZ (b8 cQ (pv 0) (b9 aF) cW)) (λ_ _ _ _=>(aZ (i:=0) (show (["word"]:List Str).Nodup by decide +kernel) rfl (by walk_at"oi"))) (λ_ _ _ _=>dO) (λ_ _ _ _=>(dH aGl hr GN (aA (pv 0) aB))))
  (aC (bH (a9 cS (bF aR (pv 0) aF (λ_ _=>rfl)) aD (bE _)) (aE (aP (GE aH1 hr (aA (pv 1) (aA (pv 2) (aA (pv 3) (aA (bF aR (pv 4) aF (λ_ _=>rfl)) aB))))))) aS)
  (aC (bH (a9 cS (bF aR (pv 0) aF (λ_ _=>rfl)) aD (bE _)) (aE (aP (GE aHS hr (aA (pv 1) (aA (pv 2) (aA (pv 3) (aA (bF aR (pv 4) aF (λ_ _=>rfl)) (aA (bF aR (pv 4) aF (λ_ _=>rfl)) aB)))))))) aS)
  (aC (bH (a9 cS (bF aR (pv 0) aF (λ_ _=>rfl)) aD (bE _)) yP aS)
  (aC (bH (a9 cS (bF aR (pv 0) aF (λ_ _=>rfl)) aD (bE _)) (aE (aP (GE aHX hr (aA (pv 1) (aA (pv 2) (aA (pv 3) (aA (bF aR (pv 4) aF (λ_ _=>rfl)) (aA (bF aR (pv 4) aF (λ_ _=>rfl)) (aA (bF aR (pv 4) aF (λ_ _=>rfl)) aB))))))))) aS)
  yP))))))))),?_⟩
 refine aL (σ:=[some (.ref q),none,none,none,none]) rfl ?_;walk_at"cx";have dc0:=m.j3;have dc1:=m.mJ;have dc3:=m.oV;have hg:=VG kd;walk_at"go";have ej:(r.length:Int)+1=((V.str kd::r.map V.str).length:Nat):=by rw[List.length_cons,List.length_map];lia
 by_cases hv:(aX wiaK (.inr kd)).getD .non= .int ((r.length:Int)+1)
 .obtain⟨a,b,c,r',rfl⟩:∃a b c r',r=a::b::c::r':=by
   rcases hg with h|⟨i,hi,h⟩
   .rw[h]at hv;cases hv
   .rw[h]at hv;have:=V.int.inj hv
    match r,this with
    | a::b::c::r',_=>exact⟨a,b,c,r',rfl⟩
    | [_,_],h=>simp at h;lia
    | [_],h=>simp at h;lia
    | [],h=>simp at h;lia
  refine aBf hv ej ?_;walk_at"go";refine aBG (SqL.of hq) ?_;walk_at"go";rename_i p1 H1 n1 S1 e1;have e1':H1 p1=some (.lst (r'.map V.str)):=by rw[e1];exact congrArg (λz=>some (HO.lst z)) (jQ (kd::a::b::c::r') 4)
  clear e1;refine gF (λv x=>v= .str x) (λ_=>true) (λx y _=>wrB x=true/\y=V.int (b6 x)) (λ_ _ _ _ h _=>h) (by rw[sizeLine_eq];simp only[List.length_cons]at hl;lia) (rest:=[]) (by rfl) (SqL.of e1') (xZ r') ?_ ?_ ?_
  .intro v x H2 _ _ _ R hR;exact hR _ (Same.refl _)
  .rintro v x H2 rfl hm - s2 R hR;walk_at"go";have hxl:=hx x (by simp[hm]);refine zM (by lia) (λhw H3 s3=>hR _ _ ⟨hw,rfl⟩ s3) λhw H3 s3=> ?_;rcases hc with⟨nm,st,e,ns,⟨er,hb,_⟩,_⟩|⟨_,k⟩
   .exfalso
    have er':r'=ns.map aJ:=(List.cons.inj (List.cons.inj (List.cons.inj er).2).2).2;subst er';obtain⟨i,hi,rfl⟩:=List.mem_map.mp hm;have hin:=hb.num i hi;rw[(lV hin.1 hin.2).1]at hw;cases hw
   .exact k _ ((S1.trans s2).trans s3)
  .intro ys H2 s2 hys;rw[List.filter_eq_self.mpr (λ_ _=>rfl)]at hys;obtain⟨hw,rfl⟩:=aBp hys;rcases hc with⟨nm,st,e,ns,⟨er,hb,hn,hs,he⟩,k⟩|⟨hb,_⟩
   .have q1:=(List.cons.inj er).1;have q2:=(List.cons.inj (List.cons.inj er).2).1;have q3:=(List.cons.inj (List.cons.inj (List.cons.inj er).2).2).1;have q4:r'=ns.map aJ:=(List.cons.inj (List.cons.inj (List.cons.inj er).2).2).2;clear er hys hw hx ej hv hg;subst q1;subst q2;subst q3;subst q4;rw[zQ he,YQ hb.num];have s02:=S1.trans s2;cases hb with
    | door wd h0 =>
     obtain⟨w0,w1⟩:=id h0;walk_at"go";rename_i p3 H3 n3 S3 e3 p4 dx4 H4 n4 S4 e4;exact k p4 H4 (fP (s02.trans S3) n4) ((s02.trans S3).trans S4) (.door _ h0 e4)
    | since wd a1 h0 h1 =>
     obtain⟨w0,w1⟩:=id h0;obtain⟨w2,w3⟩:=id h1;walk_at"go";rename_i p3 H3 n3 S3 e3 p4 dx4 H4 n4 S4 e4;exact k p4 H4 (fP (s02.trans S3) n4) ((s02.trans S3).trans S4) (.since _ h0 h1 e4)
    | beat wd a1 b1 h0 h1 ha h2 =>
     obtain⟨w0,w1⟩:=id h0;obtain⟨w2,w3⟩:=id h2;walk_at"go";rename_i p3 H3 n3 S3 e3 p4 dx4 H4 n4 S4 e4;exact k p4 H4 (fP (s02.trans S3) n4) ((s02.trans S3).trans S4) (.beat _ h0 h1 h2 e4)
   .exfalso
    rcases hb with h|⟨x,hx,h⟩
    .exact h hv
    .rw[hw x hx]at h;cases h
 .have k:∀H',Same H H'->E (.ref m.aO) none H':=by
   rcases hc with⟨nm,st,e,ns,⟨rfl,hb,_⟩,_⟩|⟨_,k⟩
   .refine absurd ?_ hv;rw[IZ hb]
    congr 1
    simp only[List.length_append,List.length_cons,List.length_nil,List.length_map]
    lia
   .exact k
  refine aCi hg hv ej ?_;walk_at"go";exact⟨(by show 1<=sizeLine;decide),k _ (Same.refl _)⟩
theorem xM (m:M w K mg):FcE P w K mg base "door_by_itself" 6 ["words"] (yL m.aO m.cF m.cX m.dR):=⟨_,_,m.zY,m.fY.F.kp,m.fY.b,xH m⟩
inductive DS (CD CS CB CH:Addr)(H:Hp)(p:Addr):Option Int->Str->Str->Str->V->List Int->Prop
 | self {kd nm st:Str}{e:V}{ns:List Int} (h:J7 CD CS CB H p kd nm st e ns):DS CD CS CB CH H p none kd nm st e ns
 | shut {nm st:Str}{e:V}{wd a:Int} (q dx dxq:Addr) (h0:N12 wd) (h1:N12 a) (hq:H q=some (.ins CD dxq (kE (.str nm) (.str st) e (.int wd)))) (hp:H p=some (.ins CH dx (vR (.ref q) (.str nm) (.str st) e (.int a)))):DS CD CS CB CH H p (some a) "door" nm st e [wd]
inductive vU (CD CH:Addr)(vs:List V)(H:Hp)(Q:VK)(E:XK):Prop
 | mk (q l dxq:Addr) (a wd:Int) (nm st:Str) (e:V) (_:vs=[.ref q,.ref l]) (_:H l=some (.lst [.str "shut",.str (aJ a)])) (_:N12 a) (_:H q=some (.ins CD dxq (kE (.str nm) (.str st) e (.int wd)))) (_:aK nm=true) (_:aK st=true) (_:bW e) (_:∀p dx H',H p=none->Same H H'->H' p=some (.ins CH dx (vR (.ref q) (.str nm) (.str st) e (.int a)))->Q (.ref p) H'):vU CD CH vs H Q E
theorem FK (m:M w K mg):FnOk P w K mg base (CXE P w) 6 m.qU m.kQ.d ["inner","words"] (vU m.cF m.c6):=by
 refine m.kQ.F.okE aHc ?_ ?_;walk_at"w0";walk_at"w1";obtain⟨q,l,dxq,a,wd,nm,st,e,rfl,hl,ho,hq,hn,hs,he,k⟩:=h;walk_at"g2";have nd:=aHc.nd;walk_at"hu";have aGl:= @nH P w K mg base m;have aHZ:= @UH P w K mg base m;have aHF:=m.oU;have aHn:=m.j3;refine⟨_,(aC (bH (a9 cS (bF aR (pv 1) aF (λ_ _=>rfl)) aD (bE _)) (aE (aP (GE aHZ hr (aA (pv 0) (aA (dH aGl hr jH (aA (bF aR (pv 1) aF (λ_ _=>rfl)) aB)) aB))))) aS)
  yP),?_⟩
 refine aL (σ:=[some (.ref q),some (.ref l)]) rfl ?_;walk_at"cx";obtain⟨a0,a1⟩:=ho;walk_at"go";refine zM (by have:=oS a0 (Int.lt_trans a1 (by decide:(1000000000000:Int)<10^60)) (by decide);exact Nat.le_trans this (by decide)) (λ_ H1 S1=> ?_) λhw=>by rw[(lV a0 a1).1]at hw;cases hw
 rw[(lV a0 a1).2];walk_at"go";exact X7 rfl aHF aHn (S1 _ _ hq) (by walk_at"lk") (by walk_at"lk") (by walk_at"lk") hn hs he a0 λp dx' H' hp s2 e2=>k p dx' H' (fP S1 hp) (S1.trans s2) e2
theorem FZ (m:M w K mg):FcE P w K mg base "door_round" 6 ["inner","words"] (vU m.cF m.c6):=⟨_,_,m.K9,m.kQ.F.kp,m.kQ.b,FK m⟩
def RdH (x:List Str):Prop:=∃a:Str,x=[("shut" :Str),a]
def YG:List (Key×V):=[(.inr "shut",.int 2),(.inr "wider",.int 3)]
theorem XO (h1:kd≠ "shut")(h2:kd≠ "wider"):aX YG (.inr kd)=none:=by
 unfold aX YG;rw[List.find?_cons,decide_eq_false (λz=>h1 (Sum.inr.inj z).symm),List.find?_cons,decide_eq_false (λz=>h2 (Sum.inr.inj z).symm)];rfl
def jN (sh:Option Int):List (List Str):=sh.toList.map λa=>["shut",aJ a]
structure aDt (sh:Option Int)(kd:Str)(r:List Str)(nm st:Str)(e:V)(ns:List Int):Prop where
 gd:ZP kd r nm st e ns
 sk:∀a,sh=some a->N12 a/\kd= "door"
inductive IA (N CD CS CB CH:Addr)(vs:List V)(H:Hp)(Q:VK)(E:XK):Prop
 | mk (q:Addr) (pre:List (List Str)) (kd:Str) (r:List Str) (_:vs=[.ref q]) (_:H q=some (.lst ((pre.flatten++kd::r).map V.str))) (_:(∀x∈pre,RdH x)) (_:kd≠ "shut") (_:kd≠ "wider") (_:(∀x∈r,x.length<=1000)) (_:r.length<=1000) (_:pre.length<=16) (_:((∃(sh:Option Int) (nm st:Str) (e:V) (ns:List Int),pre=jN sh/\aDt sh kd r nm st e ns/\∀p H',H p=none->Same H H'->DS CD CS CB CH H' p sh kd nm st e ns->Q (.ref p) H')∨(vA kd r/\Ref0 N H E))):IA N CD CS CB CH vs H Q E
def RAt (H:Hp)(p:Addr)(us:List V)(xs:List (List Str)):Prop:=Paired (λv x=>∃a,v= .ref a/\a≠p/\H a=some (.lst (x.map V.str))) us xs
theorem RAt.but {p:Addr}{us:List V}{xs:List (List Str)}(h:RAt H p us xs)(s:SameBut p H H'):RAt H' p us xs:=Paired.imp' (λ_ _ ⟨a,e,n,g⟩=>⟨a,e,n,s _ _ g n⟩) h
theorem RAt.same {p:Addr}{us:List V}{xs:List (List Str)}(h:RAt H p us xs)(s:Same H H'):RAt H' p us xs:=Paired.imp' (λ_ _ ⟨a,e,n,g⟩=>⟨a,e,n,s _ _ g⟩) h
theorem AG {F:α->β->Prop}:∀{l:List α}{m:List β},Paired F l m->Paired F l.reverse m.reverse
 | _,_,.nil=> .nil
 | _,_,.cons h t=>by rw[List.reverse_cons,List.reverse_cons];exact(AG t).snoc h
theorem uF {F:α->β->Prop}:∀{l:List α}{m:List β},Paired F l m->l.length=m.length
 | _,_,.nil=>rfl
 | _,_,.cons _ t=>congrArg (·+1) (uF t)
section
variable {Q:VK}{D:Addr}{A C:List Str}
theorem C1 (e:SqL K H q ((A++y::C).map V.str))(h:Q (.str y) H):t7 K (.ref q) (.int (A.length:Int)) H Q :=
 ⟨q,_,_,_,rfl,rfl,e,bK (by rw[List.getElem?_map,List.getElem?_append_right (Nat.le_refl _),Nat.sub_self];rfl),h⟩
theorem aA8 (h0:aX kvs (.inr y)=none)(h:Q (.bl false) H):V7 D kvs (.str y) (.ref D) H Q:=⟨_,rfl,rfl,by rw[h0];exact h⟩
theorem aA4 (h0:aX kvs (.inr y)=some v)(h:Q (.bl true) H):V7 D kvs (.str y) (.ref D) H Q:=⟨_,rfl,rfl,by rw[h0];exact h⟩
theorem aCU (hv:aX kvs (.inr y)=some v)(h:Q v H):aDV D kvs (.ref D) (.str y) H Q:=⟨_,_,rfl,rfl,hv,h⟩
theorem L7 (A x C:List Str):iD ((A++x++C).map V.str) (some (A.length:Int)) (some ((A.length+x.length:Nat):Int))=x.map V.str:=by
 unfold iD;rw[HT.sIx_nat,HT.sIx_nat,List.length_map,←List.map_drop,←List.map_take]
 congr 1
 simp only[List.length_append];rw[Nat.min_eq_left (by lia),Nat.min_eq_left (by lia),show A.length+x.length - A.length=x.length by lia,List.append_assoc,List.drop_left,List.take_left]
theorem XF (A C:List Str):iD ((A++C).map V.str) (some (A.length:Int)) none=C.map V.str:=by
 rw[jQ,List.drop_left]
end
theorem LC {Q:VK}{l:Addr}{y:V}(e:H l=some (.lst xs))(hz:xs.length<sizeLine)(h:∀H',SameBut l H H'->H' l=some (.lst (xs++[y]))->Q .non H'):C6 (.ref l) [y] H Q :=
 ⟨l,xs,y,rfl,rfl,e,hz,h _ SameBut.upd aU⟩
theorem zJ (m:M w K mg):FnOk P w K mg base (CXE P w) 7 m.kS m.gW.d ["words"] (IA m.aO m.cF m.cX m.dR m.c6):=by
 refine m.gW.F.okE aGG ?_ ?_;walk_at"w0";walk_at"w1";obtain⟨q,pre,kd,r,rfl,hq,hpre,hk1,hk2,hx,hl,hpl,hc⟩:=h;walk_at"g2";have nd:=aGG.nd;walk_at"hu";have aHv:= @xM P w K mg base m;have aHH:= @FZ P w K mg base m;refine⟨_,(aC (aT (i:=1) nd rfl (by walk_at"oi") (bM aB))
  (aC (aT (i:=2) nd rfl (by walk_at"oi") aF)
  (aC (XM o6 (PW.pt (aD0 (a9 wN (pv 2) (bD cE rfl m.eK c5 (aA (pv 0) aB)) (bE _)) (aBa (a9 (aCJ m.uZ) (bF aR (pv 0) (pv 2) (λ_ _=>rfl)) (kA rfl m.uY) (by with_unfolding_all rfl))))) (aC (aT (i:=3) nd rfl (by walk_at"oi") (aI d8 (pv 2) (aDj m.uZ (kA rfl m.uY) (bF aR (pv 0) (pv 2) (λ_ _=>rfl)) (λ_ _=>rfl))))
  (aC (bG (gP PySem.F.plainAttrs_list PySem.F.slot_list_append PySem.F.type_list_append fA (pv 1) (aA (b8 cQ (pv 0) (b9 (pv 2)) (b9 (pv 3))) aB)))
  (aE (aT (i:=2) nd rfl (by walk_at"oi") (pv 3))))))
  (aC (bH (a9 aE4 (pv 2) (bD cE rfl m.eK c5 (aA (pv 0) aB)) (bE _)) (aE (dM m.fK m.fW i8 (aA aD aB))) aS)
  (aC (aT (i:=4) nd rfl (by walk_at"oi") (dH aHv hr jH (aA (b8 cQ (pv 0) (b9 (pv 2)) cW) aB)))
  (aC (iA o6 rfl (aD1 rfl m.RY (aA (pv 1) aB)) (aZ (i:=5) nd rfl (by walk_at"oi")) (aE (aT (i:=4) nd rfl (by walk_at"oi") (dH aHH hr jH (aA (pv 4) (aA (pv 5) aB))))))
  (aE (aP (pv 4))))))))),?_⟩
 refine aL (σ:=[some (.ref q),none,none,none,none,none]) rfl ?_;walk_at"cx";walk_at"gs";rename_i p0 H0 n0 S0 e0;refine W0 (W:=λmm σ' H'=>∃(A B:List (List Str)) (us:List V) (x3:Option V),pre=A++B/\mm=B.length/\σ'=[some (.ref q),some (.ref p0),some (.int (A.flatten.length:Int)),x3,none,none]/\SameBut p0 H0 H'/\H' p0=some (.lst us)/\RAt H' p0 us A) pre.length ⟨[],pre,[],none,rfl,rfl,rfl,SameBut.refl,e0,.nil⟩ ?_;rintro mm _ H1 hq_;walk_at"g1";obtain⟨A1,B,us,x3,rfl,rfl,rfl,sb,eu,hR⟩:=hq_;walk_at"g2";have s1:Same H H1:=SameBut.same n0 S0 sb;have hq1:=s1 _ _ hq;walk_at"go";rw[if_pos (decide_eq_true (by rw[List.length_map,List.flatten_append];simp only[List.length_append,List.length_cons];lia))];cases B with
 | nil =>
  rw[List.append_nil]at hq1 hc hpre hpl ⊢;walk_at"go";refine C1 (SqL.of hq1) ?_;walk_at"go";refine aA8 (XO hk1 hk2) ?_;walk_at"go";rw[if_neg (by simp only[decide_eq_true_eq];rw[List.length_map];simp only[List.length_append,List.length_cons];lia)];walk_at"go";rename_i p2 H2 n2 S2 e2;rw[XF]at e2;refine⟨p2,kd,r,rfl,e2,hx,hl,?_⟩;rcases hc with⟨sh,nm,st,e,ns,epre,⟨hgood,hsk⟩,k⟩|⟨hb,k⟩
  .refine .inl ⟨nm,st,e,ns,hgood,λd H3 nd3 S3 hd=> ?_⟩;have hlen:us.length=sh.toList.length:=by rw[uF hR,epre];unfold jN;rw[List.length_map]
   have eu3:=S3 _ _ (S2 _ _ eu);have s13:=S2.trans S3;walk_at"go";unfold aDC;walk_at"go";refine⟨p0,us,rfl,SqL.of eu3,?_⟩;let Pv1:Nat->St->Hp->Prop:=λi σ' H'=>∃(d:Addr) (x5:Option V),σ'=[some (.ref q),some (.ref p0),some (.int (A1.flatten.length:Int)),x3,some (.ref d),x5]/\Same H3 H'/\H d=none/\DS m.cF m.cX m.dR m.c6 H' d (if i=0 then none else sh) kd nm st e ns;refine aCb us Pv1 ⟨d,none,rfl,Same.refl _,fP (s1.trans S2) nd3,.self hd⟩ ?_ ?_ ?_
   .rintro i σ' H' _ hq_;walk_at"g1";obtain⟨_,_,_,s',_⟩:=hq_;walk_at"g2";exact SqL.of (s' _ _ eu3)
   .rintro i v _ H' hv hq_;walk_at"g1";obtain⟨d',x5,rfl,s',hd0,hd'⟩:=hq_;walk_at"g2";have hi:i<us.reverse.length:=(List.getElem?_eq_some_iff.mp hv).1;rw[List.length_reverse,hlen]at hi;cases sh with
    | none=>cases hi
    | some a =>
     obtain rfl:i=0:=by have:i<1:=hi;lia
     obtain⟨n12,rfl⟩:=hsk a rfl;walk_at"g1";obtain⟨b,rfl,_,ea⟩:=L2.Paired.at2 (AG hR) hv (b:=(["shut",aJ a]:List Str)) (by rw[epre];rfl);walk_at"g2";rw[if_pos rfl]at hd';walk_at"g1";obtain⟨hgr,hgb,hgn,hgs,hge⟩:=hgood;walk_at"g2";cases hd' with
     | self hd' =>
      cases hd' with
      | door dxq wd0 hq' =>
       walk_at"go";refine⟨d',b,dxq,a,_,nm,st,e,rfl,s' _ _ (s13 _ _ ea),n12,hq',hgn,hgs,hge,λp4 dx4 H4 n4 S4 hd4=> ?_⟩;walk_at"go";refine⟨p4,_,rfl,s'.trans S4,fP (s1.trans (s13.trans s')) n4,?_⟩;rw[if_neg (by decide)];exact .shut d' dx4 dxq wd0 n12 (S4 _ _ hq') hd4
   .rintro _ H' hq_;walk_at"g1";obtain⟨d',x5,rfl,s',hd0,hd'⟩:=hq_;walk_at"g2";walk_at"go";refine k d' H' hd0 (s1.trans (s13.trans s')) ?_;rw[hlen]at hd';cases sh with
    | none=>exact hd'
    | some a=>exact hd'
  .exact .inr ⟨hb,λH3 S3=>k _ ((s1.trans S2).trans S3)⟩
 | cons x B =>
  have hx0:=hpre x (by simp);obtain⟨y,x',n,ey,hv⟩:∃(y:Str) (x':List Str) (n:Nat),x=y::x'/\aX YG (.inr y)=some (.int (x.length:Int))/\n=0:=by
   obtain⟨a,rfl⟩:=hx0;exact⟨_,_,0,rfl,rfl,rfl⟩
  have ew:(A1++x::B).flatten++kd::r=A1.flatten++x++(B.flatten++kd::r):=by
   rw[List.flatten_append,List.flatten_cons];simp only[List.append_assoc]
  have hq2:H1 q=some (.lst ((A1.flatten++y::(x'++(B.flatten++kd::r))).map V.str)):=by
   rw[hq1,ew,ey];simp only[List.append_assoc,List.cons_append]
  walk_at"go";refine C1 (SqL.of hq2) ?_;walk_at"go";refine aA4 hv.1 ?_;walk_at"go";refine aDU ?_;walk_at"go";refine C1 (SqL.of hq2) ?_;walk_at"go";refine aCU hv.1 ?_;walk_at"go";rename_i p2 H2 n2 S2 e2;have ex:A1.flatten++y::(x'++(B.flatten++kd::r))=A1.flatten++x++(B.flatten++kd::r):=by rw[ey];simp
  rw[ex,show ((A1.flatten.length:Int)+(x.length:Int))=((A1.flatten.length+x.length:Nat):Int) by lia,L7]at e2;have np:p2≠p0:=λz=>by rw[z,eu]at n2;cases n2
  have hus:=uF hR;refine LC (S2 _ _ eu) (by rw[sizeLine_eq];simp only[List.length_append,List.length_cons]at hpl;lia) λH3 B3 e3=> ?_;walk_at"go";have el:(((A1++[x]).flatten.length:Nat):Int)=(A1.flatten.length:Int)+(x.length:Int):=by simp
  exact⟨B.length,by simp,A1++[x],B,us++[.ref p2],_,by simp,rfl,by rw[el],λb o h hb=>B3 _ _ (S2 _ _ (sb _ _ h hb)) hb,e3,L2.Paired.snoc ((RAt.same hR S2).but B3) ⟨p2,rfl,np,B3 _ _ e2 np⟩⟩
theorem zE (m:M w K mg):FcE P w K mg base "door_of_words" 7 ["words"] (IA m.aO m.cF m.cX m.dR m.c6):=⟨_,_,m.CI,m.gW.F.kp,m.gW.b,zJ m⟩
structure DrW (z:Str)(pre:List (List Str))(kd:Str)(r:List Str):Prop where
 hl:z.length<=1000000
 sp:Txt.split z " " =pre.flatten++kd::r
 hp:∀x∈pre,RdH x
 k1:kd≠ "shut"
 k2:kd≠ "wider"
 hx:∀x∈r,x.length<=1000
 rl:r.length<=1000
 pl:pre.length<=16
inductive yI (N CD CS CB CH:Addr)(vs:List V)(H:Hp)(Q:VK)(E:XK):Prop
 | mk (z:Str) (pre:List (List Str)) (kd:Str) (r:List Str) (_:vs=[.str z]) (_:DrW z pre kd r) (_:((∃(sh:Option Int) (nm st:Str) (e:V) (ns:List Int),pre=jN sh/\aDt sh kd r nm st e ns/\∀p H',H p=none->Same H H'->DS CD CS CB CH H' p sh kd nm st e ns->Q (.ref p) H')∨(vA kd r/\Ref0 N H E))):yI N CD CS CB CH vs H Q E
theorem HY (m:M w K mg):FnOk P w K mg base (CXE P w) 8 m.sN m.mU.d ["text"] (yI m.aO m.cF m.cX m.dR m.c6):=by
 refine m.mU.F.okE aHp ?_ ?_;walk_at"w0";walk_at"w1";obtain⟨z,pre,kd,r,rfl,hw,hc⟩:=h;walk_at"g2";have nd:=aHp.nd;walk_at"hu";have aHx:= @zE P w K mg base m;have aGn:= @qA P w K mg base m;refine⟨_,(aC (bG (dH aGn hr jH (aA (pv 0) aB)))
  (aE (aB3 GY rfl rfl rfl m.K3 (NJ (aFM aHx hr (aA (rD (by exact(pv 0)) (by exact(aA aD aB))) aB)))))),?_⟩
 refine aL (σ:=[some (.str z)]) rfl ?_;walk_at"cx";walk_at"g1";obtain⟨hl,hsp,hp,h1,h2,hx,rl,pl⟩:=hw;walk_at"g2";walk_at"go";refine qG 32 rP hl λp1 H1 n1 S1 e1=> ?_;rw[hsp]at e1;walk_at"go";refine⟨p1,pre,kd,r,rfl,e1,hp,h1,h2,hx,rl,pl,?_⟩;rcases hc with⟨sh,nm,st,e,ns,h,g,k⟩|⟨hb,k⟩
 .exact .inl ⟨sh,nm,st,e,ns,h,g,λp H2 n2 S2 hd=>k p H2 (fP S1 n2) (S1.trans S2) hd⟩
 .exact .inr ⟨hb,λH2 S2=>⟨m.aO,rfl,m.zV,k _ (S1.trans S2)⟩⟩
theorem KJ (m:M w K mg):FcE P w K mg base "read_door" 8 ["text"] (yI m.aO m.cF m.cX m.dR m.c6):=⟨_,_,m.L3,m.mU.F.kp,m.mU.b,HY m⟩
theorem Mc.mono {k:Nat}{sp:Sp}(F:Mc P w K mg base C nm j sp)(h:j<=k):Mc P w K mg base C nm k sp:=by
 walk_at"g1";obtain⟨f,fd,ps,h1,h2,h3,h4⟩:=F.ex;walk_at"g2";exact⟨f,fd,ps,h1,h2,h3,h4.mono h⟩
def dT (sh:Option Int)(kd nm st:Str)(e:V)(ns:List Int):Str:=match sh with
 | none=>dP kd nm st e ns
 | some a=>Txt.join " " ["shut",aJ a,dP kd nm st e ns]
def WdAt (P:Program)(w:World)(K:W.Frag)(mg:Str->Option Value)(base:Heap)(H:Hp)(u:V)(t:Str):Prop:=∃(p C dx:Addr) (fs:List (Str×V)) (sp:Sp),u= .ref p/\H p=some (.ins C dx fs)/\fs.lookup ("words" :Str)=none/\DCls K C/\Mc P w K mg base C "words" 5 sp/\∀(H':Hp) (Q:VK),Same H H'->(∀H2,Same H' H2->Q (.str t) H2)->sp [.ref p] H' Q E0
theorem WdAt.same {u:V}{t:Str}(h:WdAt P w K mg base H u t)(s:Same H H'):WdAt P w K mg base H' u t:=by
 walk_at"g1";obtain⟨p,C,dx,fs,sp,a,b,c,d,e,g⟩:=h;walk_at"g2";exact⟨p,C,dx,fs,sp,a,s _ _ b,c,d,e,λH2 Q s2=>g H2 Q (s.trans s2)⟩
theorem aFy {p:Addr}{st:Str}{e:V}(m:M w K mg)(h:DS m.cF m.cX m.dR m.c6 H p sh kd nm st e ns)(hn:aK nm=true)(hs:aK st=true)(he:bW e):(cH P w K mg base none).at' H (.ref p) (nm,st,e,λ_=>0)/\WdAt P w K mg base H (.ref p) (dT sh kd nm st e ns):=by
 cases h with
 | self h =>
  cases h with
  | door dx h0 h =>
   refine⟨⟨p,_,dx,_,[],rfl,h,m.j3,by walk_at"lk",by walk_at"lk",by walk_at"lk",by walk_at"lk",by walk_at"lk",kH m,(λ_ z=>nomatch z),λkl hk=>nomatch hk⟩,p,_,dx,_,_,rfl,h,by walk_at"lk",m.j3,Mc.mono (uT m) (by decide),λH' Q s k=> ?_⟩;exact oW (s _ _ h) m.j3 (kH m) (by walk_at"lk") (by walk_at"lk") (by walk_at"lk") (by walk_at"lk") (by walk_at"lk") hn hs he h0.ok k
  | since dx h0 h1 h =>
   refine⟨⟨p,_,dx,_,[],rfl,h,m.mJ,by walk_at"lk",by walk_at"lk",by walk_at"lk",by walk_at"lk",by walk_at"lk",qB m,(λ_ z=>nomatch z),λkl hk=>nomatch hk⟩,p,_,dx,_,_,rfl,h,by walk_at"lk",m.mJ,Mc.mono (DF m) (by decide),λH' Q s k=> ?_⟩;exact uU (s _ _ h) m.mJ (qB m) (by walk_at"lk") (by walk_at"lk") (by walk_at"lk") (by walk_at"lk") (by walk_at"lk") (by walk_at"lk") hn hs he h0.ok h1.ok k
  | beat dx h0 h1 h2 h =>
   refine⟨⟨p,_,dx,_,[],rfl,h,m.oV,by walk_at"lk",by walk_at"lk",by walk_at"lk",by walk_at"lk",by walk_at"lk",rG m,(λ_ z=>nomatch z),λkl hk=>nomatch hk⟩,p,_,dx,_,_,rfl,h,by walk_at"lk",m.oV,Mc.mono (FG m) (by decide),λH' Q s k=> ?_⟩;exact vP (s _ _ h) m.oV (rG m) (by walk_at"lk") (by walk_at"lk") (by walk_at"lk") (by walk_at"lk") (by walk_at"lk") (by walk_at"lk") (by walk_at"lk") hn hs he h0.ok h1.ok h2.ok k
 | shut q dx dxq h0 h1 hq h =>
  refine⟨⟨p,_,dx,_,[],rfl,h,m.oU,by walk_at"lk",by walk_at"lk",by walk_at"lk",by walk_at"lk",by walk_at"lk",A8 m,(λ_ z=>nomatch z),λkl hk=>nomatch hk⟩,p,_,dx,_,_,rfl,h,by walk_at"lk",m.oU,FO m,λH' Q s k=> ?_⟩;exact⟨p,dx,_,q,dxq,_,nm,st,e,_,_,rfl,s _ _ h,by walk_at"lk",by walk_at"lk",s _ _ hq,by walk_at"lk",by walk_at"lk",by walk_at"lk",by walk_at"lk",by walk_at"lk",by walk_at"lk",hn,hs,he,h0.ok,h1.ok,k⟩
inductive yY (C:Addr)(vs:List V)(H:Hp)(Q:VK)(E:XK):Prop
 | mk (h:Addr) (f l:Int) (rz ps:List (Str×Int)) (us:List V) (ds:List bJ) (i:Nat) (z:Str) (v:V) (_:vs=[.ref h,.str z]) (_:HouseU C H h f l rz ps us ds) (_:(ds.map (·.1)).Nodup) (_:(ds.map (·.1))[i]? =some z) (_:us[i]? =some v) (_:Q v H):yY C vs H Q E
theorem aEs {ds:List bJ}{i:Nat}(e7:nk.map (·.1)=(ds.map λd=>(.inr d.1:Key)))(nd:(ds.map (·.1)).Nodup)(hz:(ds.map (·.1))[i]? =some z)(hv:(nk.map (·.2))[i]? =some v):aX nk (.inr z)=some v:=by
 have e:(ds.map λd=>(.inr d.1:Key))=(ds.map (·.1)).map Sum.inr:=by rw[List.map_map];rfl
 rw[List.getElem?_map]at hv;obtain⟨x,hx,rfl⟩:=Option.map_eq_some_iff.mp hv;have h1:(nk.map (·.1))[i]? =some x.1:=by rw[List.getElem?_map,hx];rfl
 rw[e7,e,List.getElem?_map,hz]at h1;have h1:(.inr z:Key)=x.1:=Option.some.inj h1;rw[h1];exact wM (by rw[e7,e];exact E3 nd) (List.mem_of_getElem? hx)
theorem FW (m:M w K mg):FnOk P w K mg base CX0 1 m.rA m.qJ.d ["self","name"] (yY m.aW):=by
 refine m.qJ.F.ok aHd ?_ ?_;walk_at"w0";walk_at"w1";obtain⟨h,f,l,rz,ps,us,ds,i,z,v,rfl,hh,ndd,hz,hv,k⟩:=h;walk_at"g2";have nd:=aHd.nd;walk_at"hu";have aGm:=m.cV;refine⟨_,(aC (bH (AJ (v3 hu1 (pv 1) (bS (pv 0) rfl)) (by with_unfolding_all rfl)) (aE pZ) aS)
  (aE (aP (sV hu1 (bS (pv 0) rfl) (pv 1) (λ_ _=>rfl))))),?_⟩
 refine aL (σ:=[some (.ref h),some (.str z)]) rfl ?_;walk_at"cx";walk_at"g1";obtain⟨dx,qs,qp,qd,nk,kvs,e1,e2,e3,e4,e5,e6,e7,e8⟩:=hh;walk_at"g2";have ev:=aEs e7 ndd hz (by rw[e8];exact hv);walk_at"go";refine tX (.inl e6) ?_;rw[show (aX nk (.inr z)).isSome=true by rw[ev];rfl];walk_at"go";refine o8 (.inl e6) ev ?_;walk_at"go";exact k
theorem F3 (m:M w K mg):Mc P w K mg base m.aW "door" 1 (yY m.aW):=⟨_,_,_,m.cV.ic.cl,m.GC,m.qJ.b,FW m⟩
def NumR (i:Int):Prop:=0<=i/\i<10^60
def fM (f l:Int)(rz:List (Str×Int))(ts:List Str)(ps:List (Str×Int)):List Str :=
 [qI [.str "turns",.int f,.int l]]++rz.map (λe=>qI [.str "room",.str e.1,.int e.2])++ts.map (λt=>qI [.str "way",.str t])++(rz.filter λe=>decide (bU ps e.1>0)).map λe=>qI [.str "people",.str e.1,.int (bU ps e.1)]
structure HrA (P:Program)(w:World)(K:W.Frag)(mg:Str->Option Value)(base:Heap)(C:Addr)(H:Hp)(h:Addr)(f l:Int)(rz ps:List (Str×Int))(us:List V)(ds:List bJ)(ts:List Str):Prop where
 hh:HouseU C H h f l rz ps us ds
 hd:Paired ((cH P w K mg base none).at' H) us ds
 ht:Paired (WdAt P w K mg base H) us ts
 nr:(rz.map (·.1)).Nodup
 nd:(ds.map (·.1)).Nodup
 nm:∀e∈rz,aK e.1=true
 b1:NumR f
 b2:NumR l
 b3:∀e∈rz,NumR e.2
 b4:∀e∈rz,NumR (bU ps e.1)
 bt:∀t∈ts,t.length<=1000
 lr:rz.length<=20
 ld:ds.length<=20
theorem NumR.p (h:NumR i):fR (.int i):= .inl ⟨i,rfl,h.1,h.2⟩
theorem GT (h:decide (x.length<=1000)=true):fR (.str x):= .inr ⟨x,rfl,of_decide_eq_true h⟩
theorem VB (h:aK x=true):fR (.str x):= .inr ⟨x,rfl,by have:=cB h;lia⟩
theorem HI {a b c:V}(h1:fR a)(h2:fR b)(h3:fR c):∀v∈[a,b,c],fR v:=λv hv=>by
 simp only[List.mem_cons,List.not_mem_nil,or_false]at hv;rcases hv with rfl|rfl|rfl<;>assumption
theorem aC9 {a b:V}(h1:fR a)(h2:fR b):∀v∈[a,b],fR v:=λv hv=>by
 simp only[List.mem_cons,List.not_mem_nil,or_false]at hv;rcases hv with rfl|rfl<;>assumption
theorem HouseU.same {h:Addr}{us:List V}{ds:List bJ}(x:HouseU C H h f l rz ps us ds)(s:Same H H'):HouseU C H' h f l rz ps us ds:=by
 walk_at"g1";obtain⟨dx,qs,qp,qd,nk,kvs,e1,e2,e3,e4,e5,e6,e7⟩:=x;walk_at"g2";exact⟨dx,qs,qp,qd,nk,kvs,s _ _ e1,s _ _ e2,s _ _ e3,e4,e5,s _ _ e6,e7⟩
theorem sR (f:α->V):∀l:List α,Paired (λ(v:V) (x:α)=>v=f x) (l.map f) l
 | []=> .nil
 | _::l=> .cons rfl (sR f l)
theorem MJ:∀{l:List α}{ys:List V},Paired (λ(_:α) y=>y=V.bl true) l ys->ys=(l.map λ_=>true).map V.bl
 | _,_,.nil=>rfl
 | _,_,.cons h t=>by rw[h,MJ t];rfl
theorem oI {g:α->V}:∀{l:List α}{ys:List V},Paired (λx y=>y=g x) l ys->ys=l.map g
 | _,_,.nil=>rfl
 | _,_,.cons h t=>by rw[h,oI t];rfl
theorem zG {R:α->β->Prop}:∀{l:List α}{m:List β},l.length=m.length->(∀(i:Nat) a b,l[i]? =some a->m[i]? =some b->R a b)->Paired R l m
 | [],[],_,_=> .nil
 | [],_::_,h,_=>nomatch h
 | _::_,[],h,_=>nomatch h
 | _::_,_::_,h,k=> .cons (k 0 _ _ rfl rfl) (zG (Nat.succ.inj h) λi x y hx hy=>k (i+1) x y hx hy)
theorem aEB {i b:Nat}(h:(List.range n)[i]? =some b):b=i/\i<n:=by
 obtain⟨h1,h2⟩:=List.getElem?_eq_some_iff.mp h;rw[List.getElem_range]at h2;rw[List.length_range]at h1;exact⟨h2.symm,h1⟩
theorem aDf {i:Nat}(h:i<n):(List.range n)[i]? =some i:=by rw[List.getElem?_eq_getElem (by rw[List.length_range];exact h),List.getElem_range]
inductive zR (P:Program)(w:World)(K:W.Frag)(mg:Str->Option Value)(base:Heap)(C:Addr)(vs:List V)(H:Hp)(Q:VK)(E:XK):Prop
 | mk (h:Addr) (f l:Int) (rz ps:List (Str×Int)) (us:List V) (ds:List bJ) (ts:List Str) (_:vs=[.ref h]) (_:HrA P w K mg base C H h f l rz ps us ds ts) (_:∀p H',H p=none->Same H H'->H' p=some (.lst ((fM f l rz ts ps).map V.str))->Q (.ref p) H'):zR P w K mg base C vs H Q E
theorem FD (m:M w K mg):FnOk P w K mg base CX0 8 m.qK m.lE.d ["house"] (zR P w K mg base m.aW):=by
 refine m.lE.F.ok aG3 ?_ ?_;walk_at"w0";walk_at"w1";obtain⟨h,f,l,rz,ps,us,ds,ts,rfl,x,k⟩:=h;walk_at"g2";have nd:=aG3.nd;walk_at"hu";have aGy:= @tR P w K mg base m;have aG2:= @SH P w K mg base m;have aGm:=m.cV;have aH0:= @DE P w K mg base m;have aHV:= @CZ P w K mg base m;have aH5:= @F3 P w K mg base m;have aH2:= @CP P w K mg base m;have aHW:= @DC P w K mg base m;refine⟨_,(aC (aT (i:=1) nd rfl (by walk_at"oi") (sW 1 hr (pv 0)))
  (aC (bH (hG (eY (bD (yK rfl) rfl m.R0 IK (aA (dG (N:=["room"]) (nl:=1) (ci:=[]) rfl (blk (s.heap.objs.size+1) rfl rfl rfl (by kernel_rfl)) (bZ (pv 1)) (λ_ _ _ _=>(aZ (i:=0) (show (["room"]:List Str).Nodup by decide +kernel) rfl (by walk_at"oi"))) (λ_ _ _ _=>dO) (λ_ _ _ _=>(bT aGy hr (aA (pv 0) aB)))) aB)))) (aE pZ) aS)
  (aC (aT (i:=2) nd rfl (by walk_at"oi") (bM (aA (bT aG2 hr (aA (bM (aA aD (aA (bS (pv 0) rfl) (aA (bS (pv 0) rfl) aB)))) aB)) aB)))
  (aC (bG (gP PySem.F.plainAttrs_list PySem.F.slot_list_extend PySem.F.type_list_extend v4 (pv 2) (aA (dG (N:=["room","house"]) (nl:=1) (ci:=[0]) rfl (blk (s.heap.objs.size+1) rfl rfl rfl (by kernel_rfl)) (bZ (pv 1)) (λ_ _ _ _=>(aZ (i:=0) (show (["room","house"]:List Str).Nodup by decide +kernel) rfl (by walk_at"oi"))) (λ_ _ _ _=>dO) (λ_ _ _ _=>(bT aG2 hr (aA (bM (aA aD (aA (pv 0) (aA (AW (P:=P) (w:=w) (K:=K) (mg:=mg) (base:=base) 3 hr (pv 1) (aA (pv 0) aB)) aB)))) aB)))) aB)))
  (aC (bG (gP PySem.F.plainAttrs_list PySem.F.slot_list_extend PySem.F.type_list_extend v4 (pv 2) (aA (dG (N:=["name","house"]) (nl:=1) (ci:=[0]) rfl (blk (s.heap.objs.size+1) rfl rfl rfl (by kernel_rfl)) (bZ (sW 1 hr (pv 0))) (λ_ _ _ _=>(aZ (i:=0) (show (["name","house"]:List Str).Nodup by decide +kernel) rfl (by walk_at"oi"))) (λ_ _ _ _=>dO) (λ_ _ _ _=>(bT aG2 hr (aA (bM (aA aD (aA (aAS (P:=P) (w:=w) (K:=K) (mg:=mg) (base:=base) 5 hr (AW (P:=P) (w:=w) (K:=K) (mg:=mg) (base:=base) 1 hr (pv 1) (aA (pv 0) aB))) aB))) aB)))) aB)))
  (aC (bG (gP PySem.F.plainAttrs_list PySem.F.slot_list_extend PySem.F.type_list_extend v4 (pv 2) (aA (dG (N:=["room","house"]) (nl:=1) (ci:=[0]) rfl (blk (s.heap.objs.size+1) rfl rfl rfl (by kernel_rfl)) (bZ (pv 1)) (λ_ _ _ _=>(aZ (i:=0) (show (["room","house"]:List Str).Nodup by decide +kernel) rfl (by walk_at"oi"))) (λ_ _ _ _=>(J0 (a9 aAh (AW (P:=P) (w:=w) (K:=K) (mg:=mg) (base:=base) 3 hr (pv 1) (aA (pv 0) aB)) aF (bE _)))) (λ_ _ _ _=>(bT aG2 hr (aA (bM (aA aD (aA (pv 0) (aA (AW (P:=P) (w:=w) (K:=K) (mg:=mg) (base:=base) 3 hr (pv 1) (aA (pv 0) aB)) aB)))) aB)))) aB)))
  (aE (aP (pv 2))))))))),?_⟩
 refine aL (σ:=[some (.ref h),none,none]) rfl ?_;walk_at"cx";walk_at"g1";obtain⟨hh,hd,ht,nr,ndd,nm,b1,b2,b3,b4,bt,lr,ld⟩:=x;walk_at"g2";have hA:=hh.house hd;walk_at"g1";obtain⟨dx,qs,qp,qd,nk,kvs,e1,_⟩:=id hA.ex;walk_at"g2";walk_at"go";refine ML hA λpR H1 n1 S1 eR=> ?_;have e11:=S1 _ _ e1;walk_at"go";refine gF (α:=Str×Int) (xs:=rz) (vs:=(rz.map (·.1)).map V.str) (λv e=>v= .str e.1) (λ_=>true) (λ_ y _=>y=V.bl true) (λ_ _ _ _ h _=>h) (by rw[sizeLine_eq];lia) (rest:=[]) (by rfl) (SqL.of eR) (by rw[List.map_map];exact sR _ rz) ?_ ?_ ?_
 .exact λv x H1 _ _ s1 R hR=>hR _ (Same.refl _)
 .rintro _ e G rfl hm - s R hR;have hn:=nm e hm;walk_at"go";rename_i H' S';exact hR _ _ rfl S'
 intro ys H2 s2 hys;rw[g6]at hys;obtain rfl:=MJ hys;walk_at"go";rename_i pB H3 n3 S3 e3;refine aCV (SqL.of e3) ?_;rw[show (rz.map λ_=>true).all id=true from List.all_eq_true.mpr λx hx=>by obtain⟨_,_,rfl⟩:=List.mem_map.mp hx;rfl];have s03:Same H H3:=S1.trans (s2.trans S3);have e13:=s03 _ _ e1;walk_at"go";rename_i pT H4 n4 S4 e4;refine BW (SqL.of e4) (HI (GT (by decide +kernel)) b1.p b2.p) (by show 3<=10;decide) λH5 S5=> ?_;walk_at"go";rename_i pL H6 n6 S6 e6;have s36:Same H3 H6:=S4.trans (S5.trans S6);have s06:=s03.trans s36;have e16:=s06 _ _ e1;have eR6:=(s2.trans (S3.trans s36)) _ _ eR;have hA6:=qF hA s06;walk_at"go";refine gF (α:=Str×Int) (xs:=rz) (vs:=(rz.map (·.1)).map V.str) (λv e=>v= .str e.1) (λ_=>true) (λe y _=>y=V.str (qI [.str "room",.str e.1,.int e.2])) (λ_ _ _ _ h _=>h) (by rw[sizeLine_eq];lia) (rest:=[some (.ref h)]) (by rfl) (SqL.of eR6) (by rw[List.map_map];exact sR _ rz) ?_ ?_ ?_
 .exact λv x H1 _ _ s1 R hR=>hR _ (Same.refl _)
 .rintro _ ⟨z,sz⟩ G rfl hm - s R hR;have e1G:=s _ _ e16;show (_:TE) [some (.str z),some (.ref h)] G R;walk_at"go";refine aA5 (i:=sz) (qF hA6 s) nr hm λG1 T1=> ?_;walk_at"go";rename_i qr G2 m2 T2 e2r;exact BW (SqL.of e2r) (HI (GT (by decide +kernel)) (VB (nm _ hm)) (b3 _ hm).p) (by show 3<=10;decide) λG3 T3=>hR _ _ rfl (T1.trans (T2.trans T3))
 intro ys2 H7 s7 hys2;rw[g6]at hys2;obtain rfl:=oI hys2;walk_at"go";rename_i pM H8 n8 S8 e8;refine u7 ((s7.trans S8) _ _ e6) e8 (by rw[sizeLine_eq,List.length_map];show 1+rz.length<=_;lia) λH9 B9 e9=> ?_;have s59:Same H5 H9:=SameBut.same n6 S6 ((s7.trans S8).but.trans B9);have s09:Same H H9:=s03.trans (S4.trans (S5.trans s59));have e19:=s09 _ _ e1;walk_at"go";refine ML (qF hA s09) λpD HA nA SA eD=> ?_;walk_at"go";have s0A:=s09.trans SA;have e1A:=s0A _ _ e1;have hul:=Paired.length hd;have htl:=Paired.length ht;refine gF (α:=Nat) (xs:=List.range ds.length) (vs:=(ds.map (·.1)).map V.str) (λv i=>∃z,(ds.map (·.1))[i]? =some z/\v= .str z) (λ_=>true) (λi y _=>∃t,ts[i]? =some t/\y=V.str (qI [.str "way",.str t])) (λ_ _ _ _ h _=>h) (by rw[sizeLine_eq,List.length_range];lia) (rest:=[some (.ref h)]) (by rfl) (SqL.of eD) (zG (by rw[List.length_map,List.length_map,List.length_range]) λi v j hv hj=> ?_) ?_ ?_ ?_
 .obtain⟨rfl,_⟩:=aEB hj;rw[List.getElem?_map]at hv;obtain⟨z,hz,rfl⟩:=Option.map_eq_some_iff.mp hv;exact⟨z,hz,rfl⟩
 .exact λv x H1 _ _ s1 R hR=>hR _ (Same.refl _)
 .rintro _ i G ⟨z,hz,rfl⟩ hm - s R hR;have hi:i<ds.length:=List.mem_range.mp hm;obtain⟨v,hv⟩:∃v,us[i]? =some v:=⟨_,List.getElem?_eq_getElem (by lia)⟩
  obtain⟨t,htt⟩:∃t,ts[i]? =some t:=⟨_,List.getElem?_eq_getElem (by lia)⟩
  have s0G:=s0A.trans s;have e1G:=s0G _ _ e1;show (_:TE) [some (.str z),some (.ref h)] G R;walk_at"go";refine⟨h,f,l,rz,ps,us,ds,i,z,v,rfl,hh.same s0G,ndd,hz,hv,?_⟩;walk_at"g1";obtain⟨p,C,dx',fs,sp,rfl,hp,hl,dc,mc,hw⟩:=(L2.Paired.at2 ht hv htt).same s0G;walk_at"g2";walk_at"go";refine hw _ _ (Same.refl _) λG1 T1=> ?_;walk_at"go";rename_i qr G2 m2 T2 e2r;exact BW (SqL.of e2r) (aC9 (GT (by decide +kernel)) (.inr ⟨t,rfl,bt t (List.mem_of_getElem? htt)⟩)) (by show 2<=10;decide) λG3 T3=>hR _ _ ⟨t,htt,rfl⟩ (T1.trans (T2.trans T3))
 intro ys3 HB sB hys3;rw[g6]at hys3;have ey3:ys3=ts.map λt=>V.str (qI [.str "way",.str t]):=by
  have hl3:=Paired.length hys3;rw[List.length_range]at hl3;refine oI (zG (by lia) λi t y hti hyi=> ?_);have hi:=(List.getElem?_eq_some_iff.mp hti).1;obtain⟨t',h1,h2⟩:=L2.Paired.at2 hys3 (aDf (by lia:i<ds.length)) hyi;rw[hti]at h1;cases h1;exact h2
 subst ey3;walk_at"go";rename_i pW HC nC SC eW;have s9C:Same H9 HC:=SA.trans (sB.trans SC);refine u7 (s9C _ _ e9) eW (by rw[sizeLine_eq,List.length_append,List.length_map,List.length_map];show 1+rz.length+_<=_;lia) λHD BD eLD=> ?_;have s5D:Same H5 HD:=SameBut.same n6 S6 (((s7.trans S8).but.trans B9).trans (s9C.but.trans BD));have s0D:Same H HD:=s03.trans (S4.trans (S5.trans s5D));have eRD:=(s2.trans (S3.trans (S4.trans (S5.trans s5D)))) _ _ eR;have e1D:=s0D _ _ e1;walk_at"go";refine gF (α:=Str×Int) (xs:=rz) (vs:=(rz.map (·.1)).map V.str) (λv e=>v= .str e.1) (λe=>decide (bU ps e.1>0)) (λe y _=>y=V.str (qI [.str "people",.str e.1,.int (bU ps e.1)])) (λ_ _ _ _ h _=>h) (by rw[sizeLine_eq];lia) (rest:=[some (.ref h)]) (by rfl) (SqL.of eRD) (by rw[List.map_map];exact sR _ rz) ?_ ?_ ?_
 .rintro _ e G rfl hm s R hR;have e1G:=s _ _ e1D;show (_:TT) [some (.str e.1),some (.ref h)] G R;walk_at"go";refine MD (qF hA (s0D.trans s)) nr (List.mem_map.mpr ⟨_,hm,rfl⟩) λG1 T1=> ?_;walk_at"go";exact hR _ T1
 .rintro _ e G rfl hm - s R hR;have e1G:=s _ _ e1D;show (_:TE) [some (.str e.1),some (.ref h)] G R;walk_at"go";refine MD (qF hA (s0D.trans s)) nr (List.mem_map.mpr ⟨_,hm,rfl⟩) λG1 T1=> ?_;walk_at"go";rename_i qr G2 m2 T2 e2r;exact BW (SqL.of e2r) (HI (GT (by decide +kernel)) (VB (nm _ hm)) (b4 _ hm).p) (by show 3<=10;decide) λG3 T3=>hR _ _ rfl (T1.trans (T2.trans T3))
 intro ys4 HE sE hys4;obtain rfl:=oI hys4;walk_at"go";rename_i pP HF nF SF eP;have hlf:=List.length_filter_le (λe:Str×Int=>decide (bU ps e.1>0)) rz;refine u7 ((sE.trans SF) _ _ eLD) eP (by rw[sizeLine_eq,List.length_append,List.length_append,List.length_map,List.length_map,List.length_map];show 1+rz.length+_+_<=_;lia) λHG BG eLG=> ?_;walk_at"go";have s5G:Same H5 HG:=SameBut.same n6 S6 ((((s7.trans S8).but.trans B9).trans (s9C.but.trans BD)).trans ((sE.trans SF).but.trans BG));refine k _ _ (fP (s03.trans (S4.trans S5)) n6) (s03.trans (S4.trans (S5.trans s5G))) ?_;rw[eLG];unfold fM;simp only[List.map_append,List.map_map,List.map_cons,List.map_nil];rfl
theorem uX (m:M w K mg):Fc P w K mg base "house_rows" 8 ["house"] (zR P w K mg base m.aW):=⟨_,_,m.KS,m.lE.F.kp,m.lE.b,FD m⟩
inductive tM (P:Program)(w:World)(K:W.Frag)(mg:Str->Option Value)(base:Heap)(C:Addr)(vs:List V)(H:Hp)(Q:VK)(E:XK):Prop
 | mk (h:Addr) (f l:Int) (rz ps:List (Str×Int)) (us:List V) (ds:List bJ) (ts:List Str) (_:vs=[.ref h]) (_:HrA P w K mg base C H h f l rz ps us ds ts) (_:(∀r∈fM f l rz ts ps,r.length<=100000)) (_:∀H',Same H H'->Q (.str (Txt.join "\n" (fM f l rz ts ps))) H'):tM P w K mg base C vs H Q E
theorem UT {ts:List Str}:(fM f l rz ts ps).length<=1+rz.length+ts.length+rz.length:=by
 unfold fM;rw[List.length_append,List.length_append,List.length_append,List.length_map,List.length_map,List.length_map];have:=List.length_filter_le (λe:Str×Int=>decide (bU ps e.1>0)) rz;show 1+_+_+_<=_
 lia
theorem FP (m:M w K mg):FnOk P w K mg base CX0 9 m.qR m.kZ.d ["house"] (tM P w K mg base m.aW):=by
 refine m.kZ.F.ok aHb ?_ ?_;walk_at"w0";walk_at"w1";obtain⟨h,f,l,rz,ps,us,ds,ts,rfl,x,hl,k⟩:=h;walk_at"g2";have nd:=aHb.nd;walk_at"hu";have aGK:= @uX P w K mg base m;refine⟨_,(aE (aP (bY aD (by exact(aA (bT aGK hr (aA (pv 0) aB)) aB))))),?_⟩;refine aL (σ:=[some (.ref h)]) rfl ?_;walk_at"cx";have lr:=x.lr;have ld:=x.ld;have lt:=Paired.length x.ht;have ldd:=Paired.length x.hd;have hrl:=UT (f:=f) (l:=l) (rz:=rz) (ps:=ps) (ts:=ts);walk_at"go";refine⟨h,f,l,rz,ps,us,ds,ts,rfl,x,λp H1 n1 S1 e1=> ?_⟩;walk_at"go";refine gG (SqL.of e1) ?_ (k _ S1);have h1:((fM f l rz ts ps).map (·.length)).sum<=((fM f l rz ts ps).map (·.length)).length * 100000:=JU λx hx=>by
  obtain⟨z,hz,rfl⟩:=List.mem_map.mp hx;exact hl z hz
 rw[List.length_map]at h1;have:("\n" :Str).length=1:=by decide
 rw[this];have:=Nat.mul_le_mul_right 100000 (show (fM f l rz ts ps).length<=61 by lia)
 lia
theorem F2 (m:M w K mg):Fc P w K mg base "house_text" 9 ["house"] (tM P w K mg base m.aW):=⟨_,_,m.K5,m.kZ.F.kp,m.kZ.b,FP m⟩
structure Dd where
 sh:Option Int
 kd:Str
 nm:Str
 st:Str
 e:V
 ns:List Int
def Dd.t (d:Dd):Str:=dT d.sh d.kd d.nm d.st d.e d.ns
def Dd.g (d:Dd):bJ:=(d.nm,d.st,d.e,λ_=>0)
def Dd.r (d:Dd):List Str:=[d.nm,d.st,cP d.e]++d.ns.map aJ
structure DOk (d:Dd):Prop where
 bk:Bk d.kd d.ns
 hn:aK d.nm=true
 hs:aK d.st=true
 he:bW d.e
 sk:∀a,d.sh=some a->N12 a/\d.kd= "door"
def WT (r:Str):Str:=Txt.slice r (some 4) none
structure DRd (r:Str)(d:Dd):Prop where
 ok:DOk d
 w:DrW (WT r) (jN d.sh) d.kd d.r
def W7 (r:Str):Prop:=∃pre kd r',DrW (WT r) pre kd r'/\vA kd r'
open Classical in
noncomputable def drd (r:Str):Option Dd:=if h:∃d,DRd r d then some h.choose else none
theorem BI {r:Str}{d:Dd}(h:drd r=some d):DRd r d:=by
 unfold drd at h
 split at h
 .rename_i q;cases h;exact q.choose_spec
 .cases h
def gL (rs:List Str):List (List Str):=rs.map λr=>Txt.split r " "
def j6 (r:Str):Bool:=d2 r "way "
structure Reads (rs:List Str)(f l:Int)(rz:List (Str×Int))(dd:List Dd)(ps:List (Str×Int)):Prop where
 tn:Paired (λws v=>rd2 "number" ws.tail=some v) ((gL rs).filter (hdB "turns")) [(.int f,l)]
 rm:Paired (λws v=>rd2 "name" ws.tail=some v) ((gL rs).filter (hdB "room")) (rz.map λe=>(.str e.1,e.2))
 wy:Paired (λr d=>drd r=some d) (rs.filter j6) dd
 pp:Paired (λws v=>rd2 "name" ws.tail=some v) ((gL rs).filter (hdB "people")) (ps.map λe=>(.str e.1,e.2))
structure HOk (f l:Int)(rz:List (Str×Int))(ds:List bJ)(ps:List (Str×Int)):Prop where
 f0:0<=f
 fl:f<=l
 nr:(rz.map (·.1)).Nodup
 nd:(ds.map (·.1)).Nodup
 sp:∀z∈c9 ds ps,z∈rz.map (·.1)
 ft:tK rz ps
def Good (rs:List Str)(f l:Int)(rz:List (Str×Int))(dd:List Dd)(ps:List (Str×Int)):Prop:=Reads rs f l rz dd ps/\HOk f l rz (dd.map Dd.g) ps
structure RB (rs:List Str):Prop where
 ln:rs.length<=20000
 rl:∀r∈rs,r.length<=100000
 ws:∀r∈rs,∃h t,Txt.split r " " =h::t/\∀x∈t,x.length<=10000
def sQ (rs:List Str):Prop:=∃ws∈gL rs,hdB "room" ws=true/\rd2 "name" ws.tail=none
def WR (rs:List Str):Prop:=(rs.filter λr:Str=>decide (r≠ "")).length<=20/\∀r∈rs,j6 r=true->(∃d,DRd r d)∨W7 r
theorem jB {R:α->β->Prop}(hf:∀a b c,R a b->R a c->b=c):∀{l:List α}{x y:List β},Paired R l x->Paired R l y->x=y
 | _,_,_,.nil,.nil=>rfl
 | _,_,_,.cons a t,.cons b u=>by rw[hf _ _ _ a b,jB hf t u]
theorem DH {f:Str}:∀(a:List Str) (b c:V×Int),rd2 f a.tail=some b->rd2 f a.tail=some c->b=c:=λ_ _ _ h g=>Option.some.inj (h.symm.trans g)
theorem t6 {R:α->β->Prop}:∀{l:List α}{m:List β},Paired R l m->∀a∈l,∃b∈m,R a b
 | _,_,.nil,_,h=>nomatch h
 | _,_,.cons r t,a,h=>by
  rcases List.mem_cons.mp h with rfl|h
  .exact⟨_,.head _,r⟩
  .obtain⟨b,hb,q⟩:=t6 t a h;exact⟨b,.tail _ hb,q⟩
theorem v5 {f:Str}{vs:List (V×Int)}(h:Paired (λws v=>rd2 f ws.tail=some v) ((gL rs).filter (hdB first)) vs):¬∃ws∈gL rs,hdB first ws=true/\rd2 f ws.tail=none:=λ⟨ws,hm,hc,hb⟩=>by
 obtain⟨v,_,q⟩:=t6 h ws (List.mem_filter.mpr ⟨hm,hc⟩);rw[hb]at q;cases q
theorem KO:∀{rs:List Str},(∀r∈rs,r.length<=100000)->PR rs (gL rs)
 | [],_=> .nil
 | r::_,h=> .cons ⟨rfl,by have:=h r (.head _);lia⟩ (KO λx hx=>h x (.tail _ hx))
theorem aAO (h:RB rs):PR rs (gL rs):=KO h.rl
theorem aCI (h:RB rs):∀ws∈gL rs,∃x t,ws=x::t/\∀y∈t,y.length<=10000:=λws hws=>by
 obtain⟨r,hr,rfl⟩:=List.mem_map.mp hws;exact h.ws r hr
theorem yO {ws:List Str}{v:V×Int}(h:rd2 "name" ws=some v):∃z,v.1= .str z/\aK z=true/\∃y,ws=[z,y]/\wrB y=true/\v.2=b6 y:=by
 match ws,h with
 | [x,y],h =>
  have h:(if (rdF "name" x&&wrB y)=true then some (rdV "name" x,b6 y) else none)=some v:=h
  split at h
  .rename_i q;cases h;rw[Bool.and_eq_true]at q;exact⟨x,rfl,q.1,y,rfl,q.2,rfl⟩
  .cases h
theorem DV {ws:List Str}{v:V×Int}(h:rd2 "number" ws=some v):∃x y,ws=[x,y]/\wrB x=true/\wrB y=true/\v=(.int (b6 x),b6 y):=by
 match ws,h with
 | [x,y],h =>
  have h:(if (rdF "number" x&&wrB y)=true then some (rdV "number" x,b6 y) else none)=some v:=h
  split at h
  .rename_i q;cases h;rw[Bool.and_eq_true]at q;exact⟨x,y,rfl,q.1,q.2,rfl⟩
  .cases h
theorem J8 {l:List (List Str)}{rv:List (V×Int)}(h:Paired (λws v=>rd2 "name" ws.tail=some v) l rv):∃rz:List (Str×Int),rv=rz.map λe=>(.str e.1,e.2):=by
 induction h with
 | nil=>exact⟨[],rfl⟩
 | cons r _ ih =>
  obtain⟨rz,rfl⟩:=ih;obtain⟨z,e,_⟩:=yO r;rename_i v _ _ _;exact⟨(z,v.2)::rz,by rw[List.map_cons,←e]⟩
theorem DB:∀{us:List V}{rz:List (Str×Int)},Paired (TupV H) us (rz.map λe=>((.str e.1:V),e.2))->Paired (fL H) us rz
 | _,[],.nil=> .nil
 | _,_::_,.cons h t=> .cons (let ⟨q,a,b⟩:=h;⟨q,a,b⟩) (DB t)
theorem yC (p:Str->Bool)(h:p "" =false)(hc:(rs.filter λr:Str=>decide (r≠ "")).length<=20):(rs.filter p).length<=20:=by
 have e:rs.filter p=(rs.filter λr:Str=>decide (r≠ "")).filter p:=by
  rw[List.filter_filter];refine List.filter_congr λr _=> ?_
  by_cases hr:r= ""
  .subst hr;rw[h];rfl
  .rw[decide_eq_true hr,Bool.and_true]
 rw[e];exact Nat.le_trans (List.length_filter_le _ _) hc
theorem JN (h:hdB first (Txt.split "" " ")=false)(hc:(rs.filter λr:Str=>decide (r≠ "")).length<=20):((gL rs).filter (hdB first)).length<=20:=by
 unfold gL;rw[List.filter_map,List.length_map];exact yC _ h hc
theorem Reads.uniq {dd dd':List Dd}(g:Reads rs f l rz dd ps)(h:Reads rs f' l' rz' dd' ps'):f=f'/\l=l'/\rz=rz'/\dd=dd'/\ps=ps':=by
 have h1:=jB DH g.tn h.tn;have h2:=jB DH g.rm h.rm;have h3:=jB (λ_ _ _ a b=>Option.some.inj (a.symm.trans b)) g.wy h.wy;have h4:=jB DH g.pp h.pp;have inj:∀a b:Str×Int,((.str a.1:V),a.2)=((.str b.1:V),b.2)->a=b:=λa b q=>by
  injection q with q1 q2;injection q1 with q1;exact Prod.ext q1 q2
 have h2:=(List.map_inj_right λa b q=>inj a b q).mp h2;have h4:=(List.map_inj_right λa b q=>inj a b q).mp h4;injection h1 with h1 _;injection h1 with h1 h5;injection h1 with h1;exact⟨h1,h5,h2,h3,h4⟩
def DsAt (P:Program)(w:World)(K:W.Frag)(mg:Str->Option Value)(base:Heap)(H:Hp)(us:List V)(dd:List Dd):Prop:=Paired ((cH P w K mg base none).at' H) us (dd.map Dd.g)/\Paired (WdAt P w K mg base H) us (dd.map Dd.t)
inductive Q9 (P:Program)(w:World)(K:W.Frag)(mg:Str->Option Value)(base:Heap)(C N:Addr)(vs:List V)(H:Hp)(Q:VK)(E:XK):Prop
 | mk (a:Addr) (rs:List Str) (_:vs=[.ref a]) (_:SqL K H a (rs.map V.str)) (_:RB rs) (_:(sQ rs∨WR rs)) (_:((¬∃f l rz dd ps,Good rs f l rz dd ps)->Ref0 N H E)) (_:∀f l rz dd ps,Good rs f l rz dd ps->∀h us H',H h=none->Same H H'->HouseU C H' h f l rz ps us (dd.map Dd.g)->DsAt P w K mg base H' us dd->Q (.ref h) H'):Q9 P w K mg base C N vs H Q E
theorem tD {K:W.Frag}{T CN:Addr}{E:XK}{dd:Option Addr}(h:W.exmOne K (.ref C) (.ref T)=some true)(k:Ref0 CN H E):RO K T CN (GI (tC (.str z)) CM) E σ (.ref C) dd H :=
 ⟨C,rfl,.inl ⟨h,λea hn=>⟨(by show 1<=sizeLine;decide),(by
  cases dd with
  | none=>exact⟨_,aU,λ_ q=>q.un⟩
  | some dx=>exact⟨_,aU,λ_ q=>q.un⟩),k _ (l7 hn)⟩⟩⟩
theorem KA:∀{rs:List Str}{us:List V},Paired (λr u=>∃d,drd r=some d/\(cH P w K mg base none).at' H u d.g/\WdAt P w K mg base H u d.t) rs us->∃dd,Paired (λr d=>drd r=some d) rs dd/\DsAt P w K mg base H us dd
 | _,_,.nil=>⟨[],.nil,.nil,.nil⟩
 | _,_,.cons ⟨d,a,b,c⟩ t=>by
  walk_at"g1";obtain⟨dd,h1,h2,h3⟩:=KA t;walk_at"g2";exact⟨d::dd,.cons a h1,.cons b h2,.cons c h3⟩
theorem WI:∀{l:List (List Str)}{rv:List (V×Int)},Paired (λws v=>rd2 "number" ws.tail=some v) l rv->rv.length=1->∃a b,rv=[(.int a,b)]
 | _,_,.cons a .nil,_=>by
  walk_at"g1";obtain⟨x,y,_,_,_,e⟩:=DV a;walk_at"g2";exact⟨_,_,by rw[e]⟩
 | _,_,.cons _ (.cons _ _),h=>nomatch h
theorem DsAt.same {us:List V}{dd:List Dd}(h:DsAt P w K mg base H us dd)(s:Same H H'):DsAt P w K mg base H' us dd:=⟨uA h.1 s,Paired.imp' (λ_ _ x=>x.same s) h.2⟩
theorem aF4:((("way " :Str).length:Nat):Int)=4:=by decide +kernel
theorem Dup.not (h:Dup ss z):¬ss.Nodup:=λn=>by
 walk_at"g1";obtain⟨i,a1,a2,_⟩:=h;walk_at"g2";exact yZ n a1 a2
theorem Odd.not (h:Odd rs ss z):¬∀y∈ss,y∈rs:=λn=>by
 walk_at"g1";obtain⟨i,a1,a2,_⟩:=h;walk_at"g2";exact a2 (n z (List.mem_of_getElem? a1))
local macro_rules| `(tactic| walk_at"rd1")=> `(tactic| ((with_reducible refine' aCG ?e ?l ?_);(case e=>walk_at"hp");(case l=>rfl)))
theorem FS (m:M w K mg):FnOk P w K mg base (CXC P w) 10 m.qT m.kN.d ["rows"] (Q9 P w K mg base m.aW m.aO):=by
 refine m.kN.F.okQ aHg ?_ ?_;walk_at"w0";walk_at"w1";obtain⟨a,rs,rfl,hS,hB,hW,k2,k⟩:=h;walk_at"g2";have nd:=aHg.nd;walk_at"hu";have aGt:= @B4 P w K mg base m;have aHN:= @KJ P w K mg base m;have aHU:= @PZ P w K mg base m;refine⟨_,(aC (aT (i:=1) nd rfl (by walk_at"oi") (dH aGt hr AU (aA (pv 0) (aA aD (aA (AE (aA aD (aA aD aB))) aB)))))
  (aC (bH (a9 GM (bD cE rfl m.eK c5 (aA (pv 1) aB)) aF (bE _)) (aE (dM m.fK m.fW UM (aA aD aB))) aS)
  (aC (aT (i:=2) nd rfl (by walk_at"oi") (dH aGt hr AU (aA (pv 0) (aA aD (aA (AE (aA aD (aA aD aB))) aB)))))
  (aC (xR (i:=3) nd rfl (by walk_at"oi") (N:=["row"]) (nl:=1) (ci:=[]) aDW rfl (blk (s.heap.objs.size+1) rfl rfl rfl (by kernel_rfl)) (bZ (pv 0)) (λ_ _ _ _=>(aZ (i:=0) (show (["row"]:List Str).Nodup by decide +kernel) rfl (by walk_at"oi"))) (λ_ _ _ _=>(J0 (eY (U2 (K:=K) rfl PySem.F.plainAttrs_str PySem.F.slot_str_startswith PySem.F.type_str_startswith EL (pv 0) (aA aD aB))))) (λ_ _ _ _=>(dH aHN hr GN (aA (b8 aDk (pv 0) (b9 (bD vE rfl m.eK c5 (aA aD aB))) cW) aB))))
  (aC (aT (i:=4) nd rfl (by walk_at"oi") (dH aGt hr AU (aA (pv 0) (aA aD (aA (AE (aA aD (aA aD aB))) aB)))))
  (aE (aBi ZH rfl rfl rfl m.CK m.fK m.fW (NJ (aC6 aHU hr (aA (pv 2) (aA (pv 3) (aA (pv 4) (aA (bF UW (bF aR (pv 1) aF (λ_ _=>rfl)) aF (λ_ _=>rfl)) (aA (bF UW (bF aR (pv 1) aF (λ_ _=>rfl)) aF (λ_ _=>rfl)) aB))))))) (λea=>(aA aD aB))))))))),?_⟩
 refine aL (σ:=[some (.ref a),none,none,none,none]) rfl ?_;walk_at"cx";have hW1:=aAO hB;have hW2:=aCI hB;have hln:=hB.ln;walk_at"go";rename_i pA HA nA SA eA;refine YO (rs:=rs) (WS:=gL rs) (SA.seq hS) eA hW1 hW2 (by lia) (λhb=>Ref0.sm (k2 λ⟨_,_,_,_,_,g⟩=>v5 g.1.tn hb) SA) λpT usT rvT HT nT ST eT hT1 hT2=> ?_;have hST:=(SA.trans ST).seq hS;walk_at"go";have tl1:=Paired.length hT1;have tl2:=Paired.length hT2
 by_cases h1:¬usT.length=1
 .rw[if_pos (by rw[decide_eq_false (by lia)];rfl)];have r2:Ref0 m.aO H E:=k2 λ⟨_,_,_,_,_,g⟩=>by
   have:=Paired.length g.1.tn;have:((gL rs).filter (hdB "turns")).length=1:=this
   lia
  walk_at"go";exact⟨(by show 1<=sizeLine;decide),r2 _ (SA.trans ST)⟩
 have h1:usT.length=1:=by lia
 rw[if_neg (by rw[decide_eq_true (by lia)];simp)];obtain⟨f,l,rfl⟩:=WI hT1 (by lia);obtain⟨qt,rfl,et⟩:∃qt,usT=[.ref qt]/\HT qt=some (.tup [.int f,.int l]):=by
  cases hT2 with
  | cons h h2 =>
   cases h2;obtain⟨q,rfl,e⟩:=h;exact⟨q,rfl,e⟩
 walk_at"go";rename_i pB HB nB SB eB;have sTB:=SB;refine YO (rs:=rs) (WS:=gL rs) (SB.seq hST) eB hW1 hW2 (by lia) (λhb=>Ref0.sm (k2 λ⟨_,_,_,_,_,g⟩=>v5 g.1.rm hb) (SA.trans (ST.trans SB))) λpR usR rvR HR nR SR eR hR1 hR2=> ?_;obtain⟨hln,hWR⟩:WR rs:=hW.resolve_left λ⟨ws,a,b,c⟩=>v5 hR1 ⟨ws,a,b,c⟩;obtain⟨rz,rfl⟩:=J8 hR1;have hRp:=DB hR2;have s0R:Same H HR:=SA.trans (ST.trans (SB.trans SR));have hSR:=s0R.seq hS;walk_at"go";refine gF (α:=Str) (xs:=rs) (vs:=rs.map V.str) (λv r=>v= .str r) j6 (λr y G=>∃d,drd r=some d/\(cH P w K mg base none).at' G y d.g/\WdAt P w K mg base G y d.t) (λ_ _ _ _ ⟨d,a,b,c⟩ s=>⟨d,a,(cH P w K mg base none).same b s,c.same s⟩) (by rw[sizeLine_eq];lia) (rest:=[]) (by rfl) hSR (sR _ rs) ?_ ?_ ?_
 .rintro _ r G rfl hm s R hR;walk_at"go";exact⟨_,_,rfl,rfl,_,rfl,hR _ (Same.refl _)⟩
 .rintro _ r G rfl hm hc s R hR;have hrl:=hB.rl r hm;walk_at"go";rw[aF4]
  by_cases hd:∃d,DRd r d
  .have e:drd r=some hd.choose:=by unfold drd;rw[dif_pos hd]
   have q:=hd.choose_spec;generalize hd.choose=d at e q;exact⟨_,jN d.sh,d.kd,d.r,rfl,q.w,.inl ⟨d.sh,d.nm,d.st,d.e,d.ns,rfl,⟨⟨rfl,q.ok.bk,q.ok.hn,q.ok.hs,q.ok.he⟩,q.ok.sk⟩,λp G' hn s' hdd=>hR _ _ ⟨d,e,aFy m hdd q.ok.hn q.ok.hs q.ok.he⟩ s'⟩⟩
  .walk_at"g1";obtain⟨pre,kd,r',hw,hb⟩:=(hWR r hm hc).resolve_left hd;walk_at"g2";exact⟨_,pre,kd,r',rfl,hw,.inr ⟨hb,Ref0.sm (k2 λ⟨_,_,_,_,_,g⟩=>by
    obtain⟨d,_,q⟩:=t6 g.1.wy r (List.mem_filter.mpr ⟨hm,hc⟩);exact hd ⟨d,BI q⟩) (s0R.trans s)⟩⟩
 intro usD H1 s1 hus;obtain⟨dd,hdd,hD⟩:=KA hus;have hS1:=s1.seq hSR;walk_at"go";rename_i pD HD nD SD eD pC HC nC SC eC;refine YO (rs:=rs) (WS:=gL rs) (SC.seq (SD.seq hS1)) eC hW1 hW2 (by lia) (λhb=>Ref0.sm (k2 λ⟨_,_,_,_,_,g⟩=>v5 g.1.pp hb) (s0R.trans (s1.trans (SD.trans SC)))) λpP usP rvP HP nP SP eP hP1 hP2=> ?_;obtain⟨ps,rfl⟩:=J8 hP1;have hPp:=DB hP2;have s1P:Same H1 HP:=SD.trans (SC.trans SP);have sRP:Same HR HP:=s1.trans s1P;have s0P:Same H HP:=s0R.trans sRP;have sTP:Same HT HP:=SB.trans (SR.trans sRP);have etP:=sTP _ _ et;have eTP:=sTP _ _ eT;have eRP:=sRP _ _ eR;have eDP:=(SC.trans SP) _ _ eD;have hDP:=hD.same s1P;have rds:Reads rs f l rz dd ps:=⟨hT1,hR1,hdd,hP1⟩
 have lnz:rz.length<=20:=by
  have:=Paired.length hR1;rw[List.length_map]at this;have:=JN (first:= "room") (by decide +kernel) hln
  lia
 have lnp:ps.length<=40:=by
  have:=Paired.length hP1;rw[List.length_map]at this;have:=JN (first:= "people") (by decide +kernel) hln
  lia
 have lnd:(dd.map Dd.g).length<=20:=by
  have:=Paired.length hdd;have:=yC j6 (by decide +kernel) hln;rw[List.length_map]
  lia
 have hes:∀d∈dd.map Dd.g,C8 d:=λd hd=>by
  obtain⟨x,hx,rfl⟩:=List.mem_map.mp hd;obtain⟨i,hi,e⟩:=List.getElem_of_mem hx;have hl:=Paired.length hdd;have q:=L2.Paired.at2 hdd (List.getElem?_eq_getElem (by lia:i<(rs.filter j6).length)) (by rw[List.getElem?_eq_getElem hi,e]);exact(BI q).ok.he.imp id λ⟨z,e,_⟩=>⟨z,e⟩
 have no:¬HOk f l rz (dd.map Dd.g) ps->∀G,Same HP G->Ref0 m.aO G E:=λhn G sG=>Ref0.sm (k2 λ⟨f',l',rz',dd',ps',g,o⟩=>by
  walk_at"g1";obtain⟨rfl,rfl,rfl,rfl,rfl⟩:=g.uniq rds;walk_at"g2";exact hn o) (s0P.trans sG)
 walk_at"go";refine R8 (rz:=rz) (ds:=dd.map Dd.g) (ps:=ps) (us:=usD) rfl m.cV eRP (Paired.imp' (λ_ _ ⟨q,a,b⟩=>⟨q,a,sRP _ _ b⟩) hRp) (SqL.of eDP) hDP.1 (SqL.of eP) hPp hes lnz lnd lnp ?_;refine⟨λz H' s'=>tD m.wA (no (λo=> ?_) _ s'),λ_ _ y hy H' dx s' e'=>tD m.oE (no (λo=>hy.not o.nr) _ s'),λ_ _ _ y hy H' dx s' e'=>tD m.oE (no (λo=>hy.not o.nd) _ s'),λ_ _ _ _ y hy H' dx s' e'=>tD m.v7 (no (λo=>hy.not o.sp) _ s'),λ_ _ _ _ _ hf H' s'=>tD m.u6 (no (λo=>hf o.ft) _ s'),λa1 a2 a3 a4 a5 a6 h H' hn s' hU=> ?_⟩
 .have:=o.f0;have:=o.fl;rcases z with z|z<;>lia
 .exact k f l rz dd ps ⟨rds,a1,a2,a3,a4,a5,a6⟩ h usD H' (fP s0P hn) (s0P.trans s') hU (hDP.same s')
theorem FM (m:M w K mg):FcQ P w K mg base "made_house" 10 ["rows"] (Q9 P w K mg base m.aW m.aO):=⟨_,_,m.K4,m.kN.F.kp,m.kN.b,FS m⟩
def oK (f l:Int)(rz:List (Str×Int))(dd:List Dd)(ps:List (Str×Int)):List Str:=fM f l rz (dd.map Dd.t) ps
def IsH (rs:List Str):Prop:=∃f l rz dd ps,Good rs f l rz dd ps/\oK f l rz dd ps=rs
theorem Z6:∀(cs:List Nat) (a:Nat),(∀c∈cs,c<=57)->cs.foldl (λacc c=>acc * 10+(c - 48)) a<(a+1) * 10^cs.length
 | [],a,_=>by simp
 | c::cs,a,h=>by
  have h1:=Z6 cs (a * 10+(c - 48)) λx hx=>h x (.tail _ hx);have h2:=h c (.head _);have h3:(a * 10+(c - 48)+1) * 10^cs.length<=((a+1) * 10) * 10^cs.length:=Nat.mul_le_mul_right _ (by lia);rw[List.length_cons,Nat.pow_succ,Nat.mul_comm (10^cs.length) 10,←Nat.mul_assoc];exact Nat.lt_of_lt_of_le h1 h3
theorem sS (h:wrB x=true):NumR (b6 x):=by
 refine⟨Int.natCast_nonneg _,?_⟩;unfold wrB at h;simp only[Bool.and_eq_true,decide_eq_true_eq]at h;have h1:=Z6 x.cps.toList 0 λc hc=>by
  have:=List.all_eq_true.mp h.1.2 c hc;unfold jK at this;simp only[Bool.and_eq_true,decide_eq_true_eq]at this;exact this.2
 have h2:x.cps.toList.length<=60:=by rw[←cR];exact h.1.1.2
 have h3:(10:Nat)^x.cps.toList.length<=10^60:=Nat.pow_le_pow_right (by decide) h2;have h4:NumText.digitsVal x.cps.toList<10^60:=by
  show x.cps.toList.foldl (λacc c=>acc * 10+(c - 48)) 0<_;rw[Nat.zero_add,Nat.one_mul]at h1;exact Nat.lt_of_lt_of_le h1 h3
 unfold b6
 exact_mod_cast h4
theorem fI {R:α->β->Prop}:∀{l:List α}{m:List β},Paired R l m->∀b∈m,∃a∈l,R a b
 | _,_,.nil,_,h=>nomatch h
 | _,_,.cons r t,b,h=>by
  rcases List.mem_cons.mp h with rfl|h
  .exact⟨_,.head _,r⟩
  .obtain⟨a,ha,q⟩:=fI t b h;exact⟨a,.tail _ ha,q⟩
theorem Bk.kl (h:Bk kd ns):kd.length<=8/\ns.length<=3:=by
 cases h with
 | door=>exact⟨by decide +kernel,by show 1<=3;decide⟩
 | since=>exact⟨by decide +kernel,by show 2<=3;decide⟩
 | beat=>exact⟨by decide +kernel,by show 3<=3;decide⟩
theorem aDG {d:Dd}(h:DOk d):d.t.length<=1000:=by
 obtain⟨hk,hn⟩:=h.bk.kl;have h1:=AK (kind:=d.kd) hk h.hn h.hs h.he hn λi hi=>(h.bk.num i hi).ok;unfold Dd.t dT
 split
 .lia
 .rename_i a e;have h2:=tO (i:=a) ((h.sk a e).1.ok).1 ((h.sk a e).1.ok).2;have h3:=yA " " "shut" [aJ a,dP d.kd d.nm d.st d.e d.ns];have c1:(" " :Str).length=1:=by decide
  have c2:("shut" :Str).length=4:=by decide
  simp only[List.map_cons,List.map_nil,List.sum_cons,List.sum_nil,List.length_cons,List.length_nil,c1,c2]at h3
  lia
theorem C4 (h:∀p∈ps,0<=p.2)(z:Str):0<=bU ps z:=by
 induction ps with
 | nil=>exact Int.le_refl _
 | cons p ps ih =>
  have h1:=ih λq hq=>h q (List.mem_cons_of_mem _ hq);have h2:=h p (.head _);unfold bU at h1 ⊢
  by_cases e:p.1=z
  .rw[List.filter_cons_of_pos (by simpa using e),List.map_cons,List.sum_cons];lia
  .rw[List.filter_cons_of_neg (by simpa using e)];exact h1
theorem Good.hr {dd:List Dd}{h:Addr}{us:List V}(g:Good rs f l rz dd ps)(hB:(rs.filter λr:Str=>decide (r≠ "")).length<=20)(hU:HouseU C H h f l rz ps us (dd.map Dd.g))(hD:DsAt P w K mg base H us dd):HrA P w K mg base C H h f l rz ps us (dd.map Dd.g) (dd.map Dd.t):=by
 have hz:∀e∈rz,aK e.1=true/\NumR e.2:=λe he=>by
  obtain⟨ws,_,q⟩:=fI g.1.rm _ (List.mem_map.mpr ⟨e,he,rfl⟩);walk_at"g1";obtain⟨z,e1,hn,y,_,hw,e2⟩:=yO q;walk_at"g2";injection e1 with e1;have e2:e.2=b6 y:=e2;rw[e1,e2];exact⟨hn,sS hw⟩
 obtain⟨x,y,hx,hy,ef,el⟩:∃x y,wrB x=true/\wrB y=true/\f=b6 x/\l=b6 y:=by
  obtain⟨ws,_,q⟩:=fI g.1.tn _ (.head _);walk_at"g1";obtain⟨x,y,_,hx,hy,e⟩:=DV q;walk_at"g2";injection e with e1 e2;injection e1 with e1;exact⟨x,y,hx,hy,e1,e2⟩
 have l1:rz.length<=20:=by
  have:=Paired.length g.1.rm;rw[List.length_map]at this;have:=JN (first:= "room") (by decide +kernel) hB
  lia
 have l2:(dd.map Dd.g).length<=20:=by
  have:=Paired.length g.1.wy;have:=yC j6 (by decide +kernel) hB;rw[List.length_map]
  lia
 refine⟨hU,hD.1,hD.2,g.2.nr,g.2.nd,λe he=>(hz e he).1,ef▸sS hx,el▸sS hy,λe he=>(hz e he).2,λe he=>⟨C4 g.2.ft.1 _,?_⟩,λt ht=> ?_,l1,l2⟩
 .exact Int.lt_of_le_of_lt (g.2.ft.2 e he) (hz e he).2.2
 .obtain⟨d,hd,rfl⟩:=List.mem_map.mp ht;obtain⟨r,_,q⟩:=fI g.1.wy d hd;exact aDG (BI q).ok
inductive IV (P:Program)(w:World)(K:W.Frag)(mg:Str->Option Value)(base:Heap)(C N:Addr)(vs:List V)(H:Hp)(Q:VK)(E:XK):Prop
 | mk (a:Addr) (rs:List Str) (_:vs=[.ref a]) (_:H a=some (.lst (rs.map V.str))) (_:RB rs) (_:(sQ rs∨WR rs)) (_:(¬IsH rs->Ref0 N H E)) (_:∀f l rz dd ps,Good rs f l rz dd ps->oK f l rz dd ps=rs->∀h us H',Same H H'->HouseU C H' h f l rz ps us (dd.map Dd.g)->DsAt P w K mg base H' us dd->Q (.ref h) H'):IV P w K mg base C N vs H Q E
theorem yN (m:M w K mg):FnOk P w K mg base (CXC P w) 11 m.kP m.gX.d ["rows"] (IV P w K mg base m.aW m.aO):=by
 refine m.gX.F.okQ aGH ?_ ?_;walk_at"w0";walk_at"w1";obtain⟨a,rs,rfl,hS,hB,hW,k2,k⟩:=h;walk_at"g2";have nd:=aGH.nd;walk_at"hu";have aGK:= @uX P w K mg base m;have aHL:= @FM P w K mg base m;refine⟨_,(aC (aT (i:=1) nd rfl (by walk_at"oi") (GF aHL hr RK (aA (pv 0) aB)))
  (aC (bH (a9 (aCX hu0) (bT aGK hr (aA (pv 1) aB)) (pv 0) (bE _)) (aE (dM m.fK m.fW UM (aA aD aB))) aS)
  (aE (aP (pv 1))))),?_⟩
 refine aL (σ:=[some (.ref a),none]) rfl ?_;walk_at"cx";walk_at"go";refine⟨a,rs,rfl,SqL.of hS,hB,hW,(λhn=>k2 λ⟨f,l,rz,dd,ps,g,_⟩=>hn ⟨f,l,rz,dd,ps,g⟩),λf l rz dd ps g h us H1 n1 S1 hU hD=> ?_⟩;have hS1:=S1 _ _ hS;walk_at"go";have hl20:=(hW.resolve_left λ⟨ws,a,b,c⟩=>v5 g.1.rm ⟨ws,a,b,c⟩).1;refine⟨h,f,l,rz,ps,us,_,_,rfl,g.hr hl20 hU hD,λp H2 n2 S2 e2=> ?_⟩;have hS2:=S2 _ _ hS1;walk_at"go";refine⟨p,a,_,rs,rfl,rfl,SqL.of e2,SqL.of hS2,?_⟩
 by_cases he:oK f l rz dd ps=rs
 .rw[decide_eq_true (show fM f l rz (dd.map Dd.t) ps=rs from he)];walk_at"go";exact k f l rz dd ps g he h us H2 (S1.trans S2) (hU.same S2) (hD.same S2)
 .rw[decide_eq_false (show ¬fM f l rz (dd.map Dd.t) ps=rs from he)];have r2:Ref0 m.aO H E:=k2 λ⟨f',l',rz',dd',ps',g',e'⟩=>by
   walk_at"g1";obtain⟨rfl,rfl,rfl,rfl,rfl⟩:=g'.1.uniq g.1;walk_at"g2";exact he e'
  walk_at"go";exact⟨(by show 1<=sizeLine;decide),r2 _ (S1.trans S2)⟩
theorem yR (m:M w K mg):FcQ P w K mg base "house_of_rows" 11 ["rows"] (IV P w K mg base m.aW m.aO):=⟨_,_,m.CF,m.gX.F.kp,m.gX.b,yN m⟩
inductive GZ (P:Program)(w:World)(K:W.Frag)(mg:Str->Option Value)(base:Heap)(C N:Addr)(vs:List V)(H:Hp)(Q:VK)(E:XK):Prop
 | mk (v:V) (_:vs=[v]) (_:((∃n,BTy K H v n/\n≠ "str" /\Ref0 N H E)∨∃x:Str,v= .str x/\x.length<=1000000/\RB (Txt.split x "\n")/\(sQ (Txt.split x "\n")∨WR (Txt.split x "\n"))/\(¬IsH (Txt.split x "\n")->Ref0 N H E)/\∀f l rz dd ps,Good (Txt.split x "\n") f l rz dd ps->oK f l rz dd ps=Txt.split x "\n" ->∀h us H',Same H H'->HouseU C H' h f l rz ps us (dd.map Dd.g)->DsAt P w K mg base H' us dd->Q (.ref h) H')):GZ P w K mg base C N vs H Q E
theorem FF (m:M w K mg):FnOk P w K mg base (CXC P w) 12 m.qQ m.kK.d ["text"] (GZ P w K mg base m.aW m.aO):=by
 refine m.kK.F.okQ aHe (λvs H Q E h=> ?_) (λcdv A outer s H vs Q E hr h=> ?_)
 .obtain⟨v,rfl,hc⟩:=h;rfl
 .obtain⟨v,rfl,hc⟩:=h;have nd:=aHe.nd;walk_at"hu";have aHw:= @yR P w K mg base m;have aGn:= @qA P w K mg base m;refine⟨_,(aC (bG (dH aGn hr AU (aA (pv 0) aB)))
   (aE (aP (GF aHw hr RK (aA (rD (by exact(pv 0)) (by exact(aA aD aB))) aB))))),?_⟩
  refine aL (σ:=[some (v)]) rfl ?_;walk_at"cx";rcases hc with⟨n,b,hn,k⟩|⟨x,rfl,hl,hB,hW,k2,k⟩
  .walk_at"go";exact⟨v,n,rfl,b,λz=>absurd z hn,λ_=>k _ (Same.refl _)⟩
  .walk_at"go";refine qG 10 jC hl λp1 H1 n1 S1 e1=> ?_;walk_at"go";exact⟨p1,_,rfl,e1,hB,hW,λhn=>Ref0.sm (k2 hn) S1,λf l rz dd ps g e h us H' s' hU hD=>k f l rz dd ps g e h us H' (S1.trans s') hU hD⟩
theorem uW (m:M w K mg):FcQ P w K mg base "read_house" 12 ["text"] (GZ P w K mg base m.aW m.aO):=⟨_,_,m.KW,m.kK.F.kp,m.kK.b,FF m⟩
open PySem.Builtin.Str in
theorem Q7 (x y:Str)(h:1<=x.length):Txt.slice (x++y) (some (x.length:Int)) none=y:=by
 have hl:(x++y).length=x.length+y.length:=bA _ _;have e:strSliceIndices (some (x.length:Int)) none 1 (x++y).length=strSliceIndices (some (x.length:Int)) (some (((x++y).length:Nat):Int)) 1 (x++y).length:=by
  unfold strSliceIndices;simp only[show ((1:Int)>0)=True from by simp,if_true]
  congr 1
  rw[if_neg (by lia)]
  lia
 unfold Txt.slice;rw[e,if_neg]
 .rw[StrLaws.sliced_plain (x++y) (by lia) (Nat.le_refl _),bN];have h1:x.length=x.cps.toList.length:=cR x;refine cO ?_;show (List.take _ _).toArray.toList=_;rw[h1,List.drop_left];exact List.take_of_length_le (by rw[hl,←cR,←cR];lia)
 .rw[StrLaws.strSliceIndices_plain (by lia) (Nat.le_refl _),List.length_map,List.length_range];intro z;simp only[Bool.and_eq_true,beq_iff_eq]at z;have:=z.2
  lia
def J (ws:List Str):Str:=Txt.join " " ws
theorem aV (a b:Str)(r:List Str):J (a::b::r)=a++ " " ++J (b::r):=bL ..
theorem fC (a:Str):J [a]=a:=dJ ..
theorem gI {ws:List Str}(h:WsG ws):Txt.split (J ws) " " =ws:=by
 unfold J;rw[bX];exact XY h
theorem rF {ws:List Str}(h:WsG ws):(J ws).length<=20000:=by
 unfold J;rw[bX];exact aCP h
theorem SJ:noC 10 (" " :Str):=by unfold noC;decide +kernel
theorem YI {ws:List Str}(h:WsG ws):noC 10 (J ws):=by
 unfold J;rw[bX];exact yB SJ λy hy=>(h.2.2 y hy).2.1
theorem IH (a:Str):∀{ws:List Str},ws≠[]->∀pre:List Str,J (pre++[J ws])=J (pre++ws)
 | [],h,_=>absurd rfl h
 | w::ws,_,[]=>by
  show J [J (w::ws)]=J (w::ws);rw[fC]
 | w::ws,h,[p]=>by
  show J (p::J (w::ws)::[])=J (p::w::ws);rw[aV,aV,fC]
 | w::ws,h,p::q::pre=>by
  show J (p::q::(pre++[J (w::ws)]))=J (p::q::(pre++(w::ws)));rw[aV,aV];exact congrArg _ (IH a h (q::pre))
def eM (d:Dd):List Str:=(jN d.sh).flatten++d.kd::d.r
theorem d_t (d:Dd):d.t=J (eM d):=by
 walk_at"g1";obtain⟨sh,kd,nm,st,e,ns⟩:=d;walk_at"g2";cases sh with
 | none=>rfl
 | some a=>exact IH "" (ws:=kd::([nm,st,cP e]++ns.map aJ)) (λz=>nomatch z) ["shut",aJ a]
def wT (f l:Int):List Str:=["turns",aJ f,aJ l]
def wR (e:Str×Int):List Str:=["room",e.1,aJ e.2]
def wW (d:Dd):List Str:= "way" ::eM d
def wP (e:Str×Int):List Str:=["people",e.1,aJ e.2]
theorem aFs (d:Dd):qI [.str "way",.str d.t]=J (wW d):=by
 show J ["way",d.t]=_;rw[d_t];exact IH "" (by unfold eM;exact λz=>absurd z (by simp)) ["way"]
structure VD (f l:Int)(rz:List (Str×Int))(dd:List Dd)(ps:List (Str×Int)):Prop where
 f0:NumR f
 l0:NumR l
 rz:∀e∈rz,aK e.1=true/\NumR e.2
 dd:∀d∈dd,DOk d
 ps:∀e∈ps,aK e.1=true/\NumR e.2
def wsP (f l:Int)(rz:List (Str×Int))(dd:List Dd)(ps:List (Str×Int)):List (List Str):=[wT f l]++rz.map wR++dd.map wW++ps.map wP
def aQ (f l:Int)(rz:List (Str×Int))(dd:List Dd)(ps:List (Str×Int)):List Str:=(wsP f l rz dd ps).map J
theorem jA (h:NumR i):cY (aJ i):=aCv h.1 h.2
theorem JT {a b c:Str}(h1:cY a)(h2:cY b)(h3:cY c):WsG [a,b,c]:=⟨(λz=>nomatch z),by show 3<=100;decide,λx hx=>by
 simp only[List.mem_cons,List.not_mem_nil,or_false]at hx;rcases hx with rfl|rfl|rfl<;>assumption⟩
theorem aEr {e:V}(h:bW e):cY (cP e):=by
 rcases h with rfl|⟨z,rfl,hz⟩
 .exact cJ (by decide +kernel)
 .exact sY hz
theorem N12.r {a:Int}(h:N12 a):NumR a:=⟨h.1,Int.lt_trans h.2 (by decide)⟩
theorem Bk.kd_wd (h:Bk kd ns):cY kd/\kd≠ "shut" /\kd≠ "wider" /\kd≠ "" :=by
 cases h with
 | door=>exact⟨cJ (by decide +kernel),by decide +kernel,by decide +kernel,by decide +kernel⟩
 | since=>exact⟨cJ (by decide +kernel),by decide +kernel,by decide +kernel,by decide +kernel⟩
 | beat=>exact⟨cJ (by decide +kernel),by decide +kernel,by decide +kernel,by decide +kernel⟩
theorem SK (h:∀a,sh=some a->N12 a):(∀x∈(jN sh).flatten,cY x)/\(jN sh).flatten.length<=2:=by
 cases sh with
 | none=>exact⟨(λ_ h=>nomatch h),by decide⟩
 | some a=>exact⟨λx hx=>by
   have hx:x∈[("shut" :Str),aJ a]:=hx;simp only[List.mem_cons,List.not_mem_nil,or_false]at hx;rcases hx with rfl|rfl
   .exact cJ (by decide +kernel)
   .exact jA (h a rfl).r,by show 2<=2;decide⟩
theorem DOk.r_wd {d:Dd}(h:DOk d):(∀x∈d.r,cY x)/\d.r.length<=6:=by
 refine⟨λx hx=> ?_,?_⟩
 .unfold Dd.r at hx;rcases List.mem_append.mp hx with hx|hx
  .simp only[List.mem_cons,List.not_mem_nil,or_false]at hx;rcases hx with rfl|rfl|rfl
   .exact sY h.hn
   .exact sY h.hs
   .exact aEr h.he
  .obtain⟨i,hi,rfl⟩:=List.mem_map.mp hx;exact jA (h.bk.num i hi).r
 .unfold Dd.r;rw[List.length_append,List.length_map];have:=h.bk.kl.2;show 3+_<=6
  lia
theorem DOk.ws {d:Dd}(h:DOk d):WsG (eM d):=by
 have h1:=SK λa e=>(h.sk a e).1;have h2:=h.r_wd;refine⟨by unfold eM;exact λz=>absurd z (by simp),?_,λx hx=> ?_⟩
 .unfold eM;rw[List.length_append,List.length_cons]
  lia
 .unfold eM at hx;rcases List.mem_append.mp hx with hx|hx
  .exact h1.1 x hx
  .rcases List.mem_cons.mp hx with rfl|hx
   .exact h.bk.kd_wd.1
   .exact h2.1 x hx
theorem WsG.cons {a:Str}{ws:List Str} (h:WsG ws) (ha:cY a) (hl:ws.length<=90):WsG (a::ws):=⟨(λz=>nomatch z),by rw[List.length_cons];lia,λx hx=>by
 rcases List.mem_cons.mp hx with rfl|hx
 .exact ha
 .exact h.2.2 x hx⟩
theorem DOk.len {d:Dd}(h:DOk d):(eM d).length<=9:=by
 have h1:=SK λa e=>(h.sk a e).1;have h2:=h.r_wd;unfold eM;rw[List.length_append,List.length_cons]
 lia
theorem VD.ws {dd:List Dd}(h:VD f l rz dd ps):∀ws∈wsP f l rz dd ps,WsG ws:=λws hws=>by
 unfold wsP at hws;simp only[List.mem_append,List.mem_singleton,List.mem_map]at hws;rcases hws with ((rfl|⟨e,he,rfl⟩)|⟨d,hd,rfl⟩)|⟨e,he,rfl⟩
 .exact JT (cJ (by decide +kernel)) (jA h.f0) (jA h.l0)
 .exact JT (cJ (by decide +kernel)) (sY (h.rz e he).1) (jA (h.rz e he).2)
 .exact(h.dd d hd).ws.cons (cJ (by decide +kernel)) (by have:=(h.dd d hd).len;lia)
 .exact JT (cJ (by decide +kernel)) (sY (h.ps e he).1) (jA (h.ps e he).2)
theorem A2:∀{l:List (List Str)},(∀ws∈l,WsG ws)->gL (l.map J)=l
 | [],_=>rfl
 | ws::l,h=>by
  show Txt.split (J ws) " " ::gL (l.map J)=ws::l;rw[gI (h ws (.head _)),A2 λx hx=>h x (.tail _ hx)]
theorem NI (f l:Int)(rz:List (Str×Int))(dd:List Dd)(ps:List (Str×Int)):oK f l rz dd ps=aQ f l rz dd ((rz.filter λe=>decide (bU ps e.1>0)).map λe=>(e.1,bU ps e.1)):=by
 unfold oK fM aQ wsP;simp only[List.map_append,List.map_map,List.map_cons,List.map_nil]
 congr 2
 refine List.map_congr_left λd _=> ?_;exact aFs d
theorem yF (x:Str):Txt.split x " " ≠[]:=λh=>by
 have:=PyProof.Rows.split_pos x " ";rw[h]at this;exact absurd this (by decide)
theorem RN {a:Str}(h:noC 32 a):Txt.split (a++ " " ++x) " " =a::Txt.split x " " :=by
 have e:a++ " " ++x=Str.join " " (a::Txt.split x " "):=by
  cases q:Txt.split x " " with
  | nil=>exact absurd q (yF x)
  | cons b r =>
   rw[←bX,bL,bX,←q,StrLaws.join_split]
 rw[e,rP];exact oM (λz=>nomatch z) λp hp=>by
  rcases List.mem_cons.mp hp with rfl|hp
  .exact h
  .exact StrLaws.split_free _ 32 p hp
theorem KH:("way " :Str)= "way" ++ " " :=by decide +kernel
theorem P9 {r:Str}(h:d2 r y=true):∃x,r=y++x:=by
 unfold d2 at h;rw[Bool.and_eq_true,decide_eq_true_eq]at h;have e:=PyProof.Rows.strSub_of_subAt h.2;refine⟨⟨r.cps.extract y.length r.cps.size⟩,cO ?_⟩;rw[bN];have e1:y.cps.toList=r.cps.toList.take y.length:=by
  have e':=congrArg (λz:Str=>z.cps.toList) e;have e':(r.cps.extract 0 (0+y.length)).toList=y.cps.toList:=e';rw[Array.toList_extract,Nat.zero_add]at e';exact e'.symm
 have e2:(⟨r.cps.extract y.length r.cps.size⟩:Str).cps.toList=r.cps.toList.drop y.length:=by
  show (r.cps.extract y.length r.cps.size).toList=_;rw[Array.toList_extract];show (r.cps.toList.drop y.length).take (r.cps.size - y.length)=_;exact List.take_of_length_le (by rw[List.length_drop,Array.length_toList];exact Nat.le_refl _)
 rw[e1,e2,List.take_append_drop]
theorem PB (y x:Str):d2 (y++x) y=true:=by
 unfold d2;rw[Bool.and_eq_true,decide_eq_true_eq,bA];refine⟨by lia,?_⟩;unfold Builtin.Str.subAt;rw[beq_iff_eq]
 apply Array.ext'
 show ((y++x).cps.extract 0 (0+y.length)).toList=_;rw[Array.toList_extract,bN,Nat.zero_add];show ((y.cps.toList++x.cps.toList).drop 0).take (y.length - 0)=_;rw[List.drop_zero,Nat.sub_zero,cR];exact List.take_left
theorem MC {ws:List Str}(h:WsG ws)(hw:j6 (J ws)=true):∃r,r≠[]/\ws=("way" :Str)::r:=by
 obtain⟨x,e⟩:=P9 hw;have h1:=gI h;rw[e,KH,RN (by unfold noC;decide +kernel)]at h1;exact⟨_,yF x,h1.symm⟩
theorem vF {r:List Str}(h:r≠[]):j6 (J (("way" :Str)::r))=true/\WT (J (("way" :Str)::r))=J r:=by
 cases r with
 | nil=>exact absurd rfl h
 | cons a r =>
  rw[aV];have l4:("way" ++ " " :Str).length=4:=by decide +kernel
  refine⟨by unfold j6;rw[KH];exact PB _ _,?_⟩;have:=Q7 ("way" ++ " ") (J (a::r)) (by rw[l4];decide);rw[l4]at this;exact this
theorem JL (sh:Option Int):∀x∈jN sh,RdH x:=λx hx=>by
 cases sh with
 | none=>cases hx
 | some a=>exact⟨aJ a,List.mem_singleton.mp hx⟩
theorem aFo {ws:List Str}(h:∀x∈ws,cY x):∀x∈ws,x.length<=1000:=λx hx=>by have:=(h x hx).2.2;lia
theorem DOk.rd {d:Dd}(h:DOk d):DRd (J (wW d)) d:=by
 have hr:=h.r_wd;refine⟨h,?_⟩;unfold wW;rw[(vF h.ws.1).2];exact⟨by have:=rF h.ws;lia,gI h.ws,JL _,h.bk.kd_wd.2.1,h.bk.kd_wd.2.2.1,aFo hr.1,by lia,by cases d.sh with|none=>decide|some a=>exact(by show 1<=16;decide)⟩
theorem II {a b:Int}(ha:N12 a)(hb:N12 b)(h:aJ a=aJ b):a=b:=by
 rw[←(lV ha.1 ha.2).2,←(lV hb.1 hb.2).2,h]
theorem JR:∀{a b:List Int},(∀i∈a,N12 i)->(∀i∈b,N12 i)->a.map aJ=b.map aJ->a=b
 | [],[],_,_,_=>rfl
 | [],_::_,_,_,h=>nomatch h
 | _::_,[],_,_,h=>nomatch h
 | x::a,y::b,ha,hb,h=>by
  rw[List.map_cons,List.map_cons]at h;obtain⟨h1,h2⟩:=List.cons.inj h;rw[II (ha x (.head _)) (hb y (.head _)) h1,JR (λi hi=>ha i (.tail _ hi)) (λi hi=>hb i (.tail _ hi)) h2]
theorem YD {a b:V}(ha:bW a)(hb:bW b)(h:cP a=cP b):a=b:=by
 rw[←zQ ha,←zQ hb,h]
theorem V5 {d d':Dd}(h:DOk d)(h':DOk d')(e:eM d=eM d'):d=d':=by
 walk_at"g1";obtain⟨sh,kd,nm,st,ee,ns⟩:=d;walk_at"g2";walk_at"g1";obtain⟨sh',kd',nm',st',ee',ns'⟩:=d';walk_at"g2";have fin:∀{a b:List Str},kd::([nm,st,cP ee]++ns.map aJ)=kd'::([nm',st',cP ee']++ns'.map aJ)->kd=kd'/\nm=nm'/\st=st'/\ee=ee'/\ns=ns':=λq=>by
  obtain⟨q1,q⟩:=List.cons.inj q;obtain⟨q2,q⟩:=List.cons.inj q;obtain⟨q3,q⟩:=List.cons.inj q;obtain⟨q4,q⟩:=List.cons.inj q;exact⟨q1,q2,q3,YD h.he h'.he q4,JR h.bk.num h'.bk.num q⟩
 cases sh with
 | none =>
  cases sh' with
  | none =>
   walk_at"g1";obtain⟨rfl,rfl,rfl,rfl,rfl⟩:=fin (a:=[]) (b:=[]) e;walk_at"g2";rfl
  | some a =>
   have e:kd::_=("shut" :Str)::_:=e;exact absurd (List.cons.inj e).1 h.bk.kd_wd.2.1
 | some a =>
  cases sh' with
  | none =>
   have e:("shut" :Str)::_=kd'::_:=e;exact absurd (List.cons.inj e).1.symm h'.bk.kd_wd.2.1
  | some a' =>
   have e:("shut" :Str)::aJ a::(kd::([nm,st,cP ee]++ns.map aJ))=("shut" :Str)::aJ a'::(kd'::([nm',st',cP ee']++ns'.map aJ)):=e;obtain⟨_,e⟩:=List.cons.inj e;obtain⟨e1,e⟩:=List.cons.inj e;walk_at"g1";obtain⟨rfl,rfl,rfl,rfl,rfl⟩:=fin (a:=[]) (b:=[]) e;walk_at"g2";rw[II (h.sk a rfl).1 (h'.sk a' rfl).1 e1]
theorem aDe {d:Dd}(h:DOk d):drd (J (wW d))=some d:=by
 have hd:∃d',DRd (J (wW d)) d':=⟨d,h.rd⟩
 unfold drd;rw[dif_pos hd];have q:=hd.choose_spec;generalize hd.choose=d' at q;have:=q.w.sp.symm.trans h.rd.w.sp;exact congrArg some (V5 q.ok h this)
theorem p8 {f:α->List Str}{h:Str}(hf:∀x,(f x).head? =some h)(ne:h≠first)(l:List α):(l.map f).filter (hdB first)=[]:=List.filter_eq_nil_iff.mpr λws hws z=>by
 obtain⟨x,_,rfl⟩:=List.mem_map.mp hws;have:=of_decide_eq_true z;rw[hf x]at this;exact ne (Option.some.inj this)
theorem NE {f:α->List Str}(hf:∀x,(f x).head? =some first)(l:List α):(l.map f).filter (hdB first)=l.map f:=List.filter_eq_self.mpr λws hws=>by
 obtain⟨x,_,rfl⟩:=List.mem_map.mp hws;exact decide_eq_true (hf x)
theorem rE {β:Type}{R:β->γ->Prop}{g:α->β}{h:α->γ}:∀{l:List α},(∀x∈l,R (g x) (h x))->Paired R (l.map g) (l.map h)
 | [],_=> .nil
 | x::_,k=> .cons (k x (.head _)) (rE λy hy=>k y (.tail _ hy))
theorem G7 {f:α->List Str}{h:Str}(hf:∀x,(f x).head? =some h)(ne:h≠ "way"){l:List α}(hg:∀x∈l,WsG (f x)):((l.map f).map J).filter j6=[]:=List.filter_eq_nil_iff.mpr λr hr z=>by
 obtain⟨ws,hws,rfl⟩:=List.mem_map.mp hr;obtain⟨x,hx,rfl⟩:=List.mem_map.mp hws;obtain⟨r,_,e⟩:=MC (hg x hx) z;have:=hf x;rw[e]at this;exact ne (Option.some.inj this).symm
theorem d3 (h:NumR i):wrB (aJ i)=true/\b6 (aJ i)=i:=UV h.1 h.2
theorem U7 {e:Str×Int}(h:aK e.1=true/\NumR e.2):rd2 "name" [e.1,aJ e.2]=some (.str e.1,e.2):=by
 show (if (rdF "name" e.1&&wrB (aJ e.2))=true then some (rdV "name" e.1,b6 (aJ e.2)) else none)=_;rw[show rdF "name" e.1=true from h.1,(d3 h.2).1,(d3 h.2).2];rfl
theorem VD.reads {dd:List Dd}(h:VD f l rz dd ps):Reads (aQ f l rz dd ps) f l rz dd ps:=by
 have hw:=h.ws;have e:gL (aQ f l rz dd ps)=wsP f l rz dd ps:=A2 hw;have m1:∀e∈rz,WsG (wR e):=λe he=>hw _ (by unfold wsP;simp only[List.mem_append,List.mem_map];exact .inl (.inl (.inr ⟨e,he,rfl⟩)));have m3:∀e∈ps,WsG (wP e):=λe he=>hw _ (by unfold wsP;simp only[List.mem_append,List.mem_map];exact .inr ⟨e,he,rfl⟩);have n1:=d3 h.f0;have n2:=d3 h.l0;refine⟨?_,?_,?_,?_⟩
 .rw[e];unfold wsP;rw[List.filter_append,List.filter_append,List.filter_append,p8 (h:= "room") (λ_=>rfl) (by decide +kernel),p8 (h:= "way") (λ_=>rfl) (by decide +kernel),p8 (h:= "people") (λ_=>rfl) (by decide +kernel),List.append_nil,List.append_nil,List.append_nil];rw[show [wT f l].filter (hdB "turns")=[wT f l] from List.filter_cons_of_pos (decide_eq_true rfl)];refine .cons ?_ .nil;show (if (rdF "number" (aJ f)&&wrB (aJ l))=true then some (rdV "number" (aJ f),b6 (aJ l)) else none)=_;rw[show rdF "number" (aJ f)=true from n1.1,n2.1,n2.2,show rdV "number" (aJ f)= .int (b6 (aJ f)) from rfl,n1.2];rfl
 .rw[e];unfold wsP;rw[List.filter_append,List.filter_append,List.filter_append,NE (λ_=>rfl),p8 (h:= "way") (λ_=>rfl) (by decide +kernel),p8 (h:= "people") (λ_=>rfl) (by decide +kernel),List.append_nil,List.append_nil];rw[show [wT f l].filter (hdB "room")=[] from List.filter_cons_of_neg (by exact λz=>absurd (Option.some.inj (of_decide_eq_true z)) (by decide +kernel))];exact rE λe he=>U7 (h.rz e he)
 .unfold aQ wsP;rw[List.map_append,List.map_append,List.map_append,List.filter_append,List.filter_append,List.filter_append,G7 (h:= "room") (λ_=>rfl) (by decide +kernel) m1,G7 (h:= "people") (λ_=>rfl) (by decide +kernel) m3,List.append_nil,List.append_nil];have:=G7 (α:=Unit) (f:=λ_=>wT f l) (h:= "turns") (λ_=>rfl) (by decide +kernel) (l:=[()]) λ_ _=>hw _ (by unfold wsP;simp);rw[show [wT f l].map J=([()].map λ_=>wT f l).map J from rfl,this,List.nil_append,List.filter_eq_self.mpr,List.map_map]
  .have:=rE (R:=λr d=>drd r=some d) (g:=J∘wW) (h:=id) (l:=dd) λd hd=>aDe (h.dd d hd);rw[List.map_id]at this;exact this
  .intro r hr;obtain⟨ws,hws,rfl⟩:=List.mem_map.mp hr;obtain⟨d,hd,rfl⟩:=List.mem_map.mp hws;exact(vF (h.dd d hd).ws.1).1
 .rw[e];unfold wsP;rw[List.filter_append,List.filter_append,List.filter_append,p8 (h:= "room") (λ_=>rfl) (by decide +kernel),p8 (h:= "way") (λ_=>rfl) (by decide +kernel),NE (λ_=>rfl),List.append_nil,List.append_nil];rw[show [wT f l].filter (hdB "people")=[] from List.filter_cons_of_neg (by exact λz=>absurd (Option.some.inj (of_decide_eq_true z)) (by decide +kernel))];exact rE λe he=>U7 (h.ps e he)
theorem Reads.nums {dd:List Dd}(g:Reads rs f l rz dd ps):NumR f/\NumR l/\(∀e∈rz,aK e.1=true/\NumR e.2)/\∀d∈dd,DOk d:=by
 obtain⟨x,y,hx,hy,ef,el⟩:∃x y,wrB x=true/\wrB y=true/\f=b6 x/\l=b6 y:=by
  obtain⟨ws,_,q⟩:=fI g.tn _ (.head _);walk_at"g1";obtain⟨x,y,_,hx,hy,e⟩:=DV q;walk_at"g2";injection e with e1 e2;injection e1 with e1;exact⟨x,y,hx,hy,e1,e2⟩
 refine⟨ef▸sS hx,el▸sS hy,λe he=> ?_,λd hd=> ?_⟩
 .obtain⟨ws,_,q⟩:=fI g.rm _ (List.mem_map.mpr ⟨e,he,rfl⟩);walk_at"g1";obtain⟨z,e1,hn,y,_,hw,e2⟩:=yO q;walk_at"g2";injection e1 with e1;have e2:e.2=b6 y:=e2;rw[e1,e2];exact⟨hn,sS hw⟩
 .obtain⟨r,_,q⟩:=fI g.wy d hd;exact(BI q).ok
structure HW (Wl:List (List Str))(f l:Int)(rz:List (Str×Int))(dd:List Dd)(cs:List (Str×Int)):Prop where
 vd:VD f l rz dd cs
 e:Wl=wsP f l rz dd cs
 pos:∀e∈cs,0<e.2
 nr:(rz.map (·.1)).Nodup
 nd:(dd.map (·.nm)).Nodup
 nc:(cs.map (·.1)).Nodup
theorem tW (hg:∀ws∈Wl,WsG ws)(h:IsH (Wl.map J)):∃f l rz dd cs,HW Wl f l rz dd cs:=by
 walk_at"g1";obtain⟨f,l,rz,dd,ps,⟨g,o⟩,e⟩:=h;walk_at"g2";walk_at"g1";obtain⟨n1,n2,n3,n4⟩:=g.nums;walk_at"g2";rw[NI]at e;have vd:VD f l rz dd ((rz.filter λe=>decide (bU ps e.1>0)).map λe=>(e.1,bU ps e.1)):=⟨n1,n2,n3,n4,λx hx=>by
  obtain⟨y,hy,rfl⟩:=List.mem_map.mp hx;obtain⟨hy,hp⟩:=List.mem_filter.mp hy;exact⟨(n3 y hy).1,C4 o.ft.1 _,Int.lt_of_le_of_lt (o.ft.2 y hy) (n3 y hy).2.2⟩⟩
 refine⟨f,l,rz,dd,_,vd,?_,λx hx=> ?_,o.nr,?_,?_⟩
 .rw[←A2 hg,←e];exact A2 vd.ws
 .obtain⟨y,hy,rfl⟩:=List.mem_map.mp hx;exact of_decide_eq_true (List.mem_filter.mp hy).2
 .have:=o.nd;rw[List.map_map]at this;exact this
 .rw[List.map_map];exact o.nr.sublist (List.Sublist.map _ List.filter_sublist)
structure OkW (ws:List Str):Prop where
 hd:ws.head? =some "room" ∨ws.head? =some "way" ∨ws.head? =some "people"
 l3:ws.head? ≠some "way" ->ws.length=3
 p0:ws.head? =some "people" ->ws.getLast? ≠some "0"
 wy:∀r,ws=("way" :Str)::r->∃d,DOk d/\r=eM d
def OkL (ws:List Str):Prop:=(∀x∈ws,x≠ "")/\∃y,ws.getLast? =some y/\wrB y=true
theorem BA (h:wrB y=true):y≠ "" :=λz=>by subst z;revert h;decide +kernel
theorem lK (h:aK y=true):y≠ "" :=λz=>by subst z;revert h;decide +kernel
theorem CW {a b:Str}(ha:a≠ "")(hb:b≠ "")(h:NumR i):OkL [a,b,aJ i]:=⟨λx hx=>by
 simp only[List.mem_cons,List.not_mem_nil,or_false]at hx;rcases hx with rfl|rfl|rfl
 .exact ha
 .exact hb
 .exact BA (d3 h).1,_,rfl,(d3 h).1⟩
theorem Bk.ne (h:Bk kd ns):ns≠[]:=by
 cases h<;>exact λz=>nomatch z
theorem DOk.okL {d:Dd}(h:DOk d):OkL (wW d):=by
 have hne:d.ns≠[]:=h.bk.ne;refine⟨λx hx=> ?_,?_⟩
 .rcases List.mem_cons.mp hx with rfl|hx
  .decide +kernel
  .unfold eM at hx;rcases List.mem_append.mp hx with hx|hx
   .cases e:d.sh with
    | none=>rw[e]at hx;cases hx
    | some a =>
     rw[e]at hx;have hx:x∈[("shut" :Str),aJ a]:=hx;simp only[List.mem_cons,List.not_mem_nil,or_false]at hx;rcases hx with rfl|rfl
     .decide +kernel
     .exact BA (d3 (h.sk a e).1.r).1
   .rcases List.mem_cons.mp hx with rfl|hx
    .exact h.bk.kd_wd.2.2.2
    .unfold Dd.r at hx;rcases List.mem_append.mp hx with hx|hx
     .simp only[List.mem_cons,List.not_mem_nil,or_false]at hx;rcases hx with rfl|rfl|rfl
      .exact lK h.hn
      .exact lK h.hs
      .rcases h.he with e|⟨z,e,hz⟩
       .rw[e];decide +kernel
       .rw[e];exact lK hz
     .obtain⟨i,hi,rfl⟩:=List.mem_map.mp hx;exact BA (d3 (h.bk.num i hi).r).1
 .refine⟨aJ (d.ns.getLast hne),?_,(d3 (h.bk.num _ (List.getLast_mem hne)).r).1⟩;have e:wW d=(("way" :Str)::((jN d.sh).flatten++d.kd::[d.nm,d.st,cP d.e]))++d.ns.map aJ:=by
   unfold wW eM Dd.r;simp
  rw[e,List.getLast?_append,List.getLast?_map,List.getLast?_eq_some_getLast hne];rfl
theorem HW.okL {dd:List Dd}(h:HW Wl f l rz dd cs):∀ws∈Wl,OkL ws:=λws hws=>by
 rw[h.e]at hws;unfold wsP at hws;simp only[List.mem_append,List.mem_singleton,List.mem_map]at hws;rcases hws with ((rfl|⟨e,he,rfl⟩)|⟨d,hd,rfl⟩)|⟨e,he,rfl⟩
 .exact CW (by decide +kernel) (BA (d3 h.vd.f0).1) h.vd.l0
 .exact CW (by decide +kernel) (lK (h.vd.rz e he).1) (h.vd.rz e he).2
 .exact(h.vd.dd d hd).okL
 .exact CW (by decide +kernel) (lK (h.vd.ps e he).1) (h.vd.ps e he).2
theorem HW.okW {dd:List Dd}(h:HW Wl f l rz dd cs):∃R,Wl=wT f l::R/\∀ws∈R,OkW ws:=by
 refine⟨rz.map wR++dd.map wW++cs.map wP,h.e,λws hws=> ?_⟩;simp only[List.mem_append,List.mem_map]at hws;rcases hws with (⟨e,he,rfl⟩|⟨d,hd,rfl⟩)|⟨e,he,rfl⟩
 .exact⟨.inl rfl,λ_=>rfl,λz=>absurd (Option.some.inj z) (by decide +kernel),λr q=>absurd (List.cons.inj q).1 (by decide +kernel)⟩
 .exact⟨.inr (.inl rfl),λz=>absurd rfl z,λz=>absurd (Option.some.inj z) (by decide +kernel),λr q=>⟨d,h.vd.dd d hd,(List.cons.inj q).2.symm⟩⟩
 .refine⟨.inr (.inr rfl),λ_=>rfl,λ_ z=> ?_,λr q=>absurd (List.cons.inj q).1 (by decide +kernel)⟩;have z:aJ e.2= "0" :=Option.some.inj z;have h1:=(d3 (h.vd.ps e he).2).2;rw[z,show b6 "0" =0 from by decide +kernel]at h1;have:=h.pos e he
  lia
def BadWay (ws:List Str):Prop:=∃(pre:List (List Str)) (kd:Str) (r:List Str),ws=("way" :Str)::(pre.flatten++kd::r)/\(∀x∈pre,RdH x)/\kd≠ "shut" /\kd≠ "wider" /\vA kd r/\pre.length<=1
theorem xP {d:Dd}(h:DOk d):¬vA d.kd d.r:=λhb=>by
 rcases hb with hb|⟨x,hx,hb⟩
 .apply hb
  rw[IZ h.bk];unfold Dd.r;rw[List.length_append,List.length_map]
  congr 1
  show _=(((3+d.ns.length:Nat)):Int)+1
  lia
 .have hx:x∈d.ns.map aJ:=hx;obtain⟨i,hi,rfl⟩:=List.mem_map.mp hx;rw[(d3 (h.bk.num i hi).r).1]at hb;cases hb
theorem TB {ws:List Str}(hb:BadWay ws):¬OkW ws:=λh=>by
 walk_at"g1";obtain⟨pre,kd,r,rfl,hp,k1,k2,hb,hl⟩:=hb;walk_at"g2";obtain⟨d,hd,e⟩:=h.wy _ rfl;have hk:=hd.bk.kd_wd.2.1;unfold eM at e
 match pre,hp,hl with
 | [],_,_ =>
  cases hs:d.sh with
  | none =>
   rw[hs]at e;obtain⟨rfl,rfl⟩:=List.cons.inj e;exact xP hd hb
  | some a =>
   rw[hs]at e;exact k1 (List.cons.inj e).1
 | [x],hp,_ =>
  obtain⟨a,rfl⟩:=hp x (.head _);cases hs:d.sh with
  | none =>
   rw[hs]at e;have e:("shut" :Str)::a::(kd::r)=d.kd::d.r:=e;exact hk (List.cons.inj e).1.symm
  | some b =>
   rw[hs]at e;have e:("shut" :Str)::a::(kd::r)=("shut" :Str)::aJ b::(d.kd::d.r):=e;obtain⟨_,e⟩:=List.cons.inj e;obtain⟨_,e⟩:=List.cons.inj e;obtain⟨rfl,rfl⟩:=List.cons.inj e;exact xP hd hb
theorem m9 {α:Type}{f:α->List Str}{g:α->Str}(q:List Str->Str)(h:∀x,q (f x)=g x){l:List α}(hn:(l.map g).Nodup):(l.map f).Nodup:=by
 have:((l.map f).map q).Nodup:=by rw[List.map_map,show q∘f=g from funext h];exact hn
 exact List.Pairwise.of_map q (λa b z e=>z (by rw[e])) this
theorem HW.nodup {dd:List Dd}(h:HW Wl f l rz dd cs):Wl.Nodup:=by
 have q:∀{a b:List (List Str)}{x y:Str},(∀ws∈a,ws.head? =some x)->(∀ws∈b,ws.head? =some y)->x≠y->∀u∈a,∀v∈b,u≠v:=λha hb n u hu v hv e=>by
  have h1:=ha u hu;rw[e,hb v hv]at h1;exact n (Option.some.inj h1).symm
 have hT:∀ws∈[wT f l],ws.head? =some ("turns" :Str):=λws hws=>by cases List.mem_singleton.mp hws;rfl
 have hR:∀ws∈rz.map wR,ws.head? =some ("room" :Str):=λws hws=>by obtain⟨_,_,rfl⟩:=List.mem_map.mp hws;rfl
 have hW:∀ws∈dd.map wW,ws.head? =some ("way" :Str):=λws hws=>by obtain⟨_,_,rfl⟩:=List.mem_map.mp hws;rfl
 have hP:∀ws∈cs.map wP,ws.head? =some ("people" :Str):=λws hws=>by obtain⟨_,_,rfl⟩:=List.mem_map.mp hws;rfl
 have n1:(rz.map wR).Nodup:=m9 (λws=>ws.getD 1 "") (λ_=>rfl) h.nr;have n3:(cs.map wP).Nodup:=m9 (λws=>ws.getD 1 "") (λ_=>rfl) h.nc;have n2:(dd.map wW).Nodup:=m9 (λws=>if ws.getD 1 "" = "shut" then ws.getD 4 "" else ws.getD 2 "") (g:=λd=>if (wW d).getD 1 "" = "shut" then (wW d).getD 4 "" else (wW d).getD 2 "") (λ_=>rfl) (by
  rw[List.map_congr_left (g:=(·.nm)) λd hd=> ?_]
  .exact h.nd
  .have hk:=(h.vd.dd d hd).bk.kd_wd.2.1;walk_at"g1";obtain⟨sh,kd,nm,st,e,ns⟩:=d;walk_at"g2";cases sh with
   | none=>exact if_neg hk
   | some a=>exact if_pos rfl)
 rw[h.e];unfold wsP;rw[List.nodup_append,List.nodup_append,List.nodup_append];refine⟨⟨⟨by simp,n1,q hT hR (by decide +kernel)⟩,n2,λu hu v hv=> ?_⟩,n3,λu hu v hv=> ?_⟩
 .rcases List.mem_append.mp hu with hu|hu
  .exact q hT hW (by decide +kernel) u hu v hv
  .exact q hR hW (by decide +kernel) u hu v hv
 .rcases List.mem_append.mp hu with hu|hu
  .rcases List.mem_append.mp hu with hu|hu
   .exact q hT hP (by decide +kernel) u hu v hv
   .exact q hR hP (by decide +kernel) u hu v hv
  .exact q hW hP (by decide +kernel) u hu v hv
theorem VD.hok {dd:List Dd}(v:VD f l rz dd ps)(h:IsH (aQ f l rz dd ps)):HOk f l rz (dd.map Dd.g) ps:=by
 walk_at"g1";obtain⟨f',l',rz',dd',ps',⟨g,o⟩,_⟩:=h;walk_at"g2";walk_at"g1";obtain⟨rfl,rfl,rfl,rfl,rfl⟩:=v.reads.uniq g;walk_at"g2";exact o
def aFu (ws:List Str):Prop:=ws.head? ≠some "way" ∨(∃d,DOk d/\ws=wW d)∨BadWay ws
structure Rw (ws:List Str):Prop where
 g:WsG ws
 w:aFu ws
theorem BadWay.d {ws:List Str}(h:BadWay ws)(hg:WsG ws):W7 (J ws):=by
 walk_at"g1";obtain⟨pre,kd,r,rfl,hp,k1,k2,hb,hl⟩:=h;walk_at"g2";have hne:pre.flatten++kd::r≠[]:=λz=>absurd z (by simp);have hg2:WsG (pre.flatten++kd::r):=⟨hne,by have:=hg.2.1;rw[List.length_cons]at this;lia,λx hx=>hg.2.2 x (.tail _ hx)⟩
 refine⟨pre,kd,r,?_,hb⟩;rw[(vF hne).2];have l2:=hg2.2.1;rw[List.length_append,List.length_cons]at l2;exact⟨by have:=rF hg2;lia,gI hg2,hp,k1,k2,λx hx=>by have:=(hg2.2.2 x (List.mem_append_right _ (.tail _ hx))).2.2;lia,by lia,by lia⟩
theorem aC7 {ws:List Str}(h:Rw ws)(hw:j6 (J ws)=true):(∃d,DRd (J ws) d)∨W7 (J ws):=by
 obtain⟨r,_,e⟩:=MC h.g hw;rcases h.w with q|⟨d,hd,rfl⟩|q
 .rw[e]at q;exact absurd rfl q
 .exact .inl ⟨d,hd.rd⟩
 .exact .inr (q.d h.g)
theorem E1 (hg:∀ws∈Wl,WsG ws)(hne:Wl≠[]):Txt.split (Txt.join "\n" (Wl.map J)) "\n" =Wl.map J:=by
 rw[bX,jC];exact oM (λz=>hne (List.map_eq_nil_iff.mp z)) λp hp=>by
  obtain⟨ws,hws,rfl⟩:=List.mem_map.mp hp;exact YI (hg ws hws)
structure d9 (x:Str):Prop where
 len:x.length<=1000000
 rb:RB (Txt.split x "\n")
 ew:sQ (Txt.split x "\n")∨WR (Txt.split x "\n")
 no:¬IsH (Txt.split x "\n")
theorem aF3 (hg:∀ws∈Wl,WsG ws)(hl:Wl.length<=40):RB (Wl.map J):=by
 refine⟨by rw[List.length_map];lia,λr hr=> ?_,λr hr=> ?_⟩
 .obtain⟨ws,hws,rfl⟩:=List.mem_map.mp hr;have:=rF (hg ws hws)
  lia
 .obtain⟨ws,hws,rfl⟩:=List.mem_map.mp hr;rw[gI (hg ws hws)];cases ws with
  | nil=>exact absurd rfl (hg _ hws).1
  | cons h t=>exact⟨h,t,rfl,λx hx=>by have:=((hg _ hws).2.2 x (.tail _ hx)).2.2;lia⟩
theorem aDo (hg:∀ws∈Wl,Rw ws)(hc:(Wl.filter λws:List Str=>decide (ws≠[("" :Str)])).length<=20):WR (Wl.map J):=by
 refine⟨?_,λr hr hw=> ?_⟩
 .rw[List.filter_map,List.length_map];refine Nat.le_trans (Nat.le_of_eq (congrArg _ (List.filter_congr λws hws=> ?_))) hc;show decide (J ws≠ "")=decide (ws≠[("" :Str)]);refine decide_eq_decide.mpr (not_congr ⟨λe=> ?_,λe=>by rw[e];exact fC _⟩);have:=gI (hg ws hws).g;rw[e]at this;rw[←this]
  decide +kernel
 .obtain⟨ws,hws,rfl⟩:=List.mem_map.mp hr;exact aC7 (hg ws hws) hw
theorem aFJ (hg:∀ws∈Wl,WsG ws)(hl:Wl.length<=40):(Txt.join "\n" (Wl.map J)).length<=1000000:=by
 rw[bX];have j:=StrLaws.join_length_le "\n" (Wl.map J);have h1:=iK 20000 (Wl.map J) λx hx=>by
  obtain⟨ws,hws,rfl⟩:=List.mem_map.mp hx;exact rF (hg ws hws)
 have c:("\n" :Str).length=1:=by decide
 rw[c]at j;rw[List.length_map]at h1 j
 lia
theorem aC3 (hg:∀ws∈Wl,Rw ws)(hne:Wl≠[])(hl:Wl.length<=40)(hc:(Wl.filter λws:List Str=>decide (ws≠[("" :Str)])).length<=20)(hn:¬IsH (Wl.map J)):d9 (Txt.join "\n" (Wl.map J)):=by
 have h:=E1 (λws hws=>(hg ws hws).g) hne;refine⟨aFJ (λws hws=>(hg ws hws).g) hl,?_,.inr ?_,?_⟩
 .rw[h];exact aF3 (λws hws=>(hg ws hws).g) hl
 .rw[h];exact aDo hg hc
 .rw[h];exact hn
theorem oY (hg:∀ws∈Wl,Rw ws)(hne:Wl≠[])(hl:Wl.length<=20)(hn:¬IsH (Wl.map J)):d9 (Txt.join "\n" (Wl.map J)):=aC3 hg hne (by lia) (Nat.le_trans (List.length_filter_le _ _) hl) hn
theorem VD.rw {dd:List Dd}(h:VD f l rz dd ps):∀ws∈wsP f l rz dd ps,Rw ws:=λws hws=>⟨h.ws ws hws,by
 unfold wsP at hws;simp only[List.mem_append,List.mem_singleton,List.mem_map]at hws;rcases hws with ((rfl|⟨e,he,rfl⟩)|⟨d,hd,rfl⟩)|⟨e,he,rfl⟩
 .exact .inl λz=>absurd (Option.some.inj z) (by decide +kernel)
 .exact .inl λz=>absurd (Option.some.inj z) (by decide +kernel)
 .exact .inr (.inl ⟨d,h.dd d hd,rfl⟩)
 .exact .inl λz=>absurd (Option.some.inj z) (by decide +kernel)⟩
structure LH (f l:Int)(rz:List (Str×Int))(dd:List Dd)(ps:List (Str×Int)):Prop where
 vd:VD f l rz dd ps
 ho:HOk f l rz (dd.map Dd.g) ps
 cn:(rz.filter λe=>decide (bU ps e.1>0)).map (λe=>(e.1,bU ps e.1))=ps
 lr:2<=rz.length/\rz.length<=5
 ld:2<=dd.length/\dd.length<=5
 lp:1<=ps.length/\ps.length<=2
 r0:∃n rr,rz=(("hall" :Str),n)::rr/\2<=n/\n<=10
 rn:rz.map (·.1)=(["hall","yard","loft","den","barn"]:List Str).take rz.length
 rs:∀e∈rz,2<=e.2/\e.2<=10
 d0:dd[0]?.map (·.st)=some ("hall" :Str)
 d1:dd[1]?.map (·.st)=some ("yard" :Str)
 fb:0<=f/\f<=4
 lb:5<=l/\l<=11
theorem gH (f l:Int)(rz:List (Str×Int))(dd:List Dd)(ps:List (Str×Int)):(wsP f l rz dd ps).length=1+rz.length+dd.length+ps.length:=by
 unfold wsP;rw[List.length_append,List.length_append,List.length_append,List.length_map,List.length_map,List.length_map];rfl
theorem LH.isH {dd:List Dd}(h:LH f l rz dd ps):IsH (aQ f l rz dd ps):=⟨f,l,rz,dd,ps,⟨h.vd.reads,h.ho⟩,by rw[NI,h.cn]⟩
theorem oG {dd:List Dd}(h:LH f l rz dd ps):6<=(wsP f l rz dd ps).length/\(wsP f l rz dd ps).length<=13/\(wsP f l rz dd ps).length≠0:=by
 rw[gH];have:=h.lr;have:=h.ld;have:=h.lp
 lia
section
variable {i:Nat}{ws:List Str}
theorem aA6 (hi:i<Wl.length):∀x∈Wl.take i++[ws]++Wl.drop (i+1),x=ws∨x∈Wl:=λx hx=>by
 simp only[List.mem_append,List.mem_singleton]at hx;rcases hx with (hx|hx)|hx
 .exact .inr (List.mem_of_mem_take hx)
 .exact .inl hx
 .exact .inr (List.mem_of_mem_drop hx)
theorem NB (hi:i<Wl.length):(Wl.take i++[ws]++Wl.drop (i+1)).length=Wl.length:=by
 rw[List.length_append,List.length_append,List.length_take,List.length_drop];show min i Wl.length+1+_=_
 lia
theorem Z9 (hW:∀x∈Wl,Rw x)(hl:Wl.length<=19)(hi:i<Wl.length)(hr:Rw ws)(hn:∀{f l rz dd cs},¬HW (Wl.take i++[ws]++Wl.drop (i+1)) f l rz dd cs):d9 (Txt.join "\n" ((Wl.take i++[ws]++Wl.drop (i+1)).map J)):=by
 have hm:=aA6 (ws:=ws) hi;have h1:∀x∈Wl.take i++[ws]++Wl.drop (i+1),Rw x:=λx hx=>(hm x hx).elim (λe=>e▸hr) λh=>hW x h;refine oY h1 (λz=> ?_) (by rw[NB hi];lia) λh=> ?_
 .have:=NB (ws:=ws) hi;rw[z]at this;exact absurd hi (by rw[←this];exact Nat.not_lt_zero _)
 .walk_at"g1";obtain⟨f,l,rz,dd,cs,q⟩:=tW (λx hx=>(h1 x hx).g) h;walk_at"g2";exact hn q
theorem UA (hW:∀x∈Wl,Rw x)(hl:Wl.length<=19)(hi:i<Wl.length)(hr:Rw ws)(hn:¬OkL ws):d9 (Txt.join "\n" ((Wl.take i++[ws]++Wl.drop (i+1)).map J)) :=
 Z9 hW hl hi hr λq=>hn (q.okL ws (by simp))
theorem U0 {A B:List (List Str)}{x:List Str}{dd:List Dd}(hA:A≠[])(q:HW (A++x::B) f l rz dd cs):OkW x:=by
 obtain⟨R,e,h⟩:=q.okW;cases A with
 | nil=>exact absurd rfl hA
 | cons a A =>
  have e:=(List.cons.inj e).2;exact h x (by rw[←e];simp)
theorem aFK (hW:∀x∈Wl,Rw x)(hl:Wl.length<=19)(hi:1<=i)(hw:Wl≠[])(hr:Rw ws)(hn:¬OkW ws):d9 (Txt.join "\n" ((Wl.take i++[ws]++Wl.drop i).map J)):=by
 have h1:∀x∈Wl.take i++[ws]++Wl.drop i,Rw x:=λx hx=>by
  simp only[List.mem_append,List.mem_singleton]at hx;rcases hx with (hx|rfl)|hx
  .exact hW x (List.mem_of_mem_take hx)
  .exact hr
  .exact hW x (List.mem_of_mem_drop hx)
 refine oY h1 (by simp) ?_ λh=> ?_
 .rw[List.length_append,List.length_append,List.length_take,List.length_drop];show min i Wl.length+1+_<=_
  lia
 .walk_at"g1";obtain⟨f,l,rz,dd,cs,q⟩:=tW (λx hx=>(h1 x hx).g) h;walk_at"g2";rw[List.append_assoc]at q;refine hn (U0 ?_ q);cases Wl with
  | nil=>exact absurd rfl hw
  | cons a Wl =>
   cases i with
   | zero=>exact absurd hi (by decide)
   | succ i=>exact λz=>nomatch z
theorem aAN (hW:∀x∈Wl,Rw x)(hl:Wl.length<=19)(hi:i<Wl.length):d9 (Txt.join "\n" ((Wl.take (i+1)++Wl.drop i).map J)):=by
 have h1:∀x∈Wl.take (i+1)++Wl.drop i,Rw x:=λx hx=>(List.mem_append.mp hx).elim (λh=>hW x (List.mem_of_mem_take h)) λh=>hW x (List.mem_of_mem_drop h);refine oY h1 (λz=> ?_) ?_ λh=> ?_
 .have:=congrArg List.length z;rw[List.length_append,List.length_take,List.length_drop]at this;have:min (i+1) Wl.length+(Wl.length - i)=0:=this
  lia
 .rw[List.length_append,List.length_take,List.length_drop]
  lia
 .walk_at"g1";obtain⟨f,l,rz,dd,cs,q⟩:=tW (λx hx=>(h1 x hx).g) h;walk_at"g2";have n:=(List.nodup_append.mp q.nodup).2.2;refine n Wl[i] ?_ Wl[i] ?_ rfl
  .exact List.mem_take_iff_getElem.mpr ⟨i,by lia,rfl⟩
  .rw[List.drop_eq_getElem_cons hi];exact .head _
theorem TH {x:List Str}{B:List (List Str)}(h1:∀y∈x::B,Rw y)(hl:(x::B).length<=20)(hx:x.head? ≠some "turns"):d9 (Txt.join "\n" ((x::B).map J)):=oY h1 (λz=>nomatch z) hl λh=>by
 walk_at"g1";obtain⟨f,l,rz,dd,cs,q⟩:=tW (λx hx=>(h1 x hx).g) h;walk_at"g2";obtain⟨R,e,_⟩:=q.okW;rw[(List.cons.inj e).1]at hx;exact hx rfl
end
theorem BS:cY "" :=cJ (by decide +kernel)
theorem DU {ws:List Str}(h:("" :Str)∈ws):¬OkL ws:=λq=>q.1 _ h rfl
theorem WsG.snoc {ws:List Str}(h:WsG ws)(hx:cY x)(hl:ws.length<=90):WsG (ws++[x]):=⟨by simp,by rw[List.length_append];show _+1<=100;lia,λy hy=>by
 rcases List.mem_append.mp hy with hy|hy
 .exact h.2.2 y hy
 .cases List.mem_singleton.mp hy;exact hx⟩
theorem aAZ {ws:List Str}(h:WsG ws)(hl:ws.length<=90):Rw (("" :Str)::ws):=⟨h.cons BS hl,.inl λz=>absurd (Option.some.inj z) (by decide +kernel)⟩
theorem YE {d:Dd}(h:DOk d){r:List Str}(hr:r.length≠d.r.length):vA d.kd r:= .inl λz=>by
 rw[IZ h.bk]at z;have z:=V.int.inj z;have e:d.r.length=3+d.ns.length:=by unfold Dd.r;rw[List.length_append,List.length_map];rfl
 lia
theorem DOk.bad {d:Dd}(h:DOk d){r:List Str}(hb:vA d.kd r):BadWay (("way" :Str)::((jN d.sh).flatten++d.kd::r)):=⟨jN d.sh,d.kd,r,rfl,JL _,h.bk.kd_wd.2.1,h.bk.kd_wd.2.2.1,hb,by cases d.sh with|none=>decide|some a=>exact Nat.le_refl 1⟩
structure RwL (ws:List Str):Prop where
 g:WsG ws
 l:ws.length<=20
 w:ws.head? ≠some "way" ∨∃d,DOk d/\ws=wW d
theorem aAY {ws:List Str}(h:RwL ws):Rw (ws++[("" :Str)]):=by
 refine⟨h.g.snoc BS (by have:=h.l;lia),?_⟩;rcases h.w with q|⟨d,hd,rfl⟩
 .left
  cases ws with
  | nil=>exact absurd rfl h.g.1
  | cons a ws=>exact q
 .right;right
  have:=hd.bad (r:=d.r++[("" :Str)]) (YE hd (by rw[List.length_append];show _+1≠_;lia));unfold wW eM
  simpa using this
def O4:List Str->List Str
 | []=>[]
 | w::ws=>w::(ws.map λx=>[("" :Str),x]).flatten
theorem aBH {w:Str}{ws:List Str}(h:x∈O4 (w::ws)):x=w∨x= "" ∨x∈ws:=by
 rcases List.mem_cons.mp h with h|h
 .exact .inl h
 .obtain⟨l,hl,hx⟩:=List.mem_flatten.mp h;obtain⟨y,hy,rfl⟩:=List.mem_map.mp hl;simp only[List.mem_cons,List.not_mem_nil,or_false]at hx;rcases hx with rfl|rfl
  .exact .inr (.inl rfl)
  .exact .inr (.inr hy)
theorem aBz {ws:List Str}(h:RwL ws):Rw (O4 ws):=by
 cases ws with
 | nil=>exact absurd rfl h.g.1
 | cons a ws =>
  have hl:=h.l;refine⟨⟨λz=>(nomatch z),?_,λx hx=> ?_⟩,?_⟩
  .show ((ws.map λx=>[("" :Str),x]).flatten).length+1<=100;rw[List.length_flatten,List.map_map];have:((λx:List Str=>x.length)∘λx=>[("" :Str),x])=λ_=>2:=rfl;rw[List.length_cons]at hl;have e:∀l:List Str,(l.map (List.length∘λx=>[("" :Str),x])).sum=2 * l.length:=λl=>by
    induction l with
    | nil=>rfl
    | cons a l ih=>rw[List.map_cons,List.sum_cons,ih,List.length_cons];show 2+_=_;lia
   rw[e]
   lia
  .rcases aBH hx with rfl|rfl|hx
   .exact h.g.2.2 _ (.head _)
   .exact BS
   .exact h.g.2.2 _ (.tail _ hx)
  .rcases h.w with q|⟨d,hd,e⟩
   .exact .inl q
   .right;right
    have e:a::ws=("way" :Str)::eM d:=e;obtain⟨ea,e2⟩:=List.cons.inj e;subst ea;cases ws with
    | nil=>exact absurd e2.symm hd.ws.1
    | cons b ws=>exact⟨[],"",b::(ws.map λx=>[("" :Str),x]).flatten,rfl,(λ_ h=>nomatch h),by decide +kernel,by decide +kernel,.inl (λz=>(nomatch (show V.non=V.int _ from z))),by decide⟩
theorem vL (a b:List α)(h:b≠[]):(a++b).dropLast=a++b.dropLast:=List.dropLast_append_of_ne_nil h
theorem MV {ws:List Str}(h:RwL ws)(hl:2<=ws.length)(hx:cY x)(hb:wrB x=false):Rw (ws.dropLast++[x])/\¬OkL (ws.dropLast++[x]):=by
 have hne:ws.dropLast≠[]:=λz=>by
  have:=congrArg List.length z;rw[List.length_dropLast]at this;have:ws.length - 1=0:=this
  lia
 have hg:WsG ws.dropLast:=⟨hne,by rw[List.length_dropLast];have:=h.l;lia,λy hy=>h.g.2.2 y ((List.dropLast_sublist ws).mem hy)⟩
 refine⟨⟨hg.snoc hx (by rw[List.length_dropLast];have:=h.l;lia),?_⟩,λq=> ?_⟩
 .rcases h.w with q|⟨d,hd,rfl⟩
  .left
   cases ws with
   | nil=>exact absurd hl (by decide)
   | cons a ws =>
    cases ws with
    | nil=>exact absurd hl (by show ¬2<=1;decide)
    | cons b ws=>exact q
  .right;right
   have e1:d.r.dropLast=[d.nm,d.st,cP d.e]++(d.ns.map aJ).dropLast:=vL _ _ λz=>hd.bk.ne (List.map_eq_nil_iff.mp z);have e2:(wW d).dropLast=("way" :Str)::((jN d.sh).flatten++d.kd::d.r.dropLast):=by
    have hr:d.r≠[]:=λz=>nomatch z;have:wW d=(("way" :Str)::((jN d.sh).flatten++[d.kd]))++d.r:=by unfold wW eM;simp
    rw[this,vL _ _ hr];simp
   have:=hd.bad (r:=d.r.dropLast++[x]) (.inr ⟨x,by rw[e1];simp,hb⟩);rw[e2]
   simpa using this
 .obtain⟨y,hy,hw⟩:=q.2;rw[List.getLast?_append]at hy;have hy:x=y:=Option.some.inj hy;rw[←hy,hb]at hw;cases hw
def odds:List (List Str):=[["room","hall"],["room","hall","2","3"],["way","door","x","hall"],["people","yard"],["door","gone","hall","-","1"],["turns","1","2"],["rooms","x","3"],["people","hall","1","1"],["way","since","x","hall","-","1"],[""],["house"],["way","told","x","hall","-","1"],["Room","den","2"]]
theorem aFC:∀ws∈odds,WsG ws:=by
 have h:odds.all (λws=>decide (ws≠[])&&(decide (ws.length<=100)&&ws.all λx=>decide (32∉x.cps.toList)&&(decide (10∉x.cps.toList)&&decide (x.length<=100))))=true:=by decide +kernel
 intro ws hws;have:=List.all_eq_true.mp h ws hws;rw[Bool.and_eq_true,Bool.and_eq_true,decide_eq_true_eq,decide_eq_true_eq]at this;exact⟨this.1,this.2.1,λx hx=>cJ (List.all_eq_true.mp this.2.2 x hx)⟩
theorem YX:BadWay (["way","door","x","hall"]:List Str):=⟨[],"door",["x","hall"],rfl,(λ_ h=>nomatch h),by decide +kernel,by decide +kernel,.inl λz=>absurd (V.int.inj (show V.int 5=V.int 3 from z)) (by decide),by decide⟩
theorem W4:BadWay (["way","since","x","hall","-","1"]:List Str):=⟨[],"since",["x","hall","-","1"],rfl,(λ_ h=>nomatch h),by decide +kernel,by decide +kernel,.inl λz=>absurd (V.int.inj (show V.int 6=V.int 5 from z)) (by decide),by decide⟩
theorem YL:BadWay (["way","told","x","hall","-","1"]:List Str):=⟨[],"told",["x","hall","-","1"],rfl,(λ_ h=>nomatch h),by decide +kernel,by decide +kernel,.inl λz=>(nomatch (show V.non=V.int 5 from z)),by decide⟩
theorem UK:∀ws∈odds,Rw ws/\¬OkW ws:=λws hws=>by
 have hg:=aFC ws hws;have fst:∀{a:Str}{r:List Str},a≠ "way" ->WsG (a::r)->(a= "room" ∨a= "people" ->(a::r).length≠3)->Rw (a::r)/\¬OkW (a::r):=λn g k=>⟨⟨g,.inl λz=>n (Option.some.inj z)⟩,λo=>by
  have h3:=o.l3 λz=>n (Option.some.inj z);rcases o.hd with q|q|q
  .exact k (.inl (Option.some.inj q)) h3
  .exact n (Option.some.inj q)
  .exact k (.inr (Option.some.inj q)) h3⟩
 have way:BadWay ws->Rw ws/\¬OkW ws:=λb=>⟨⟨hg,.inr (.inr b)⟩,TB b⟩
 simp only[odds,List.mem_cons,List.not_mem_nil,or_false]at hws;rcases hws with rfl|rfl|rfl|rfl|rfl|rfl|rfl|rfl|rfl|rfl|rfl|rfl|rfl
 .exact fst (by decide +kernel) hg λ_=>by show 2≠3;decide
 .exact fst (by decide +kernel) hg λ_=>by show 4≠3;decide
 .exact way YX
 .exact fst (by decide +kernel) hg λ_=>by show 2≠3;decide
 .exact fst (by decide +kernel) hg λ_=>by show 5≠3;decide
 .exact fst (by decide +kernel) hg λq=>absurd q (by decide +kernel)
 .exact fst (by decide +kernel) hg λq=>absurd q (by decide +kernel)
 .exact fst (by decide +kernel) hg λ_=>by show 4≠3;decide
 .exact way W4
 .exact fst (by decide +kernel) hg λq=>absurd q (by decide +kernel)
 .exact fst (by decide +kernel) hg λq=>absurd q (by decide +kernel)
 .exact way YL
 .exact fst (by decide +kernel) hg λq=>absurd q (by decide +kernel)
section
variable {dd:List Dd}
theorem VD.sub (h:VD f l rz dd ps)(hr:∀e∈rz',e∈rz)(hp:∀e∈ps',e∈ps):VD f l rz' dd ps':=⟨h.f0,h.l0,λe he=>h.rz e (hr e he),h.dd,λe he=>h.ps e (hp e he)⟩
theorem aEo {d:Dd}(h:d∈dd):d.st∈c9 (dd.map Dd.g) ps:=by
 unfold c9;refine List.mem_append_left _ (List.mem_flatten.mpr ⟨mS d.g,List.mem_map.mpr ⟨d.g,List.mem_map.mpr ⟨d,h,rfl⟩,rfl⟩,?_⟩);unfold mS;exact List.mem_cons_self ..
theorem IO (v:VD f' l' rz' dd ps')(hl:(wsP f' l' rz' dd ps').length<=20)(hn:¬HOk f' l' rz' (dd.map Dd.g) ps'):d9 (Txt.join "\n" ((wsP f' l' rz' dd ps').map J)) :=
 oY v.rw (λz=>by have:=congrArg List.length z;rw[gH]at this;have:1+rz'.length+dd.length+ps'.length=0:=this;lia) hl λh=>hn (v.hok h)
theorem LH.two (h:LH f l rz dd ps):∃n k rr,rz=(("hall" :Str),n)::(("yard" :Str),k)::rr:=by
 walk_at"g1";obtain⟨n,rr,e,_⟩:=h.r0;walk_at"g2";have hr:=h.rn;have hl:=h.lr;subst e;cases rr with
 | nil=>exact absurd hl.1 (by show ¬2<=1;decide)
 | cons e rr =>
  obtain⟨z,k⟩:=e;have q:(("hall" :Str)::z::rr.map (·.1))=("hall" :Str)::("yard" :Str)::(["loft","den","barn"]:List Str).take rr.length:=hr;have q2:=(List.cons.inj (List.cons.inj q).2).1;exact⟨n,k,rr,by rw[q2]⟩
theorem aEb (h:LH f l rz dd ps){i:Nat}(hi:i<3):d9 (Txt.join "\n" (((wsP f l rz dd ps).take i++(wsP f l rz dd ps).drop (i+1)).map J)):=by
 walk_at"g1";obtain⟨n,k,rr,rfl⟩:=h.two;walk_at"g2";have hl:=oG h;have hw:=h.vd.rw;have nr:(("hall" :Str):: "yard" ::rr.map (·.1)).Nodup:=h.ho.nr;have st:∀(j:Nat) (z:Str),dd[j]?.map (·.st)=some z->z∈c9 (dd.map Dd.g) ps:=λj z e=>by
  obtain⟨d,hd,rfl⟩:=Option.map_eq_some_iff.mp e;exact aEo (List.mem_of_getElem? hd)
 match i,hi with
 | 0,_ =>
  refine TH (x:=wR (("hall" :Str),n)) (B:=wR (("yard" :Str),k)::(rr.map wR++dd.map wW++ps.map wP)) (λy hy=>hw y (List.mem_cons_of_mem _ ?_)) ?_ λz=>absurd (Option.some.inj z) (by decide +kernel)
  .simpa using hy
  .have:=hl.2.1;have e:(wsP f l ((("hall" :Str),n)::(("yard" :Str),k)::rr) dd ps).length=(wR (("hall" :Str),n)::wR (("yard" :Str),k)::(rr.map wR++dd.map wW++ps.map wP)).length+1:=by simp[wsP]
   lia
 | 1,_ =>
  have e:(wsP f l ((("hall" :Str),n)::(("yard" :Str),k)::rr) dd ps).take 1++(wsP f l ((("hall" :Str),n)::(("yard" :Str),k)::rr) dd ps).drop 2=wsP f l ((("yard" :Str),k)::rr) dd ps:=by simp[wsP]
  rw[e];refine IO (h.vd.sub (λe he=> .tail _ he) λe he=>he) ?_ λo=> ?_
  .have:=hl.2.1;rw[gH]at this ⊢;rw[List.length_cons]at this
   lia
  .exact(List.nodup_cons.mp nr).1 (o.sp _ (st 0 _ h.d0))
 | 2,_ =>
  have e:(wsP f l ((("hall" :Str),n)::(("yard" :Str),k)::rr) dd ps).take 2++(wsP f l ((("hall" :Str),n)::(("yard" :Str),k)::rr) dd ps).drop 3=wsP f l ((("hall" :Str),n)::rr) dd ps:=by simp[wsP]
  rw[e];refine IO (h.vd.sub (λe he=> ?_) λe he=>he) ?_ λo=> ?_
  .rcases List.mem_cons.mp he with rfl|he
   .exact .head _
   .exact .tail _ (.tail _ he)
  .have:=hl.2.1;rw[gH]at this ⊢;rw[List.length_cons,List.length_cons]at this;rw[List.length_cons]
   lia
  .have:("yard" :Str)∈("hall" :Str)::rr.map (·.1):=o.sp _ (st 1 _ h.d1);rcases List.mem_cons.mp this with q|q
   .exact absurd q (by decide +kernel)
   .exact(List.nodup_cons.mp (List.nodup_cons.mp nr).2).1 q
theorem GX (hg:∀ws∈Wl,Rw ws)(hm:[("" :Str)]∈Wl)(hl:Wl.length<=40)(hc:(Wl.filter λws:List Str=>decide (ws≠[("" :Str)])).length<=20):d9 (Txt.join "\n" (Wl.map J)) :=
 aC3 hg (λz=>by rw[z]at hm;cases hm) hl hc λh=>by
  walk_at"g1";obtain⟨f,l,rz,dd,cs,q⟩:=tW (λx hx=>(hg x hx).g) h;walk_at"g2";exact(q.okL _ hm).1 "" (.head _) rfl
theorem BP:Rw [("" :Str)]:=⟨⟨λz=>(nomatch z),by decide,λx hx=>by cases List.mem_singleton.mp hx;exact BS⟩,.inl λz=>absurd (Option.some.inj z) (by decide +kernel)⟩
theorem MM:∀{ps:List (Str×Int)}{z:Str}{k:Int},(∀p∈ps,0<=p.2)->(z,k)∈ps->k<=bU ps z
 | p::ps,z,k,h,hm=>by
  have hn:=C4 (ps:=ps) (λq hq=>h q (.tail _ hq)) z;have h0:=h p (.head _);have e:bU (p::ps) z=(if p.1=z then p.2 else 0)+bU ps z:=by
   unfold bU
   by_cases e:p.1=z
   .rw[List.filter_cons_of_pos (by simpa using e),List.map_cons,List.sum_cons,if_pos e]
   .rw[List.filter_cons_of_neg (by simpa using e),if_neg e];lia
  rw[e];rcases List.mem_cons.mp hm with rfl|hm
  .rw[if_pos rfl];show k<=k+_
   lia
  .have:=MM (λq hq=>h q (.tail _ hq)) hm
   split<;>lia
theorem TF (h:LH f l rz dd ps){k:Int}(hk:12<=k/\k<=1000)(hz:aK z=true)(hp:∀e∈ps0,e∈ps)(hl:ps0.length<=2):d9 (Txt.join "\n" ((wsP f l rz dd (ps0++[(z,k)])).map J)):=by
 have v:VD f l rz dd (ps0++[(z,k)]):=⟨h.vd.f0,h.vd.l0,h.vd.rz,h.vd.dd,λe he=>by
  rcases List.mem_append.mp he with he|he
  .exact h.vd.ps e (hp e he)
  .cases List.mem_singleton.mp he;exact⟨hz,by have:=hk.1;show (0:Int)<=k;lia,Int.lt_of_le_of_lt hk.2 (by decide)⟩⟩
 refine IO v ?_ λo=> ?_
 .rw[gH,List.length_append];have:=h.lr;have:=h.ld;show _+(_+1)<=20
  lia
 .have hm:(z,k)∈ps0++[(z,k)]:=by simp
  have h1:=MM o.ft.1 hm;have h2:z∈rz.map (·.1):=o.sp z (List.mem_append_right _ (List.mem_map.mpr ⟨_,hm,rfl⟩));obtain⟨e,he,rfl⟩:=List.mem_map.mp h2;have h3:=o.ft.2 e he;have h4:=(h.rs e he).2
  lia
theorem TZ (h:LH f l rz dd ps):d9 (Txt.join "\n" ((wsP f l rz dd (ps++[(("nowhere" :Str),1)])).map J)):=by
 have v:VD f l rz dd (ps++[(("nowhere" :Str),1)]):=⟨h.vd.f0,h.vd.l0,h.vd.rz,h.vd.dd,λe he=>by
  rcases List.mem_append.mp he with he|he
  .exact h.vd.ps e he
  .cases List.mem_singleton.mp he;exact⟨by decide +kernel,by show (0:Int)<=1;decide,by show (1:Int)<10^60;decide⟩⟩
 refine IO v ?_ λo=> ?_
 .rw[gH,List.length_append];have:=h.lr;have:=h.ld;have:=h.lp;show _+(_+1)<=20
  lia
 .have h2:("nowhere" :Str)∈rz.map (·.1):=o.sp _ (List.mem_append_right _ (List.mem_map.mpr ⟨(("nowhere" :Str),1),by simp,rfl⟩));rw[h.rn]at h2;exact absurd (List.mem_of_mem_take h2) (by decide +kernel)
theorem aBl (h:LH f l rz dd ps){x:Int}(hx:0<=x/\x<9):d9 (Txt.join "\n" ((wsP 9 x rz dd ps).map J)):=by
 have v:VD 9 x rz dd ps:=⟨⟨by decide,by decide⟩,⟨hx.1,Int.lt_trans hx.2 (by decide)⟩,h.vd.rz,h.vd.dd,h.vd.ps⟩
 refine IO v ?_ λo=> ?_
 .have:=(oG h).2.1;rw[gH]at this ⊢
  lia
 .have:=o.fl
  lia
theorem aBt (h:LH f l rz dd ps){e:Str×Int}(hps:ps=ps0++[e]):d9 (Txt.join "\n" ((wT f l::wP e::(rz.map wR++dd.map wW++ps0.map wP)).map J)):=by
 have hw:=h.vd.rw;have hm:∀ws∈wT f l::wP e::(rz.map wR++dd.map wW++ps0.map wP),ws∈wsP f l rz dd ps:=λws hws=>by
  subst hps;simp only[wsP,List.mem_cons,List.mem_append,List.mem_map,List.map_append,List.map_cons,List.map_nil,List.not_mem_nil,or_false]at hws ⊢;rcases hws with hws|hws|(hws|hws)|hws
  .exact .inl (.inl (.inl hws))
  .exact .inr (.inr hws)
  .exact .inl (.inl (.inr hws))
  .exact .inl (.inr hws)
  .exact .inr (.inl hws)
 have h1:∀ws∈wT f l::wP e::(rz.map wR++dd.map wW++ps0.map wP),Rw ws:=λws hws=>hw ws (hm ws hws);refine oY h1 (λz=>nomatch z) ?_ λq=> ?_
 .have:=(oG h).2.1;subst hps;rw[gH,List.length_append]at this;simp only[List.length_cons,List.length_append,List.length_map,List.length_nil]at this ⊢
  lia
 .walk_at"g1";obtain⟨f',l',rz',dd',cs',q⟩:=tW (λx hx=>(h1 x hx).g) q;walk_at"g2";have e1:=q.e;have e2:wP e::(rz.map wR++dd.map wW++ps0.map wP)=rz'.map wR++dd'.map wW++cs'.map wP:=by
   have:wT f l::wP e::(rz.map wR++dd.map wW++ps0.map wP)=wT f' l'::(rz'.map wR++dd'.map wW++cs'.map wP):=e1;exact(List.cons.inj this).2
  cases rz' with
  | cons x rz' =>
   have:wP e=wR x:=(List.cons.inj e2).1;exact absurd (List.cons.inj this).1 (by decide +kernel)
  | nil =>
   walk_at"g1";obtain⟨n,k,rr,e3⟩:=h.two;walk_at"g2";have hm:wR (("hall" :Str),n)∈wP e::(rz.map wR++dd.map wW++ps0.map wP):=by
    rw[e3];exact List.mem_cons_of_mem _ (by simp)
   rw[e2]at hm;simp only[List.map_nil,List.nil_append,List.mem_append,List.mem_map]at hm;rcases hm with⟨d,_,q⟩|⟨x,_,q⟩
   .exact absurd (List.cons.inj q).1 (by decide +kernel)
   .exact absurd (List.cons.inj q).1 (by decide +kernel)
end
def nmR:List Str:=["hall","yard","loft","den","barn"]
def nmD:List Str:=["gate","door","arch","hatch","gap"]
def rzF (c:Int)(n:Nat):List (Str×Int):=(List.range n).map λk:Nat=>(nmR.getD k "",2+c/((k:Int)+5)%9)
theorem aBT:("turns " :Str)= "turns" ++ " " :=by decide +kernel
theorem VL:("room " :Str)= "room" ++ " " :=by decide +kernel
theorem VY:("people " :Str)= "people" ++ " " :=by decide +kernel
theorem aDq:("door " :Str)= "door" ++ " " :=by decide +kernel
theorem aAP:("since " :Str)= "since" ++ " " :=by decide +kernel
theorem aCw:("beat " :Str)= "beat" ++ " " :=by decide +kernel
theorem aEJ:("shut 4 door " :Str)= "shut" ++ " " ++ "4" ++ " " ++ "door" ++ " " :=by decide +kernel
theorem l_3:(" 3" :Str)= " " ++ "3" :=by decide +kernel
theorem aFW:(" 2 1" :Str)= " " ++ "2" ++ " " ++ "1" :=by decide +kernel
theorem aAl (a b:Int):("turns " :Str)++aJ a++ " " ++aJ b=J (wT a b):=by
 unfold wT;rw[aV,aV,fC,aBT];simp only[bI]
theorem aE6 (z:Str)(b:Int):("room " :Str)++z++ " " ++aJ b=J (wR (z,b)):=by
 show _=J ["room",z,aJ b];rw[aV,aV,fC,VL];simp only[bI]
theorem AS (z:Str)(b:Int):("people " :Str)++z++ " " ++aJ b=J (wP (z,b)):=by
 show _=J ["people",z,aJ b];rw[aV,aV,fC,VY];simp only[bI]
theorem GO:("way " :Str)= "way" ++ " " :=KH
theorem n_3:aJ 3= "3" :=by decide +kernel
theorem n_2:aJ 2= "2" :=by decide +kernel
theorem n_1:aJ 1= "1" :=by decide +kernel
theorem n_4:aJ 4= "4" :=by decide +kernel
def mkD (kd:Nat)(nm st:Str)(e:V)(w:Int):Dd:=match kd with
 | 0=>⟨none,"door",nm,st,e,[w]⟩
 | 1=>⟨none,"since",nm,st,e,[w,3]⟩
 | 2=>⟨none,"beat",nm,st,e,[w,2,1]⟩
 | _=>⟨some 4,"door",nm,st,e,[w]⟩
def xB (nm st ee:Str)(w:Int):Str:=nm++ " " ++st++ " " ++ee++ " " ++aJ w
def UY (D:Str):List Str:=["door " ++D,"since " ++D++ " 3","beat " ++D++ " 2 1","shut 4 door " ++D]
theorem aEU {kd:Nat}(h:kd<4)(nm st:Str)(e:V)(w:Int):∃x,(UY (xB nm st (cP e) w))[kd]? =some x/\("way " :Str)++x=J (wW (mkD kd nm st e w)):=by
 match kd,h with
 | 0,_ =>
  refine⟨_,rfl,?_⟩;show _=J ["way","door",nm,st,cP e,aJ w];rw[aV,aV,aV,aV,aV,fC,GO,aDq];unfold xB;simp only[bI]
 | 1,_ =>
  refine⟨_,rfl,?_⟩;show _=J ["way","since",nm,st,cP e,aJ w,aJ 3];rw[aV,aV,aV,aV,aV,aV,fC,GO,aAP,l_3,n_3];unfold xB;simp only[bI]
 | 2,_ =>
  refine⟨_,rfl,?_⟩;show _=J ["way","beat",nm,st,cP e,aJ w,aJ 2,aJ 1];rw[aV,aV,aV,aV,aV,aV,aV,fC,GO,aCw,aFW,n_2,n_1];unfold xB;simp only[bI]
 | 3,_ =>
  refine⟨_,rfl,?_⟩;show _=J ["way","shut",aJ 4,"door",nm,st,cP e,aJ w];rw[aV,aV,aV,aV,aV,aV,aV,fC,GO,aEJ,n_4];unfold xB;simp only[bI]
theorem aEv {kd:Nat}{st:Str}{e:V}{w:Int}(hn:aK nm=true)(hs:aK st=true)(he:bW e)(h0:0<=w)(h1:w<9):DOk (mkD kd nm st e w)/\(mkD kd nm st e w).nm=nm/\(mkD kd nm st e w).st=st/\(mkD kd nm st e w).e=e:=by
 have hw:N12 w:=⟨h0,by lia⟩
 match kd with
 | 0=>exact⟨⟨.door w hw,hn,hs,he,λ_ z=>nomatch z⟩,rfl,rfl,rfl⟩
 | 1=>exact⟨⟨.since w 3 hw ⟨by decide,by decide⟩,hn,hs,he,λ_ z=>nomatch z⟩,rfl,rfl,rfl⟩
 | 2=>exact⟨⟨.beat w 2 1 hw ⟨by decide,by decide⟩ (by decide) ⟨by decide,by decide⟩,hn,hs,he,λ_ z=>nomatch z⟩,rfl,rfl,rfl⟩
 | n+3=>exact⟨⟨.door w hw,hn,hs,he,λa z=>by cases z;exact⟨⟨by decide,by decide⟩,rfl⟩⟩,rfl,rfl,rfl⟩
structure DL (n:Nat)(dd:List Dd)(i:Nat):Prop where
 ln:dd.length=i
 ok:∀(j:Nat) d,dd[j]? =some d->DOk d/\d.nm=nmD.getD j "" /\d.st=nmR.getD (j%n) "" /\(d.e= .non∨∃z∈nmR.take n,d.e= .str z)
theorem BU (j:Nat)(h:j<5):aK (nmR.getD j "")=true/\(nmR.getD j "").length<=8:=by
 have:∀j:Fin 5,aK (nmR.getD j.val "")=true/\(nmR.getD j.val "").length<=8:=by decide +kernel
 exact this ⟨j,h⟩
theorem TY (j:Nat)(h:j<5):aK (nmD.getD j "")=true/\(nmD.getD j "").length<=8:=by
 have:∀j:Fin 5,aK (nmD.getD j.val "")=true/\(nmD.getD j.val "").length<=8:=by decide +kernel
 exact this ⟨j,h⟩
theorem tE (h:j<n)(hn:n<=5):((nmR.take n).map V.str)[j]? =some (V.str (nmR.getD j ""))/\nmR.getD j "" ∈nmR.take n:=by
 have h5:j<nmR.length:=by show j<5;lia
 have e:(nmR.take n)[j]? =some (nmR.getD j ""):=by
  rw[List.getElem?_take_of_lt h,List.getD_eq_getElem?_getD,List.getElem?_eq_getElem h5];rfl
 exact⟨by rw[List.getElem?_map,e];rfl,List.mem_of_getElem? e⟩
theorem aDu (h:j<5):([V.str "gate",V.str "door",V.str "arch",V.str "hatch",V.str "gap"]:List V)[j]? =some (V.str (nmD.getD j "")):=by
 match j,h with
 | 0,_=>rfl
 | 1,_=>rfl
 | 2,_=>rfl
 | 3,_=>rfl
 | 4,_=>rfl
theorem DL.add {i:Nat}{dd:List Dd}{d:Dd}(h:DL n dd i)(hd:DOk d/\d.nm=nmD.getD i "" /\d.st=nmR.getD (i%n) "" /\(d.e= .non∨∃z∈nmR.take n,d.e= .str z)):DL n (dd++[d]) (i+1):=⟨by rw[List.length_append,h.ln];rfl,λj x hx=>by
 have hl:=h.ln;rcases Nat.lt_or_ge j dd.length with hj|hj
 .rw[List.getElem?_append_left hj]at hx;exact h.ok j x hx
 .rw[List.getElem?_append_right hj]at hx;have:j - dd.length=0:=by
   cases e:j - dd.length with
   | zero=>rfl
   | succ k=>rw[e]at hx;cases hx
  rw[this]at hx;cases hx;obtain rfl:j=i:=by lia
  exact hd⟩
theorem eN {x:Int}(hn:0<n):∃j:Nat,x%(n:Int)=(j:Int)/\j<n:=by
 have h0:=Int.emod_nonneg x (show (n:Int)≠0 by lia);have h1:=Int.emod_lt_of_pos x (show (0:Int)<n by lia);exact⟨(x%(n:Int)).toNat,by lia,by lia⟩
theorem V6 (hz:aK z=true)(hm:z∈nmR.take n)(hj:j<2):∃e,bW e/\(e= .non∨∃y∈nmR.take n,e= .str y)/\([V.str "-",V.str z]:List V)[j]? =some (V.str (cP e)):=by
 match j,hj with
 | 0,_=>exact⟨.non,.inl rfl,.inl rfl,rfl⟩
 | 1,_=>exact⟨.str z,.inr ⟨z,rfl,hz⟩,.inr ⟨z,hm,rfl⟩,rfl⟩
def psL (c:Int):List (Str×Int):=if c/9%2=0 then [(("hall" :Str),1+c%2),(("yard" :Str),1)] else [(("hall" :Str),1+c%2)]
theorem nmR_nodup:nmR.Nodup:=by decide +kernel
theorem nmD_nodup:nmD.Nodup:=by decide +kernel
theorem VP {c:Int}(hn:n<=5):(rzF c n).map (·.1)=nmR.take n:=by
 unfold rzF;rw[List.map_map]
 apply List.ext_getElem?
 intro i
 by_cases hi:i<n
 .rw[List.getElem?_map,List.getElem?_range hi,List.getElem?_take_of_lt hi];have:i<nmR.length:=by show i<5;lia
  rw[List.getElem?_eq_getElem this];show some (nmR.getD i "")=_;rw[List.getD_eq_getElem?_getD,List.getElem?_eq_getElem this];rfl
 .rw[List.getElem?_eq_none (by rw[List.length_map,List.length_range];lia),List.getElem?_eq_none (by rw[List.length_take];lia)]
theorem oR {c:Int}(hn:n<=5){e:Str×Int}(he:e∈rzF c n):aK e.1=true/\2<=e.2/\e.2<=10:=by
 unfold rzF at he;obtain⟨k,hk,rfl⟩:=List.mem_map.mp he;have hk:=List.mem_range.mp hk;refine⟨(BU k (by lia)).1,?_,?_⟩
 .show 2<=2+c/((k:Int)+5)%9
  lia
 .show 2+c/((k:Int)+5)%9<=10
  lia
theorem WY {nk:Nat}{dd:List Dd}(hk:nk<=5)(hd:DL n dd nk):dd.map (·.nm)=nmD.take nk:=by
 have hl:=hd.ln
 apply List.ext_getElem?
 intro i
 by_cases hi:i<nk
 .obtain⟨d,hdi⟩:∃d,dd[i]? =some d:=⟨_,List.getElem?_eq_getElem (by lia)⟩
  rw[List.getElem?_map,hdi,List.getElem?_take_of_lt hi];have:i<nmD.length:=by show i<5;lia
  rw[List.getElem?_eq_getElem this];show some d.nm=_;rw[(hd.ok i d hdi).2.1,List.getD_eq_getElem?_getD,List.getElem?_eq_getElem this];rfl
 .rw[List.getElem?_eq_none (by rw[List.length_map];lia),List.getElem?_eq_none (by rw[List.length_take];lia)]
theorem tS (hj:j<n)(hn:n<=5)(e:nmR.getD j "" =z):z∈nmR.take n:=e▸(tE hj hn).2
theorem aDE (c:Int):∀e∈psL c,aK e.1=true/\NumR e.2/\(e.1= "hall" ∨e.1= "yard")/\0<e.2/\e.2<=2:=λe he=>by
 have h1:aK "hall" =true:=by decide +kernel
 have h2:aK "yard" =true:=by decide +kernel
 have n1:NumR (1+c%2):=⟨by lia,Int.lt_of_le_of_lt (show 1+c%2<=2 by lia) (by decide)⟩
 have n2:NumR 1:=⟨by decide,by decide⟩
 unfold psL at he
 split at he
 .simp only[List.mem_cons,List.not_mem_nil,or_false]at he;rcases he with rfl|rfl
  .exact⟨h1,n1,.inl rfl,by show 0<1+c%2;lia,by show 1+c%2<=2;lia⟩
  .exact⟨h2,n2,.inr rfl,by decide,by decide⟩
 .cases List.mem_singleton.mp he;exact⟨h1,n1,.inl rfl,by show 0<1+c%2;lia,by show 1+c%2<=2;lia⟩
theorem wS (c:Int)(z:Str):bU (psL c) z=(if z= "hall" then 1+c%2 else if z= "yard" then (if c/9%2=0 then 1 else 0) else 0):=by
 have hy:("hall" :Str)≠ "yard" :=by decide +kernel
 unfold psL bU
 by_cases h0:c/9%2=0
 .rw[if_pos h0,if_pos h0]
  by_cases h1:z= "hall"
  .subst h1;rw[if_pos rfl,List.filter_cons_of_pos (by simp),List.filter_cons_of_neg (by simpa using hy.symm)];show (1+c%2)+0=_
   lia
  .rw[if_neg h1,List.filter_cons_of_neg (by simpa using Ne.symm h1)]
   by_cases h2:z= "yard"
   .subst h2;rw[if_pos rfl,List.filter_cons_of_pos (by simp)];rfl
   .rw[if_neg h2,List.filter_cons_of_neg (by simpa using Ne.symm h2)];rfl
 .rw[if_neg h0,if_neg h0]
  by_cases h1:z= "hall"
  .subst h1;rw[if_pos rfl,List.filter_cons_of_pos (by simp)];show (1+c%2)+0=_
   lia
  .rw[if_neg h1,List.filter_cons_of_neg (by simpa using Ne.symm h1)]
   split<;>rfl
theorem aFz {c:Int}{nk:Nat}{dd:List Dd}(hn:2<=n/\n<=5)(hk:2<=nk/\nk<=5)(hd:DL n dd nk):LH (c/4%5) (5+c/4%7) (rzF c n) dd (psL c):=by
 have hrn:=VP (c:=c) hn.2;have hrl:(rzF c n).length=n:=by unfold rzF;rw[List.length_map,List.length_range]
 have hdl:=hd.ln;have big:∀i:Int,i<=100->i<10^60:=λi h=>Int.lt_of_le_of_lt h (by decide);have dok:∀d∈dd,DOk d/\d.st∈nmR.take n/\(d.e= .non∨∃z∈nmR.take n,d.e= .str z):=λd hdm=>by
  obtain⟨j,hj,e⟩:=List.getElem_of_mem hdm;walk_at"g1";obtain⟨h1,_,h3,h4⟩:=hd.ok j d (by rw[List.getElem?_eq_getElem hj,e]);walk_at"g2";exact⟨h1,tS (Nat.mod_lt _ (by lia)) hn.2 h3.symm,h4⟩
 have pok:=aDE c;have hh:("hall" :Str)∈nmR.take n:=tS (j:=0) (by lia) hn.2 rfl;have hy:("yard" :Str)∈nmR.take n:=tS (j:=1) (by lia) hn.2 rfl;have psz:∀z,bU (psL c) z<=2:=λz=>by rw[wS];split<;>(try split)<;>(try split)<;>lia
 have vd:VD (c/4%5) (5+c/4%7) (rzF c n) dd (psL c):=⟨⟨by lia,big _ (by lia)⟩,⟨by lia,big _ (by lia)⟩,λe he=>⟨(oR hn.2 he).1,by have:=(oR hn.2 he).2;lia,big _ (by have:=(oR hn.2 he).2;lia)⟩,λd h=>(dok d h).1,λe he=>⟨(pok e he).1,(pok e he).2.1⟩⟩
 have ho:HOk (c/4%5) (5+c/4%7) (rzF c n) (dd.map Dd.g) (psL c):=by
  refine⟨by lia,by lia,by rw[hrn];exact nmR_nodup.sublist (List.take_sublist _ _),?_,λz hz=> ?_,λe he=>by have:=(pok e he).2.2.2;lia,λe he=> ?_⟩
  .rw[List.map_map];show (dd.map (·.nm)).Nodup;rw[WY hk.2 hd];exact nmD_nodup.sublist (List.take_sublist _ _)
  .rw[hrn];unfold c9 at hz;rcases List.mem_append.mp hz with hz|hz
   .obtain⟨s,hs,hz⟩:=List.mem_flatten.mp hz;obtain⟨g,hg,rfl⟩:=List.mem_map.mp hs;obtain⟨d,hdm,rfl⟩:=List.mem_map.mp hg;rcases List.mem_cons.mp hz with rfl|hz
    .exact(dok d hdm).2.1
    .have hz:z∈YT d.e:=hz;rcases (dok d hdm).2.2 with e|⟨y,hy',e⟩
     .rw[e]at hz;cases hz
     .rw[e]at hz;cases List.mem_singleton.mp hz;exact hy'
   .obtain⟨e,he,rfl⟩:=List.mem_map.mp hz;rcases (pok e he).2.2.1 with q|q
    .rw[q];exact hh
    .rw[q];exact hy
  .have:=(oR hn.2 he).2;have:=psz e.1
   lia
 obtain⟨m,rfl⟩:∃m,n=m+2:=⟨n - 2,by lia⟩
 obtain⟨x,y,tl,e⟩:∃x y tl,rzF c (m+2)=x::y::tl:=by
  match rzF c (m+2),hrl with
  | [],h=>exact absurd h (by simp)
  | [_],h=>exact absurd h (by simp)
  | x::y::tl,_=>exact⟨x,y,tl,rfl⟩
 have q:=hrn;rw[e]at q;have q:x.1::y.1::tl.map (·.1)=("hall" :Str)::("yard" :Str)::(["loft","den","barn"]:List Str).take m:=q;injection q with hx q;injection q with hy' ht;have tne:∀z∈tl,z.1≠ "hall" /\z.1≠ "yard" :=λz hz=>by
  have h1:z.1∈(["loft","den","barn"]:List Str):=List.mem_of_mem_take (ht▸List.mem_map_of_mem hz);have h2:∀s∈(["loft","den","barn"]:List Str),s≠ "hall" /\s≠ "yard" :=by decide +kernel
  exact h2 _ h1
 have xb:=oR (c:=c) (e:=x) hn.2 (by rw[e];exact List.mem_cons_self);obtain⟨x1,a⟩:=x;obtain⟨y1,b⟩:=y;have hx:x1= "hall" :=hx;have hy':y1= "yard" :=hy';subst hx hy';have hhy:("yard" :Str)≠ "hall" :=by decide +kernel
 have sh:bU (psL c) "hall" =1+c%2:=by rw[wS,if_pos rfl]
 have sy:bU (psL c) "yard" =if c/9%2=0 then 1 else 0:=by rw[wS,if_neg hhy,if_pos rfl]
 have nt:tl.filter (λe=>decide (bU (psL c) e.1>0))=[]:=by
  rw[List.filter_eq_nil_iff];intro z hz;have:=tne z hz;rw[wS,if_neg this.1,if_neg this.2]
  decide
 refine⟨vd,ho,?_,by lia,by lia,?_,⟨a,("yard",b)::tl,e,xb.2⟩,by rw[hrn,hrl];rfl,λe he=>(oR hn.2 he).2,?_,?_,by lia,by lia⟩
 .rw[e,List.filter_cons_of_pos (by show decide (bU (psL c) "hall" >0)=true;rw[sh];exact decide_eq_true (by lia))]
  by_cases h0:c/9%2=0
  .rw[List.filter_cons_of_pos (by show decide (bU (psL c) "yard" >0)=true;rw[sy,if_pos h0];decide),nt,List.map_cons,List.map_cons,List.map_nil,sh,sy,if_pos h0];unfold psL;rw[if_pos h0]
  .rw[List.filter_cons_of_neg (by show ¬decide (bU (psL c) "yard" >0)=true;rw[sy,if_neg h0];decide),nt,List.map_cons,List.map_nil,sh];unfold psL;rw[if_neg h0]
 .unfold psL
  split
  .show 1<=2/\2<=2;lia
  .show 1<=1/\1<=2;lia
 .obtain⟨d,hdi⟩:∃d,dd[0]? =some d:=⟨_,List.getElem?_eq_getElem (by lia)⟩
  rw[hdi];show some d.st=_;rw[(hd.ok 0 d hdi).2.2.1,Nat.zero_mod];rfl
 .obtain⟨d,hdi⟩:∃d,dd[1]? =some d:=⟨_,List.getElem?_eq_getElem (by lia)⟩
  rw[hdi];show some d.st=_;rw[(hd.ok 1 d hdi).2.2.1,Nat.mod_eq_of_lt (by lia)];rfl
theorem aFX (z:Str):("people " :Str)++z++ " 1" =J (wP (z,1)):=by
 rw[←AS,n_1,show (" 1" :Str)= " " ++ "1" by decide +kernel];simp only[bI]
def LM (dd:List Dd):Prop:=∀d∈dd,∀x∈wW d,109∉x.cps.toList
theorem mR (h:0<=i){c:Nat}(hc:58<=c∨c<48):c∉(aJ i).cps.toList:=by
 obtain⟨n,rfl⟩:∃n:Nat,i=n:=⟨i.toNat,by lia⟩
 exact λq=>by have:=oO n _ q;lia
theorem RS:∀z∈nmR,109∉z.cps.toList:=by decide +kernel
theorem aFt (j:Nat)(h:j<5):109∉(nmD.getD j "").cps.toList:=by
 have:∀j:Fin 5,109∉(nmD.getD j.val "").cps.toList:=by decide +kernel
 exact this ⟨j,h⟩
theorem Bk.kd_m (h:Bk kd ns):109∉kd.cps.toList/\kd.length<=5:=by
 cases h<;>exact⟨by decide +kernel,by decide⟩
theorem aFA {nk:Nat}{dd:List Dd}(hn:2<=n/\n<=5)(hk:nk<=5)(hd:DL n dd nk):LM dd:=λd hdm x hx=>by
 have hl:=hd.ln;obtain⟨j,hj,e⟩:=List.getElem_of_mem hdm;walk_at"g1";obtain⟨h1,h2,h3,h4⟩:=hd.ok j d (by rw[List.getElem?_eq_getElem hj,e]);walk_at"g2";have hst:d.st∈nmR:=List.mem_of_mem_take (tS (n:=n) (Nat.mod_lt _ (by lia)) hn.2 h3.symm);unfold wW eM Dd.r at hx;rcases List.mem_cons.mp hx with rfl|hx
 .decide +kernel
 rcases List.mem_append.mp hx with hx|hx
 .cases es:d.sh with
  | none=>rw[es]at hx;cases hx
  | some a =>
   rw[es]at hx;have hx:x∈[("shut" :Str),aJ a]:=hx;simp only[List.mem_cons,List.not_mem_nil,or_false]at hx;rcases hx with rfl|rfl
   .decide +kernel
   .exact mR (h1.sk a es).1.1 (by lia)
 rcases List.mem_cons.mp hx with rfl|hx
 .exact h1.bk.kd_m.1
 rcases List.mem_append.mp hx with hx|hx
 .simp only[List.mem_cons,List.not_mem_nil,or_false]at hx;rcases hx with rfl|rfl|rfl
  .rw[h2];exact aFt j (by lia)
  .exact RS _ hst
  .rcases h4 with q|⟨z,hz,q⟩
   .rw[q];decide +kernel
   .rw[q];exact RS z (List.mem_of_mem_take hz)
 .obtain⟨i,hi,rfl⟩:=List.mem_map.mp hx;exact mR (h1.bk.num i hi).1 (by lia)
def fU (ns:List Int)(k:Int):Int:=ns.getD k.toNat 0
inductive wO (K:W.Frag)(vs:List V)(H:Hp)(Q:VK)(E:XK):Prop
 | mk (a:Addr) (ns:List Int) (k:Int) (_:vs=[.ref a,.int k]) (_:SqL K H a (ns.map V.int)) (_:0<=k) (_:Q (.int (fU ns k)) H):wO K vs H Q E
theorem aD8 {Q:VK}{E:XK}(hS:SqL K H a (ns.map V.int))(hi:0<=i)(h:Q (.int (fU ns i)) H):wO K [.ref a,.int i] H Q E:=⟨_,_,_,rfl,hS,hi,h⟩
theorem AT (m:M w K mg):FnOk P w K mg base CX0 1 m.mG m.iV.d ["_law_script","_law_k"] (wO K):=by
 refine m.iV.F.ok aGO ?_ ?_;walk_at"w0";walk_at"w1";obtain⟨a,ns,i,rfl,hS,hi,k⟩:=h;walk_at"g2";have nd:=aGO.nd;walk_at"hu";refine⟨_,(aC (bH (a9 wN (pv 1) (bD cE rfl m.eK c5 (aA (pv 0) aB)) (bE _)) (aE (aP (bF aR (pv 0) (pv 1) (λ_ _=>rfl)))) aS)
  (aE (aP aF))),?_⟩
 refine aL (σ:=[some (.ref a),some (.int i)]) rfl ?_;walk_at"cx";walk_at"go";rw[List.length_map];refine dQ (λh1=> ?_) (λh1=> ?_)
 .have hlt:i.toNat<ns.length:=by lia
  have e:=bK (xs:=ns.map V.int) (j:=i.toNat) (v:= .int (fU ns i)) (by
   rw[List.getElem?_map,List.getElem?_eq_getElem hlt];unfold fU;rw[List.getD_eq_getElem?_getD,List.getElem?_eq_getElem hlt];rfl)
  rw[show ((i.toNat:Nat):Int)=i by lia]at e;exact⟨_,rfl,_,rfl,a,_,i,_,rfl,rfl,hS,e,k⟩
 .have e:fU ns i=0:=by
   unfold fU;rw[List.getD_eq_getElem?_getD,List.getElem?_eq_none (by lia)];rfl
  rw[e]at k;exact k
theorem rO (m:M w K mg):Fc P w K mg base "_law_cell_at" 1 ["_law_script","_law_k"] (wO K):=⟨_,_,m.D4,m.iV.F.kp,m.iV.b,AT m⟩
local macro_rules| `(tactic| walk_at"rd1")=> `(tactic| ((with_reducible refine' aD8 ?e ?s ?_);(case e=>walk_at"hp");(case s=>walk_at"sd")))
inductive tT (vs:List V)(H:Hp)(Q:VK)(E:XK):Prop
 | mk (c k:Int) (_:vs=[.int c,.int k]) (_:0<=k) (_:k<=100) (_:∀n,0<=n->n<2147483648->Q (.int n) H):tT vs H Q E
theorem aCa {Q:VK}{E:XK}{c k:Int}(h0:0<=k)(h1:k<=100)(h:∀n,0<=n->n<2147483648->Q (.int n) H):tT [.int c,.int k] H Q E:=⟨_,_,rfl,h0,h1,h⟩
def JJ (c k:Int):Int:=(c+7841 * k+1) * 48271%2147483647
def G8 (c k:Int):Int:=JJ c k * (JJ c k/1009+69621)%2147483647
theorem Y5 (c k:Int):0<=G8 c k:=Int.emod_nonneg _ (by decide)
theorem X8 (c k:Int):G8 c k<2147483648:=Int.lt_trans (Int.emod_lt_of_pos _ (by decide)) (by decide)
theorem F4 (m:M w K mg):FnOk P w K mg base CX0 1 m.qL m.kR.d ["_law_cell","_law_k"] (tT):=by
 refine m.kR.F.ok aG6 ?_ ?_;walk_at"w0";walk_at"w1";obtain⟨c,j,rfl,j0,j1,k⟩:=h;walk_at"g2";have nd:=aG6.nd;walk_at"hu";refine⟨_,(aC (aT (i:=2) nd rfl (by walk_at"oi") (aI bR (aI JZ (aI d8 (aI d8 (pv 0) (aI JZ aF (pv 1))) aF) aF) aF))
  (aE (aP (aI bR (aI JZ (pv 2) (aI d8 (aI dZ (pv 2) aF) aF)) aF)))),?_⟩
 refine aL (σ:=[some (.int c),some (.int j),none]) rfl ?_;walk_at"cx";have k:=k _ (Y5 c j) (X8 c j);unfold G8 JJ at k;walk_at"go";exact k
theorem FY (m:M w K mg):Fc P w K mg base "_law_drawn" 1 ["_law_cell","_law_k"] (tT):=⟨_,_,m.KQ,m.kR.F.kp,m.kR.b,F4 m⟩
local macro_rules| `(tactic| walk_at"rd1")=> `(tactic| ((with_reducible refine' aCa ?u ?v ?_);(case u=>walk_at"sd");(case v=>walk_at"sd");intro n' h0' h1'))
inductive CT (K:W.Frag)(vs:List V)(H:Hp)(Q:VK)(E:XK):Prop
 | mk (a:Addr) (ns:List Int) (_:vs=[.ref a]) (_:SqL K H a (ns.map V.int)) (_:∀p f l rz dd ps H',H p=none->Same H H'->LH f l rz dd ps->LM dd->H' p=some (.lst ((aQ f l rz dd ps).map V.str))->Q (.ref p) H'):CT K vs H Q E
theorem KI (m:M w K mg):FnOk P w K mg base CX0 3 m.sP m.mX.d ["_law_script"] (CT K):=by
 refine m.mX.F.ok aHl ?_ ?_;walk_at"w0";walk_at"w1";obtain⟨a,ns,rfl,hS,k⟩:=h;walk_at"g2";have nd:=aHl.nd;walk_at"hu";have aGj:= @rO P w K mg base m;have aHK:= @FY P w K mg base m;refine⟨_,(aC (aT (i:=1) nd rfl (by walk_at"oi") (bT aGj hr (aA (pv 0) (aA aF aB))))
  (aC (aT (i:=2) nd rfl (by walk_at"oi") (b8 cQ (bM (aA aD (aA aD (aA aD (aA aD (aA aD aB)))))) cW (b9 (aI d8 aF (aI bR (pv 1) aF)))))
  (aC (aT (i:=3) nd rfl (by walk_at"oi") (bM (aA (aI bB (aI bB (aI bB aD (cD fE rfl m.kO hZ (aA (aI bR (aI dZ (pv 1) aF) aF) aB))) aD) (cD fE rfl m.kO hZ (aA (aI d8 aF (aI bR (aI dZ (pv 1) aF) aF)) aB))) aB)))
  (aC (iA PassesOwn.never rfl (vC rfl m.DZ (aA (bD cE rfl m.eK c5 (aA (pv 2) aB)) aB)) (aZ (i:=4) nd rfl (by walk_at"oi")) (aE (bG (gP PySem.F.plainAttrs_list PySem.F.slot_list_append PySem.F.type_list_append fA (pv 3) (aA (aI bB (aI bB (aI bB aD (bF aR (pv 2) (pv 4) (λ_ _=>rfl))) aD) (cD fE rfl m.kO hZ (aA (aI d8 aF (aI bR (aI dZ (pv 1) (aI d8 (pv 4) aF)) aF)) aB))) aB)))))
  (aC (iA PassesOwn.never rfl (vC rfl m.DZ (aA (aI d8 aF (aI bR (bT aGj hr (aA (pv 0) (aA aF aB))) aF)) aB)) (aZ (i:=4) nd rfl (by walk_at"oi")) (aC (aT (i:=5) nd rfl (by walk_at"oi") (bT aHK hr (aA (bT aGj hr (aA (pv 0) (aA aF aB))) (aA (pv 4) aB))))
  (aC (aT (i:=6) nd rfl (by walk_at"oi") (bF aR (bM (aA aD (aA (bF aR (pv 2) (aI bR (aI dZ (pv 5) aF) (bD cE rfl m.eK c5 (aA (pv 2) aB))) (λ_ _=>rfl)) aB))) (aI bR (aI dZ (pv 5) aF) aF) (λ_ _=>rfl)))
  (aC (aT (i:=7) nd rfl (by walk_at"oi") (aI bB (aI bB (bF aR (bM (aA aD (aA aD (aA aD (aA aD (aA aD aB)))))) (pv 4) (λ_ _=>rfl)) aD) (bF aR (pv 2) (aI bR (pv 4) (bD cE rfl m.eK c5 (aA (pv 2) aB))) (λ_ _=>rfl))))
  (aC (aT (i:=7) nd rfl (by walk_at"oi") (aI bB (aI bB (aI bB (aI bB (pv 7) aD) (pv 6)) aD) (cD fE rfl m.kO hZ (aA (aI bR (aI dZ (pv 5) aF) aF) aB))))
  (aC (aT (i:=8) nd rfl (by walk_at"oi") (bM (aA (aI bB aD (pv 7)) (aA (aI bB (aI bB aD (pv 7)) aD) (aA (aI bB (aI bB aD (pv 7)) aD) (aA (aI bB aD (pv 7)) aB))))))
  (aE (bG (gP PySem.F.plainAttrs_list PySem.F.slot_list_append PySem.F.type_list_append fA (pv 3) (aA (aI bB aD (bF aR (pv 8) (aI bR (aI dZ (pv 5) aF) aF) (λ_ _=>rfl))) aB))))))))))
  (aC (bG (gP PySem.F.plainAttrs_list PySem.F.slot_list_append PySem.F.type_list_append fA (pv 3) (aA (aI bB (aI bB (aI bB aD (bF aR (pv 2) aF (λ_ _=>rfl))) aD) (cD fE rfl m.kO hZ (aA (aI d8 aF (aI bR (pv 1) aF)) aB))) aB)))
  (aC (bH (a9 cS (aI bR (aI dZ (pv 1) aF) aF) aF (bE _)) (aE (bG (gP PySem.F.plainAttrs_list PySem.F.slot_list_append PySem.F.type_list_append fA (pv 3) (aA (aI bB (aI bB aD (bF aR (pv 2) aF (λ_ _=>rfl))) aD) aB)))) aS)
  (aE (aP (pv 3)))))))))),?_⟩
 refine aL (σ:=[some (.ref a),none,none,none,none,none,none,none,none]) rfl ?_;walk_at"cx";obtain⟨n,hn,hn2,hn5⟩:∃n:Nat,2+fU ns 0%4=(n:Int)/\2<=n/\n<=5:=⟨(2+fU ns 0%4).toNat,by lia,by lia,by lia⟩
 walk_at"go";rename_i p0 H0 n0 S0 e0 pN H1 n1 S1 e1 hl1 hl2 pR H2 n2 S2 e2;rw[aAl]at e2;have e1':H1 pN=some (.lst ((nmR.take n).map V.str)):=by
  rw[e1,hn];exact congrArg (λz=>some (HO.lst z)) (o0 nmR n)
 have hnl:((nmR.take n).map V.str).length=n:=by rw[List.length_map,List.length_take];show min n 5=n;lia
 clear e1;have e12:=S2 _ _ e1';have hcut:(iD [V.str "hall",V.str "yard",V.str "loft",V.str "den",V.str "barn"] none (some (2+fU ns 0%4))).length=n:=by
  rw[hn,show ([V.str "hall",V.str "yard",V.str "loft",V.str "den",V.str "barn"]:List V)=nmR.map V.str from rfl,o0,List.length_map,List.length_take];show min n 5=n
  lia
 have hpn:pN≠pR:=λz=>by rw[z,n2]at e1';cases e1'
 generalize hc0:fU ns 0=c at *;rw[hcut];walk_at"go";rw[Int.toNat_natCast];let Pv1:Nat->St->Hp->Prop:=λi σ' G=>SameBut pR H2 G/\G pR=some (.lst ((J (wT (c/4%5) (5+c/4%7))::((rzF c n).take i).map λe=>J (wR e)).map V.str))/\∃x,σ'=[some (.ref a),some (.int c),some (.ref pN),some (.ref pR),x,none,none,none,none];refine MF Pv1 ⟨SameBut.refl,e2,_,rfl⟩ ?_ ?_
 .rintro i _ G hi hq_;walk_at"g1";obtain⟨sb,eG,x,rfl⟩:=hq_;walk_at"g2";have eNG:=sb _ _ e12 hpn;have hz:((nmR.take n).map V.str)[i]? =some (V.str (nmR.getD i "")):=by
   rw[List.getElem?_map,List.getElem?_take_of_lt hi,List.getD_eq_getElem?_getD];have:i<nmR.length:=by show i<5;lia
   rw[List.getElem?_eq_getElem this];rfl
  have hzl:(nmR.getD i "").length<=8:=by
   have:∀j:Fin 5,(nmR.getD j.val "").length<=8:=by decide +kernel
   exact this ⟨i,by lia⟩
  have hrl:((rzF c n).take i).length<=5:=by
   have:(rzF c n).length=n:=by unfold rzF;rw[List.length_map,List.length_range]
   rw[List.length_take];lia
  have hrz:(rzF c n)[i]? =some (nmR.getD i "",2+c/((i:Int)+5)%9):=by
   unfold rzF;rw[List.getElem?_map,List.getElem?_range hi];rfl
  rw[Int.zero_add];walk_at"go";refine⟨pN,_,_,_,rfl,rfl,SqL.of eNG,bK hz,?_⟩;walk_at"go";refine iB eG (by rw[sizeLine_eq,List.length_map,List.length_cons,List.length_map];lia) λG' B' e'=> ?_;walk_at"go";refine⟨sb.trans B',?_,_,rfl⟩;rw[e',aE6,dS hrz,List.map_append];simp only[List.map_cons,List.map_nil,List.map_append,List.cons_append]
 .rintro _ G hq_;walk_at"g1";obtain⟨sb,eG,x,rfl⟩:=hq_;walk_at"g2";have hrn:(rzF c n).length=n:=by unfold rzF;rw[List.length_map,List.length_range]
  rw[List.take_of_length_le (by lia)]at eG;have eNG:=sb _ _ e12 hpn;have sHG:Same H G:=S0.trans (S1.trans (SameBut.same n2 S2 sb));have hSG:=sHG.seq hS;obtain⟨nk,hnd,hnd2,hnd5⟩:∃k:Nat,2+fU ns 1%4=(k:Int)/\2<=k/\k<=5:=⟨(2+fU ns 1%4).toNat,by lia,by lia,by lia⟩
  walk_at"go";rw[hnd,Int.toNat_natCast];let Pv2:Nat->St->Hp->Prop:=λi σ' G'=>SameBut pR G G'/\(∃dd,DL n dd i/\G' pR=some (.lst ((J (wT (c/4%5) (5+c/4%7))::((rzF c n).map (λe=>J (wR e))++dd.map λd=>J (wW d))).map V.str)))/\∃x4 x5 x6 x7 x8,σ'=[some (.ref a),some (.int c),some (.ref pN),some (.ref pR),x4,x5,x6,x7,x8];refine MF Pv2 ⟨SameBut.refl,⟨[],⟨rfl,λ_ _ h=>nomatch h⟩,by rw[List.map_nil,List.append_nil];exact eG⟩,_,_,_,_,_,rfl⟩ ?_ ?_
  .rintro i _ G1 hi hq_;walk_at"g1";obtain⟨sb1,⟨dd,hdd,eG1⟩,x4,x5,x6,x7,x8,rfl⟩:=hq_;walk_at"g2";have hpn':pN≠pR:=hpn;have eN1:=sb1 _ _ eNG hpn;have hS1:=(SameBut.same n2 S2 (sb.trans sb1)).seq (S1.seq (S0.seq hS));clear sb eG e2 e12 hl1 hl2 hcut sHG hSG;rw[Int.zero_add];walk_at"go";rename_i dr d0 d1 q0 q1;clear q0 q1;rw[hnl];obtain⟨j1,hj1,hj1n⟩:=eN (x:=dr/8) (show 0<n by lia);rw[hj1];refine⟨pN,_,_,_,rfl,rfl,SqL.of eN1,bK (tE hj1n hn5).1,?_⟩;walk_at"go";rename_i pE G2 m2 T2 f2;obtain⟨j2,hj2,hj2n⟩:=eN (x:=dr/64) (n:=2) (by decide);walk_at"g1";obtain⟨e,he,hen,hep⟩:=V6 (BU j1 (by lia)).1 (tE hj1n hn5).2 hj2n;walk_at"g2";have hj2:dr/64%2=(j2:Int):=hj2;rw[hj2];refine⟨pE,_,_,_,rfl,rfl,SqL.of f2,bK hep,?_⟩;walk_at"go";rename_i pG G3 m3 T3 f3;refine⟨pG,_,_,_,rfl,rfl,SqL.of f3,bK (aDu (show i<5 by lia)),?_⟩;have hdl:=(TY i (by lia)).2;have h3n:i%n<n:=Nat.mod_lt _ (by lia);have hsl:=(BU (i%n) (by lia)).2;have hel:(cP e).length<=8:=by
    rcases he with rfl|⟨z,rfl,hz⟩
    .show ("-" :Str).length<=8
     decide +kernel
    .exact cB hz
   have h3:(i:Int)%(n:Int)=((i%n:Nat):Int):=rfl;have eN3:=(T2.trans T3) _ _ eN1;have eG3:=(T2.trans T3) _ _ eG1;walk_at"go";rw[hnl,h3];refine⟨pN,_,_,_,rfl,rfl,SqL.of eN3,bK (tE h3n hn5).1,?_⟩;walk_at"go";rename_i pK G4 m4 T4 f4;obtain⟨j4,hj4,hj4n⟩:=eN (x:=dr/3) (n:=4) (by decide);have hj4:dr/3%4=(j4:Int):=hj4;obtain⟨x,hx,hxw⟩:=aEU hj4n (nmD.getD i "") (nmR.getD (i%n) "") e (dr/128%9);walk_at"g1";obtain⟨dok,dnm,dst,dde⟩:=aEv (kd:=j4) (w:=dr/128%9) (TY i (by lia)).1 (BU (i%n) (by lia)).1 he (by lia) (by lia);walk_at"g2";have hxl:x.length<=20000:=by
    have h:=rF (dok.ws.cons (a:= "way") (cJ (by decide +kernel)) (by have:=dok.len;lia));have h:(J (wW (mkD j4 (nmD.getD i "") (nmR.getD (i%n) "") e (dr/128%9)))).length<=20000:=h;rw[←hxw,bA]at h
    lia
   have f4':G4 pK=some (.lst ((UY (xB (nmD.getD i "") (nmR.getD (i%n) "") (cP e) (dr/128%9))).map V.str)):=f4;clear f4;rw[hj4];refine⟨pK,_,_,_,rfl,rfl,SqL.of f4',bK (by rw[List.getElem?_map,hx];rfl),?_⟩;walk_at"go";have hddl:=hdd.ln;refine iB (T4 _ _ eG3) (by rw[sizeLine_eq,List.length_map,List.length_cons,List.length_append,List.length_map,List.length_map];lia) λG5 B5 e5=> ?_;walk_at"go";refine⟨(sb1.trans ((T2.trans (T3.trans T4)).but)).trans B5,⟨dd++[mkD j4 (nmD.getD i "") (nmR.getD (i%n) "") e (dr/128%9)],hdd.add ⟨dok,dnm,dst,by rw[dde];exact hen⟩,?_⟩,_,_,_,_,_,rfl⟩;rw[e5,hxw];simp only[List.map_append,List.map_cons,List.map_nil,List.cons_append,List.append_assoc]
  .rintro _ G1 hq_;walk_at"g1";obtain⟨sb1,⟨dd,hdd,eG1⟩,x4,x5,x6,x7,x8,rfl⟩:=hq_;walk_at"g2";have eN1:=sb1 _ _ eNG hpn;have hN0:((nmR.take n).map V.str)[0]? =some (V.str "hall"):=(tE (show 0<n by lia) hn5).1;have hN1:((nmR.take n).map V.str)[1]? =some (V.str "yard"):=(tE (show 1<n by lia) hn5).1;have hddl:=hdd.ln;have hlh:=aFz (c:=c) ⟨hn2,hn5⟩ ⟨hnd2,hnd5⟩ hdd;have hlm:LM dd:=aFA ⟨hn2,hn5⟩ hnd5 hdd;have hpR:H pR=none:=fP (S0.trans S1) n2;have fin:∀G',SameBut pR G1 G'->G' pR=some (.lst ((J (wT (c/4%5) (5+c/4%7))::((rzF c n).map (λe=>J (wR e))++dd.map λd=>J (wW d))).map V.str++(psL c).map λe=>V.str (J (wP e))))->Q (.ref pR) G':=λG' sb' e'=>k pR _ _ _ dd _ G' hpR (S0.trans (S1.trans (SameBut.same n2 S2 ((sb.trans sb1).trans sb')))) hlh hlm (by
    rw[e'];unfold aQ wsP;simp only[List.map_append,List.map_map,List.map_cons,List.map_nil,List.cons_append,List.nil_append,List.append_assoc];rfl)
   walk_at"go";refine⟨pN,_,_,_,rfl,rfl,SqL.of eN1,bK (j:=0) hN0,?_⟩;walk_at"go";refine iB eG1 (by rw[sizeLine_eq,List.length_map,List.length_cons,List.length_append,List.length_map,List.length_map];lia) λG2 B2 f2=> ?_;rw[AS]at f2;have eN2:=B2 _ _ eN1 hpn
   by_cases hc9:c/9%2=0
   .walk_at"go";refine⟨pN,_,_,_,rfl,rfl,SqL.of eN2,bK (j:=1) hN1,?_⟩;walk_at"go";refine iB f2 (by rw[sizeLine_eq,List.length_append,List.length_map,List.length_cons,List.length_append,List.length_map,List.length_map];show _+1<_;lia) λG3 B3 f3=> ?_;rw[aFX]at f3;walk_at"go";refine fin G3 (B2.trans B3) ?_;rw[f3];unfold psL;rw[if_pos hc9,List.append_assoc];rfl
   .walk_at"go";refine fin G2 B2 ?_;rw[f2];unfold psL;rw[if_neg hc9];rfl
theorem IT (m:M w K mg):Fc P w K mg base "_law_rows" 3 ["_law_script"] (CT K):=⟨_,_,m.L4,m.mX.F.kp,m.mX.b,KI m⟩
inductive DQ (K:W.Frag)(vs:List V)(H:Hp)(Q:VK)(E:XK):Prop
 | mk (a:Addr) (rs:List Str) (c:Int) (_:vs=[.ref a,.int c]) (_:SqL K H a (rs.map V.str)) (_:rs.length<=100) (_:∀p (i:Nat) H',i<3->Same H H'->H' p=some (.lst ((rs.take i++rs.drop (i+1)).map V.str))->Q (.ref p) H'):DQ K vs H Q E
theorem zF (m:M w K mg):FnOk P w K mg base CX0 1 m.k6 m.gS.d ["_law_rows_here","_law_cell"] (DQ K):=by
 refine m.gS.F.ok aGL ?_ ?_;walk_at"w0";walk_at"w1";obtain⟨a,rs,c,rfl,hS,hl,k⟩:=h;walk_at"g2";have nd:=aGL.nd;walk_at"hu";refine⟨_,(aC (aT (i:=2) nd rfl (by walk_at"oi") (bM (aA aF (aA aF (aA aF aB)))))
  (aC (aT (i:=3) nd rfl (by walk_at"oi") (bF aR (pv 2) (aI bR (pv 1) aF) (λ_ _=>rfl)))
  (aE (aP (aI eF (b8 cQ (pv 0) cW (b9 (pv 3))) (b8 cQ (pv 0) (b9 (aI d8 (pv 3) aF)) cW)))))),?_⟩
 refine aL (σ:=[some (.ref a),some (.int c),none,none]) rfl ?_;walk_at"cx";walk_at"go";rename_i p0 H0 n0 S0 e0 v hv pA HA nA SA eA pB HB nB SB eB;obtain⟨i,hi,hin⟩:∃i:Nat,v=(i:Int)/\i<3:=⟨v.toNat,by lia,by lia⟩
 rw[hi,o0]at eA;rw[hi,show (i:Int)+1=((i+1:Nat):Int) by lia,jQ]at eB;refine gJ (SB _ _ eA) eB (by rw[sizeLine_eq,List.length_map,List.length_map,List.length_take,List.length_drop];lia) λpC HC nC SC eC=> ?_;exact k pC i HC hin (S0.trans (SA.trans (SB.trans SC))) (by rw[eC,List.map_append])
theorem yM (m:M w K mg):Fc P w K mg base "_law_left_out" 1 ["_law_rows_here","_law_cell"] (DQ K):=⟨_,_,m.CL,m.gS.F.kp,m.gS.b,zF m⟩
inductive BC (K:W.Frag)(vs:List V)(H:Hp)(Q:VK)(E:XK):Prop
 | mk (a:Addr) (rs:List Str) (i:Nat) (r:Str) (_:vs=[.ref a,.int i,.str r]) (_:SqL K H a (rs.map V.str)) (_:rs.length<=100) (_:∀p H',Same H H'->H' p=some (.lst ((rs.take i++[r]++rs.drop (i+1)).map V.str))->Q (.ref p) H'):BC K vs H Q E
theorem RT {Q:VK}{E:XK}{i:Nat}{r:Str}(hS:SqL K H a (rs.map V.str))(hl:rs.length<=100)(k:∀p H',Same H H'->H' p=some (.lst ((rs.take i++[r]++rs.drop (i+1)).map V.str))->Q (.ref p) H'):BC K [.ref a,.int i,.str r] H Q E:=⟨_,_,_,_,rfl,hS,hl,k⟩
theorem LP (m:M w K mg):FnOk P w K mg base CX0 1 m.uP m.oP.d ["_law_rows_here","_law_at","_law_row"] (BC K):=by
 refine m.oP.F.ok aHu ?_ ?_;walk_at"w0";walk_at"w1";obtain⟨a,rs,i,r,rfl,hS,hl,k⟩:=h;walk_at"g2";have nd:=aHu.nd;walk_at"hu";refine⟨_,(aE (aP (aI eF (aI eF (b8 cQ (pv 0) cW (b9 (pv 1))) (bM (aA (pv 2) aB))) (b8 cQ (pv 0) (b9 (aI d8 (pv 1) aF)) cW)))),?_⟩;refine aL (σ:=[some (.ref a),some (.int i),some (.str r)]) rfl ?_;walk_at"cx";walk_at"go";rename_i pA HA nA SA eA pB HB nB SB eB;rw[o0]at eA;refine gJ (SB _ _ eA) eB (by rw[sizeLine_eq,List.length_map,List.length_take];show _+1<=_;lia) λpC HC nC SC eC=> ?_;have hSC:=(SA.trans (SB.trans SC)).seq hS;walk_at"go";rename_i pD HD nD SD eD;rw[show (i:Int)+1=((i+1:Nat):Int) by lia,jQ]at eD;refine gJ (SD _ _ eC) eD (by rw[sizeLine_eq,List.length_append,List.length_map,List.length_map,List.length_take,List.length_drop];show _+1+_<=_;lia) λpE HE nE SE eE=> ?_;exact k pE HE (SA.trans (SB.trans (SC.trans (SD.trans SE)))) (by rw[eE,List.map_append,List.map_append];rfl)
theorem xX (m:M w K mg):Fc P w K mg base "_law_put" 1 ["_law_rows_here","_law_at","_law_row"] (BC K):=⟨_,_,m.R3,m.oP.F.kp,m.oP.b,LP m⟩
def oddsL:List Str:=["room hall","room hall 2 3","way door x hall","people yard","door gone hall - 1","turns 1 2","rooms x 3","people hall 1 1","way since x hall - 1","","house","way told x hall - 1","Room den 2"]
theorem aAI:oddsL=odds.map J:=by decide +kernel
inductive JA (K:W.Frag)(vs:List V)(H:Hp)(Q:VK)(E:XK):Prop
 | mk (a:Addr) (rs:List Str) (c:Int) (_:vs=[.ref a,.int c]) (_:SqL K H a (rs.map V.str)) (_:1<=rs.length) (_:rs.length<=100) (_:∀p (i:Nat) ws H',1<=i->ws∈odds->Same H H'->H' p=some (.lst ((rs.take i++[J ws]++rs.drop i).map V.str))->Q (.ref p) H'):JA K vs H Q E
theorem A7 (m:M w K mg):FnOk P w K mg base CX0 1 m.mB m.iO.d ["_law_rows_here","_law_cell"] (JA K):=by
 refine m.iO.F.ok aGT ?_ ?_;walk_at"w0";walk_at"w1";obtain⟨a,rs,c,rfl,hS,hl1,hl,k⟩:=h;walk_at"g2";have nd:=aGT.nd;walk_at"hu";refine⟨_,(aC (aT (i:=2) nd rfl (by walk_at"oi") (bM (aA aD (aA aD (aA aD (aA aD (aA aD (aA aD aB))))))))
  (aC (aT (i:=2) nd rfl (by walk_at"oi") (aI eF (pv 2) (bM (aA aD (aA aD (aA aD (aA aD (aA aD aB))))))))
  (aC (aT (i:=2) nd rfl (by walk_at"oi") (aI eF (pv 2) (bM (aA aD (aA aD aB)))))
  (aC (aT (i:=3) nd rfl (by walk_at"oi") (aI d8 aF (aI bR (aI dZ (pv 1) aF) (bD cE rfl m.eK c5 (aA (pv 0) aB)))))
  (aE (aP (aI eF (aI eF (b8 cQ (pv 0) cW (b9 (pv 3))) (bM (aA (bF aR (pv 2) (aI bR (pv 1) aF) (λ_ _=>rfl)) aB))) (b8 cQ (pv 0) (b9 (pv 3)) cW)))))))),?_⟩
 refine aL (σ:=[some (.ref a),some (.int c),none,none]) rfl ?_;walk_at"cx";have hnl:(rs.map V.str).length=rs.length:=List.length_map _;have hp1:(0:Int)<((rs.map V.str).length:Nat):=by lia
 walk_at"go";rename_i pa Ha na Sa ea pb Hb nb Sb eb pc Hc nc Sc ec pd Hd nd' Sd ed pS HS nS SS eS q0 q1 pA HA nA SA eA;obtain⟨i,hi⟩:∃i:Nat,1+c/13%((rs.map V.str).length:Int)=((i:Nat):Int):=⟨(1+c/13%((rs.map V.str).length:Int)).toNat,by lia⟩
 have hi1:1<=i:=by lia
 clear q0 q1;rw[hi,o0]at eA;rw[hi];obtain⟨j,hj,hjn⟩:=eN (x:=c) (n:=13) (by decide);have hj:c%13=(j:Int):=hj;have eS':HS pS=some (.lst (oddsL.map V.str)):=eS;clear ea eb ec ed eS;obtain⟨ws,hws⟩:∃ws,odds[j]? =some ws:=⟨_,List.getElem?_eq_getElem (show j<odds.length from hjn)⟩
 have hpk:(oddsL.map V.str)[j]? =some (V.str (J ws)):=by rw[aAI,List.getElem?_map,List.getElem?_map,hws];rfl
 rw[hj];refine⟨pS,_,_,_,rfl,rfl,SqL.of (SA _ _ eS'),bK hpk,?_⟩;walk_at"go";rename_i pB HB nB SB eB;refine gJ (SB _ _ eA) eB (by rw[sizeLine_eq,List.length_map,List.length_take];show _+1<=_;lia) λpC HC nC SC eC=> ?_;have s0C:Same H HC:=Sa.trans (Sb.trans (Sc.trans (Sd.trans (SS.trans (SA.trans (SB.trans SC))))));have hSC:=s0C.seq hS;walk_at"go";rename_i pD HD nD SD eD;rw[jQ]at eD;refine gJ (SD _ _ eC) eD (by rw[sizeLine_eq,List.length_append,List.length_map,List.length_map,List.length_take,List.length_drop];show _+1+_<=_;lia) λpE HE nE SE eE=> ?_;exact k pE i ws HE hi1 (List.mem_of_getElem? hws) (s0C.trans (SD.trans SE)) (by rw[eE,List.map_append,List.map_append];rfl)
theorem BO (m:M w K mg):Fc P w K mg base "_law_odd_row" 1 ["_law_rows_here","_law_cell"] (JA K):=⟨_,_,m.D5,m.iO.F.kp,m.iO.b,A7 m⟩
def ZW (y:Str):List Str:=["0" ++y,"-" ++y,"+" ++y,y++ ".","x",uK "1" 61]
theorem aFb (h:wrB y=true)(hj:j<6):∃x,(ZW y)[j]? =some x/\cY x/\wrB x=false:=by
 have hl:1<=y.length/\y.length<=60:=by
  unfold wrB at h;simp only[Bool.and_eq_true,decide_eq_true_eq]at h;exact⟨h.1.1.1,h.1.1.2⟩
 have hd:∀c∈y.cps.toList,48<=c/\c<=57:=λc hc=>by
  unfold wrB at h;simp only[Bool.and_eq_true,decide_eq_true_eq]at h;have:=List.all_eq_true.mp h.1.2 c hc;unfold jK at this;simp only[Bool.and_eq_true,decide_eq_true_eq]at this;exact this
 have hw:cY y:=⟨λz=>by have:=hd _ z;lia,λz=>by have:=hd _ z;lia,by lia⟩
 have one:∀x:Str,cY x->x.length=1->cY (x++y)/\cY (y++x):=λx hx hl1=>⟨TQ hx hw (by lia),TQ hw hx (by lia)⟩
 match j,hj with
 | 0,_=>exact⟨_,rfl,(one "0" (cJ (by decide +kernel)) (by decide)).1,T8 hl.1⟩
 | 1,_=>exact⟨_,rfl,(one "-" (cJ (by decide +kernel)) (by decide)).1,WM y⟩
 | 2,_=>exact⟨_,rfl,(one "+" (cJ (by decide +kernel)) (by decide)).1,DR (c:=43) (by rw[bN];exact List.mem_append_left _ (by decide +kernel)) (by decide)⟩
 | 3,_=>exact⟨_,rfl,(one "." (cJ (by decide +kernel)) (by decide)).2,DR (c:=46) (by rw[bN];exact List.mem_append_right _ (by decide +kernel)) (by decide)⟩
 | 4,_=>exact⟨"x",rfl,cJ (by decide +kernel),by decide +kernel⟩
 | 5,_=>exact⟨_,rfl,cJ (by decide +kernel),by decide +kernel⟩
theorem WD (xs:List Str)(v:Str):iD ((xs++[v]).map V.str) none (some (-1))=xs.map V.str:=by
 unfold iD;rw[HT.sIx_none,List.length_map,List.length_append];have e:HT.sIx (xs.length+[v].length) (xs.length+[v].length) (some (-1))=xs.length:=by
  show (if (-1:Int)<0 then ((-1:Int)+((xs.length+1:Nat):Int)).toNat else min (-1:Int).toNat (xs.length+1))=_;rw[if_pos (by decide)]
  lia
 rw[e,List.drop_zero,Nat.sub_zero,←List.map_take,List.take_left]
inductive KM (K:W.Frag)(vs:List V)(H:Hp)(Q:VK)(E:XK):Prop
 | mk (a:Addr) (Wl:List (List Str)) (c:Int) (_:vs=[.ref a,.int c]) (_:SqL K H a ((Wl.map J).map V.str)) (_:(∀ws∈Wl,RwL ws/\OkL ws/\2<=ws.length)) (_:1<=Wl.length) (_:Wl.length<=100) (_:∀p (i:Nat) ws x H',Wl[i]? =some ws->cY x->wrB x=false->Same H H'->H' p=some (.lst (((Wl.take i++[ws.dropLast++[x]]++Wl.drop (i+1)).map J).map V.str))->Q (.ref p) H'):KM K vs H Q E
theorem A4 (m:M w K mg):FnOk P w K mg base CX0 2 m.mF m.iS.d ["_law_rows_here","_law_cell"] (KM K):=by
 refine m.iS.F.ok aGP ?_ ?_;walk_at"w0";walk_at"w1";obtain⟨a,Wl,c,rfl,hS,hW,hl1,hl,k⟩:=h;walk_at"g2";have nd:=aGP.nd;walk_at"hu";have aGr:= @xX P w K mg base m;refine⟨_,(aC (aT (i:=2) nd rfl (by walk_at"oi") (aI bR (pv 1) (bD cE rfl m.eK c5 (aA (pv 0) aB))))
  (aC (aT (i:=3) nd rfl (by walk_at"oi") (rD (by exact(bF aR (pv 0) (pv 2) (λ_ _=>rfl))) (by exact(aA aD aB))))
  (aC (aT (i:=4) nd rfl (by walk_at"oi") (bF aR (pv 3) (ZV UC aF) (λ_ _=>rfl)))
  (aC (aT (i:=5) nd rfl (by walk_at"oi") (bF aR (bM (aA (aI bB aD (pv 4)) (aA (aI bB aD (pv 4)) (aA (aI bB aD (pv 4)) (aA (aI bB (pv 4) aD) (aA aD (aA (aI aAD aD aF) aB))))))) (aI bR (aI dZ (pv 1) aF) aF) (λ_ _=>rfl)))
  (aE (aP (bT aGr hr (aA (pv 0) (aA (pv 2) (aA (bY aD (by exact(aA (aI eF (b8 cQ (pv 3) cW (b9 (ZV UC aF))) (bM (aA (pv 5) aB))) aB))) aB)))))))))),?_⟩
 refine aL (σ:=[some (.ref a),some (.int c),none,none,none,none]) rfl ?_;walk_at"cx";have hnl:((Wl.map J).map V.str).length=Wl.length:=by rw[List.length_map,List.length_map]
 have hp1:(0:Int)<(((Wl.map J).map V.str).length:Nat):=by lia
 walk_at"go";rename_i q0 q1;obtain⟨i,hi,hin⟩:∃i:Nat,c%(((Wl.map J).map V.str).length:Int)=(i:Int)/\i<Wl.length:=⟨(c%(((Wl.map J).map V.str).length:Int)).toNat,by lia,by lia⟩
 clear q0 q1;rw[hi];obtain⟨ws,hws⟩:∃ws,Wl[i]? =some ws:=⟨_,List.getElem?_eq_getElem hin⟩
 obtain⟨hr,hok,h2⟩:=hW ws (List.mem_of_getElem? hws);refine⟨a,_,_,_,rfl,rfl,hS,bK (by rw[List.getElem?_map,List.getElem?_map,hws];rfl),?_⟩;have hjl:=rF hr.g;walk_at"go";refine qG 32 rP (by lia) λp1 H1 n1 S1 e1=> ?_;rw[gI hr.g]at e1;walk_at"go";obtain⟨y,hy,hwy⟩:=hok.2;obtain⟨ws0,ews⟩:=List.getLast?_eq_some_iff.mp hy;have hyl:y.length<=100:=(hr.g.2.2 y (by rw[ews];simp)).2.2;refine⟨p1,_,_,_,rfl,rfl,SqL.of e1,by rw[ews,List.map_append];exact WJ _ _,?_⟩;walk_at"go";refine aBm (by decide) (by decide) (by walk_at"sz") ?_;walk_at"go";rename_i pO HO' nO SO eO;have eO':HO' pO=some (.lst ((ZW y).map V.str)):=eO;clear eO;obtain⟨j,hj,hjn⟩:=eN (x:=c/20) (n:=6) (by decide);have hj:c/20%6=(j:Int):=hj;walk_at"g1";obtain⟨x,hx,hxw,hxb⟩:=aFb hwy hjn;walk_at"g2";rw[hj];refine⟨pO,_,_,_,rfl,rfl,SqL.of eO',bK (by rw[List.getElem?_map,hx];rfl),?_⟩;have e1O:=SO _ _ e1;walk_at"go";rename_i pA HA nA SA eA pB HB nB SB eB;rw[ews,WD]at eA;have hwl:=hr.l;rw[ews,List.length_append]at hwl;have hwl:ws0.length+1<=20:=hwl;refine gJ (SB _ _ eA) eB (by rw[sizeLine_eq,List.length_map];show _+1<=_;lia) λpC HC nC SC eC=> ?_;have edl:ws.dropLast=ws0:=by rw[ews,List.dropLast_concat]
 have hbad:=MV hr h2 hxw hxb;rw[edl]at hbad;have s0C:Same H HC:=S1.trans (SO.trans (SA.trans (SB.trans SC)));walk_at"go";refine gG (ys:=ws0++[x]) (SqL.of (by rw[eC,List.map_append];rfl)) ?_ ?_
 .have h1:=iK 100 (ws0++[x]) λz hz=>(hbad.1.g.2.2 z hz).2.2;have c1:(" " :Str).length=1:=by decide
  rw[c1];rw[List.length_append]at h1 ⊢;have h1:_<=(ws0.length+1) * 100:=h1;show _+(ws0.length+1) * 1<=_
  lia
 walk_at"go";refine RT (s0C.seq hS) (by rw[List.length_map];exact hl) λp H' s' e'=>k p i ws x H' hws hxw hxb (s0C.trans s') ?_;rw[e',edl];simp only[List.map_append,List.map_take,List.map_drop,List.map_cons,List.map_nil];rfl
theorem AV (m:M w K mg):Fc P w K mg base "_law_numbers" 2 ["_law_rows_here","_law_cell"] (KM K):=⟨_,_,m.EB,m.iS.F.kp,m.iS.b,A4 m⟩
section
open StrLaws Builtin.Str
theorem JQ {k:Nat}(h:At x y n k)(hj:j<y.length):x.cps.toList[k+j]? =y.cps.toList[j]? :=by
 have e:=h.2;rw[subAt_eq]at e;have e:=eq_of_beq e;rw[←e,List.getElem?_take_of_lt hj,List.getElem?_drop]
theorem N6 {k c:Nat}(hy:y.cps.toList[j]? =some c)(hx:x.cps.toList[k+j]? ≠some c):¬At x y n k:=λh=>by
 have hj:j<y.length:=by rw[cR];exact(List.getElem?_eq_some_iff.mp hy).1
 exact hx ((JQ h hj).trans hy)
theorem aD2 (A y B:Str):At (A++(y++B)) y (A++(y++B)).length A.length:=by
 refine⟨by rw[bA,bA];lia,?_⟩;rw[subAt_eq,beq_iff_eq,bN,bN,cR A,List.drop_left,cR y,List.take_left]
theorem A9 {a b:Nat}{l:List Nat}(h:(x.cps.toList.drop a).take (b - a)=l):(strSub x a b).cps.toList=l:=by rw[strSub_toList];exact h
theorem W2 (z D E:Str)(r:List Str):Txt.join z ((D++E)::r)=D++Txt.join z (E::r):=by
 cases r with
 | nil=>rw[dJ,dJ]
 | cons a r=>rw[bL,bL];simp only[bI]
theorem MU {A D B:Str}(hy:1<=y.length)(h1:∀k,k<A.length->¬At (A++(y++(D++B))) y (A++(y++(D++B))).length k)
  (h2:∀k,A.length+y.length<=k->k<A.length+y.length+D.length->¬At (A++(y++(D++B))) y (A++(y++(D++B))).length k) :
  Txt.replace (A++(y++(D++B))) y z=A++(z++(D++B))∨∃Y k,Txt.replace (A++(y++(D++B))) y z=A++(z++(D++Y))/\A.length+y.length+D.length<=k/\At (A++(y++(D++B))) y (A++(y++(D++B))).length k:=by
 have hAt:=aD2 A y (D++B);have eX:(A++(y++(D++B))).cps.toList=A.cps.toList++(y.cps.toList++(D.cps.toList++B.cps.toList)):=by rw[bN,bN,bN]
 have lX:(A++(y++(D++B))).length=A.length+(y.length+(D.length+B.length)):=by rw[bA,bA,bA]
 have lA:=cR A;have ly:=cR y;have lD:=cR D;have lB:=cR B;generalize A++(y++(D++B))=x at *;obtain⟨f,hc,hf⟩:=occ_tight x y hy;unfold Txt.replace;have hy0:(y.length==0)=false:=by rw[beq_eq_false_iff_ne];lia
 rw[hy0,Bool.false_and,Bool.or_false,glued_eq_join,partsBetween_eq];cases ho:occurrences x y 0 x.length (x.length+1) with
 | nil =>
  rw[ho]at hc;have e:f=0:=hc;exact absurd hAt (hf _ (by lia))
 | cons c r =>
  rw[ho]at hc;walk_at"g1";obtain⟨_,c1,c2,c3⟩:=hc;walk_at"g2";have ec:c=A.length:=by
   rcases Nat.lt_trichotomy c A.length with q|q|q
   .exact absurd c1 (h1 c q)
   .exact q
   .exact absurd hAt (c2 _ (Nat.zero_le _) q)
  subst ec;have eA:strSub x 0 A.length=A:=cO (A9 (by rw[eX,List.drop_zero,Nat.sub_zero,lA,List.take_left]));have dX:x.cps.toList.drop (A.length+y.length)=D.cps.toList++B.cps.toList:=by
   rw[eX,←List.append_assoc,show A.length+y.length=(A.cps.toList++y.cps.toList).length by rw[List.length_append];lia,List.drop_left]
  rw[show (A.length::r).isEmpty=false from rfl,if_neg Bool.false_ne_true];show Str.join z (strSub x 0 A.length::partsFrom x y.length (A.length+y.length) r)=_∨_;rw[eA,←bX];cases r with
  | nil =>
   left
   show Txt.join z [A,strSub x (A.length+y.length) x.length]=_;rw[bL,dJ];have:strSub x (A.length+y.length) x.length=D++B:=cO (A9 (by
    rw[dX,bN];exact List.take_of_length_le (by rw[List.length_append];lia)))
   rw[this];simp only[bI]
  | cons c' r =>
   right
   walk_at"g1";obtain⟨d0,d1,_,_⟩:=c3;walk_at"g2";have hcD:A.length+y.length+D.length<=c':=by
    rcases Nat.lt_or_ge c' (A.length+y.length+D.length) with q|q
    .exact absurd d1 (h2 c' d0 q)
    .exact q
   refine⟨Txt.join z (strSub x (A.length+y.length+D.length) c'::partsFrom x y.length (c'+y.length) r),c',?_,hcD,d1⟩;show Str.join z (strSub x 0 A.length::strSub x (A.length+y.length) c'::partsFrom x y.length (c'+y.length) r)=_;rw[eA,←bX];have:strSub x (A.length+y.length) c'=D++strSub x (A.length+y.length+D.length) c':=cO (A9 (by
    rw[bN,A9 rfl,dX,←List.drop_drop,dX,lD,List.drop_left,←lD];rw[show c' - (A.length+y.length)=D.cps.toList.length+(c' - (A.length+y.length+D.length)) by lia,List.take_length_add_append]))
   rw[this,bL,W2];simp only[bI]
theorem YW (hz:z.length<=9):(Txt.replace x y z).length<=10 * x.length+9:=by
 unfold Txt.replace
 split
 .lia
 .have h1:=occ_length_le x y 0 x.length (x.length+1);have hy:(glued y (partsBetween x (occurrences x y 0 x.length (x.length+1)) y.length)).length=x.length:=by rw[glued_between_self]
  rw[size_glued,length_partsBetween,Nat.add_sub_cancel]at hy;rw[size_glued,length_partsBetween,Nat.add_sub_cancel];have h2:(occurrences x y 0 x.length (x.length+1)).length * z.length<=(x.length+1) * 9:=Nat.mul_le_mul h1 hz
  lia
end
theorem g9:∀(c:Nat) (ps:List Str),(ps.map (·.length)).sum+ps.length<=(Str.join ⟨#[c]⟩ ps).length+1
 | _,[]=>Nat.zero_le _
 | _,[p]=>by show p.length+0+1<=p.length+1;lia
 | c,p::q::r=>by
  have ih:=g9 c (q::r);have e:(Str.join ⟨#[c]⟩ (p::q::r)).length=p.length+1+(Str.join ⟨#[c]⟩ (q::r)).length:=by
   show (p++⟨#[c]⟩++Str.join ⟨#[c]⟩ (q::r)).length=_;rw[bA,bA];rfl
  rw[List.map_cons,List.sum_cons,List.length_cons,e]
  lia
theorem aB1 {ps:List Str}{p:Str}(h:p∈ps):p.length<=(ps.map (·.length)).sum:=by
 induction ps with
 | nil=>cases h
 | cons a ps ih =>
  rw[List.map_cons,List.sum_cons];rcases List.mem_cons.mp h with rfl|h
  .lia
  .have:=ih h;lia
theorem uB (x:Str)(c:Nat):(Txt.split x ⟨#[c]⟩).length<=x.length+1/\∀p∈Txt.split x ⟨#[c]⟩,p.length<=x.length:=by
 have h1:=g9 c (Txt.split x ⟨#[c]⟩);rw[StrLaws.join_split]at h1;have hp:=PyProof.Rows.split_pos x ⟨#[c]⟩;exact⟨by lia,λp hp'=>by have:=aB1 hp';lia⟩
theorem KC (h:x.length<=10000):RB (Txt.split x "\n"):=by
 have h1:=uB x 10;rw[←jC]at h1;refine⟨by lia,λr hr=>by have:=h1.2 r hr;lia,λr hr=> ?_⟩;have h2:=uB r 32;rw[←rP]at h2;cases e:Txt.split r " " with
 | nil=>exact absurd e (yF r)
 | cons a t=>exact⟨a,t,rfl,λy hy=>by have:=h2.2 y (by rw[e];exact .tail _ hy);have:=h1.2 r hr;lia⟩
theorem M6 {a:Str}(h:noC 10 a):Txt.split (a++("\n" ++x)) "\n" =a::Txt.split x "\n" :=by
 have hne:Txt.split x "\n" ≠[]:=λh=>by
  have:=PyProof.Rows.split_pos x "\n";rw[h]at this;exact absurd this (by decide)
 have e:a++("\n" ++x)=Str.join "\n" (a::Txt.split x "\n"):=by
  cases q:Txt.split x "\n" with
  | nil=>exact absurd q hne
  | cons b r =>
   rw[←bX,bL,bX,←q,jC,StrLaws.join_split];simp only[bI]
 rw[e,jC];exact oM (λz=>nomatch z) λp hp=>by
  rcases List.mem_cons.mp hp with rfl|hp
  .exact h
  .exact StrLaws.split_free _ 10 p hp
def fT (ws:List Str):Nat:=(ws.map λx=>x.length+1).sum
theorem b5 (a:Str)(ws:List Str):fT (a::ws)=a.length+1+fT ws:=rfl
theorem J4:∀(ws:List Str),(J ws).length<=fT ws
 | []=>Nat.zero_le _
 | [a]=>by rw[fC,b5];lia
 | a::b::r=>by
  have:=J4 (b::r);rw[aV,bA,bA,b5];have c:(" " :Str).length=1:=by decide
  lia
theorem BH (h:N12 i):(aJ i).length<=12:=oS h.1 (Int.lt_of_lt_of_le h.2 (by decide)) (by decide)
theorem aE8 (h:NumR i):(aJ i).length<=60:=oS h.1 h.2 (by decide)
theorem L8:∀{ns:List Int},(∀i∈ns,N12 i)->fT (ns.map aJ)<=13 * ns.length
 | [],_=>Nat.le_refl _
 | i::ns,h=>by
  rw[List.map_cons,b5,List.length_cons];have:=BH (h i (.head _));have:=L8 λj hj=>h j (.tail _ hj)
  lia
theorem IX (a b:List Str):fT (a++b)=fT a+fT b:=by
 unfold fT;rw[List.map_append,List.sum_append]
theorem DOk.lnW {d:Dd}(h:DOk d):fT (wW d)<=100:=by
 have h1:fT (jN d.sh).flatten<=18:=by
  cases e:d.sh with
  | none=>exact Nat.zero_le _
  | some a =>
   show fT [("shut" :Str),aJ a]<=18;have:=BH (h.sk a e).1;have c:("shut" :Str).length=4:=by decide
   rw[b5,b5];show _+(_+0)<=_
   lia
 have h2:d.kd.length<=5:=h.bk.kd_m.2;have h3:(cP d.e).length<=8:=by
  rcases h.he with e|⟨z,e,hz⟩
  .rw[e];decide
  .rw[e];exact cB hz
 have h4:=cB h.hn;have h5:=cB h.hs;have h6:=L8 h.bk.num;have h7:=h.bk.kl.2;have c:("way" :Str).length=3:=by decide
 unfold wW eM Dd.r;rw[b5,IX,b5,IX,b5,b5,b5];show _+(_+(_+(_+(_+(_+0))+_)))<=_
 lia
theorem aAq {a:Str}{e:Str×Int}(ha:a.length<=6)(he:aK e.1=true)(hn:(aJ e.2).length<=n):fT [a,e.1,aJ e.2]<=17+n:=by
 have:=cB he;rw[b5,b5,b5];show _+(_+(_+0))<=_
 lia
def gK (Wl:List (List Str)):Nat:=(Wl.map fT).sum
theorem zB (a b:List (List Str)):gK (a++b)=gK a+gK b:=by
 unfold gK;rw[List.map_append,List.sum_append]
theorem uG {f:α->List Str}:∀{l:List α},(∀x∈l,fT (f x)<=n)->gK (l.map f)<=n * l.length
 | [],_=>Nat.zero_le _
 | x::l,h=>by
  have h1:=h x (.head _);have h2:=uG (l:=l) λy hy=>h y (.tail _ hy);have e:gK ((x::l).map f)=fT (f x)+gK (l.map f):=rfl;rw[e,List.length_cons,Nat.mul_succ]
  lia
theorem M7:∀(Wl:List (List Str)),(Txt.join "\n" (Wl.map J)).length<=gK Wl+Wl.length
 | []=>Nat.zero_le _
 | [a]=>by
  rw[List.map_cons,List.map_nil,dJ];have:=J4 a;have e:gK [a]=fT a+0:=rfl
  lia
 | a::b::r=>by
  have ih:=M7 (b::r);have:=J4 a;have e:gK (a::b::r)=fT a+gK (b::r):=rfl;have c:("\n" :Str).length=1:=by decide
  rw[List.map_cons,List.map_cons,bL,bA,bA,e,List.length_cons];rw[List.map_cons]at ih
  lia
section
variable {dd:List Dd}
theorem LH.short (h:LH f l rz dd ps):(Txt.join "\n" ((wsP f l rz dd ps).map J)).length<=950:=by
 have h0:=M7 (wsP f l rz dd ps);have h1:=(oG h).2.1;have e:gK (wsP f l rz dd ps)=fT (wT f l)+0+gK (rz.map wR)+gK (dd.map wW)+gK (ps.map wP):=by
  unfold wsP;rw[zB,zB,zB];rfl
 have n12:∀i:Int,0<=i->i<=20->N12 i:=λi a b=>⟨a,by lia⟩
 have t1:fT (wT f l)<=32:=by
  have a:=BH (n12 f h.fb.1 (by have:=h.fb.2;lia));have b:=BH (n12 l (by have:=h.lb.1;lia) (by have:=h.lb.2;lia));have c:("turns" :Str).length=5:=by decide
  unfold wT;rw[b5,b5,b5];show _+(_+(_+0))<=_
  lia
 have t2:gK (rz.map wR)<=29 * rz.length:=uG λx hx=>aAq (by decide) (h.vd.rz x hx).1 (BH (n12 _ (by have:=(h.rs x hx).1;lia) (by have:=(h.rs x hx).2;lia)));have t3:gK (dd.map wW)<=100 * dd.length:=uG λd hd=>(h.vd.dd d hd).lnW;have t4:gK (ps.map wP)<=77 * ps.length:=uG λx hx=>aAq (by decide) (h.vd.ps x hx).1 (aE8 (h.vd.ps x hx).2);have:=h.lr;have:=h.ld;have:=h.lp
 lia
end
theorem xA {c:Nat}(h:noC c x)(i:Nat):x.cps.toList[i]? ≠some c:=λz=>h (List.mem_of_getElem? z)
theorem QO {c:Nat}(hc:noC c (" " :Str)){ws:List Str}(h:∀x∈ws,noC c x):noC c (J ws):=by
 unfold J;rw[bX];exact yB hc h
theorem JY {R:α->β->Prop}:∀{l:List α}{x:List β},Paired R l x->∀a∈l,∃b,R a b
 | _,_,.cons r _,_,.head _=>⟨_,r⟩
 | _,_,.cons _ t,a,.tail _ h=>JY t a h
theorem V3 (h:sQ rs):¬IsH rs:=λ⟨f,l,rz,dd,ps,g,_⟩=>by
 walk_at"g1";obtain⟨ws,hws,hd,hn⟩:=h;walk_at"g2";obtain⟨b,hb⟩:=JY g.1.rm ws (List.mem_filter.mpr ⟨hws,hd⟩);rw[hn]at hb;cases hb
theorem lM {k:Nat}(h:k<x.length):(x++y).cps.toList[k]? =x.cps.toList[k]? :=by
 rw[bN,List.getElem?_append_left (by rw[←cR];exact h)]
theorem fS {k:Nat}(h:x.length<=k):(x++y).cps.toList[k]? =y.cps.toList[k - x.length]? :=by
 rw[bN,List.getElem?_append_right (by rw[←cR];exact h),←cR]
def fB (k:Int)(rr:List (Str×Int))(dd:List Dd)(ps:List (Str×Int)):List (List Str):=wR (("yard" :Str),k)::(rr.map wR++dd.map wW++ps.map wP)
theorem t8 (f l n k:Int)(rr:List (Str×Int))(dd:List Dd)(ps:List (Str×Int)):wsP f l ((("hall" :Str),n)::(("yard" :Str),k)::rr) dd ps=wT f l::wR (("hall" :Str),n)::fB k rr dd ps:=by
 unfold wsP fB;simp
theorem OU (z:Str)(n:Int):J (wR (z,n))= "room" ++(" " ++(z++(" " ++aJ n))):=by
 show J ["room",z,aJ n]=_;rw[aV,aV,fC];simp only[bI]
theorem NM (f l n k:Int)(rr:List (Str×Int))(dd:List Dd)(ps:List (Str×Int)):Txt.join "\n" ((wsP f l ((("hall" :Str),n)::(("yard" :Str),k)::rr) dd ps).map J)=J (wT f l)++("\n" ++("room" ++(" " ++("hall" ++(" " ++(aJ n++("\n" ++Txt.join "\n" ((fB k rr dd ps).map J)))))))):=by
 rw[t8];show Txt.join "\n" (J (wT f l)::J (wR (("hall" :Str),n))::J (wR (("yard" :Str),k))::_)=_;rw[bL,bL,OU];simp only[bI];rfl
def hallL:List Str:=["hallhallx","Hall","ha11","h-ll"]
theorem aAX:∀z∈hallL,aK z=false/\z.length<=9/\cY z:=by
 have h:hallL.all (λz=>decide (aK z=false)&&(decide (z.length<=9)&&(decide (32∉z.cps.toList)&&(decide (10∉z.cps.toList)&&decide (z.length<=100)))))=true:=by decide +kernel
 intro z hz;have:=List.all_eq_true.mp h z hz;rw[Bool.and_eq_true,Bool.and_eq_true,decide_eq_true_eq,decide_eq_true_eq]at this;exact⟨this.1,this.2.1,cJ this.2.2⟩
section
variable {dd:List Dd}
theorem aEw (h:LH f l rz dd ps)(hz:z∈hallL):d9 (Txt.replace (Txt.join "\n" ((wsP f l rz dd ps).map J)) "hall" z):=by
 walk_at"g1";obtain⟨n,k,rr,rfl⟩:=h.two;walk_at"g2";have hs:=h.short;obtain⟨z1,z2,z3⟩:=aAX z hz;have hn:=(h.vd.rz _ (.head _)).2;have nf:=h.vd.f0;have nl:=h.vd.l0;have eX:Txt.join "\n" ((wsP f l ((("hall" :Str),n)::(("yard" :Str),k)::rr) dd ps).map J)=(J (wT f l)++("\n" ++("room" ++ " ")))++("hall" ++((" " ++(aJ n++ "\n"))++Txt.join "\n" ((fB k rr dd ps).map J))):=by
  rw[NM];simp only[bI]
 have hT:noC 104 (J (wT f l)):=QO (by unfold noC;decide +kernel) λx hx=>by
  unfold wT at hx;simp only[List.mem_cons,List.not_mem_nil,or_false]at hx;rcases hx with rfl|rfl|rfl
  .unfold noC;decide +kernel
  .exact mR nf.1 (by lia)
  .exact mR nl.1 (by lia)
 have hA:noC 104 (J (wT f l)++("\n" ++("room" ++ " "))):=iL hT (by unfold noC;decide +kernel);have hD:noC 104 (" " ++(aJ n++ "\n")):=iL (by unfold noC;decide +kernel) (iL (mR hn.1 (by lia)) (by unfold noC;decide +kernel));generalize Txt.join "\n" ((fB k rr dd ps).map J)=B at eX;have y0:("hall" :Str).cps.toList[0]? =some 104:=by decide +kernel
 have ly:("hall" :Str).length=4:=by decide +kernel
 have key:∃Y,Txt.replace ((J (wT f l)++("\n" ++("room" ++ " ")))++("hall" ++((" " ++(aJ n++ "\n"))++B))) "hall" z=(J (wT f l)++("\n" ++("room" ++ " ")))++(z++((" " ++(aJ n++ "\n"))++Y)):=by
  have r:=MU (A:=J (wT f l)++("\n" ++("room" ++ " "))) (y:= "hall") (D:= " " ++(aJ n++ "\n")) (B:=B) (z:=z) (by rw[ly];decide) (λi hi=>N6 (j:=0) y0 (by rw[Nat.add_zero,lM hi];exact xA hA i)) λi h1 h2=>N6 (j:=0) y0 (by
   rw[Nat.add_zero,fS (by lia),fS (by lia),lM (by lia)];exact xA hD _)
  rcases r with q|⟨Y,_,q,_⟩
  .exact⟨_,q⟩
  .exact⟨_,q⟩
 rw[eX]at hs ⊢;have hlen:=YW (x:=(J (wT f l)++("\n" ++("room" ++ " ")))++("hall" ++((" " ++(aJ n++ "\n"))++B))) (y:= "hall") z2;obtain⟨Y,q⟩:=key;rw[q]at hlen ⊢;have e2:(J (wT f l)++("\n" ++("room" ++ " ")))++(z++((" " ++(aJ n++ "\n"))++Y))=J (wT f l)++("\n" ++(J (wR (z,n))++("\n" ++Y))):=by
  rw[OU];simp only[bI]
 rw[e2]at hlen ⊢;have gT:WsG (wT f l):=JT (cJ (by decide +kernel)) (jA nf) (jA nl);have gR:WsG (wR (z,n)):=JT (cJ (by decide +kernel)) z3 (jA hn);have eb:sQ (Txt.split (J (wT f l)++("\n" ++(J (wR (z,n))++("\n" ++Y)))) "\n"):=by
  rw[M6 (YI gT),M6 (YI gR)];refine⟨wR (z,n),?_,decide_eq_true rfl,?_⟩
  .show _∈Txt.split (J (wT f l)) " " ::Txt.split (J (wR (z,n))) " " ::_;rw[gI gR];exact .tail _ (.head _)
  .show (if (rdF "name" z&&wrB (aJ n))=true then some (rdV "name" z,b6 (aJ n)) else none)=none;rw[show rdF "name" z=false from z1];rfl
 exact⟨by lia,KC (by lia),.inl eb,V3 eb⟩
end
def MH (x:Str):Prop:=∀i:Nat,x.cps.toList[i]? =some 109->∃c,x.cps.toList[i+2]? =some c/\c≠104
theorem MH.no (h:noC 109 x):MH x:=λi e=>absurd e (xA h i)
theorem MH.app (h:MH x)(g:MH y):MH (x++y):=λi e=>by
 by_cases hi:i<x.length
 .rw[lM hi]at e;obtain⟨c,hc,n⟩:=h i e;have:i+2<x.length:=by rw[cR];exact(List.getElem?_eq_some_iff.mp hc).1
  exact⟨c,by rw[lM this];exact hc,n⟩
 .rw[fS (by lia)]at e;obtain⟨c,hc,n⟩:=g _ e;exact⟨c,by rw[fS (by lia),show i+2 - x.length=i - x.length+2 by lia];exact hc,n⟩
theorem MH.lit (h:((List.range x.cps.toList.length).all λi=>decide (x.cps.toList[i]? ≠some 109)||(match x.cps.toList[i+2]? with|some c=>decide (c≠104)|none=>false))=true):MH x:=λi e=>by
 have hi:i<x.cps.toList.length:=(List.getElem?_eq_some_iff.mp e).1;have:=List.all_eq_true.mp h i (List.mem_range.mpr hi);rw[Bool.or_eq_true]at this;rcases this with q|q
 .exact absurd e (of_decide_eq_true q)
 .cases hc:x.cps.toList[i+2]? with
  | none=>rw[hc]at q;cases q
  | some c=>rw[hc]at q;exact⟨c,rfl,of_decide_eq_true q⟩
theorem MH.join:∀{ys:List Str},(∀y∈ys,MH y)->MH (Txt.join "\n" ys)
 | [],_=> .no (by unfold noC;decide +kernel)
 | [y],h=>by rw[dJ];exact h y (.head _)
 | y::y2::r,h=>by
  rw[bL];exact((h y (.head _)).app (.no (by unfold noC;decide +kernel))).app (MH.join λw hw=>h w (.tail _ hw))
theorem aBQ:∀z∈(["yard","loft","den","barn"]:List Str),MH ("room " ++z):=by
 have h:∀z∈(["yard","loft","den","barn"]:List Str),((List.range ("room " ++z).cps.toList.length).all λi=>decide (("room " ++z).cps.toList[i]? ≠some 109)||(match ("room " ++z).cps.toList[i+2]? with|some c=>decide (c≠104)|none=>false))=true:=by decide +kernel
 exact λz hz=> .lit (h z hz)
theorem J_m {ws:List Str}(h:∀x∈ws,noC 109 x):MH (J ws):= .no (QO (by unfold noC;decide +kernel) h)
theorem KB:∀{zs:List Str} (x:Str),zs≠[]->J (zs++[x])=J zs++(" " ++x)
 | [],_,h=>absurd rfl h
 | [a],x,_=>by
  show J [a,x]=_;rw[aV,fC,fC];simp only[bI]
 | a::b::r,x,_=>by
  show J (a::b::(r++[x]))=_;have ih:=KB (zs:=b::r) x (λz=>nomatch z);rw[aV,aV];have ih:J (b::(r++[x]))=_:=ih;rw[ih];simp only[bI]
def rhL:List (List Str):=[["hall","room"],["Room","hall"],["room","","hall"],["roomhall"]]
theorem aDY:∀zs∈rhL,zs≠[]/\zs.length<=3/\(∀x∈zs,cY x)/\(J zs).length<=14:=by
 have h:rhL.all (λws=>decide (ws≠[])&&(decide (ws.length<=3)&&(decide ((J ws).length<=14)&&ws.all λx=>decide (32∉x.cps.toList)&&(decide (10∉x.cps.toList)&&decide (x.length<=100)))))=true:=by decide +kernel
 intro ws hws;have:=List.all_eq_true.mp h ws hws;rw[Bool.and_eq_true,Bool.and_eq_true,Bool.and_eq_true,decide_eq_true_eq,decide_eq_true_eq,decide_eq_true_eq]at this;exact⟨this.1,this.2.1,λx hx=>cJ (List.all_eq_true.mp this.2.2.2 x hx),this.2.2.1⟩
theorem aEf {zs:List Str}(hz:zs∈rhL){n:Int}(hn:NumR n):Rw (zs++[aJ n])/\¬OkW (zs++[aJ n]):=by
 walk_at"g1";obtain⟨g1,g2,g3,_⟩:=aDY zs hz;walk_at"g2";have hg:WsG (zs++[aJ n]):=⟨by simp,by rw[List.length_append];show _+1<=100;lia,λx hx=>by
  rcases List.mem_append.mp hx with hx|hx
  .exact g3 x hx
  .cases List.mem_singleton.mp hx;exact jA hn⟩
 have fst:∀{a:Str}{r:List Str},a≠ "way" ->WsG (a::r)->(a= "room" ∨a= "people" ->(a::r).length≠3)->Rw (a::r)/\¬OkW (a::r):=λn g k=>⟨⟨g,.inl λz=>n (Option.some.inj z)⟩,λo=>by
  have h3:=o.l3 λz=>n (Option.some.inj z);rcases o.hd with q|q|q
  .exact k (.inl (Option.some.inj q)) h3
  .exact n (Option.some.inj q)
  .exact k (.inr (Option.some.inj q)) h3⟩
 simp only[rhL,List.mem_cons,List.not_mem_nil,or_false]at hz;rcases hz with rfl|rfl|rfl|rfl
 .exact fst (by decide +kernel) hg λq=>absurd q (by decide +kernel)
 .exact fst (by decide +kernel) hg λq=>absurd q (by decide +kernel)
 .exact fst (by decide +kernel) hg λ_=>by show 4≠3;decide
 .exact fst (by decide +kernel) hg λq=>absurd q (by decide +kernel)
section
variable {dd:List Dd}
theorem aAH (h:LH f l rz dd ps)(hm:LM dd){n k:Int}{rr:List (Str×Int)}(e:rz=(("hall" :Str),n)::(("yard" :Str),k)::rr):∀ws∈fB k rr dd ps,MH (J ws):=λws hws=>by
 subst e;have rm:∀z:Str×Int,z.1∈(["yard","loft","den","barn"]:List Str)->0<=z.2->MH (J (wR z)):=λz hz h0=>by
  have e:J (wR z)=("room " ++z.1)++(" " ++aJ z.2):=by
   rw[show z=(z.1,z.2) from rfl,OU,VL];simp only[bI]
  rw[e];exact(aBQ _ hz).app (.no (iL (by unfold noC;decide +kernel) (mR h0 (by lia))))
 unfold fB at hws;rcases List.mem_cons.mp hws with rfl|hws
 .exact rm _ (by show ("yard" :Str)∈_;decide +kernel) (h.vd.rz _ (.tail _ (.head _))).2.1
 simp only[List.mem_append,List.mem_map]at hws;rcases hws with (⟨z,hz,rfl⟩|⟨d,hd,rfl⟩)|⟨z,hz,rfl⟩
 .refine rm z ?_ (h.vd.rz _ (.tail _ (.tail _ hz))).2.1;have q:=h.rn;have q:("hall" :Str)::("yard" :Str)::rr.map (·.1)=("hall" :Str)::("yard" :Str)::(["loft","den","barn"]:List Str).take rr.length:=q;have q:=(List.cons.inj (List.cons.inj q).2).2;exact .tail _ (List.mem_of_mem_take (q▸List.mem_map_of_mem hz))
 .exact J_m λx hx=>hm d hd x hx
 .refine J_m λx hx=> ?_;have h1:z.1∈nmR:=by
   have:z.1∈((("hall" :Str),n)::(("yard" :Str),k)::rr).map (·.1):=h.ho.sp _ (List.mem_append_right _ (List.mem_map.mpr ⟨z,hz,rfl⟩));rw[h.rn]at this;exact List.mem_of_mem_take this
  unfold wP at hx;simp only[List.mem_cons,List.not_mem_nil,or_false]at hx;rcases hx with rfl|rfl|rfl
  .unfold noC;decide +kernel
  .exact RS _ h1
  .exact mR (h.vd.ps z hz).2.1 (by lia)
theorem aBB (h:LH f l rz dd ps)(hm:LM dd){zs:List Str}(hz:zs∈rhL):d9 (Txt.replace (Txt.join "\n" ((wsP f l rz dd ps).map J)) "room hall" (J zs)):=by
 walk_at"g1";obtain⟨n,k,rr,e⟩:=h.two;walk_at"g2";have hmh:=MH.join λy hy=>by
  obtain⟨ws,hws,rfl⟩:=List.mem_map.mp hy;exact aAH h hm e ws hws
 subst e;have hn:=(h.vd.rz _ (.head _)).2;have nf:=h.vd.f0;have nl:=h.vd.l0;have ey:("room hall" :Str)= "room" ++(" " ++ "hall"):=by decide +kernel
 have eX:Txt.join "\n" ((wsP f l ((("hall" :Str),n)::(("yard" :Str),k)::rr) dd ps).map J)=(J (wT f l)++ "\n")++("room hall" ++((" " ++(aJ n++("\n" ++Txt.join "\n" ((fB k rr dd ps).map J))))++ "")):=by
  rw[NM,ey,lP];simp only[bI]
 have hA:noC 109 (J (wT f l)++ "\n"):=iL (QO (by unfold noC;decide +kernel) λx hx=>by
  unfold wT at hx;simp only[List.mem_cons,List.not_mem_nil,or_false]at hx;rcases hx with rfl|rfl|rfl
  .unfold noC;decide +kernel
  .exact mR nf.1 (by lia)
  .exact mR nl.1 (by lia)) (by unfold noC;decide +kernel)
 have hD:MH (" " ++(aJ n++("\n" ++Txt.join "\n" ((fB k rr dd ps).map J)))):=(MH.no (by unfold noC;decide +kernel)).app ((MH.no (mR hn.1 (by lia))).app ((MH.no (by unfold noC;decide +kernel)).app hmh));walk_at"g1";obtain⟨g1,g2,g3,g4⟩:=aDY zs hz;walk_at"g2";obtain⟨r1,r2⟩:=aEf hz hn;have hl:=oG h;have eR:(J (wT f l)++ "\n")++(J zs++((" " ++(aJ n++("\n" ++Txt.join "\n" ((fB k rr dd ps).map J))))++ ""))=Txt.join "\n" (((wsP f l ((("hall" :Str),n)::(("yard" :Str),k)::rr) dd ps).take 1++[zs++[aJ n]]++(wsP f l ((("hall" :Str),n)::(("yard" :Str),k)::rr) dd ps).drop 2).map J):=by
  rw[t8];show _=Txt.join "\n" (J (wT f l)::J (zs++[aJ n])::J (wR (("yard" :Str),k))::_);rw[bL,bL,KB _ g1,lP];simp only[bI];rfl
 have fin:d9 ((J (wT f l)++ "\n")++(J zs++((" " ++(aJ n++("\n" ++Txt.join "\n" ((fB k rr dd ps).map J))))++ ""))):=by
  rw[eR];refine Z9 h.vd.rw (by lia) (by lia) r1 λq=> ?_;rw[List.append_assoc]at q;exact r2 (U0 (by rw[t8];exact λz=>nomatch z) q)
 rw[eX];generalize " " ++(aJ n++("\n" ++Txt.join "\n" ((fB k rr dd ps).map J)))=D at hD fin;have y3:("room hall" :Str).cps.toList[3]? =some 109:=by decide +kernel
 have y5:("room hall" :Str).cps.toList[5]? =some 104:=by decide +kernel
 have ly:("room hall" :Str).length=9:=by decide +kernel
 have yi:∀i,i<3->("room hall" :Str).cps.toList[i]? ≠some 109:=by decide +kernel
 have none:∀i,(J (wT f l)++ "\n").length+9<=i->¬StrLaws.At ((J (wT f l)++ "\n")++("room hall" ++(D++ ""))) "room hall" ((J (wT f l)++ "\n")++("room hall" ++(D++ ""))).length i:=λi hi ha=>by
  have a3:=JQ ha (j:=3) (by lia);have a5:=JQ ha (j:=5) (by lia);rw[fS (by lia),fS (by lia),lP,y3]at a3;rw[fS (by lia),fS (by lia),lP,y5]at a5;obtain⟨c,hc,n⟩:=hD _ a3;rw[show i+3 - (J (wT f l)++ "\n").length - ("room hall" :Str).length+2=i+5 - (J (wT f l)++ "\n").length - ("room hall" :Str).length by lia,a5]at hc;exact n (Option.some.inj hc).symm
 have hno:∀i,i<(J (wT f l)++ "\n").length->¬StrLaws.At ((J (wT f l)++ "\n")++("room hall" ++(D++ ""))) "room hall" ((J (wT f l)++ "\n")++("room hall" ++(D++ ""))).length i:=λi hi=>N6 (j:=3) y3 (by
  by_cases h3:i+3<(J (wT f l)++ "\n").length
  .rw[lM h3];exact xA hA _
  .rw[fS (by lia),lM (by lia)];exact yi _ (by lia))
 rcases MU (z:=J zs) (by lia) hno (λi h1 _=>none i (by lia)) with q|⟨_,i,_,hi,ha⟩
 .rw[q];exact fin
 .exact absurd ha (none i (by lia))
theorem aEa {ys:List Str}(h:d9 (Txt.join "\n" ys)):(ys.map (·.length)).sum+ys.length * ("\n" :Str).length<=16777216:=by
 have h1:=g9 10 ys;have h2:=h.len;rw[bX,jC]at h2;have c:("\n" :Str).length=1:=by decide
 rw[c]
 lia
theorem aEH (h:LH f l rz dd ps){e:Str×Int}(hps:ps=ps0++[e]):d9 (Txt.join "\n" ((wsP f l rz dd (ps0++[(e.1,0)])).map J)):=by
 subst hps;have v:VD f l rz dd (ps0++[(e.1,0)]):=⟨h.vd.f0,h.vd.l0,h.vd.rz,h.vd.dd,λx hx=>by
  rcases List.mem_append.mp hx with hx|hx
  .exact h.vd.ps x (List.mem_append_left _ hx)
  .cases List.mem_singleton.mp hx;exact⟨(h.vd.ps e (by simp)).1,by show (0:Int)<=0;decide,by show (0:Int)<10^60;decide⟩⟩
 have hl:=oG h;have e1:(wsP f l rz dd (ps0++[(e.1,0)])).length=(wsP f l rz dd (ps0++[e])).length:=by rw[gH,gH,List.length_append,List.length_append];rfl
 refine oY v.rw (λz=>by rw[z]at e1;have:0=_:=e1;lia) (by lia) λq=> ?_;walk_at"g1";obtain⟨f',l',rz',dd',cs',q⟩:=tW v.ws q;walk_at"g2";obtain⟨R,eR,hR⟩:=q.okW;have hm:wP (e.1,0)∈R:=by
  have e2:wsP f l rz dd (ps0++[(e.1,0)])=wT f l::(rz.map wR++dd.map wW++(ps0++[(e.1,0)]).map wP):=rfl;rw[e2]at eR;rw[←(List.cons.inj eR).2];simp
 exact(hR _ hm).p0 rfl (congrArg some (show aJ 0= "0" by decide +kernel))
theorem LH.last (h:LH f l rz dd ps):∃ps0 e,ps=ps0++[e]:=by
 have hl:=h.lp.1;exact⟨ps.dropLast,ps.getLast (λz=>by rw[z]at hl;exact absurd hl (by decide)),(List.dropLast_concat_getLast _).symm⟩
theorem IW (ps0:List (Str×Int))(e:Str×Int):wsP f l rz dd (ps0++[e])=wsP f l rz dd ps0++[wP e]:=by
 unfold wsP;rw[List.map_append,List.append_assoc _ (ps0.map wP)];simp
theorem X0 (a:List α)(x y:α):(a++[x]).take a.length++[y]++(a++[x]).drop (a.length+1)=a++[y]:=by
 rw[List.take_left,List.drop_of_length_le (by rw[List.length_append];show a.length+1<=_;exact Nat.le_refl _),List.append_nil]
end
theorem T6:∀{ws:List Str},ws≠[]->Txt.join "  " ws=J (O4 ws)
 | [],h=>absurd rfl h
 | [a],_=>by rw[dJ];exact(fC a).symm
 | a::b::r,_=>by
  have ih:=T6 (ws:=b::r) (λz=>nomatch z);rw[bL,ih];show a++ "  " ++J (b::(r.map λx=>[("" :Str),x]).flatten)=J (a:: "" ::b::(r.map λx=>[("" :Str),x]).flatten);rw[aV,aV,xD,show ("  " :Str)= " " ++ " " by decide +kernel];simp only[bI]
theorem XA {ws:List Str}(h:WsG ws):Txt.replace (J ws) " " "  " =J (O4 ws):=by
 have e:=StrLaws.replace_one (J ws) "  " 32;rw[←rP]at e;rw[e,gI h,←bX,T6 h.1]
def J5:List (List Str)->List (List Str)
 | []=>[]
 | w::ws=>w::(ws.map λx=>[[("" :Str)],x]).flatten
theorem L5:∀{Wl:List (List Str)},Wl≠[]->Txt.join "\n\n" (Wl.map J)=Txt.join "\n" ((J5 Wl).map J)
 | [],h=>absurd rfl h
 | [a],_=>by
  show Txt.join "\n\n" [J a]=Txt.join "\n" [J a];rw[dJ,dJ]
 | a::b::r,_=>by
  have ih:=L5 (Wl:=b::r) (λz=>nomatch z);show Txt.join "\n\n" (J a::J b::r.map J)=Txt.join "\n" (J a::J [("" :Str)]::J b::((r.map λx=>[[("" :Str)],x]).flatten).map J);rw[bL,bL,bL,fC,xD];have ih:Txt.join "\n\n" (J b::r.map J)=Txt.join "\n" (J b::((r.map λx=>[[("" :Str)],x]).flatten).map J):=ih;rw[ih,show ("\n\n" :Str)= "\n" ++ "\n" by decide +kernel];simp only[bI]
theorem WN {a:List Str}{x:List Str}(h:x∈J5 (a::Wl)):x=[("" :Str)]∨x∈a::Wl:=by
 rcases List.mem_cons.mp h with h|h
 .exact .inr (by rw[h];exact .head _)
 .obtain⟨l,hl,hx⟩:=List.mem_flatten.mp h;obtain⟨y,hy,rfl⟩:=List.mem_map.mp hl;simp only[List.mem_cons,List.not_mem_nil,or_false]at hx;rcases hx with rfl|rfl
  .exact .inl rfl
  .exact .inr (.tail _ hy)
theorem XQ:∀(Wl:List (List Str)),(J5 Wl).length<=2 * Wl.length/\((J5 Wl).filter λws:List Str=>decide (ws≠[("" :Str)])).length<=Wl.length
 | []=>⟨Nat.le_refl _,Nat.le_refl _⟩
 | a::Wl=>by
  have e:∀Wl:List (List Str),((Wl.map λx=>[[("" :Str)],x]).flatten).length=2 * Wl.length/\(((Wl.map λx=>[[("" :Str)],x]).flatten).filter λws:List Str=>decide (ws≠[("" :Str)])).length<=Wl.length:=λWl=>by
   induction Wl with
   | nil=>exact⟨rfl,Nat.le_refl _⟩
   | cons b Wl ih =>
    rw[List.map_cons,List.flatten_cons];refine⟨by rw[List.length_append,ih.1];show 2+_=2 * (Wl.length+1);lia,?_⟩;rw[List.filter_append,List.length_append,List.filter_cons_of_neg (by simp)];have:=List.length_filter_le (λws:List Str=>decide (ws≠[("" :Str)])) [b];have h1:([b]:List (List Str)).length=1:=rfl;have h2:=ih.2;have h3:(b::Wl).length=Wl.length+1:=rfl
    lia
  have h:=e Wl;show ((Wl.map λx=>[[("" :Str)],x]).flatten).length+1<=_/\_;rw[List.length_cons];refine⟨by lia,?_⟩;have:(J5 (a::Wl))=[a]++(Wl.map λx=>[[("" :Str)],x]).flatten:=rfl;rw[this,List.filter_append,List.length_append];have:=List.length_filter_le (λws:List Str=>decide (ws≠[("" :Str)])) [a];have h1:([a]:List (List Str)).length=1:=rfl
  lia
theorem M2 (Wl:List (List Str)):((Wl++[[("" :Str)]]).filter λws:List Str=>decide (ws≠[("" :Str)])).length<=Wl.length/\(([("" :Str)]::Wl).filter λws:List Str=>decide (ws≠[("" :Str)])).length<=Wl.length:=by
 rw[List.filter_append,List.filter_cons_of_neg (by simp),List.filter_nil,List.append_nil,List.filter_cons_of_neg (by simp)];exact⟨List.length_filter_le _ _,List.length_filter_le _ _⟩
theorem ET:∀{ys:List Str},ys≠[]->Txt.join "\n" (ys++[("" :Str)])=Txt.join "\n" ys++ "\n"
 | [],h=>absurd rfl h
 | [a],_=>by
  show Txt.join "\n" [a,("" :Str)]=_;rw[bL,dJ,dJ,lP]
 | a::b::r,_=>by
  have ih:=ET (ys:=b::r) (λz=>nomatch z);show Txt.join "\n" (a::b::(r++[("" :Str)]))=_;have ih:Txt.join "\n" (b::(r++[("" :Str)]))=_:=ih;rw[bL,bL,ih];simp only[bI]
def w5L (ys:List Str):List Str:=[Txt.join "\n" ys++ "\n","\n" ++Txt.join "\n" ys,Txt.join "\n\n" ys,""]
section
variable {dd:List Dd}
theorem aEl (h:LH f l rz dd ps)(hj:j<4):∃x,(w5L ((wsP f l rz dd ps).map J))[j]? =some x/\d9 x:=by
 have hl:=oG h;have hw:=h.vd.rw;generalize wsP f l rz dd ps=Wl at hl hw ⊢;obtain⟨a,Wl,rfl⟩:∃a Wl',Wl=a::Wl':=by
  cases Wl with
  | nil=>exact absurd rfl hl.2.2
  | cons a Wl=>exact⟨a,Wl,rfl⟩
 have hne:(a::Wl).map J≠[]:=λz=>nomatch z
 match j,hj with
 | 0,_ =>
  refine⟨_,rfl,?_⟩;have e:Txt.join "\n" ((a::Wl).map J)++ "\n" =Txt.join "\n" ((a::Wl++[[("" :Str)]]).map J):=by
   rw[List.map_append,←ET hne];rfl
  rw[e];refine GX (λws hws=> ?_) (by simp) (by rw[List.length_append];show _+1<=_;lia) (Nat.le_trans (M2 _).1 (by lia));rcases List.mem_append.mp hws with q|q
  .exact hw ws q
  .cases List.mem_singleton.mp q;exact BP
 | 1,_ =>
  refine⟨_,rfl,?_⟩;have e: "\n" ++Txt.join "\n" ((a::Wl).map J)=Txt.join "\n" (([("" :Str)]::a::Wl).map J):=by
   show _=Txt.join "\n" (J [("" :Str)]::J a::Wl.map J);rw[bL,fC,xD];rfl
  rw[e];refine GX (λws hws=> ?_) (.head _) (by rw[List.length_cons];lia) (Nat.le_trans (M2 _).2 (by lia));rcases List.mem_cons.mp hws with q|q
  .rw[q];exact BP
  .exact hw ws q
 | 2,_ =>
  refine⟨_,rfl,?_⟩;rw[L5 (Wl:=a::Wl) (λz=>nomatch z)];have hd:=XQ (a::Wl);refine GX (λws hws=> ?_) ?_ (by lia) (by lia)
  .rcases WN hws with q|q
   .rw[q];exact BP
   .exact hw ws q
  .cases Wl with
   | nil=>exact absurd hl.1 (by show ¬6<=1;decide)
   | cons b Wl=>exact .tail _ (.head _)
 | 3,_ =>
  refine⟨_,rfl,?_⟩;have e:("" :Str)=Txt.join "\n" ([[("" :Str)]].map J):=by decide +kernel
  rw[e];refine GX (λws hws=> ?_) (.head _) (by decide) (by decide +kernel);cases List.mem_singleton.mp hws;exact BP
end
section
variable {dd:List Dd}
theorem LH.rwl (h:LH f l rz dd ps):∀ws∈wsP f l rz dd ps,RwL ws/\OkL ws/\2<=ws.length:=λws hws=>by
 have hg:=h.vd.ws ws hws;unfold wsP at hws;simp only[List.mem_append,List.mem_singleton,List.mem_map]at hws;rcases hws with ((rfl|⟨e,he,rfl⟩)|⟨d,hd,rfl⟩)|⟨e,he,rfl⟩
 .exact⟨⟨hg,by show 3<=20;decide,.inl λz=>absurd (Option.some.inj z) (by decide +kernel)⟩,CW (by decide +kernel) (BA (d3 h.vd.f0).1) h.vd.l0,by show 2<=3;decide⟩
 .exact⟨⟨hg,by show 3<=20;decide,.inl λz=>absurd (Option.some.inj z) (by decide +kernel)⟩,CW (by decide +kernel) (lK (h.vd.rz e he).1) (h.vd.rz e he).2,by show 2<=3;decide⟩
 .have hd:=h.vd.dd d hd;have hl:=hd.len;have hn:=List.length_pos_iff.mpr hd.ws.1;exact⟨⟨hg,by show (eM d).length+1<=20;lia,.inr ⟨d,hd,rfl⟩⟩,hd.okL,by show 2<=(eM d).length+1;lia⟩
 .exact⟨⟨hg,by show 3<=20;decide,.inl λz=>absurd (Option.some.inj z) (by decide +kernel)⟩,CW (by decide +kernel) (lK (h.vd.ps e he).1) (h.vd.ps e he).2,by show 2<=3;decide⟩
theorem aEu {ws:List Str}(h:2<=ws.length):∃a b r,ws=a::b::r:=by
 rcases ws with _|⟨a,_|⟨b,r⟩⟩
 .exact absurd h (by show ¬2<=0;decide)
 .exact absurd h (by show ¬2<=1;decide)
 .exact⟨a,b,r,rfl⟩
def blL (x:Str):List Str:=[" " ++x,x++ " ",Txt.replace x " " "  "]
theorem aAJ {ws:List Str}(h:RwL ws)(h2:2<=ws.length)(hj:j<3):∃ws',(blL (J ws))[j]? =some (J ws')/\Rw ws'/\¬OkL ws':=by
 match j,hj with
 | 0,_ =>
  refine⟨"" ::ws,congrArg some ?_,aAZ h.g (by have:=h.l;lia),DU (.head _)⟩;cases ws with
  | nil=>exact absurd rfl h.g.1
  | cons a ws=>rw[aV,xD]
 | 1,_ =>
  refine⟨ws++[("" :Str)],congrArg some ?_,aAY h,DU (by simp)⟩;rw[KB _ h.g.1,lP]
 | 2,_ =>
  walk_at"g1";obtain⟨a,b,r,rfl⟩:=aEu h2;walk_at"g2";exact⟨_,congrArg some (XA h.g),aBz h,DU (.tail _ (.head _))⟩
theorem Y4 (i:Nat)(ws:List Str):(aQ f l rz dd ps).take i++[J ws]++(aQ f l rz dd ps).drop (i+1)=((wsP f l rz dd ps).take i++[ws]++(wsP f l rz dd ps).drop (i+1)).map J:=by
 unfold aQ;simp only[List.map_append,List.map_take,List.map_drop,List.map_cons,List.map_nil]
theorem w7 (h:LH f l rz dd ps){e:Str×Int}(hps:ps=ps0++[e])(hj:j<3):∃x k,(["0","12","1000"]:List Str)[j]? =some x/\x.length<=4/\ "people " ++e.1++ " " ++x=J (wP (e.1,k))/\d9 (Txt.join "\n" ((wsP f l rz dd (ps0++[(e.1,k)])).map J)):=by
 have hn:aK e.1=true:=(h.vd.ps e (by rw[hps];simp)).1;have hm:∀x∈ps0,x∈ps:=λx hx=>by rw[hps];exact List.mem_append_left _ hx
 have hl:ps0.length<=2:=by
  have:=h.lp.2;rw[hps,List.length_append]at this
  lia
 match j,hj with
 | 0,_=>exact⟨"0",0,rfl,by decide,by rw[←AS,show aJ 0= "0" by decide +kernel],aEH h hps⟩
 | 1,_=>exact⟨"12",12,rfl,by decide,by rw[←AS,show aJ 12= "12" by decide +kernel],TF h ⟨by decide,by decide⟩ hn hm hl⟩
 | 2,_=>exact⟨"1000",1000,rfl,by decide,by rw[←AS,show aJ 1000= "1000" by decide +kernel],TF h ⟨by decide,by decide⟩ hn hm hl⟩
theorem iG (ps0:List (Str×Int))(e:Str×Int):aQ f l rz dd (ps0++[e])=aQ f l rz dd ps0++[J (wP e)]:=by
 unfold aQ;rw[IW,List.map_append];rfl
end
def YJ (K:W.Frag)(H:Hp)(v:V):Prop:=(∃n,BTy K H v n/\n≠ "str")∨∃x,v= .str x/\d9 x
inductive yS (K:W.Frag)(vs:List V)(H:Hp)(Q:VK)(E:XK):Prop
 | mk (a:Addr) (f l:Int) (rz:List (Str×Int)) (dd:List Dd) (ps:List (Str×Int)) (c:Int) (_:vs=[.ref a,.int c]) (_:H a=some (.lst ((aQ f l rz dd ps).map V.str))) (_:LH f l rz dd ps) (_:LM dd) (_:∀v H',Same H H'->YJ K H' v->Q v H'):yS K vs H Q E
theorem A6 (m:M w K mg):FnOk P w K mg base CX0 3 m.mE m.iP.d ["_law_rows_here","_law_cell"] (yS K):=by
 refine m.iP.F.ok aGQ ?_ ?_;walk_at"w0";walk_at"w1";obtain⟨a,f,l,rz,dd,ps,c,rfl,eA,hL,hM,k⟩:=h;walk_at"g2";have nd:=aGQ.nd;walk_at"hu";have aHz:= @yM P w K mg base m;have aHC:= @AV P w K mg base m;have aHD:= @BO P w K mg base m;have aGr:= @xX P w K mg base m;refine' ⟨DT ?a ?b,aC ?x ?y,?_⟩
 case x=>exact(aT (i:=2) nd rfl (by walk_at"oi") (aI bR (pv 1) aF))
 case y =>
  refine' aC ?x ?y
  case x=>exact(aT (i:=3) nd rfl (by walk_at"oi") (aI dZ (pv 1) aF))
  case y =>
  refine' aC ?x ?y
  case x=>exact(aT (i:=4) nd rfl (by walk_at"oi") (aI aEj (bD cE rfl m.eK c5 (aA (pv 0) aB)) aF))
  case y =>
   refine' aC ?x ?y
   case x=>exact(bH (a9 cS (pv 2) aF (bE _)) (aE (aP (bY aD (by exact(aA (bT aHz hr (aA (pv 0) (aA (pv 3) aB))) aB))))) aS)
   case y =>
   refine' aC ?x ?y
   case x=>exact(bH (a9 cS (pv 2) aF (bE _)) (aC (aT (i:=5) nd rfl (by walk_at"oi") (aI bR (pv 3) (bD cE rfl m.eK c5 (aA (pv 0) aB)))) (aE (aP (bY aD (by exact(aA (aI eF (b8 cQ (pv 0) cW (b9 (aI d8 (pv 5) aF))) (b8 cQ (pv 0) (b9 (pv 5)) cW)) aB)))))) aS)
   case y =>
    refine' aC ?x ?y
    case x=>exact(bH (a9 cS (pv 2) aF (bE _)) (aE (aP (bY aD (by exact(aA (aI eF (bM (aA (bF aR (pv 0) aF (λ_ _=>rfl)) (aA (bF aR (pv 0) aF (λ_ _=>rfl)) aB))) (b8 cQ (pv 0) (b9 aF) cW)) aB))))) aS)
    case y =>
    refine' aC ?x ?y
    case x=>exact(bH (a9 cS (pv 2) aF (bE _)) (aE (aP (bY aD (by exact(aA (bT aHD hr (aA (pv 0) (aA (pv 3) aB))) aB))))) aS)
    case y =>
     refine' aC ?x ?y
     case x=>exact(bH (a9 cS (pv 2) aF (bE _)) (aC (aT (i:=5) nd rfl (by walk_at"oi") (aI bR (pv 3) (bD cE rfl m.eK c5 (aA (pv 0) aB)))) (aC (aT (i:=6) nd rfl (by walk_at"oi") (bF aR (pv 0) (pv 5) (λ_ _=>rfl))) (aE (aP (bY aD (by exact(aA (bT aGr hr (aA (pv 0) (aA (pv 5) (aA (bF aR (bM (aA (aI bB aD (pv 6)) (aB4 (pv 6) (aCO 6) (by decide) (by decide)))) (aI bR (aI dZ (pv 3) aF) aF) (λ_ _=>rfl)) aB)))) aB))))))) aS)
     case y =>
     refine' aC ?x ?y
     case x=>exact(bH (a9 cS (pv 2) aF (bE _)) (aE (aP (bF aR (bM (aA (aI bB (bY aD (by exact(aA (pv 0) aB))) aD) (aA (aI bB aD (bY aD (by exact(aA (pv 0) aB)))) (aA (bY aD (by exact(aA (pv 0) aB))) (aA aD aB))))) (aI bR (pv 3) aF) (λ_ _=>rfl)))) aS)
     case y =>
      refine' aC ?x ?y
      case x=>exact(bH (a9 cS (pv 2) aF (bE _)) (aE (aP (bY aD (by exact(aA (bT aHC hr (aA (pv 0) (aA (pv 3) aB))) aB))))) aS)
      case y =>
      refine' aC ?x ?y
      case x=>exact(bH (a9 cS (pv 2) aF (bE _)) (aC (aT (i:=7) nd rfl (by walk_at"oi") (bF aR (rD (by exact(bF aR (pv 0) (pv 4) (λ_ _=>rfl))) (by exact(aA aD aB))) aF (λ_ _=>rfl))) (aE (aP (bY aD (by exact(aA (bT aGr hr (aA (pv 0) (aA (pv 4) (aA (aI bB (aI bB (aI bB aD (pv 7)) aD) (bF aR (bM (aA aD (aA aD (aA aD aB)))) (aI bR (pv 3) aF) (λ_ _=>rfl))) aB)))) aB)))))) aS)
      case y =>
       refine' aC ?x ?y
       case x=>exact(bH (a9 cS (pv 2) aF (bE _)) (aE (aP (bY aD (by exact(aA (aI eF (pv 0) (bM (aA aD aB))) aB))))) aS)
       case y =>
       refine' aC ?x ?y
       case x=>exact(bH (a9 cS (pv 2) aF (bE _)) (aE (aP (JH (JK (pv 0)) (aI bR (pv 3) aF) (λ_ _=>rfl) (by decide +kernel)))) aS)
       case y =>
        refine' aC ?x ?y
        case x=>exact(bH (a9 cS (pv 2) aF (bE _)) (aE (aP (bY aD (by exact(aA (bT aGr hr (aA (pv 0) (aA aF (aA (aI bB aD (cD fE rfl m.kO hZ (aA (aI bR (pv 3) aF) aB))) aB)))) aB))))) aS)
        case y =>
        refine' aC ?x ?y
        case x=>exact(bH (a9 cS (pv 2) aF (bE _)) (aE (aP (bY aD (by exact(aA (aI eF (aI eF (b8 cQ (pv 0) cW (b9 aF)) (bM (aA (bF aR (pv 0) (pv 4) (λ_ _=>rfl)) aB))) (b8 cQ (pv 0) (b9 aF) (b9 (pv 4)))) aB))))) aS)
        case y =>
         refine' aC ?x ?y
         case x=>exact(bH (a9 cS (pv 2) aF (bE _)) (aE (aP (JH (JK (pv 0)) (aI bR (pv 3) aF) (λ_ _=>rfl) (by decide +kernel)))) aS)
         case y =>
         exact(aE (aP (bF aR (bM (aA AF (aA aF (aA (pv 0) (aA t9 (aA (cD uS rfl m.NN JD (aA (pv 0) aB)) aB)))))) (aI bR (pv 3) aF) (λ_ _=>rfl))))
 refine aL (σ:=[some (.ref a),some (.int c),none,none,none,none,none,none]) rfl ?_;walk_at"cx";have hS:SqL K H a ((aQ f l rz dd ps).map V.str):=SqL.of eA;have hlen:=oG hL;have hnl:((aQ f l rz dd ps).map V.str).length=(wsP f l rz dd ps).length:=by unfold aQ;rw[List.length_map,List.length_map]
 have hrn:(aQ f l rz dd ps).length=(wsP f l rz dd ps).length:=by unfold aQ;rw[List.length_map]
 have hrl:(aQ f l rz dd ps).length<=100:=by lia
 have hp1:(0:Int)<((aQ f l rz dd ps).map V.str).length:=by lia
 have fin:∀p ys H',Same H H'->H' p=some (.lst (ys.map V.str))->d9 (Txt.join "\n" ys)->AC K (.str "\n") [.ref p] H' Q:=λp ys H' s e b=>gG (SqL.of e) (aEa b) (k _ _ s (.inr ⟨_,rfl,b⟩));have getr:∀(i:Nat) ws,(wsP f l rz dd ps)[i]? =some ws->((aQ f l rz dd ps).map V.str)[i]? =some (V.str (J ws)):=λi ws h=>by unfold aQ;rw[List.getElem?_map,List.getElem?_map,h];rfl
 have idx:∃i:Nat,c/14%(((aQ f l rz dd ps).map V.str).length:Int)=(i:Int)/\i<(wsP f l rz dd ps).length:=by
  obtain⟨i,h1,h2⟩:=eN (x:=c/14) (n:=((aQ f l rz dd ps).map V.str).length) (by lia);exact⟨i,h1,by lia⟩
 obtain⟨ps0,e0,hps⟩:=hL.last;have hend:(((aQ f l rz dd ps).map V.str).length:Int) - 1=(((aQ f l rz dd ps0).length:Nat):Int):=by
  rw[hps,iG,List.length_map,List.length_append];show ((_+1:Nat):Int) - 1=_
  lia
 have hlast:((aQ f l rz dd ps).map V.str)[(aQ f l rz dd ps0).length]? =some (V.str (J (wP e0))):=by
  rw[hps,iG,List.getElem?_map,List.getElem?_append_right (Nat.le_refl _),Nat.sub_self];rfl
 walk_at"go";refine dQ (λw0=> ?_) (λw0=> ?_)
 .walk_at"go";refine⟨a,aQ f l rz dd ps,_,rfl,hS,hrl,λp i H' hi s' e'=> ?_⟩;walk_at"go";refine fin p _ H' s' e' ?_;have:=aEb hL hi;rw[List.map_append,List.map_take,List.map_drop]at this;exact this
 walk_at"go";refine dQ (λw1=> ?_) (λw1=> ?_)
 .walk_at"go";rename_i q0 q1 pA HA nA SA eA pB HB nB SB eB;obtain⟨i,hi,hin⟩:=idx;rw[hi,show (i:Int)+1=((i+1:Nat):Int) by lia,o0]at eA;rw[hi,jQ]at eB;refine gJ (SB _ _ eA) eB (by rw[sizeLine_eq,List.length_map,List.length_map,List.length_take,List.length_drop];lia) λpC HC nC SC eC=> ?_;walk_at"go";refine fin pC _ HC (SA.trans (SB.trans SC)) (by rw[eC,←List.map_append]) ?_;have:=aAN hL.vd.rw (by lia) hin;rw[List.map_append,List.map_take,List.map_drop]at this;exact this
 walk_at"go";refine dQ (λw2=> ?_) (λw2=> ?_)
 .walk_at"g1";obtain⟨n,r,rr,e⟩:=hL.two;walk_at"g2";have eW:wsP f l rz dd ps=wT f l::wR (("hall" :Str),n)::fB r rr dd ps:=by rw[e,t8]
  have hw:=hL.vd.rw;rw[eW]at hw;have eA2:H a=some (.lst (V.str (J (wT f l))::V.str (J (wR (("hall" :Str),n)))::((fB r rr dd ps).map J).map V.str)):=by
   have q:=eA;unfold aQ at q;rw[eW]at q;exact q
  clear hS eA;have hS:=SqL.of (K:=K) eA2;walk_at"go";rename_i pA HA nA SA eA pB HB nB SB eB;have eB':HB pB=some (.lst (((fB r rr dd ps).map J).map V.str)):=by
   rw[eB];have q:=jQ (aQ f l rz dd ps) 2;unfold aQ at q;rw[eW]at q;exact congrArg (λz=>some (HO.lst z)) q
  have eA':HA pA=some (.lst [V.str (J (wR (("hall" :Str),n))),V.str (J (wT f l))]):=eA;have hl1:(fB r rr dd ps).length<=13:=by
   rw[eW]at hlen;have:=hlen.2.1;rw[List.length_cons,List.length_cons]at this
   lia
  refine gJ (SB _ _ eA') eB' (by rw[sizeLine_eq,List.length_map,List.length_map];show 2+_<=_;lia) λpC HC nC SC eC=> ?_;walk_at"go";refine fin pC ((wR (("hall" :Str),n)::wT f l::fB r rr dd ps).map J) HC (SA.trans (SB.trans SC)) (by rw[eC];rfl) ?_;refine TH (λy hy=>hw y ?_) ?_ λz=>absurd (Option.some.inj z) (by decide +kernel)
  .rcases List.mem_cons.mp hy with rfl|hy
   .exact .tail _ (.head _)
   .rcases List.mem_cons.mp hy with rfl|hy
    .exact .head _
    .exact .tail _ (.tail _ hy)
  .rw[eW]at hlen;exact Nat.le_trans hlen.2.1 (by decide)
 walk_at"go";refine dQ (λw3=> ?_) (λw3=> ?_)
 .walk_at"go";refine⟨a,aQ f l rz dd ps,_,rfl,hS,by lia,hrl,λp i ws H' hi hws s' e'=> ?_⟩;walk_at"go";refine fin p _ H' s' e' ?_;have:=aFK hL.vd.rw (by lia) hi (λz=>by rw[z]at hlen;exact hlen.2.2 rfl) (UK ws hws).1 (UK ws hws).2;rw[List.map_append,List.map_append,List.map_take,List.map_drop]at this;exact this
 walk_at"go";refine dQ (λw4=> ?_) (λw4=> ?_)
 .walk_at"go";rename_i q0 q1;obtain⟨i,hi,hin⟩:=idx;rw[hi];obtain⟨ws,hws⟩:∃ws,(wsP f l rz dd ps)[i]? =some ws:=⟨_,List.getElem?_eq_getElem hin⟩
  obtain⟨hr',hok,h2⟩:=hL.rwl ws (List.mem_of_getElem? hws);have hjl:=rF hr'.g;refine⟨a,_,_,_,rfl,rfl,hS,bK (getr i ws hws),?_⟩;walk_at"go";unfold Z5;walk_at"go";refine⟨_,rfl,by rw[sizeLine_eq];show _+1<=_;lia,?_⟩;walk_at"go";refine⟨_,rfl,by lia,?_⟩;walk_at"go";rename_i pL HL nL SL eL;have eL':HL pL=some (.lst ((blL (J ws)).map V.str)):=eL;obtain⟨j,hj,hj3⟩:=eN (x:=c/14/20) (n:=3) (by decide);have hj:c/14/20%3=(j:Int):=hj;walk_at"g1";obtain⟨ws',hx,r1,r2⟩:=aAJ hr' h2 hj3;walk_at"g2";rw[hj];refine⟨pL,_,_,_,rfl,rfl,SqL.of eL',bK (by rw[List.getElem?_map];exact congrArg (Option.map V.str) hx),?_⟩;walk_at"go";refine RT (SL.seq hS) hrl λp H' s' e'=> ?_;walk_at"go";refine fin p _ H' (SL.trans s') e' ?_;rw[Y4];exact UA hL.vd.rw (by lia) hin r1 r2
 walk_at"go";refine dQ (λw5=> ?_) (λw5=> ?_)
 .have hsh:=hL.short;have j1:((aQ f l rz dd ps).map (·.length)).sum+(aQ f l rz dd ps).length<=951:=by
   have h1:=g9 10 (aQ f l rz dd ps);have h2:(Txt.join "\n" (aQ f l rz dd ps)).length<=950:=hsh;rw[bX,jC]at h2
   lia
  have c1:("\n" :Str).length=1:=by decide
  have c2:("\n\n" :Str).length=2:=by decide
  have hsh:(Txt.join "\n" (aQ f l rz dd ps)).length<=950:=hsh;walk_at"go";refine gG hS (by rw[c1];lia) ?_;walk_at"go";refine gG hS (by rw[c1];lia) ?_;walk_at"go";refine gG hS (by rw[c2];lia) ?_;walk_at"go";rename_i p1 H1 n1 S1 e1;obtain⟨j,hj,hj4⟩:=eN (x:=c/14) (n:=4) (by decide);have hj:c/14%4=(j:Int):=hj;obtain⟨x,hx,hb⟩:=aEl hL hj4;have e1':H1 p1=some (.lst ((w5L (aQ f l rz dd ps)).map V.str)):=e1;rw[hj];refine⟨p1,_,_,_,rfl,rfl,SqL.of e1',bK (by rw[List.getElem?_map];exact congrArg (Option.map V.str) hx),?_⟩;exact k _ _ S1 (.inr ⟨x,rfl,hb⟩)
 walk_at"go";refine dQ (λw6=> ?_) (λw6=> ?_)
 .walk_at"go";refine⟨a,wsP f l rz dd ps,_,rfl,hS,hL.rwl,by lia,by lia,λp i ws x H' hws hx hxb s' e'=> ?_⟩;walk_at"go";refine fin p _ H' s' e' ?_;obtain⟨hr',hok,h2⟩:=hL.rwl ws (List.mem_of_getElem? hws);have nb:=MV hr' h2 hx hxb;exact UA hL.vd.rw (by lia) (List.getElem?_eq_some_iff.mp hws).1 nb.1 nb.2
 walk_at"go";refine dQ (λw7'=> ?_) (λw7'=> ?_)
 .rw[hend];have g0:=(hL.rwl (wP e0) (by rw[hps,IW];simp)).1.g;have hjl:=rF g0;have hnm:e0.1.length<=8:=cB (hL.vd.ps e0 (by rw[hps];simp)).1;walk_at"go";refine⟨a,_,_,_,rfl,rfl,hS,bK hlast,?_⟩;walk_at"go";refine qG 32 rP (by lia) λp1 H1 n1 S1 e1=> ?_;rw[gI g0]at e1;have e1:H1 p1=some (.lst [V.str "people",V.str e0.1,V.str (aJ e0.2)]):=e1;walk_at"go";rename_i pL HL nL SL eL;have eL':HL pL=some (.lst ((["0","12","1000"]:List Str).map V.str)):=eL;obtain⟨j,hj,hj3⟩:=eN (x:=c/14) (n:=3) (by decide);have hj:c/14%3=(j:Int):=hj;walk_at"g1";obtain⟨x,kk,hx,hxl,hrow,hb⟩:=w7 hL hps hj3;walk_at"g2";rw[hj];refine⟨pL,_,_,_,rfl,rfl,SqL.of eL',bK (by rw[List.getElem?_map];exact congrArg (Option.map V.str) hx),?_⟩;walk_at"go";refine RT ((S1.trans SL).seq hS) hrl λp H' s' e'=> ?_;walk_at"go";refine fin p _ H' (S1.trans (SL.trans s')) e' ?_;rw[hrow,hps,iG,X0,←iG];exact hb
 walk_at"go";refine dQ (λw8=> ?_) (λw8=> ?_)
 .walk_at"go";rename_i pL HL nL SL eL pA HA nA SA eA;refine fin pA (aQ f l rz dd ps++[("people nowhere 1" :Str)]) HA (SL.trans SA) (by rw[eA,List.map_append];rfl) ?_;have:=TZ hL;have e:aQ f l rz dd (ps++[(("nowhere" :Str),1)])=aQ f l rz dd ps++[("people nowhere 1" :Str)]:=by
   rw[iG,show J (wP (("nowhere" :Str),1))= "people nowhere 1" by decide +kernel]
  rw[←e];exact this
 walk_at"go";refine dQ (λw9=> ?_) (λw9=> ?_)
 .have j1:((aQ f l rz dd ps).map (·.length)).sum+(aQ f l rz dd ps).length<=951:=by
   have h1:=g9 10 (aQ f l rz dd ps);have h2:(Txt.join "\n" (aQ f l rz dd ps)).length<=950:=hL.short;rw[bX,jC]at h2
   lia
  have c1:("\n" :Str).length=1:=by decide
  have hsh:(Txt.join "\n" (aQ f l rz dd ps)).length<=950:=hL.short;walk_at"go";unfold JG J9;walk_at"go";refine⟨a,aQ f l rz dd ps,rfl,hS,by rw[c1];lia,by lia,_,rfl,by lia,?_⟩;walk_at"go";obtain⟨j,hj,hj4⟩:=eN (x:=c/14) (n:=4) (by decide);have hj:c/14%4=(j:Int):=hj;obtain⟨z,hz⟩:∃z,hallL[j]? =some z:=⟨_,List.getElem?_eq_getElem (show j<hallL.length from hj4)⟩
  exact⟨j,z,congrArg V.int hj,hz,k _ _ (Same.refl _) (.inr ⟨_,rfl,aEw hL (List.mem_of_getElem? hz)⟩)⟩
 walk_at"go";refine dQ (λw10=> ?_) (λw10=> ?_)
 .walk_at"go";refine⟨a,_,0,_,rfl,hS,hrl,λp H' s' e'=> ?_⟩;walk_at"go";refine fin p _ H' s' e' ?_;have e9: "turns 9 " ++aJ (c/14%9)=J (wT 9 (c/14%9)):=by
   rw[←aAl,show ("turns " :Str)++aJ 9++ " " = "turns 9 " by decide +kernel]
  rw[e9];exact aBl hL (x:=c/14%9) (by lia)
 walk_at"go";refine dQ (λw11=> ?_) (λw11=> ?_)
 .rw[hend];walk_at"go";rename_i pA HA nA SA eA;have eA':HA pA=some (.lst (((aQ f l rz dd ps).take 1).map V.str)):=by rw[eA];exact congrArg (λz=>some (HO.lst z)) (o0 (aQ f l rz dd ps) 1)
  have eA':HA pA=some (.lst [V.str (J (wT f l))]):=eA';clear eA;refine⟨a,_,_,_,rfl,rfl,SA.seq hS,bK hlast,?_⟩;walk_at"go";rename_i pB HB nB SB eB pC HC nC SC eC pD HD nD SD eD;have em:aQ f l rz dd ps0=[J (wT f l)]++(rz.map wR++dd.map wW++ps0.map wP).map J:=rfl;have hl0:(aQ f l rz dd ps0).length=[J (wT f l)].length+((rz.map wR++dd.map wW++ps0.map wP).map J).length:=by rw[em,List.length_append]
  have eD':HD pD=some (.lst (((rz.map wR++dd.map wW++ps0.map wP).map J).map V.str)):=by
   rw[eD,hps,iG,hl0,em];exact congrArg (λz=>some (HO.lst z)) (L7 [J (wT f l)] ((rz.map wR++dd.map wW++ps0.map wP).map J) [J (wP e0)])
  refine gJ (SD _ _ eC) eD' (by rw[sizeLine_eq,List.length_map];show 2+_<=_;lia) λpE HE nE SE eE=> ?_;walk_at"go";exact fin pE ((wT f l::wP e0::(rz.map wR++dd.map wW++ps0.map wP)).map J) HE (SA.trans (SB.trans (SC.trans (SD.trans SE)))) (by rw[eE];rfl) (aBt hL hps)
 walk_at"go";refine dQ (λw12=> ?_) (λw12=> ?_)
 .have j1:((aQ f l rz dd ps).map (·.length)).sum+(aQ f l rz dd ps).length<=951:=by
   have h1:=g9 10 (aQ f l rz dd ps);have h2:(Txt.join "\n" (aQ f l rz dd ps)).length<=950:=hL.short;rw[bX,jC]at h2
   lia
  have c1:("\n" :Str).length=1:=by decide
  have hsh:(Txt.join "\n" (aQ f l rz dd ps)).length<=950:=hL.short;walk_at"go";unfold JG J9;walk_at"go";refine⟨a,aQ f l rz dd ps,rfl,hS,by rw[c1];lia,by lia,_,rfl,by lia,?_⟩;walk_at"go";obtain⟨j,hj,hj4⟩:=eN (x:=c/14) (n:=4) (by decide);have hj:c/14%4=(j:Int):=hj;obtain⟨z,hz⟩:∃z,rhL[j]? =some z:=⟨_,List.getElem?_eq_getElem (show j<rhL.length from hj4)⟩
  have ez:(["hall room","Room hall","room  hall","roomhall"]:List Str)[j]? =some (J z):=by
   rw[show (["hall room","Room hall","room  hall","roomhall"]:List Str)=rhL.map J by decide +kernel,List.getElem?_map,hz];rfl
  exact⟨j,J z,congrArg V.int hj,ez,k _ _ (Same.refl _) (.inr ⟨_,rfl,aBB hL hM (List.mem_of_getElem? hz)⟩)⟩
 walk_at"go";refine⟨a,_,rfl,.inl ⟨hS,λpt hn=> ?_⟩⟩;have sT:Same H (upd H pt (.tup ((aQ f l rz dd ps).map V.str))):=l7 hn;have eT:(upd H pt (.tup ((aQ f l rz dd ps).map V.str))) pt=some (.tup ((aQ f l rz dd ps).map V.str)):=aU;generalize upd H pt (.tup ((aQ f l rz dd ps).map V.str))=G at sT eT;walk_at"go";rename_i pL HL nL SL eL;obtain⟨j,hj,hj5⟩:=eN (x:=c/14) (n:=5) (by decide);have hj:c/14%5=(j:Int):=hj;rw[hj]
 match j,hj5 with
 | 0,_=>exact⟨pL,_,_,_,rfl,rfl,SqL.of eL,bK (j:=0) rfl,k _ _ (sT.trans SL) (.inl ⟨_,.non,by decide⟩)⟩
 | 1,_=>exact⟨pL,_,_,_,rfl,rfl,SqL.of eL,bK (j:=1) rfl,k _ _ (sT.trans SL) (.inl ⟨_,.int 7,by decide⟩)⟩
 | 2,_=>exact⟨pL,_,_,_,rfl,rfl,SqL.of eL,bK (j:=2) rfl,k _ _ (sT.trans SL) (.inl ⟨_,.lst (SL _ _ (sT _ _ eA)),by decide⟩)⟩
 | 3,_=>exact⟨pL,_,_,_,rfl,rfl,SqL.of eL,bK (j:=3) rfl,k _ _ (sT.trans SL) (.inl ⟨_,.bl true,by decide⟩)⟩
 | 4,_=>exact⟨pL,_,_,_,rfl,rfl,SqL.of eL,bK (j:=4) rfl,k _ _ (sT.trans SL) (.inl ⟨_,.tup (SL _ _ eT),by decide⟩)⟩
theorem AM (m:M w K mg):Fc P w K mg base "_law_spoiled" 3 ["_law_rows_here","_law_cell"] (yS K):=⟨_,_,m.D1,m.iP.F.kp,m.iP.b,A6 m⟩
theorem aB7 {K:W.Frag}{Q:VK}{φ:Heap->Prop}{D:Addr}{b:Bool}(e:H a=some (.ext φ))(f:∀h,φ h->wZ a C h)(k:ExcK K C)(i:W.kitOne K (.ref C) (.ref D)=some b)(h:Q (.bl b) H):Y0 K [.ref a,.ref D] H Q:=⟨a,C,.ref D,D,b,rfl,⟨_,e,f⟩,k,⟨rfl,i⟩,h⟩
theorem YM {K:W.Frag}{Q:VK}{φ:Heap->Prop}{n:String}{b:Bool}(e:H a=some (.ext φ))(f:∀h,φ h->wZ a C h)(k:ExcK K C)(i:W.kitOne K (.ref C) (.type n)=some b)(h:Q (.bl b) H):RJ K [.ref a,.ty n] H Q:=⟨a,C,n,b,rfl,⟨_,e,f⟩,k,i,h⟩
theorem qH {K:W.Frag}{A:Addr}{Ds:List Addr}(h1:W.kitOne K (.ref C) (.ref A)=some false)(h2:W.kitAny K (.ref C) (Ds.map Value.ref)=some false):W.kitAny K (.ref C) ((A::Ds).map Value.ref)=some false:=by
 show (match W.kitOne K (.ref C) (.ref A) with|some true=>some true|some false=>W.kitAny K (.ref C) (Ds.map Value.ref)|none=>none)=_;rw[h1];exact h2
inductive wY (K:W.Frag)(vs:List V)(H:Hp)(Q:VK)(E:XK):Prop
 | mk (v:V) (_:vs=[v]) (_:YJ K H v) (_:∀H',Same H H'->Q (.bl true) H'):wY K vs H Q E
theorem BL (m:M w K mg):FnOk P w K mg base CX0 13 m.mK m.iN.d ["_law_text"] (wY K):=by
 refine m.iN.F.ok aGS ?_ ?_;walk_at"w0";walk_at"w1";obtain⟨v,rfl,hb,k⟩:=h;walk_at"g2";have nd:=aGS.nd;walk_at"hu";have aGp:= @uW P w K mg base m;refine⟨_,(aC (aBC (i:=1) nd rfl rfl rfl rfl m.CK (aCH aGp hr (aA (pv 0) aB)) (λea=>(aC (aT (i:=2) nd rfl (by walk_at"oi") (bD (TL K rfl) rfl m.eJ dL (aA (pv 1) (aA (AE (aA (kA rfl m.wF) (aA (kA rfl m.K3) (aA (kA rfl m.KP) (aA (kA rfl m.NO) (aA (kA rfl m.zZ) aB)))))) aB))))
  (aE (aP (BB (bD (UE K rfl) rfl m.eJ dL (aA (pv 1) (aA (kA rfl m.fK) aB))) (BB (bD (OF K rfl) rfl m.eJ dL (aA (pv 1) (aA (A0 rfl m.KY FN) aB))) (A3 (IE (pv 2))))))))))
  (aE (aP t9))),?_⟩
 refine aL (σ:=[some (v),none,none]) rfl ?_;walk_at"cx";walk_at"go";unfold ZU;walk_at"go";generalize hR:N2 _ _ _ _ _ _=R;have main:∀H2,Same H H2->R (.ref m.aO) none H2:=by
  intro H2 s2;subst hR;refine⟨m.aO,rfl,m.wE,λea hn=> ?_⟩;have he:(upd H2 ea (tL ea m.aO none)) ea=some (.ext (wZ ea m.aO)):=aU;have sG:Same H2 (upd H2 ea (tL ea m.aO none)):=l7 hn;generalize upd H2 ea (tL ea m.aO none)=G at he sG
  try dsimp only[List.set]
  walk_at"go";rename_i tp G1 m1 T1 f1;refine⟨ea,tp,m.aO,[m.dY,m.uM,m.dA,m.d7,m.fJ],false,rfl,⟨_,T1 _ _ he,λ_ q=>q⟩,m.wG,f1,qH m.xN (qH m.zT (qH m.AA (qH m.B6 (qH m.z9 rfl)))),?_⟩;have he1:=T1 _ _ he;walk_at"go";refine aB7 he1 (λ_ q=>q) m.wG m.zW ?_;walk_at"go";refine YM he1 (λ_ q=>q) m.wG m.uN ?_;walk_at"go";exact k _ (s2.trans (sG.trans T1))
 clear hR;rcases hb with⟨n,b,hn⟩|⟨x,rfl,hb⟩
 .exact⟨v,rfl,.inl ⟨n,b,hn,λH2 s2=>main H2 s2⟩⟩
 .exact⟨_,rfl,.inr ⟨x,rfl,hb.len,hb.rb,hb.ew,λ_ H2 s2=>main H2 s2,λf l rz dd ps g e=>absurd ⟨f,l,rz,dd,ps,g,e⟩ hb.no⟩⟩
theorem BF (m:M w K mg):Fc P w K mg base "_law_refused" 13 ["_law_text"] (wY K):=⟨_,_,m.ED,m.iN.F.kp,m.iN.b,BL m⟩
theorem aCs {Q:VK}{E:XK}(hb:YJ K H v)(k:∀H',Same H H'->Q (.bl true) H'):wY K [v] H Q E:=⟨_,rfl,hb,k⟩
structure TxOk (x:Str):Prop where
 ln:x.length<=950
 wr:WR (Txt.split x "\n")
 ih:IsH (Txt.split x "\n")
theorem LH.tx {dd:List Dd}(h:LH f l rz dd ps):TxOk (Txt.join "\n" (aQ f l rz dd ps)):=by
 have hl:=oG h;have e:Txt.split (Txt.join "\n" (aQ f l rz dd ps)) "\n" =aQ f l rz dd ps:=E1 h.vd.ws (λz=>by rw[z]at hl;exact hl.2.2 rfl);refine⟨h.short,?_,?_⟩
 .rw[e];exact aDo h.vd.rw (Nat.le_trans (List.length_filter_le _ _) (by lia))
 .rw[e];exact h.isH
theorem aAm {N:Addr}{Q:VK}{E:XK}(ht:TxOk x)(k:∀f l rz dd ps,Good (Txt.split x "\n") f l rz dd ps->oK f l rz dd ps=Txt.split x "\n" ->∀h us H',Same H H'->HouseU C H' h f l rz ps us (dd.map Dd.g)->DsAt P w K mg base H' us dd->Q (.ref h) H'):GZ P w K mg base C N [.str x] H Q E :=
 ⟨_,rfl,.inr ⟨x,rfl,by have:=ht.ln;lia,KC (by have:=ht.ln;lia),.inr ht.wr,λhn=>absurd ht.ih hn,k⟩⟩
theorem TxOk.back (h:TxOk x){dd:List Dd}(e:oK f l rz dd ps=Txt.split x "\n"):(∀r∈fM f l rz (dd.map Dd.t) ps,r.length<=100000)/\Txt.join "\n" (fM f l rz (dd.map Dd.t) ps)=x:=by
 have e:fM f l rz (dd.map Dd.t) ps=Txt.split x "\n" :=e;rw[e];refine⟨λr hr=> ?_,by rw[bX,jC,StrLaws.join_split]⟩;rw[jC]at hr;have:=(uB x 10).2 r hr;have:=h.ln
 lia
theorem ZO {Q:VK}{E:XK}{dd:List Dd}{h:Addr}{us:List V}(ht:TxOk x)(g:Good (Txt.split x "\n") f l rz dd ps)(e:oK f l rz dd ps=Txt.split x "\n")(hU:HouseU C H h f l rz ps us (dd.map Dd.g))(hD:DsAt P w K mg base H us dd)(k:∀H',Same H H'->Q (.str x) H'):tM P w K mg base C [.ref h] H Q E :=
 ⟨h,f,l,rz,ps,us,_,_,rfl,g.hr ht.wr.1 hU hD,(ht.back e).1,λH' s=>by rw[(ht.back e).2];exact k H' s⟩
inductive vX (K:W.Frag)(vs:List V)(H:Hp)(Q:VK)(E:XK):Prop
 | mk (a:Addr) (ns:List Int) (_:vs=[.ref a]) (_:SqL K H a (ns.map V.int)) (_:ns.length<=63) (_:∀H',Q (.bl true) H'):vX K vs H Q E
theorem aDy (m:M w K mg):FnOk P w K mg base CX0 24 m.R1 m.RZ ["_law_script"] (vX K):=by
 refine m.aFN.ok aHT ?_ ?_;walk_at"w0";walk_at"w1";obtain⟨a,ns,rfl,hS,hlen,k⟩:=h;walk_at"g2";have nd:=aHT.nd;walk_at"hu";have aGj:= @rO P w K mg base m;have aHA:= @BF P w K mg base m;have aHQ:= @IT P w K mg base m;have aHB:= @AM P w K mg base m;have aHi:= @F2 P w K mg base m;have aGp:= @uW P w K mg base m;refine⟨_,(aC (aT (i:=1) nd rfl (by walk_at"oi") (bT aHQ hr (aA (pv 0) aB)))
  (aC (aT (i:=2) nd rfl (by walk_at"oi") (bY aD (by exact(aA (pv 1) aB))))
  (aC (bH (a9 GM (bT aHi hr (aA (GF aGp hr MY (aA (pv 2) aB)) aB)) (pv 2) (bE _)) (aE (aP t9)) aS)
  (aC (iA PassesOwn.never rfl (bZ (dG (N:=["_law_k","_law_script"]) (nl:=1) (ci:=[0]) rfl (blk (s.heap.objs.size+1) rfl rfl rfl (by kernel_rfl)) (vC rfl m.DZ (aA aF aB)) (λ_ _ _ _=>(aZ (i:=0) (show (["_law_k","_law_script"]:List Str).Nodup by decide +kernel) rfl (by walk_at"oi"))) (λ_ _ _ _=>dO) (λ_ _ _ _=>(bT aGj hr (aA (pv 1) (aA (aI d8 aF (pv 0)) aB)))))) (aZ (i:=3) nd rfl (by walk_at"oi")) (aE (bH (hG (eY (bT aHA hr (aA (bT aHB hr (aA (pv 1) (aA (pv 3) aB))) aB)))) (aE (aP t9)) aS)))
  (aE (aP (sU cS (bT aHi hr (aA (GF aGp hr MY (aA (pv 2) aB)) aB)) (pv 2) (bE _)))))))),?_⟩
 refine aL (σ:=[some (.ref a),none,none,none]) rfl ?_;walk_at"cx";walk_at"go";refine⟨a,ns,rfl,hS,λp f l rz dd ps H1 hp S1 hL hM e1=> ?_⟩;have hT:=hL.tx;have hsum:((aQ f l rz dd ps).map (·.length)).sum+(aQ f l rz dd ps).length * ("\n" :Str).length<=16777216:=by
  have h1:=g9 10 (aQ f l rz dd ps);have h2:=hT.ln;rw[bX,jC]at h2;have c:("\n" :Str).length=1:=by decide
  rw[c]
  lia
 walk_at"go";refine gG (SqL.of e1) hsum ?_;have hS1:=S1.seq hS;walk_at"go";refine aAm hT λf1 l1 rz1 dd1 ps1 g1 ee1 h1 us1 H2 S2 hU hD=> ?_;walk_at"go";refine ZO hT g1 ee1 hU hD λH3 S3=> ?_;have e3:=S3 _ _ (S2 _ _ e1);have hS3:=(S2.trans S3).seq hS1;clear hU hD;walk_at"go"
 first|rw[if_neg (by rw[decide_eq_true rfl];decide)]|skip
 walk_at"go";refine W6 (λi=> .int (fU ns (2+(i:Int)))) (by show 6<=sizeLine;decide) (rest:=[some (.ref a)]) (by rfl) ?_ ?_
 .intro i H4 hi s4 R hR;rw[Int.zero_add];have hS4:=s4.seq hS3;walk_at"go";exact hR _ (Same.refl _)
 .intro H4 s4;walk_at"go";rename_i pC HC nC SC eC;have eC':HC pC=some (.lst (((List.range 6).map λi:Nat=>fU ns (2+(i:Int))).map V.int)):=by rw[eC,List.map_map];rfl
  have eR:=SC _ _ (s4 _ _ e3);let Pv1:Nat->St->Hp->Prop:=λ_ σ' H'=>∃x3:Option V,σ'=[some (.ref a),some (.ref p),some (.str (Txt.join "\n" (aQ f l rz dd ps))),x3]/\Same HC H';refine aBk ((List.range 6).map λi:Nat=>fU ns (2+(i:Int))) Pv1 ⟨none,rfl,Same.refl _⟩ (λi σ' H' ⟨_,_,s'⟩=>SqL.of (s' _ _ eC')) ?_ ?_
  .rintro i c _ H5 hc ⟨x3,rfl,s5⟩;walk_at"go";refine⟨p,f,l,rz,dd,ps,c,rfl,s5 _ _ eR,hL,hM,λv H6 s6 hv=> ?_⟩;walk_at"go";refine aCs hv λH7 s7=> ?_;walk_at"go";exact⟨_,rfl,s5.trans (s6.trans s7)⟩
  .rintro _ H5 ⟨x3,rfl,s5⟩;walk_at"go";refine aAm hT λf2 l2 rz2 dd2 ps2 g2 ee2 h2 us2 H6 S6 hU2 hD2=> ?_;walk_at"go";refine ZO hT g2 ee2 hU2 hD2 λH7 S7=> ?_;walk_at"go";rw[decide_eq_true rfl];exact k _
end
theorem all_mk {l:W.OpenLaw}{h:Heap}{fa:Addr}(X:K.In h)(G:h.Ns mainGlobals mg)(hfa:mg "law" =some (.ref fa))
  {f0:Addr}
  {f1:Addr}
  {f2:Addr}
  {f3:Addr}
  {f4:Addr}
  {f5:Addr}
  {f6:Addr}
  {f7:Addr}
  {f8:Addr}
  {f9:Addr}
  {f10:Addr}
  {f11:Addr}
  {f12:Addr}
  {f13:Addr}
  {f14:Addr}
  {f15:Addr}
  {f16:Addr}
  {f17:Addr}
  {f18:Addr}
  {f19:Addr}
  {f20:Addr}
  {f21:Addr}
  {f22:Addr}
  {f23:Addr}
  {f24:Addr}
  {f25:Addr}
  {f26:Addr}
  {f27:Addr}
  {f28:Addr}
  {f29:Addr}
  {f30:Addr}
  {f31:Addr}
  {f32:Addr}
  {f33:Addr}
  {f34:Addr}
  {f35:Addr}
  {f36:Addr}
  {f37:Addr}
  {C38:Addr}
  {C39:Addr}
  {C40:Addr}
  {C41:Addr}
  {C42:Addr}
  {C43:Addr}
  {C44:Addr}
  {C45:Addr}
  {C46:Addr}
  {C47:Addr}
  {C48:Addr}
  {C49:Addr}
  {C50:Addr}
  {C51:Addr}
  {C52:Addr}
  {f53:Addr}
  {f54:Addr}
  {f55:Addr}
  {f56:Addr}
  {f57:Addr}
  {f58:Addr}
  {f59:Addr}
  {f60:Addr}
  {f61:Addr}
  {f62:Addr}
  {f63:Addr}
  {f64:Addr}
  {f65:Addr}
  {f66:Addr}
  {f67:Addr}
  {f68:Addr}
  {f69:Addr}
  {f70:Addr}
  {zaa zab:Option Addr}{zac:Array (Option Value)}{zad zae zaf zag zah zai:Value}
  {zaj zak:Option Addr}{zal:Array (Option Value)}{zam zan zao zap zaq zar:Value}
  {T89:Addr}
  {zas:Tok}
  {zat:Value}{zau:Option Addr}{zav:Nat}{zaw:Array (Option Value)}
  {zax zay:Option Addr}{zaz:Array (Option Value)}{zba zbb zbc zbd zbe zbf:Value}
  {zbg:Addr}
  {zbh:Tok}
  {zbi:Value}{zbj:Option Addr}{zbk:Nat}{zbl:Array (Option Value)}
  {zbm zbn:Option Addr}{zbo:Array (Option Value)}{zbp zbq zbr zbs zbt zbu:Value}
  {zbv:Addr}
  {zbw:Tok}
  {zbx:Value}{zby:Option Addr}{zbz:Nat}{zca:Array (Option Value)}
  {zcb:Tok}
  {zcc:Tok}
  {zcd:Addr}{zce:Nat}{zcf zcg:Int}{zch zci zcj zck:Tok}
  {zcl:Addr}{zcm:Nat}{zcn zco zcp zcq zcr:Int}{zcs zct zcu zcv zcw zcx zcy zcz zda zdb:Tok}
  (y0:W.nsIn K mainGlobals "is_whole" =some (some (.ref f0)))
  (y1:W.nsIn K mainGlobals "is_name" =some (some (.ref f1)))
  (y2:W.nsIn K mainGlobals "need_name" =some (some (.ref f2)))
  (y3:W.nsIn K mainGlobals "need_whole" =some (some (.ref f3)))
  (y4:W.nsIn K mainGlobals "row_of_words" =some (some (.ref f4)))
  (y5:W.nsIn K mainGlobals "need_turns" =some (some (.ref f5)))
  (y6:W.nsIn K mainGlobals "need_each_once" =some (some (.ref f6)))
  (y7:W.nsIn K mainGlobals "rooms_spoken_of" =some (some (.ref f7)))
  (y8:W.nsIn K mainGlobals "need_rooms" =some (some (.ref f8)))
  (y9:W.nsIn K mainGlobals "added_people" =some (some (.ref f9)))
  (y10:W.nsIn K mainGlobals "need_space" =some (some (.ref f10)))
  (y11:W.nsIn K mainGlobals "row_of" =some (some (.ref f11)))
  (y12:W.nsIn K mainGlobals "need_text" =some (some (.ref f12)))
  (y13:W.nsIn K mainGlobals "is_written_whole" =some (some (.ref f13)))
  (y14:W.nsIn K mainGlobals "read_whole" =some (some (.ref f14)))
  (y15:W.nsIn K mainGlobals "read_name" =some (some (.ref f15)))
  (y16:W.nsIn K mainGlobals "read_part" =some (some (.ref f16)))
  (y17:W.nsIn K mainGlobals "read_parts" =some (some (.ref f17)))
  (y18:W.nsIn K mainGlobals "door_round" =some (some (.ref f18)))
  (y19:W.nsIn K mainGlobals "door_by_itself" =some (some (.ref f19)))
  (y20:W.nsIn K mainGlobals "door_of_words" =some (some (.ref f20)))
  (y21:W.nsIn K mainGlobals "read_door" =some (some (.ref f21)))
  (y22:W.nsIn K mainGlobals "house_rows" =some (some (.ref f22)))
  (y23:W.nsIn K mainGlobals "house_text" =some (some (.ref f23)))
  (y24:W.nsIn K mainGlobals "parts_behind" =some (some (.ref f24)))
  (y25:W.nsIn K mainGlobals "made_house" =some (some (.ref f25)))
  (y26:W.nsIn K mainGlobals "house_of_rows" =some (some (.ref f26)))
  (y27:W.nsIn K mainGlobals "read_house" =some (some (.ref f27)))
  (y28:W.nsIn K mainGlobals "_law_cell_at" =some (some (.ref f28)))
  (y29:W.nsIn K mainGlobals "_law_drawn" =some (some (.ref f29)))
  (y30:W.nsIn K mainGlobals "_law_rows" =some (some (.ref f30)))
  (y31:W.nsIn K mainGlobals "_law_left_out" =some (some (.ref f31)))
  (y32:W.nsIn K mainGlobals "_law_put" =some (some (.ref f32)))
  (y33:W.nsIn K mainGlobals "_law_odd_row" =some (some (.ref f33)))
  (y34:W.nsIn K mainGlobals "_law_numbers" =some (some (.ref f34)))
  (y35:W.nsIn K mainGlobals "_law_spoiled" =some (some (.ref f35)))
  (y36:W.nsIn K mainGlobals "_law_refused" =some (some (.ref f36)))
  (y37:W.nsIn K mainGlobals "law" =some (some (.ref f37)))
  (y38:W.nsIn K mainGlobals "Door" =some (some (.ref C38)))
  (y39:W.nsIn K mainGlobals "Since" =some (some (.ref C39)))
  (y40:W.nsIn K mainGlobals "Until" =some (some (.ref C40)))
  (y41:W.nsIn K mainGlobals "Beat" =some (some (.ref C41)))
  (y42:W.nsIn K mainGlobals "Marked" =some (some (.ref C42)))
  (y43:W.nsIn K mainGlobals "Shut" =some (some (.ref C43)))
  (y44:W.nsIn K mainGlobals "Wider" =some (some (.ref C44)))
  (y45:W.nsIn K mainGlobals "House" =some (some (.ref C45)))
  (y46:W.nsIn K mainGlobals "OutError" =some (some (.ref C46)))
  (y47:W.nsIn K mainGlobals "NoDoor" =some (some (.ref C47)))
  (y48:W.nsIn K mainGlobals "NoHouse" =some (some (.ref C48)))
  (y49:W.nsIn K mainGlobals "NoTurn" =some (some (.ref C49)))
  (y50:W.nsIn K mainGlobals "NoText" =some (some (.ref C50)))
  (y51:W.nsIn K mainGlobals "Twice" =some (some (.ref C51)))
  (y52:W.nsIn K mainGlobals "NoRoom" =some (some (.ref C52)))
  (y53:Mk K C38 f55)
  (y54:Mk K C39 f58)
  (y55:Mk K C41 f60)
  (y56:Mk K C43 f62)
  (y57:Mk K C45 f64)
  (y58:Meth K C38 "is_exit" f56)
  (y59:Meth K C38 "words" f57)
  (y60:Meth K C39 "words" f59)
  (y61:Meth K C39 "is_exit" f56)
  (y62:Meth K C40 "is_exit" f56)
  (y63:Meth K C41 "words" f61)
  (y64:Meth K C41 "is_exit" f56)
  (y65:Meth K C42 "is_exit" f56)
  (y66:Meth K C43 "words" f63)
  (y67:Meth K C43 "is_exit" f56)
  (y68:Meth K C44 "is_exit" f56)
  (y69:Meth K C45 "rooms" f65)
  (y70:Meth K C45 "doors" f66)
  (y71:Meth K C45 "need_room" f67)
  (y72:Meth K C45 "holds" f68)
  (y73:Meth K C45 "found" f69)
  (y74:Meth K C45 "door" f70)
  (y75:W.findIn K (.ref C51) "__init__" =some (some (.ref f53)))
  (y76:W.findIn K (.ref C52) "__init__" =some (some (.ref f54)))
  (y77:FnL K "is_whole" "is_whole" uE f0)
  (y78:FnL K "is_name" "is_name" vN f1)
  (y79:FnL K "need_name" "need_name" rY f2)
  (y80:FnL K "need_whole" "need_whole" pJ f3)
  (y81:FnL K "row_of_words" "row_of_words" lQ f4)
  (y82:FnL K "need_turns" "need_turns" pV f5)
  (y83:FnL K "need_each_once" "need_each_once" jL f6)
  (y84:FnL K "rooms_spoken_of" "rooms_spoken_of" iY f7)
  (y85:FnL K "need_rooms" "need_rooms" qD f8)
  (y86:FnL K "added_people" "added_people" lJ f9)
  (y87:FnL K "need_space" "need_space" oX f10)
  (y88:FnL K "row_of" "row_of" zK f11)
  (y89:FnL K "need_text" "need_text" sJ f12)
  (y90:FnL K "is_written_whole" "is_written_whole" hJ f13)
  (y91:FnL K "read_whole" "read_whole" p9 f14)
  (y92:FnL K "read_name" "read_name" rZ f15)
  (y93:FnL K "read_part" "read_part" r9 f16)
  (y94:FnL K "read_parts" "read_parts" pX f17)
  (y95:FnL K "door_round" "door_round" pQ f18)
  (y96:FnL K "door_by_itself" "door_by_itself" jR f19)
  (y97:FnL K "door_of_words" "door_of_words" kI f20)
  (y98:FnL K "read_door" "read_door" r6 f21)
  (y99:FnL K "house_rows" "house_rows" pY f22)
  (zdc:FnL K "house_text" "house_text" qC f23)
  (zdd:FnL K "parts_behind" "parts_behind" lZ f24)
  (zde:FnL K "made_house" "made_house" o7 f25)
  (zdf:FnL K "house_of_rows" "house_of_rows" kG f26)
  (zdg:FnL K "read_house" "read_house" pH f27)
  (zdh:FnL K "_law_cell_at" "_law_cell_at" l8 f28)
  (zdi:FnL K "_law_drawn" "_law_drawn" qE f29)
  (zdj:FnL K "_law_rows" "_law_rows" sI f30)
  (zdk:FnL K "_law_left_out" "_law_left_out" j9 f31)
  (zdl:FnL K "_law_put" "_law_put" tZ f32)
  (zdm:FnL K "_law_odd_row" "_law_odd_row" lW f33)
  (zdn:FnL K "_law_numbers" "_law_numbers" lL f34)
  (zdo:FnL K "_law_spoiled" "_law_spoiled" lN f35)
  (zdp:FnL K "_law_refused" "_law_refused" lT f36)
  (zdq:K.lookup f37=some ⟨zad,zaa,.func (W.fnOf "law" "law" (eQ rH) (c8 rH) (aH rH) .none zae zaf zag zab zah zai),zac⟩)
  (zdr:W.codeIn K zah "law" =true)
  (zds:W.keepIn K (.ref f37)=true)
  (zdt:FnL K "__init__" "Twice.__init__" jP f53)
  (zdu:FnL K "__init__" "NoRoom.__init__" iX f54)
  (zdv:K.lookup f55=some ⟨zam,zaj,.func (W.fnOf "__init__" "Door.__init__" (eQ eU) (c8 eU) (aH eU) (.ref T89) zan zao zap zak zaq zar),zal⟩)
  (zdw:W.codeIn K zaq "Door.__init__" =true)
  (zdx:W.keepIn K (.ref f55)=true)
  (zdy:K.lookup T89=some ⟨zat,zau,.seq #[.none,.int 1 zas] zav,zaw⟩)
  (zdz:FnL K "is_exit" "Door.is_exit" lO f56)
  (zea:FnL K "words" "Door.words" pI f57)
  (zeb:FnL K "__init__" "Since.__init__" jJ f58)
  (zec:FnL K "words" "Since.words" nJ f59)
  (zed:K.lookup f60=some ⟨zba,zax,.func (W.fnOf "__init__" "Beat.__init__" (eQ eV) (c8 eV) (aH eV) (.ref zbg) zbb zbc zbd zay zbe zbf),zaz⟩)
  (zee:W.codeIn K zbe "Beat.__init__" =true)
  (zef:W.keepIn K (.ref f60)=true)
  (zeg:K.lookup zbg=some ⟨zbi,zbj,.seq #[.int 0 zbh] zbk,zbl⟩)
  (zeh:FnL K "words" "Beat.words" oZ f61)
  (zei:FnL K "__init__" "Shut.__init__" kD f62)
  (zej:FnL K "words" "Shut.words" o9 f63)
  (zek:K.lookup f64=some ⟨zbp,zbm,.func (W.fnOf "__init__" "House.__init__" (eQ eI) (c8 eI) (aH eI) (.ref zbv) zbq zbr zbs zbn zbt zbu),zbo⟩)
  (zel:W.codeIn K zbt "House.__init__" =true)
  (zem:W.keepIn K (.ref f64)=true)
  (zen:K.lookup zbv=some ⟨zbx,zby,.seq #[.int 0 zbw] zbz,zca⟩)
  (zeo:FnL K "rooms" "House.rooms" nK f65)
  (zep:FnL K "doors" "House.doors" nI f66)
  (zeq:FnL K "need_room" "House.need_room" iW f67)
  (zer:FnL K "holds" "House.holds" nM f68)
  (zes:FnL K "found" "House.found" m7 f69)
  (zet:FnL K "door" "House.door" pF f70)
  (zeu:DCls K C38)
  (zev:DCls K C39)
  (zew:DCls K C40)
  (zex:DCls K C41)
  (zey:DCls K C42)
  (zez:DCls K C43)
  (zfa:DCls K C44)
  (zfb:DCls K C45)
  (zfc:W.specialIn K (.ref C38) "__getattribute__" =some (some (.builtin "type.__getattribute__")))
  (zfd:W.readsIn K C38 (.type "type")=true)
  (zfe:W.findCls K (.ref C38) (.type "type") "__init__" =some (.val (.ref f55)))
  (zff:W.nsIn K mainGlobals "ValueError" =some none)
  (zfg:W.nsIn K mainGlobals "any" =some none)
  (zfh:W.nsIn K mainGlobals "int" =some none)
  (zfi:W.nsIn K mainGlobals "tuple" =some none)
  (zfj:W.nsIn K mainGlobals "reversed" =some none)
  (zfk:W.nsIn K mainGlobals "range" =some none)
  (zfl:W.nsIn K mainGlobals "isinstance" =some none)
  (zfm:W.nsIn K mainGlobals "str" =some none)
  (zfn:W.nsIn K mainGlobals "all" =some none)
  (zfo:W.nsIn K mainGlobals "dict" =some none)
  (zfp:W.nsIn K mainGlobals "list" =some none)
  (zfq:W.nsIn K mainGlobals "len" =some none)
  (zfr:W.nsIn K mainGlobals "bool" =some none)
  (zfs:W.nsIn K mainGlobals "zip" =some none)
  (zft:W.nsIn K mainGlobals "LONGEST_NAME" =some (some (.int 8 zcb)))
  (zfu:W.nsIn K mainGlobals "MOST_FIGURES" =some (some (.int 60 zcc)))
  (zfv:W.excIn K C48 bmV "ValueError.__new__" =true)
  (zfw:ExcK K C48)
  (zfx:W.excIn K C49 bmV "ValueError.__new__" =true)
  (zfy:ExcK K C49)
  (zfz:W.excIn K C50 bmV "ValueError.__new__" =true)
  (zga:ExcK K C50)
  (zgb:zI K C51 f53=true)
  (zgc:ExcK K C51)
  (zgd:oT K C51=true)
  (zge:W.findIn K (.ref C51) "__setattr__" =some (some (.builtin "object.__setattr__")))
  (zgf:W.findIn K (.ref C51) "name" =some none)
  (zgg:zI K C52 f54=true)
  (zgh:ExcK K C52)
  (zgi:oT K C52=true)
  (zgj:W.findIn K (.ref C52) "__setattr__" =some (some (.builtin "object.__setattr__")))
  (zgk:W.findIn K (.ref C52) "name" =some none)
  (zgl:W.exmOne K (.ref C48) (.ref C46)=some true)
  (zgm:W.exmOne K (.ref C49) (.ref C46)=some true)
  (zgn:W.exmOne K (.ref C50) (.ref C46)=some true)
  (zgo:W.exmOne K (.ref C51) (.ref C46)=some true)
  (zgp:W.exmOne K (.ref C52) (.ref C46)=some true)
  (zgq:W.exmOne K (.ref C50) (.ref C47)=some false)
  (zgr:W.kitOne K (.ref C50) (.ref C47)=some false)
  (zgs:W.kitOne K (.ref C50) (.ref C48)=some false)
  (zgt:W.kitOne K (.ref C50) (.ref C49)=some false)
  (zgu:W.kitOne K (.ref C50) (.ref C51)=some false)
  (zgv:W.kitOne K (.ref C50) (.ref C52)=some false)
  (zgw:W.kitOne K (.ref C50) (.type "ValueError")=some true)
  (zgx:W.nsIn K mainGlobals "WORDS_ROUND" =some (some (.ref zcd)))
  (zgy:K.lookup zcd=some ⟨.type "dict",none,.dict #[⟨zcf,.str "shut" zch,.int 2 zcj⟩,⟨zcg,.str "wider" zci,.int 3 zck⟩] zce,#[]⟩)
  (zgz:(zcd==sysModules)=false)
  (zha:zcf=hashStr w "shut")
  (zhb:zcg=hashStr w "wider")
  (zhc:W.nsIn K mainGlobals "WORDS_IN_ALL" =some (some (.ref zcl)))
  (zhd:K.lookup zcl=some ⟨.type "dict",none,.dict #[⟨zcn,.str "door" zcs,.int 5 zcx⟩,⟨zco,.str "since" zct,.int 6 zcy⟩,⟨zcp,.str "until" zcu,.int 6 zcz⟩,⟨zcq,.str "beat" zcv,.int 7 zda⟩,⟨zcr,.str "marked" zcw,.int 6 zdb⟩] zcm,#[]⟩)
  (zhe:(zcl==sysModules)=false)
  (zhf:zcn=hashStr w "door")
  (zhg:zco=hashStr w "since")
  (zhh:zcp=hashStr w "until")
  (zhi:zcq=hashStr w "beat")
  (zhj:zcr=hashStr w "marked") :
  ∃fd:FuncData,(∀(s:Shared) (v:Value),BindsTo s fd ⟨[v],[]⟩ [("_law_script",v)])/\∀base:Heap,K.In base->base.Ns mainGlobals mg->FnOk l.prog w K mg base CX0 24 fa fd ["_law_script"] (vX K):=by
 have e:=hfa.symm.trans (W.mg_of X G y37);cases e;exact⟨(W.fnOf "law" "law" (eQ rH) (c8 rH) (aH rH) .none zae zaf zag zab zah zai),λs v=> .of_eq rfl,λbase _ _=>aDy ⟨f0,y77.x1 λ_ _ _ _ _ _ _=>rfl,
  f1,y78.x1 λ_ _ _ _ _ _ _=>rfl,
  f2,y79.x2 λ_ _ _ _ _ _ _ _=>rfl,
  f3,y80.x3 λ_ _ _ _ _ _ _ _ _=>rfl,
  f4,y81.x3 λ_ _ _ _ _ _ _ _ _=>rfl,
  f5,y82.x2 λ_ _ _ _ _ _ _ _=>rfl,
  f6,y83.x1 λ_ _ _ _ _ _ _=>rfl,
  f7,y84.x2 λ_ _ _ _ _ _ _ _=>rfl,
  f8,y85.x2 λ_ _ _ _ _ _ _ _=>rfl,
  f9,y86.x2 λ_ _ _ _ _ _ _ _=>rfl,
  f10,y87.x2 λ_ _ _ _ _ _ _ _=>rfl,
  f11,y88.x1 λ_ _ _ _ _ _ _=>rfl,
  f12,y89.x1 λ_ _ _ _ _ _ _=>rfl,
  f13,y90.x1 λ_ _ _ _ _ _ _=>rfl,
  f14,y91.x1 λ_ _ _ _ _ _ _=>rfl,
  f15,y92.x1 λ_ _ _ _ _ _ _=>rfl,
  f16,y93.x2 λ_ _ _ _ _ _ _ _=>rfl,
  f17,y94.x2 λ_ _ _ _ _ _ _ _=>rfl,
  f18,y95.x2 λ_ _ _ _ _ _ _ _=>rfl,
  f19,y96.x1 λ_ _ _ _ _ _ _=>rfl,
  f20,y97.x1 λ_ _ _ _ _ _ _=>rfl,
  f21,y98.x1 λ_ _ _ _ _ _ _=>rfl,
  f22,y99.x1 λ_ _ _ _ _ _ _=>rfl,
  f23,zdc.x1 λ_ _ _ _ _ _ _=>rfl,
  f24,zdd.x3 λ_ _ _ _ _ _ _ _ _=>rfl,
  f25,zde.x1 λ_ _ _ _ _ _ _=>rfl,
  f26,zdf.x1 λ_ _ _ _ _ _ _=>rfl,
  f27,zdg.x1 λ_ _ _ _ _ _ _=>rfl,
  f28,zdh.x2 λ_ _ _ _ _ _ _ _=>rfl,
  f29,zdi.x2 λ_ _ _ _ _ _ _ _=>rfl,
  f30,zdj.x1 λ_ _ _ _ _ _ _=>rfl,
  f31,zdk.x2 λ_ _ _ _ _ _ _ _=>rfl,
  f32,zdl.x3 λ_ _ _ _ _ _ _ _ _=>rfl,
  f33,zdm.x2 λ_ _ _ _ _ _ _ _=>rfl,
  f34,zdn.x2 λ_ _ _ _ _ _ _ _=>rfl,
  f35,zdo.x2 λ_ _ _ _ _ _ _ _=>rfl,
  f36,zdp.x1 λ_ _ _ _ _ _ _=>rfl,
  fa,_,sZ zdq zdr zds,(.all (by rintro us h;obtain _|⟨_,_|⟨_,us⟩⟩:=us<;>first|(cases h;done)|rfl)),
  f53,zdt.x2 λ_ _ _ _ _ _ _ _=>rfl,
  f54,zdu.x2 λ_ _ _ _ _ _ _ _=>rfl,
  f55,_,sZ zdv zdw zdx,(lU (ds:=[]) 5 zdy (by rintro us h;obtain _|⟨_,_|⟨_,_|⟨_,_|⟨_,_|⟨_,_|⟨_,us⟩⟩⟩⟩⟩⟩:=us<;>first|(cases h;done)|exact⟨_,rfl,rfl⟩)),
  f56,zdz.x1 λ_ _ _ _ _ _ _=>rfl,
  f57,zea.x1 λ_ _ _ _ _ _ _=>rfl,
  f58,zeb.x6 λ_ _ _ _ _ _ _ _ _ _ _ _=>rfl,
  f59,zec.x1 λ_ _ _ _ _ _ _=>rfl,
  f60,_,sZ zed zee zef,(lU (ds:=[]) 7 zeg (by rintro us h;obtain _|⟨_,_|⟨_,_|⟨_,_|⟨_,_|⟨_,_|⟨_,_|⟨_,_|⟨_,us⟩⟩⟩⟩⟩⟩⟩⟩:=us<;>first|(cases h;done)|exact⟨_,rfl,rfl⟩)),
  f61,zeh.x1 λ_ _ _ _ _ _ _=>rfl,
  f62,zei.x3 λ_ _ _ _ _ _ _ _ _=>rfl,
  f63,zej.x1 λ_ _ _ _ _ _ _=>rfl,
  f64,_,sZ zek zel zem,(lU (ds:=[]) 6 zen (by rintro us h;obtain _|⟨_,_|⟨_,_|⟨_,_|⟨_,_|⟨_,_|⟨_,_|⟨_,us⟩⟩⟩⟩⟩⟩⟩:=us<;>first|(cases h;done)|exact⟨_,rfl,rfl⟩)),
  f65,zeo.x1 λ_ _ _ _ _ _ _=>rfl,
  f66,zep.x1 λ_ _ _ _ _ _ _=>rfl,
  f67,zeq.x2 λ_ _ _ _ _ _ _ _=>rfl,
  f68,zer.x2 λ_ _ _ _ _ _ _ _=>rfl,
  f69,zes.x2 λ_ _ _ _ _ _ _ _=>rfl,
  f70,zet.x2 λ_ _ _ _ _ _ _ _=>rfl,
  W.mg_of X G y0,
  W.mg_of X G y1,
  W.mg_of X G y2,
  W.mg_of X G y3,
  W.mg_of X G y4,
  W.mg_of X G y5,
  W.mg_of X G y6,
  W.mg_of X G y7,
  W.mg_of X G y8,
  W.mg_of X G y9,
  W.mg_of X G y10,
  W.mg_of X G y11,
  W.mg_of X G y12,
  W.mg_of X G y13,
  W.mg_of X G y14,
  W.mg_of X G y15,
  W.mg_of X G y16,
  W.mg_of X G y17,
  W.mg_of X G y18,
  W.mg_of X G y19,
  W.mg_of X G y20,
  W.mg_of X G y21,
  W.mg_of X G y22,
  W.mg_of X G y23,
  W.mg_of X G y24,
  W.mg_of X G y25,
  W.mg_of X G y26,
  W.mg_of X G y27,
  W.mg_of X G y28,
  W.mg_of X G y29,
  W.mg_of X G y30,
  W.mg_of X G y31,
  W.mg_of X G y32,
  W.mg_of X G y33,
  W.mg_of X G y34,
  W.mg_of X G y35,
  W.mg_of X G y36,
  W.mg_of X G y37,
  ⟨[.int 1 zas],.cons ⟨_,rfl⟩ (.nil),lU 4 zdy (by rintro us h;obtain _|⟨_,_|⟨_,_|⟨_,_|⟨_,_|⟨_,us⟩⟩⟩⟩⟩:=us<;>first|(cases h;done)|exact⟨_,rfl,rfl⟩)⟩,
  ⟨[.none,.int 1 zas],.cons rfl (.cons ⟨_,rfl⟩ (.nil)),lU 3 zdy (by rintro us h;obtain _|⟨_,_|⟨_,_|⟨_,_|⟨_,us⟩⟩⟩⟩:=us<;>first|(cases h;done)|exact⟨_,rfl,rfl⟩)⟩,
  ⟨[.int 0 zbh],.cons ⟨_,rfl⟩ (.nil),lU 6 zeg (by rintro us h;obtain _|⟨_,_|⟨_,_|⟨_,_|⟨_,_|⟨_,_|⟨_,_|⟨_,us⟩⟩⟩⟩⟩⟩⟩:=us<;>first|(cases h;done)|exact⟨_,rfl,rfl⟩)⟩,
  ⟨[.int 0 zbw],.cons ⟨_,rfl⟩ (.nil),lU 5 zen (by rintro us h;obtain _|⟨_,_|⟨_,_|⟨_,_|⟨_,_|⟨_,_|⟨_,us⟩⟩⟩⟩⟩⟩:=us<;>first|(cases h;done)|exact⟨_,rfl,rfl⟩)⟩,
  C38,W.mg_of X G y38,
  C39,W.mg_of X G y39,
  C40,W.mg_of X G y40,
  C41,W.mg_of X G y41,
  C42,W.mg_of X G y42,
  C43,W.mg_of X G y43,
  C44,W.mg_of X G y44,
  C45,W.mg_of X G y45,
  C46,W.mg_of X G y46,
  C47,W.mg_of X G y47,
  C48,W.mg_of X G y48,
  C49,W.mg_of X G y49,
  C50,W.mg_of X G y50,
  C51,W.mg_of X G y51,
  C52,W.mg_of X G y52,
  zeu,
  y53,
  y58,
  y59,
  zev,
  y54,
  y60,
  y61,
  zew,
  y62,
  zex,
  y55,
  y63,
  y64,
  zey,
  y65,
  zez,
  y56,
  y66,
  y67,
  zfa,
  y68,
  zfb,
  y57,
  y69,
  y70,
  y71,
  y72,
  y73,
  y74,
  ⟨zfc,zfd,zfe⟩,
  zfv,
  zfw,
  zfx,
  zfy,
  zfz,
  zga,
  zgb,⟨zgc,zgd,zge⟩,zgf,
  zgg,⟨zgh,zgi,zgj⟩,zgk,
  zgl,
  zgm,
  zgn,
  zgo,
  zgp,
  zgq,
  zgr,
  zgs,
  zgt,
  WE,
  zgu,
  zgv,
  zgw,
  W.mg_none_of X G zff,
  W.mg_none_of X G zfg,
  W.mg_none_of X G zfh,
  W.mg_none_of X G zfi,
  W.mg_none_of X G zfj,
  W.mg_none_of X G zfk,
  W.mg_none_of X G zfl,
  W.mg_none_of X G zfm,
  W.mg_none_of X G zfn,
  W.mg_none_of X G zfo,
  W.mg_none_of X G zfp,
  W.mg_none_of X G zfq,
  W.mg_none_of X G zfr,
  W.mg_none_of X G zfs,
  zcd,W.mg_of X G zgx,⟨zgz,_,_,_,[(.inr "shut",.int 2 zcj),(.inr "wider",.int 3 zck)],zgy,⟨rfl,rfl,rfl⟩,rfl,λP=>⟨λe he=>(by
   simp only[List.mem_toArray,List.mem_cons,List.not_mem_nil,or_false]at he;rcases he with rfl|rfl
   .exact⟨.inr "shut",cC _ zch,zha⟩
   .exact⟨.inr "wider",cC _ zci,zhb⟩),(.cons (cC _ zch) rfl (.cons (cC _ zci) rfl .nil))⟩,(by simp only[List.map_cons,List.map_nil];decide +kernel),(.cons ⟨rfl,⟨_,rfl⟩⟩ (.cons ⟨rfl,⟨_,rfl⟩⟩ .nil))⟩,
  zcl,W.mg_of X G zhc,⟨zhe,_,_,_,[(.inr "door",.int 5 zcx),(.inr "since",.int 6 zcy),(.inr "until",.int 6 zcz),(.inr "beat",.int 7 zda),(.inr "marked",.int 6 zdb)],zhd,⟨rfl,rfl,rfl⟩,rfl,λP=>⟨λe he=>(by
   simp only[List.mem_toArray,List.mem_cons,List.not_mem_nil,or_false]at he;rcases he with rfl|rfl|rfl|rfl|rfl
   .exact⟨.inr "door",cC _ zcs,zhf⟩
   .exact⟨.inr "since",cC _ zct,zhg⟩
   .exact⟨.inr "until",cC _ zcu,zhh⟩
   .exact⟨.inr "beat",cC _ zcv,zhi⟩
   .exact⟨.inr "marked",cC _ zcw,zhj⟩),(.cons (cC _ zcs) rfl (.cons (cC _ zct) rfl (.cons (cC _ zcu) rfl (.cons (cC _ zcv) rfl (.cons (cC _ zcw) rfl .nil)))))⟩,(by simp only[List.map_cons,List.map_nil];decide +kernel),(.cons ⟨rfl,⟨_,rfl⟩⟩ (.cons ⟨rfl,⟨_,rfl⟩⟩ (.cons ⟨rfl,⟨_,rfl⟩⟩ (.cons ⟨rfl,⟨_,rfl⟩⟩ (.cons ⟨rfl,⟨_,rfl⟩⟩ .nil)))))⟩,
  ⟨zcb,W.mg_of X G zft⟩,
  ⟨zcc,W.mg_of X G zfu⟩⟩⟩
theorem walk {l:W.OpenLaw}{q:Program}{loose:List Str}{XP:(Str->Option Value)->Heap->Prop}{YP:World->Heap->Prop}{d:DefRec}{K:Params->W.Frag}(hn:l.most=some 63)(hdf:d.params.defaults=[])
  (hY:∀(w:World) (h:Heap),YP w h->(K w.params).In h)
  (F:∀(w:World) (mg:Str->Option Value) (fa:Addr) (h:Heap),(K w.params).In h->h.Ns mainGlobals mg->mg d.name=some (.ref fa) →
   ∃fd:FuncData,(∀(s:Shared) (u:Value),BindsTo s fd ⟨[u],[]⟩ [("_law_script",u)])/\∀base:Heap,(K w.params).In base->base.Ns mainGlobals mg->FnOk l.prog w (K w.params) mg base CX0 24 fa fd ["_law_script"] (vX (K w.params))) :
  W.WalkO q loose XP YP l.row.toRowW d [] (λf vs=>PySem.call f vs) :=
 L2.walk_of (n:=63) (k:=24) (x:= "_law_script") (CX:=λ_=>CX0) (sp:=λw=>vX (K w.params)) hn (by decide) hdf ⟨rfl,by decide,by decide⟩ hY F (λ_ _ a ns hl _ hS=>⟨a,ns,rfl,hS,hl,λ_=>rfl⟩) λ_ _ _ _ _ z=>z
end Prf
open PySem.W PyProof.Rows
set_option maxRecDepth 100000 in
set_option maxHeartbeats 0 in
theorem PySem.Challenge.cw_firstout_k73_texts_that_are_no_house_holds : PySem.Challenge.rw_firstout_k73_texts_that_are_no_house.Holds := by
 w_on;o_law;k_head;(case hw=>w_witness2)
 k_fill
 refine Prf.walk (l:=PySem.Challenge.rw_firstout_k73_texts_that_are_no_house) rfl rfl (λw h Y=>W.kIn_of Y) ?F
 case F =>
  intro w mg fa h KX G hmg;refine' Prf.all_mk KX G hmg ?_ ?_ ?_ ?_ ?_ ?_ ?_ ?_ ?_ ?_ ?_ ?_ ?_ ?_ ?_ ?_ ?_ ?_ ?_ ?_ ?_ ?_ ?_ ?_ ?_ ?_ ?_ ?_ ?_ ?_ ?_ ?_ ?_ ?_ ?_ ?_ ?_ ?_ ?_ ?_ ?_ ?_ ?_ ?_ ?_ ?_ ?_ ?_ ?_ ?_ ?_ ?_ ?_ ?_ ?_ ?_ ?_ ?_ ?_ ?_ ?_ ?_ ?_ ?_ ?_ ?_ ?_ ?_ ?_ ?_ ?_ ?_ ?_ ?_ ?_ ?_ ?_ ?_ ?_ ?_ ?_ ?_ ?_ ?_ ?_ ?_ ?_ ?_ ?_ ?_ ?_ ?_ ?_ ?_ ?_ ?_ ?_ ?_ ?_ ?_ ?_ ?_ ?_ ?_ ?_ ?_ ?_ ?_ ?_ ?_ ?_ ?_ ?_ ?_ ?_ ?_ ?_ ?_ ?_ ?_ ?_ ?_ ?_ ?_ ?_ ?_ ?_ ?_ ?_ ?_ ?_ ?_ ?_ ?_ ?_ ?_ ?_ ?_ ?_ ?_ ?_ ?_ ?_ ?_ ?_ ?_ ?_ ?_ ?_ ?_ ?_ ?_ ?_ ?_ ?_ ?_ ?_ ?_ ?_ ?_ ?_ ?_ ?_ ?_ ?_ ?_ ?_ ?_ ?_ ?_ ?_ ?zfv ?_ ?zfx ?_ ?zfz ?_ ?zgb ?_ ?zgd ?_ ?_ ?zgg ?_ ?zgi ?_ ?_ ?_ ?_ ?_ ?_ ?_ ?_ ?_ ?_ ?_ ?_ ?_ ?_ ?_ ?_ ?zgz ?zha ?zhb ?_ ?_ ?zhe ?zhf ?zhg ?zhh ?zhi ?zhj
  any_goals first|k_is|(apply L2.FnL.mk<;>k_is)|exact L2.FnL.mk (by k_is) (by k_is) (by k_is)|(apply L2.Meth.mk<;>k_is)|(apply L2.Mk.mk<;>k_is)|(apply L2.exm_mk<;>k_is)|(apply L2.kit_ne<;>first|k_is|rfl)|(apply L2.kit_vt L2.kitMeta_ValueError;k_is)|(apply L2.ExcK.mk<;>first|k_is|exact⟨_,by k_is⟩)|(refine' Prf.DCls.mk (L2.ICls.mk (L2.Cls.mk ?_ ?_ ?_ ?_) ?_ ?_ ?_ ?_) ?_<;>first|k_is|kernel_rfl)|skip
  (case zfv=>k_exc)
  (case zfx=>k_exc)
  (case zfz=>k_exc)
  (case zgb=>kernel_rfl)
  (case zgd=>kernel_rfl)
  (case zgg=>kernel_rfl)
  (case zgi=>kernel_rfl)
  (case zgz=>rfl)
  (case zha=>rfl)
  (case zhb=>rfl)
  (case zhe=>rfl)
  (case zhf=>rfl)
  (case zhg=>rfl)
  (case zhh=>rfl)
  (case zhi=>rfl)
  (case zhj=>rfl)
