import PyProof.Rows.All
import Wide.Line
import Wide.Once
import Wide.Tac
import OpenK.KOwn
import KE.KIsAll
import KE.KTryMore
import Open.Line
import Wide.FinOn
import Lean
import PyProof.EqAt
import PyProof.EqKinds
import PyProof.TupleCall
import KE.KSortTup
import PyProof.Rows.DictUnroll
import PyProof.DictItems
import KE.LcSums
import PyProof.IsiH_list
import KE.KDictOf
import PyProof.DictWalks
import PyProof.ListRange
import PyProof.EnumStmt
import PyProof.EnumMake
import KE.KDictSum
import PyProof.StrOps2
import PyProof.Rows.CallKwBuiltin
import KE.KRevSl
import PyProof.Rows.SetFrom
import KE.KRevIter
import PyProof.Rows.MatchSeqLen
import KE.KIntText
import PyProof.MeetsStr2
import PyProof.StrLawsChain
import PyProof.StrLawsTight
import PyProof.TupleIter
import PyProof.ZipIter
import PySem.Challenge.RW_firstout_k77_nine_refusals
open PySem renaming wpAny_bind->aa,Value->af,mainGlobals->ah,wpAny_pure->ai,Shared->aj,wpAny->ax,starEach->az,model->be,sizeLine_eq->bq,wpAny_mono->bu,Paired->cg,wpAny_field->cw,bootBuiltins->dv,wpAny_holding->dy,Program->ef,compareOp->fe,backTo->fh,wpAny_setField->fq,wpAny_truthy_bool->ft,wpAny_newObj_type->fu,World->gd,wpAny_loadPart_at->gj,sysModules->gq,wpAny_standAt->gu,wpAny_Call_Name_kw->gz,wpAny_call_entry->ia,wpAny_callSpecial?_slot->ib,codeAny->iu,wpAny_typeNameOfWhole_keyiter->ix,wpAny_seqItems->iy,mem_of_lookup->ja,foldedSetIterable->ji,codeAny_mono->jj,codeAny_call_builtin->jr,attributeBase->jt,wpAny_typeNameOf_keyiter->jw,Around->jx,wpAny_execs_cons->jy,FuncData->jz,noteFrame->ka,wpAny_isInstance->kc,keywordEach->kh,tupleKind_room_in1->kq,wpAny_setField_rec->ky,wpAny_execs_nil->kz,DictEntry->lj,wpAny_pyIter_list->lu,leaving->lx,firstArgMember->mj,swapsWith->mn,wpAny_passesOwn->ni,Builtin->nq,wpAny_ite_split->nu,cLine->nz,sliceBounds->og,excClassObj->oh,wpAny_throw->oj,hashStr->ow,NameKind->ox,relabel->pd,call_meetsIn->pq,wpAny_typeOf->px,plainObj_wpAny_Assign_Attribute->qf,wpAny_isOneOf_keyiter->qh,builtinLookup_eq_fast->qi,assignEach->qj,getMethod->ql,wpAny_call->qm,typeLookup->qo,wpAny_rule->qu,IsPair->qv,behindInMarks->qx,wpAny_attempt->qz,binaryOp->rg,backToKw->ri,unsetMember->rk,pyNext->rl,letOwnedTupleGo->rm,wpAny_isSubtype_exc->sf,setFlight->sv,callWith->tj,setField->tq,wpAny_fieldsOf->tu,Scope->ud,notedBy->ug,wpAny_dictEntries->uj,wpAny_Call_ofName->uk,assign->uo,wpAny_comprehension_free->uq,wpAny_handled->ur,plainId_quiet->uu,tupleKind->uy,compEnvC->vc,wpAny_comp_letGo->vk,holding->vt,Model->vz,codeAny_builtin->wc,wpAny_dictEpoch->we,typeLookup_type->wj,wpAny_updateSeq->wm,GenState->wy,wpAny_Expr_any->xb,subscripted->xc,typeOf->xg,newFunctionEnv->xh,wpAny_of_eq->xk,raiseNew->xl,IsZip->xp,standAt->xr,Keyword->xu,callerA->xv,valueAt->xx,Result->yg,typeIs_str->yh,Within->yk
open PySem.Heap renaming get?_push_of_some->ae,lt_size->ag,get?_push_size->aw,get?_update_other->bf,get?_update_self->ck,SameBut->ie,size_push->ig,MadeExcOf->ph,get?_none_of_le->xa,get?_push_cases->xm
open List renaming length_map->ao,getElem?_eq_getElem->aq,getElem?_eq_some_iff->ay,mem_cons->ba,mem_append_right->bc,mem_map->bg,mem_singleton->bj,size_toArray->br,mem_cons_of_mem->bx,mem_of_getElem?->bz,length_append->cb,getD_eq_getElem?_getD->cf,length_cons->cv,mem_cons_self->cy,not_mem_nil->cz,getElem?_map->dk,map_cons->dm,length_filter_le->dq,map_append->du,lookup_cons->dz,nodup_cons->eg,mem_filter->fb,mem_append->fc,take_length->fg,map_map->fk,length_take->fm,range->fz,all_eq_true->gh,mem_append_left->gk,append_nil->gw,nodup_nil->ij,lookup->il,length_nil->ip,getElem?_append_left->ir,filterMap_cons->iz,any_cons->jf,getElem?_append_right->jh,filter_cons_of_pos->ke,mem_filterMap->ko,filter_append->ku,find?_cons->lb,mem_zipIdx_iff_getElem?->lg,all_cons->lh,append_assoc->me,getElem?_set_ne->mf,any_eq_true->mw,mem_of_find?_eq_some->mx,filter_cons_of_neg->om,replicate->oy,range_succ_eq_map->pe,drop_of_length_le->pz,take_of_length_le->qc,filter_eq_nil_iff->qe,map_congr_left->se,getElem_of_mem->sg,contains_cons->tw,find?_eq_none->tz,drop_eq_getElem_cons->ua,any_eq_false->ue,pairwise_map->um,getElem?_replicate->uz,length_drop->vb,pairwise_singleton->vj,length_eq_zero_iff->vp,getElem?_set_self->vq,append_eq_nil_iff->vy,of_mem_zip->wa,forIn_cons->wb,sum_append->wk,length_replicate->wo,getElem?_eq_none->wt,flatten_append->xy,filter_eq_self->ya,take_nil->yb,map_nil->yn
open Nat renaming le_refl->ar,lt_of_lt_of_le->au,le_trans->bo,ne_of_lt->bp,lt_irrefl->bt,zero_le->gi,le_succ->jk,toDigits->jo,le_of_lt->kj,ne_of_gt->km,lt_succ_self->mo,lt_of_succ_lt_succ->pw,mul_le_mul->qb,le_of_eq->si,lt_succ_of_lt->uh,le_add_right->vn,toDigits_of_lt_base->vo,not_lt_zero->wg
open PySem.Value renaming ref->av,none->bw,builtin->iw,type->ki,int->sq,str->sr,bool->sy,float->yr
open Bool renaming false_ne_true->bh,and_eq_true->cq,false_eq_true->gm,false_and->mh,eq_iff_iff->nj,not_eq_true'->pj,true_and->rf,or_true->yo
open PySem.Obj renaming mapFields->cc,data_mapFields->cu,isFreed_of_fields->df,cls_mapFields->js,mapSeq->ju
open PySem.Paired renaming length->cj
open Option.some renaming inj->cp
open Ne renaming symm->dg
open False renaming elim->dh
open Array renaming getElem?_eq_some_iff->dj,length_toList->fj,getElem?_setIfInBounds_ne->iq,mem_toList_iff->rh,getElem?_toList->wu,find?_toList->yf
open PySem.Builtin.SmallTypes renaming nextOf->fw,ownedTupleIsFree->gv,ownedTupleHandOut->mz
open Option renaming map_eq_some_iff->gb,isSome_iff_exists->nc,map_some->rp,isSome_map->ui,getD_some->vd
open PySem.F renaming slot_str_split->gc,excBase_ValueError->gn,plainAttrs_str->gp,slot_tuple_iterator_next->ik,type_str_split->je,plainAttrs_list->kf,slot_zip_next->ls,slot_str_startswith->md,args_str_split_2->nh,args_tuple_iterator_next_1->ny,entry_str_split->oo,entry_tuple_iterator_next->ou,slot_dict_get->qg,type_str_startswith->sk,slot_list_append->uw,type_list_append->ux,args_dict_get_3->vf,args_zip_next_1->vm,entry_dict_get->vv,entry_zip_next->vx
open PySem.NameKind renaming free->gf,cell->qy
open PySem.Txt renaming split->gr,slice->xw
open PySem.PassesOwn renaming never->gy
open PySem.Heap.SameBut renaming update->jb
open PyProof.Rows renaming callWith_type1->jc,seqObj->lq,SortKind->mi,AllBare->qw,envOfC->rn
open PySem.Builtin.List renaming listExtendWith->jd,listTooLong->ng,listLengthHint->sj,listSameRef->uv,listUpdate->vg,listItems->vw
open True renaming intro->jg
open PySem.Calls renaming evalArgs_plain->jm,spliced_cons->nv,callWith_builtin->oz,Name_function_global->tf,spliced_nil->uf,Constant_str->ye
open PySem.Str renaming ofString->jq,join->ml,empty->xt
open List.cons renaming inj->jv
open Sum.inr renaming inj->kg
open ForInStep renaming yield->la
open Int renaming toNat_natCast->ly,add_zero->yq
open PySem.W renaming hideAll->ma,looks_findIn->mq,findIn->qr,hideAll_get->xi,funFrames_hide->xj,of_hideAll->yi
open Sum renaming inr->mm,inl->uc
open PySem.EntryCells renaming newEntry->my
open PySem.Builtin.ObjectAttr renaming storeInOwnDict->oq
open PySem.PyData renaming keyHash->qa
open PySem.SeqAt renaming EqAt->qq
open String renaming length_toList->rj
open PySem.SeqAt.EqAt renaming same->ro,int_str->yc,str_int->yd,of_refs->yj
open PySem.Builtin.Dict_items renaming ownsTuple->rq
open PySem.Code renaming quiet_builtin->tm,isFrame->ym
open PySem.Builtin.Dict renaming updateFrom->vi,showsAll->wq
open Sum.inl renaming inj->wx
open PySem.Around renaming under_plainId->xo,under->yl
open Prod.mk renaming inj->xq
open PySem.Heap.DictOf renaming new->yt
namespace PySem.W.Fast
def tw17398220734101583200:=()
def tw16525951915117695680:=()
def tw928795716883209056:=()
def tw5024675352199619362:=()
def tw9472207766205972164:=()
def tw16925293462755243876:=()
def tw13166231859737865797:=()
def tw6460183831693901766:=()
def tw39594891878775079:=()
def tw2857266556582737129:=()
def tw16188009824190666025:=()
def tw15851854724856886793:=()
def tw8062157055174122858:=()
def tw10526555162546479659:=()
def tw5222536784964413131:=()
def tw9577221689991544876:=()
def tw1964878787946765357:=()
def tw2497137698428685709:=()
def tw1030554048413656623:=()
def tw102056538411068240:=()
def tw9430259055735915090:=()
def tw8233742438162605778:=()
def tw14617855528748028179:=()
def tw12971489258162511540:=()
def tw10656244751535497972:=()
def tw15616714722162860534:=()
def tw7314565361239400791:=()
def tw10268446004894276696:=()
def tw9755249626647757946:=()
def tw11952767732541653242:=()
def tw14717068860997105594:=()
def tw6839654727885967837:=()
def tw12749993360049584671:=()
def tw7585926547777564139:=()
def tw1815689385324497223:=()
def tw6884838597283775839:=()
def tw598661973551443485:=()
def tw1170684826706302278:=()
def tw921361471995974067:=()
def tw835638659951007168:=()
def tw12805208841069345902:=()
def tw15358829067467656970:=()
def tw18306547429230990797:=()
def tw6857523328331266130:=()
def tw5352065237538464319:=()
def tw10629179815229217734:=()
def tw10309497715924395659:=()
def tw14821598298454304875:=()
def tw4294121098546088505:=()
def tw486728224560509518:=()
def tw13753573752491760855:=()
def tw9316509731000240621:=()
def tw9905467191254301608:=()
def tw6716827059380134239:=()
def tw15657173843962752352:=()
def tw11661073158102212216:=()
def tw5136991612257121318:=()
def tw6293947913752725406:=()
def tw16134231026191644769:=()
def tw10648913371336843661:=()
def tw7432344249011911745:=()
def tw6558051738620214026:=()
def tw15539099915316522146:=()
def tw2666536584640529693:=()
def tw17260026028996670760:=()
def tw15365022598415193600:=()
def tw17318944467049428336:=()
def tw8809933186728811684:=()
def tw16596524366338798070:=()
def tw9342574882339046977:=()
def tw14350380886560843096:=()
def tw11592443234617683067:=()
def tw8250829534773339891:=()
def tw8323562090652624601:=()
def tw12531326997232260501:=()
def tw7049153299247687276:=()
def tw14613714537393177677:=()
def tw18091281268488327949:=()
def tw8157588042613284802:=()
def tw16897219148822318882:=()
def tw10175318236113140854:=()
def tw9767042296483896485:=()
def tw12384157258855547036:=()
def tw4376930320335360438:=()
def tw5193067896182230997:=()
def tw1582835368904187997:=()
def tw5689702886718697667:=()
def tw15421494490047002749:=()
def tw7362425208916961624:=()
def tw10743125988654314363:=()
def tw1961382318345672393:=()
def tw17378501531714639590:=()
def tw9194025582370704679:=()
def tw9339249312722827805:=()
def tw313391624809234547:=()
def tw431266175827130335:=()
def tw2401553014128245674:=()
def tw8903147898323035153:=()
def tw3310657126078137651:=()
def tw6597287137698805439:=()
def tw11364710110295731918:=()
def tw5159081714248710743:=()
def tw9891206192917179352:=()
def tw22890985037797345:=()
def tw17617688381836524857:=()
def tw16146733365462250157:=()
def tw14167882572857403061:=()
def tw6870317353258746765:=()
def tw2326531505430656807:=()
def tw13819374817730862785:=()
def tw496680118753188446:=()
def tw5115847678937250926:=()
def tw10759774368604135492:=()
def tw13741132782280658785:=()
def tw16189010006891003263:=()
def tw4183922594299063416:=()
def tw10348587542996446661:=()
def tw17303218059984198383:=()
def tw16865518766818033066:=()
def tw6147612269229501946:=()
def tw13746568292052755740:=()
def tw10268459346275739812:=()
def tw304071605428257195:=()
def tw5689755724298552830:=()
def tw8431078314488616540:=()
def tw17027619666330078859:=()
def tw9416957380503421603:=()
def tw934544878510507973:=()
def tw6931410565657630944:=()
def tw163589077641062226:=()
def tw752309493573505999:=()
def tw14081025824743294989:=()
def tw9397992782587701313:=()
def tw17698873334845665219:=()
def tw7583382769759437190:=()
def tw436176747147074496:=()
def tw5300335507893296732:=()
def tw15996208514044763805:=()
def tw10892850981084353459:=()
def tw16412038128674273923:=()
def tw14949889115811744356:=()
def tw3192224394109529528:=()
def tw3025924177216630634:=()
def tw16763370284205821586:=()
def tw7245514636848794556:=()
def tw7128320472844547089:=()
def tw11145126312707671238:=()
def tw10416886348249460504:=()
def tw3116936312027708160:=()
def tw14943894555023276035:=()
def tw1816638888742467143:=()
def tw14025773146718535969:=()
def tw11017993917067970064:=()
def tw420794995584789516:=()
def tw1717779917079929942:=()
def tw413203333782021484:=()
def tw6934383589323676923:=()
def tw8847936176840503950:=()
def tw9552114612467371148:=()
def tw16966334789537043336:=()
def tw6187145513743049572:=()
def tw17496880589675500598:=()
def tw11129053683201255485:=()
def tw9686571353478904260:=()
def tw9013722427593833528:=()
def tw15266246386196399194:=()
def tw5897891582020807401:=()
def tw14485027296646566829:=()
def tw14500407802481584704:=()
def tw1860997981429689956:=()
def tw1170794847349536160:=()
def tw10516000650965729433:=()
def tw9037161050792977066:=()
def tw2943390506919660515:=()
def tw6481436816878484961:=()
def tw4051945377509424271:=()
def tw16983676811072519725:=()
def tw13447600216285546616:=()
def tw3794656708985725438:=()
def tw15324617568453624883:=()
def tw9742642107149158002:=()
def tw12001081503753065944:=()
def tw11696710025972111178:=()
def tw15836475314114109884:=()
def tw11660583753235250255:=()
def tw7277741094461607631:=()
def tw14628273453036327589:=()
def tw13812030498527599545:=()
def tw10024208621000100191:=()
def tw3400380410820284079:=()
def tw1450281514019489485:=()
def tw4338364056520345201:=()
def tw8212363854028459718:=()
def tw17132101013554962748:=()
def tw9396451494246699812:=()
def tw5010964366642379018:=()
def tw12913302464166672301:=()
def tw5063819881268464158:=()
def tw2827510501374652039:=()
def tw17030420487834012178:=()
def tw15680744105887038945:=()
def tw10794353723723580743:=()
def tw14397648389825940104:=()
def tw1386642868868521602:=()
def tw8492499313843599881:=()
def tw14670691402331770939:=()
def tw11894211215547005320:=()
def tw11742666704378051101:=()
def tw16154702721688449646:=()
def tw14994006178905365161:=()
def tw13458761363676719641:=()
def tw6600838373070852959:=()
def tw2394800884946272557:=()
def tw8735758432567830548:=()
def tw15235258172114500836:=()
def tw3421326394351690227:=()
def tw10372511404951826049:=()
def tw1956317971007466305:=()
def tw2329368931609108422:=()
def tw432868210817004797:=()
def tw17368152262829974120:=()
def tw16777367243415062903:=()
def tw10654728048031723347:=()
def tw2016009463392536361:=()
def tw2564521389371575686:=()
def tw2972002477450386755:=()
def tw16674246683459375559:=()
def tw1734498034326719504:=()
def tw14267253585371294917:=()
def tw4499022334669169164:=()
def tw17522569620627818130:=()
def tw7707929371304860167:=()
def tw3763043867088669218:=()
def tw17271021401627083086:=()
def tw6177606713617008270:=()
def tw1971443876350502616:=()
def tw12719515310574364880:=()
def tw1506663611300258975:=()
def tw3101032518931716791:=()
def tw13709064694440425158:=()
def tw6142312318766642985:=()
def tw5540518307630070999:=()
def tw6281153458629126766:=()
def tw4175605321884218656:=()
def tw8517970326289272403:=()
def tw161285257070770827:=()
def tw15369077234044071730:=()
def tw16108248291295283016:=()
def tw4939849592193832458:=()
def tw978466939703794642:=()
def tw8615462922636353435:=()
def tw5366865736747690181:=()
def tw12068308035997641450:=()
def tw13604836335024661624:=()
def tw4096453156004670379:=()
def tw10253282081875693468:=()
def tw10774374953085043618:=()
def tw16534652048767631176:=()
def tw4853467393153327163:=()
def tw10833235417348416458:=()
def tw3682013743705549239:=()
def tw18379343993946711690:=()
def tw14303847283885934698:=()
def tw8202220677358837892:=()
def tw9279444813388656930:=()
def tw7453573544792322695:=()
def tw1235521172480127710:=()
def tw9801498183689249130:=()
def tw2819684306404332512:=()
def tw15528366598176035794:=()
def tw450563091457362772:=()
def tw14731591007864618572:=()
def tw16800173828626923148:=()
def tw15909966193676021033:=()
def tw13089500736524491784:=()
def tw6314962960430438372:=()
def tw16607937313447559981:=()
def tw11701326519359411417:=()
def tw2417617836042304465:=()
def tw3819307514419629126:=()
def tw10122802410427992676:=()
def tw12849991658245438760:=()
def tw10016063909093159690:=()
def tw7949401025140812638:=()
def tw7785872511484215374:=()
def tw14560088314612734616:=()
def tw11097309523778545760:=()
def tw6348461530879763635:=()
def tw15097040483428431177:=()
def tw2267925161518101510:=()
def tw7302058939289180959:=()
def tw3839797078477234958:=()
def tw6481033166497588876:=()
def tw18283231390084992770:=()
def tw9119576197354267384:=()
def tw15938693321567874867:=()
def tw2952916042520169169:=()
def tw182972387619624550:=()
def tw4781915541062568985:=()
def tw18309080928417405933:=()
def tw704612915473858894:=()
def tw11688250823833485192:=()
def tw1490256561295372824:=()
def tw11137023795722078190:=()
def tw16835640679169455983:=()
def tw13148154343287371966:=()
def tw7074946990432606378:=()
def tw13736572735992011083:=()
def tw11783750626622958540:=()
def tw8610229111655979977:=()
def tw11861333143613039008:=()
def tw82390795654590395:=()
def tw1163176937282326847:=()
def tw14857672287305515309:=()
def tw2072867119740885746:=()
def tw17364456046994762420:=()
def tw9775492577680679856:=()
def tw3975505176996276789:=()
def tw17624054129527375217:=()
def tw15620239454908782018:=()
def tw8705335837238207605:=()
def tw6618430597475410721:=()
def tw3416301399651394957:=()
def tw1289520783276581484:=()
def tw10680609313142807183:=()
def tw11923554026451387562:=()
def tw11855793423212171671:=()
def tw13702241981741879996:=()
def tw11662242364408861384:=()
def tw11407912623362767752:=()
def tw10184541101992832176:=()
def tw13156209080064759386:=()
def tw17481429144433516654:=()
def tw4628725971898943230:=()
def tw654556018962118024:=()
def tw12526943593324173025:=()
def tw7225284870949117894:=()
def tw9179429284236123705:=()
def tw3070867063561469948:=()
def tw8784884788544486365:=()
def tw13565192247082164323:=()
def tw761328224021445963:=()
def tw13514599392139303132:=()
def tw16796030282355314034:=()
def tw3559913933506832561:=()
def tw11276158051870014062:=()
def tw14760498652487196435:=()
def tw9894215407388312210:=()
def tw9392229053719919508:=()
def tw16503557387967140698:=()
def tw5289972807991019596:=()
def tw2390856781251896138:=()
def tw11256291056771532204:=()
def tw18175230939484750743:=()
def tw1849856262152890378:=()
def tw433449533723322577:=()
def tw11593645591910544401:=()
def tw15821781770116538247:=()
def tw3571377449047858094:=()
def tw11960404429413110732:=()
def tw5691589205920710260:=()
def tw12439801542993547146:=()
def tw8026485267827032502:=()
def tw6772775837302815043:=()
def tw6674354092376679291:=()
def tw3113298492073865205:=()
def tw2625458230069410847:=()
def tw16550108034561887441:=()
def tw6176826035914960677:=()
def tw16576634211995721269:=()
def tw12245547521023358913:=()
def tw3203472241161590158:=()
def tw7832147491741662793:=()
end PySem.W.Fast
set_option compiler.extract_closed false
local macro_rules| `(tactic| walk_at"oi")=> `(tactic| first|exact Or.inl rfl|exact Or.inr rfl)
set_option Elab.async false
set_option maxRecDepth 100000 in
set_option maxHeartbeats 0 in
open PySem PySem.W PyProof.Rows in
open_top Hd for PySem.Challenge.rw_firstout_k77_nine_refusals
set_option linter.all false
set_option maxRecDepth 100000
namespace L2
open PySem PySem.Spec PyProof.Rows
abbrev Key:=Sum Int Str
def yN:Key->af->Bool
 | .inl k,v=>af.isInt k v
 | .inr x,v=>af.isStrOf x v
def aE6 (w:gd):Key->Int
 | .inl k=>hashInt k
 | .inr x=>ow w x
theorem cP:∀{k:Key}{v:af},yN k v=true->(∃i t,k=uc i/\v=sq i t)∨(∃x t,k=mm x/\v=sr x t)
 | .inl i,v,h=>by
  obtain⟨t,e⟩:=af.isInt_shape (k:=i) (v:=v) h;exact .inl ⟨i,t,rfl,e⟩
 | .inr x,v,h=>by
  obtain⟨t,e⟩:=af.isStrOf_shape (x:=x) (v:=v) h;exact .inr ⟨x,t,rfl,e⟩
theorem SQ (i:Int)(t:Tok):yN (.inl i) (.int i t)=true:=by simp[yN,af.isInt]
theorem bP (x:Str)(t:Tok):yN (.inr x) (.str x t)=true:=by simp[yN,af.isStrOf]
theorem aC6 (a b:Int):decide ((uc a:Key)=uc b)=(a==b):=by
 by_cases e:a=b
 .subst e;simp
 .have h:¬(uc a:Key)=uc b:=λq=>e (wx q);rw[decide_eq_false h];exact(beq_eq_false_iff_ne.mpr e).symm
theorem aCn (a b:Str):decide ((mm a:Key)=mm b)=decide (a=b):=by
 by_cases e:a=b
 .subst e;simp
 .have h:¬(mm a:Key)=mm b:=λq=>e (kg q);rw[decide_eq_false h,decide_eq_false e]
theorem aCQ (a:Int)(b:Str):decide ((uc a:Key)=mm b)=false:=decide_eq_false (λq=>nomatch q)
theorem aCT (a:Str)(b:Int):decide ((mm a:Key)=uc b)=false:=decide_eq_false (λq=>nomatch q)
def bT (prog:ef)(w:gd):PySem.KeyKind prog w Key where
 is:=yN
 hash:=aE6 w
 inj:=λv a b ha hb=>by
  rcases cP ha with⟨i,t,rfl,rfl⟩|⟨x,t,rfl,rfl⟩
  .rcases cP hb with⟨j,u,rfl,e⟩|⟨y,u,rfl,e⟩
   .injection e with e1 _;rw[e1]
   .exact nomatch e
  .rcases cP hb with⟨j,u,rfl,e⟩|⟨y,u,rfl,e⟩
   .exact nomatch e
   .injection e with e1 _;rw[e1]
 byValue:=λk v h=>by
  rcases cP h with⟨i,t,rfl,rfl⟩|⟨x,t,rfl,rfl⟩<;>rfl
 pyHash:=λhv h=>by
  rcases cP hv with⟨i,t,rfl,rfl⟩|⟨x,t,rfl,rfl⟩
  .exact wpAny_pyHash_int h
  .exact wpAny_pyHash_str h
 eqBool:=λhu hv h=>by
  rcases cP hu with⟨i,t,rfl,rfl⟩|⟨x,t,rfl,rfl⟩
  .rcases cP hv with⟨j,u,rfl,rfl⟩|⟨y,u,rfl,rfl⟩
   .rw[aC6]at h;exact wpAny_eqBool_int h
   .rw[aCQ]at h;exact yc i t y u _ _ _ _ h
  .rcases cP hv with⟨j,u,rfl,rfl⟩|⟨y,u,rfl,rfl⟩
   .rw[aCT]at h;exact yd x t j u _ _ _ _ h
   .rw[aCn]at h;exact wpAny_eqBool_str h
 «strs»:=λk x t v h=>by
  rcases cP h with⟨i,u,rfl,e⟩|⟨y,u,rfl,e⟩
  .exact nomatch e
  .injection e with e1 _;subst e1;cases v<;>rfl
theorem LX (prog:ef)(w:gd)(i:Int)(t:Tok):(bT prog w).is (.inl i) (.int i t)=true:=SQ i t
theorem MF (prog:ef)(w:gd)(x:Str)(t:Tok):(bT prog w).is (.inr x) (.str x t)=true:=bP x t
inductive V where
 | non|bl (b:Bool)|int (i:Int)|str (x:Str)|byt (b:Array UInt8)|flt (b:UInt64)|ref (a:Addr)|ty (n:String)
 deriving DecidableEq
def RelV:V->af->Prop
 | .non,u=>u=bw
 | .bl b,u=>u=sy b
 | .int i,u=>∃t,u=sq i t
 | .str x,u=>∃t,u=sr x t
 | .byt b,u=>∃t,u=af.bytes b t
 | .flt b,u=>∃t,u=yr b t
 | .ref a,u=>u=av a
 | .ty n,u=>u=ki n
abbrev Vals:List V->List af->Prop:=cg RelV
variable {vs xs:List V}{us:List af}
theorem Vals.length (r:Vals xs us):xs.length=us.length:=cj r
theorem Vals.get:∀{xs:List V}{us:List af}{i:Nat}{x:V},Vals xs us->xs[i]? =some x->∃u,us[i]? =some u/\RelV x u
 | _,_,_,_,.nil,e=>by simp at e
 | _,_,0,_,.cons r _,e=>by simp at e;subst e;exact⟨_,rfl,r⟩
 | _,_,i+1,x,.cons _ t,e=>by
  obtain⟨u,h1,h2⟩:=Vals.get (i:=i) (x:=x) t (by simpa using e);exact⟨u,by simpa using h1,h2⟩
theorem Vals.append:∀{xs ys:List V}{us ws:List af},Vals xs us->Vals ys ws->Vals (xs++ys) (us++ws)
 | _,_,_,_,.nil,s=>s
 | _,_,_,_,.cons r t,s=> .cons r (Vals.append t s)
theorem Vals.take:∀{xs:List V}{us:List af} (n:Nat),Vals xs us->Vals (xs.take n) (us.take n)
 | _,_,0,_=> .nil
 | _,_,_+1,.nil=> .nil
 | _,_,n+1,.cons r t=> .cons r (Vals.take n t)
theorem Vals.drop:∀{xs:List V}{us:List af} (n:Nat),Vals xs us->Vals (xs.drop n) (us.drop n)
 | _,_,0,r=>r
 | _,_,_+1,.nil=> .nil
 | _,_,n+1,.cons _ t=>Vals.drop n t
def RelO:Option V->Option af->Prop
 | some v,some u=>RelV v u
 | none,none=>True
 | _,_=>False
variable {α β:Type}
def KV {κ:Type}:List (κ×V)->List (κ×af)->Prop:=cg λ(p:κ×V) (q:κ×af)=>p.1=q.1/\RelV p.2 q.2
def kV:Key->V
 | .inl i=> .int i
 | .inr x=> .str x
inductive HO where
  | lst (xs:List V)
  | tup (xs:List V)
  | dK (kvs:List (Key×V))|dT (kvs:List (List Key×V))
  | set (S:Int->Bool) (n:Nat)
  | ins (C dx:Addr) (fs:List (Str×V))
  | own (x:Addr)
  | xd (fs:List (Str×V))
  | met (f x:Addr)
  | rng (lo hi:Int)
  | frz (o:Obj) (u:HO)
  | tbl (ps:Array af)
  | ext (φ:Heap->Prop)
abbrev Hp:=Addr->Option HO
def upd (H:Hp)(a:Addr)(o:HO):Hp:=λb=>if b=a then some o else H b
variable {H H':Hp}{C a b dx it:Addr}
theorem aU {o:HO}:upd H a o a=some o:=by unfold upd;rw[if_pos rfl]
theorem aJ {o:HO}(h:b≠a):upd H a o b=H b:=by unfold upd;rw[if_neg h]
theorem M3 {o u:HO}:upd (upd H a o) a u=upd H a u:=by
 funext b;unfold upd;split<;>rfl
theorem aEP {o u:HO}(h:H a=some o)(h':H b=some u)(d:o≠u):a≠b:=by
 intro e;subst e;rw[h]at h';exact d (cp h')
theorem aO {o:HO}(h:H a=some o)(h':H b=none):a≠b:=by
 intro e;subst e;rw[h]at h';cases h'
section
variable (P:ef)(w:gd)
def ObjOk (H:Hp)(h:Heap)(a:Addr):HO->Prop
 | .lst xs=>xs.length<=sizeLine/\∃(its:List af) (n:Nat),Vals xs its/\h.get? a=some { cls:= .type "list",data:= .seq its.toArray n }
 | .tup xs=>xs.length<=sizeLine/\∃its:List af,Vals xs its/\IsTup h a its.toArray
 | .dK kvs=>kvs.length<=sizeLine/\(a==gq)=false/\∃vs,KV kvs vs/\h.DictOf (bT P w) a vs
 | .dT kvs=>kvs.length<=sizeLine/\(a==gq)=false/\∃xs:List (List Key×Addr×af),
   cg (λ(p:List Key×V) (q:List Key×Addr×af)=>p.1=q.1/\H q.2.1=some (.tup (p.1.map kV))/\RelV p.2 q.2.2) kvs xs ∧
   ∃o es ep,h.get? a=some o/\o.ExactDict/\o.data= .dict es ep/\es.toList=xs.map (entryOfKey (uy (bT P w)))/\(xs.map (·.1)).Nodup
 | .set S n=>h.SetOf (intKind P w) a S n
 | .ins C dx fs=>H dx=some (.own a)/\fs.length<=1000/\dx≠a/\h.get? a=some (W.instObj C dx) ∧
   ∃mA,h.Ns1 dx mA/\(∀f,RelO (fs.lookup f) (mA f))/\yk mA (fs.map (·.1))
 | .own _=>∃o,h.get? a=some o
 | .xd fs=>∃mA,h.Ns1 a mA/\∀f,RelO (fs.lookup f) (mA f)
 | .rng lo hi=>∃t u v,h.get? a=some { cls:= .type "range",data:= .fields #[.int lo t,.int hi u,.int 1 v] }
 | .frz o u=>h.get? a=some o/\ObjOk H h a u
 | .tbl ps=>h.get? a=some { cls:= .none,data:= .fields ps }
 | .met f x=>h.get? a=some (W.methodObj (.ref f) (.ref x))
 | .ext φ=>φ h/\(∃o,h.get? a=some o)/\∀h1 h2:Heap,φ h1->(∀o,h1.get? a=some o->h2.get? a=some o)->φ h2
def HOk (H:Hp)(h:Heap):Prop:=∀a o,H a=some o->ObjOk P w H h a o
end
variable {P prog:ef}{w:gd}{base h h':Heap}
section
variable {o:HO}
theorem ObjOk.lt (x:ObjOk P w H h a o):a<h.objs.size:=by
 cases o with
 | lst xs=>obtain⟨_,_,_,_,e⟩:=x;exact ag e
 | tup xs=>obtain⟨_,_,_,p⟩:=x;exact p.lt
 | dK kvs=>obtain⟨_,_,_,_,o,_,_,e,_⟩:=x;exact ag e
 | dT kvs=>obtain⟨_,_,_,_,o,_,_,e,_⟩:=x;exact ag e
 | set S n=>obtain⟨o,_,_,_,e,_⟩:=x;exact ag e
 | ins C dx fs=>obtain⟨_,_,_,e,_⟩:=x;exact ag e
 | own y=>obtain⟨_,e⟩:=x;exact ag e
 | xd fs=>obtain⟨_,⟨_,_,_,e,_⟩,_⟩:=x;exact ag e
 | rng lo hi=>obtain⟨_,_,_,e⟩:=x;exact ag e
 | frz ob u=>obtain⟨e,_⟩:=x;exact ag e
 | tbl ps=>exact ag (show h.get? a=some _ from x)
 | met f y=>exact ag (show h.get? a=some _ from x)
 | ext φ=>obtain⟨_,⟨_,e⟩,_⟩:=x;exact ag e
theorem Paired.mapP {F G:α->β->Prop}:∀{l₁:List α}{l₂:List β},cg F l₁ l₂->(∀a b,F a b->G a b)->cg G l₁ l₂
 | _,_,.nil,_=> .nil
 | _,_,.cons r t,f=> .cons (f _ _ r) (Paired.mapP t f)
theorem Paired.imp' {α:Type}{F G:α->β->Prop}(f:∀a b,F a b->G a b){l₁:List α}{l₂:List β}(r:cg F l₁ l₂):cg G l₁ l₂:=Paired.mapP r f
theorem ObjOk.stay (x:ObjOk P w H h a o)(k:∀b u,(b=a∨H b=some (.own a))->h.get? b=some u->h'.get? b=some u)
  (ho:∀b,H b=some (.own a)->H' b=some (.own a))(ht:∀b xs,H b=some (.tup xs)->H' b=some (.tup xs)):ObjOk P w H' h' a o:=by
 induction o with
 | lst xs=>obtain⟨z,its,n,r,e⟩:=x;exact⟨z,its,n,r,k _ _ (.inl rfl) e⟩
 | tup xs=>obtain⟨z,its,r,ob,e,c⟩:=x;exact⟨z,its,r,ob,k _ _ (.inl rfl) e,c⟩
 | dK kvs=>obtain⟨z,y,vs,r,ob,es,ep,e,c⟩:=x;exact⟨z,y,vs,r,ob,es,ep,k _ _ (.inl rfl) e,c⟩
 | dT kvs =>
  obtain⟨z,y,xs,r,ob,es,ep,e,c⟩:=x;exact⟨z,y,xs,Paired.mapP r λp q z=>⟨z.1,ht _ _ z.2.1,z.2.2⟩,ob,es,ep,k _ _ (.inl rfl) e,c⟩
 | set S n=>obtain⟨ob,es,ep,t,e,c⟩:=x;exact⟨ob,es,ep,t,k _ _ (.inl rfl) e,c⟩
 | ins C dx fs =>
  obtain⟨d,z,ne,e,mA,⟨od,es,ep,e2,c⟩,r⟩:=x;exact⟨ho _ d,z,ne,k _ _ (.inl rfl) e,mA,⟨od,es,ep,k _ _ (.inr d) e2,c⟩,r⟩
 | own y=>obtain⟨ob,e⟩:=x;exact⟨ob,k _ _ (.inl rfl) e⟩
 | xd fs=>obtain⟨mA,⟨od,es,ep,e,c⟩,r⟩:=x;exact⟨mA,⟨od,es,ep,k _ _ (.inl rfl) e,c⟩,r⟩
 | rng lo hi=>obtain⟨t,u,v,e⟩:=x;exact⟨t,u,v,k _ _ (.inl rfl) e⟩
 | frz ob u ih=>obtain⟨e,q⟩:=x;exact⟨k _ _ (.inl rfl) e,ih q⟩
 | tbl ps =>
  have e:h.get? a=some { cls:= .none,data:= .fields ps }:=x;show h'.get? a=some { cls:= .none,data:= .fields ps };exact k a _ (.inl rfl) e
 | met f y =>
  have e:h.get? a=some (W.methodObj (.ref f) (.ref y)):=x;show h'.get? a=some (W.methodObj (.ref f) (.ref y));exact k a _ (.inl rfl) e
 | ext φ=>obtain⟨p,⟨o,e⟩,st⟩:=x;exact⟨st _ _ p λo q=>k _ _ (.inl rfl) q,⟨o,k _ _ (.inl rfl) e⟩,st⟩
theorem HOk.lt (x:HOk P w H h)(e:H a=some o):a<h.objs.size:=(x a o e).lt
theorem HOk.fresh (x:HOk P w H h)(e:h.objs.size<=a):H a=none:=by
 cases q:H a with
 | none=>rfl
 | some u=>exact absurd (au (x.lt q) e) (bt _)
theorem HOk.kept (x:HOk P w H h)(k:∀b u,h.get? b=some u->h'.get? b=some u):HOk P w H h':=λa o e =>
 (x a o e).stay (λb u _ q=>k b u q) (λ_ q=>q) λ_ _ q=>q
theorem HOk.laid (x:HOk P w H h)(k:∀b u,h.get? b=some u->h'.get? b=some u)(hp:h.objs.size<=a)(new:ObjOk P w (upd H a o) h' a o):HOk P w (upd H a o) h':=λb u e=>by
 have hn:=x.fresh hp
 by_cases hb:b=a
 .subst hb;rw[aU]at e;cases e;exact new
 .rw[aJ hb]at e;exact(x b u e).stay (λc v _ q=>k c v q) (λc q=>by rw[aJ (aO q hn)];exact q) λc xs q=>by rw[aJ (aO q hn)];exact q
end
def Rd (H:Hp)(a:Addr)(u:HO):Prop:=H a=some u∨∃o,H a=some (.frz o u)
theorem Rd.ok {u:HO}(r:Rd H a u)(x:HOk P w H h):ObjOk P w H h a u:=by
 rcases r with r|⟨o,r⟩
 .exact x a u r
 .obtain⟨_,q⟩:=x a _ r;exact q
def Mut:Option HO->Prop
 | some (.lst _)=>True
 | some (.dK _)=>True
 | some (.dT _)=>True
 | some (.set _ _)=>True
 | some (.ins _ _ _)=>True
 | some (.ext _)=>True
 | _=>False
section
variable {x e:Addr}{o':HO}
theorem HOk.write (ok:HOk P w H h)(mu:Mut (H x))(he:e=x∨H e=some (.own x))(k:∀b u,b≠e->h.get? b=some u->h'.get? b=some u)(heo:∃u,h'.get? e=some u)
  (new:ObjOk P w (upd H x o') h' x o'):HOk P w (upd H x o') h':=λb u q=>by
 have nown:∀c y,H c=some (.own y)->c≠x:=λc y r z=>by subst z;rw[r]at mu;exact mu
 have ntup:∀c xs,H c=some (.tup xs)->c≠x:=λc xs r z=>by subst z;rw[r]at mu;exact mu
 by_cases hb:b=x
 .subst hb;rw[aU]at q;cases q;exact new
 .rw[aJ hb]at q
  by_cases hbe:b=e
  .have q':H b=some (.own x):=by
    rcases he with z|z
    .exact absurd (hbe.trans z) hb
    .rw[hbe];exact z
   rw[q]at q';cases q';obtain⟨v,hv⟩:=heo;exact⟨v,by rw[hbe];exact hv⟩
  .refine(ok b u q).stay (λc v hc r=>k c v ?_ r) (λc r=>by rw[aJ (nown c b r)];exact r) λc xs r=>by rw[aJ (ntup c xs r)];exact r
   rcases hc with rfl|hc
   .exact hbe
   .rintro rfl;rcases he with z|z
    .exact nown c b hc z
    .rw[hc]at z;cases z;exact hb rfl
end
structure Un (fs ex:List Addr)(H H':Hp)(h h':Heap):Prop where
 keep:∀b o,h.get? b=some o->H b=none->b∉fs->b∉ex->h'.get? b=some o
 slot:∀b o,h.get? b=some o->H b=none->b∈fs->b∉ex->∃sl,h'.get? b=some { o with slots:=sl }
 free:∀b o,h.get? b=some o->H b=none->b∉ex->H' b=none
 there:∀b o,h.get? b=some o->b∉ex->∃o',h'.get? b=some o'
 tups:∀b xs,H b=some (.tup xs)->H' b=some (.tup xs)
 frzs:∀b o u,H b=some (.frz o u)->H' b=some (.frz o u)
 tbls:∀b ps,H b=some (.tbl ps)->∃more,H' b=some (.tbl (ps++more))
variable {o:Obj}{ch fp:List Addr}
section
variable {fs fs' ex ex':List Addr}{H1 H2:Hp}{h1 h2:Heap}{x e:Addr}{o:HO}
theorem Un.any (u:Un fs ex H H1 h h1){ob:Obj}(q:h.get? b=some ob)(n:H b=none)(hx:b∉ex):∃sl,h1.get? b=some { ob with slots:=sl }:=by
 by_cases hb:b∈fs
 .exact u.slot b ob q n hb hx
 .exact⟨ob.slots,u.keep b ob q n hb hx⟩
theorem Un.kept (k:∀b u,h.get? b=some u->h'.get? b=some u):Un fs ex H H h h' :=
 ⟨λb ob q _ _ _=>k b ob q,λb ob q _ _ _=>⟨ob.slots,k b ob q⟩,λ_ _ _ n _=>n,λb ob q _=>⟨ob,k b ob q⟩,λ_ _ q=>q,λ_ _ _ q=>q,λ_ ps q=>⟨#[],by rw[q];simp⟩⟩
theorem Un.refl:Un fs ex H H h h:=Un.kept λ_ _ q=>q
theorem Un.laid (k:∀b u,h.get? b=some u->h'.get? b=some u)(hp:h.objs.size<=a)(hn:H a=none):Un fs ex H (upd H a o) h h' where
 keep:=λb u q _ _ _=>k b u q
 slot:=λb u q _ _ _=>⟨u.slots,k b u q⟩
 free:=λb u q n _=>by rw[aJ (bp (au (ag q) hp))];exact n
 there:=λb u q _=>⟨u,k b u q⟩
 tups:=λb xs q=>by rw[aJ (aO q hn)];exact q
 frzs:=λb u xs q=>by rw[aJ (aO q hn)];exact q
 tbls:=λb ps q=>⟨#[],by rw[aJ (aO q hn),q];simp⟩
theorem Un.write (mu:Mut (H x))(he:e=x∨H e=some (.own x))(k:∀b u,b≠e->h.get? b=some u->h'.get? b=some u)(heo:∃u,h'.get? e=some u):Un fs ex H (upd H x o) h h':=by
 have hx:∀b,H b=none->b≠x:=λb n z=>by subst z;rw[n]at mu;exact mu
 have hb:∀b,H b=none->b≠e:=λb n z=>by
  subst z;rcases he with r|r
  .exact hx b n r
  .rw[n]at r;cases r
 have hm:∀b u,H b=some u->¬Mut (some u)->b≠x:=λb u q nm z=>by subst z;rw[q]at mu;exact nm mu
 refine⟨λb u q n _ _=>k b u (hb b n) q,λb u q n _ _=>⟨u.slots,k b u (hb b n) q⟩,λb u q n _=>by rw[aJ (hx b n)];exact n,λb u q _=> ?_,
  λb xs q=>by rw[aJ (hm b _ q λz=>z)];exact q,λb u xs q=>by rw[aJ (hm b _ q λz=>z)];exact q,λb ps q=>⟨#[],by rw[aJ (hm b _ q λz=>z),q];simp⟩⟩
 by_cases hbe:b=e
 .subst hbe;exact heo
 .exact⟨u,k b u hbe q⟩
end
def trk (h:Heap)(H:Hp):List Addr:=(fz h.objs.size).filter λa=>(H a).isSome
def uL (h:Heap)(H:Hp):Heap:=W.hideAll h (trk h H)
theorem UE (h:Heap)(H:Hp):(uL h H).objs.size=h.objs.size:=W.hideAll_size _ _
theorem YY (e:h.get? b=some o)(n:H b=none):(uL h H).get? b=some o :=
 W.hideAll_get _ e λhm=>by
  have q:(H b).isSome=true:=(fb.mp hm).2;rw[n]at q;simp at q
theorem aAu (e:(uL h H).get? b=some o):h.get? b=some o/\H b=none:=by
 have e':h.get? b=some o:=W.of_hideAll (trk h H) e;refine⟨e',?_⟩;cases q:H b with
 | none=>rfl
 | some x =>
  have hm:b∈trk h H:=fb.mpr ⟨List.mem_range.mpr (ag e'),by simp[q]⟩;have z:(uL h H).get? b=none:=W.hideAll_none (trk h H) hm;rw[z]at e;cases e
structure Mod (K:W.Frag)(mg:Str->Option af)(base:Heap):Prop where
 kin:K.In base
 glob:base.Ns ah mg
 blt:∃mb,base.Ns builtinsNs mb/\∀x:Str,x≠ "__name__" ->mb x=dv x
 nolimit:base.NoLimit
structure Cx where
 prog:ef
 w:gd
 K:W.Frag
 mg:Str->Option af
 base:Heap
 A:jx
 N:List Str
 s₀:aj
 H₀:Hp
 env:Env
 outer:List Env
 stack:List Env
 ex:List Addr
 fn:Str->Bool
 calm:Bool
 pn:List (Addr×Obj)
 xe:af->aj->Prop
def frs (l:List Env):List Addr:=l.filterMap (·.frame)
abbrev Cx.fs (X:Cx):List Addr:=frs X.outer
def Vis (sc:ud)(x:Str):Prop:=sc.names.lookup x=some .local∨sc.names.lookup x=some .cell∨sc.names.lookup x=some .free
def Loc (sc:ud)(x:Str):Prop:=sc.names.lookup x=some .local∨sc.names.lookup x=some .cell
def aFa (env:Env)(h:Heap)(m:Str->Option af)(x:Str)(u:af):Prop :=
 (env.kindOf x=some .local/\m x=some u)∨((env.kindOf x=some .cell∨env.kindOf x=some .free)/\∃c,env.cells.lookup x=some c/\h.IsCell c (some u))
structure Cx.Ok (X:Cx):Prop where
 mod:Mod X.K X.mg X.base
 kind:X.env.scope.kind= .function
 glob:X.env.globals=ah
 blt:X.env.builtins=builtinsNs
 above:X.s₀.heap.objs.size<=X.env.locals
 inj:∀x y c,X.env.cells.lookup x=some c->X.env.cells.lookup y=some c->x=y
 has:∀x,(X.env.kindOf x=some .cell∨X.env.kindOf x=some .free)->∃c,X.env.cells.lookup x=some c
 cab:∀x c,X.fn x=true->X.env.cells.lookup x=some c->X.s₀.heap.objs.size<=c
 hd:X.calm=true->X.A.handled=none
 frames:X.A.frames=some X.stack
 stk:X.stack=X.outer∨(X.stack=X.env::X.outer/\X.env.frame=some X.env.locals)
 exf:∀b∈X.ex,b≠X.env.locals/\∀x c,X.env.cells.lookup x=some c->c≠b
 bs:∀b o,X.base.get? b=some o->X.s₀.heap.get? b=some o/\X.H₀ b=none
 bsz:X.base.objs.size<=X.s₀.heap.objs.size
 noex:∀b o,X.base.get? b=some o->b∉X.ex
 exfs:∀b∈X.ex,b∉X.fs
 funs:X.s₀.heap.FunFrames X.base X.outer
 frf:∀b∈X.fs,X.H₀ b=none
structure Inv (X:Cx)(pins:List (Addr×Obj))(σ:List (Option V))(H:Hp)(s:aj):Prop where
 ok:X.Ok
 os:s.os=X.s₀.os
 bare:qw s.gens
 base:Un X.fs X.ex X.H₀ H X.s₀.heap s.heap
 loc:∃m,s.heap.Ns X.env.locals m/\∀(i:Nat) (x:Str) (v:V),X.N[i]? =some x->σ[i]? =some (some v)->Vis X.env.scope x->∃u,RelV v u/\aFa X.env s.heap m x u
 cell:∀x c,X.env.cells.lookup x=some c->∃v,s.heap.IsCell c v
 free:H X.env.locals=none
 freeC:∀x c,X.env.cells.lookup x=some c->H c=none
 pin:∀p∈X.pn++pins,s.heap.get? p.1=some p.2/\H p.1=none/\p.1≠X.env.locals/\p.1∉X.fs/\∀v,p.2.data≠ .cell v
 hok:HOk X.prog X.w H s.heap
 len:σ.length=X.N.length
variable {g':Array wy}{i n t':Nat}{d':Drawn}{N:List Str}{m name qual x:Str}{A:jx}{E Q:af->aj->Prop}{v:V}{u:af}{s s':aj}{X:Cx}{pins:List (Addr×Obj)}
section
variable {σ:List (Option V)}
theorem Cx.Ok.nofr (ok:X.Ok)(e:X.base.get? b=some o):b∉X.fs:=λhb=>by
 have:=(ok.funs.mem hb).1;rw[e]at this;cases this
theorem Inv.bs (I:Inv X pins σ H s):∀b o,X.base.get? b=some o->s.heap.get? b=some o/\H b=none:=λb o e =>
 ⟨I.base.keep b o (I.ok.bs b o e).1 (I.ok.bs b o e).2 (I.ok.nofr e) (I.ok.noex b o e),I.base.free b o (I.ok.bs b o e).1 (I.ok.bs b o e).2 (I.ok.noex b o e)⟩
theorem Inv.bk (I:Inv X pins σ H s):∀b o,X.base.get? b=some o->s.heap.get? b=some o:=λb o e=>(I.bs b o e).1
theorem Inv.mod (I:Inv X pins σ H s):Mod X.K X.mg X.base:=I.ok.mod
theorem Inv.kIn (I:Inv X pins σ H s):X.K.In s.heap:=I.ok.mod.kin.keeps I.bk
theorem Inv.lt (I:Inv X pins σ H s):X.env.locals<s.heap.objs.size:=let ⟨_,hn,_⟩:=I.loc;hn.lt
theorem Inv.sz (I:Inv X pins σ H s):X.s₀.heap.objs.size<=s.heap.objs.size:=bo I.ok.above (kj I.lt)
theorem Inv.nofs (I:Inv X pins σ H s)(h:s.heap.objs.size<=a):a∉X.fs:=λhb=>by
 obtain⟨_,o,ho,_⟩:=I.ok.funs.mem hb;exact absurd (au (ag ho) (bo I.sz h)) (bt _)
theorem Inv.cne (I:Inv X pins σ H s):∀x c,X.env.cells.lookup x=some c->c≠X.env.locals:=λx c e z=>by
 obtain⟨v,o,ho,hd⟩:=I.cell x c e;obtain⟨m,⟨o',es,ep,ho',hd',_⟩,_⟩:=I.loc;rw[z,ho']at ho;cases ho;rw[hd']at hd;cases hd
theorem Inv.funs (I:Inv X pins σ H s):s.heap.FunFrames X.base X.outer:=by
 have all:∀(l:List Env),(∀b∈frs l,b∈X.fs)->X.s₀.heap.FunFrames X.base l->s.heap.FunFrames X.base l:=by
  intro l
  induction l with
  | nil=>intro _ _;trivial
  | cons env r ih =>
   intro hs hl;obtain⟨hk,⟨L,o,hf,hn,ho,hd⟩,hr⟩:=hl;have hL:L∈X.fs:=hs L (by unfold frs;rw[iz,hf];exact cy);obtain⟨sl,e⟩:=I.base.slot L o ho (I.ok.frf L hL) hL λz=>I.ok.exfs L z hL;exact⟨hk,⟨L,_,hf,hn,e,hd⟩,ih (λb hb=>hs b (by unfold frs;rw[iz,hf];exact bx _ hb)) hr⟩
 exact all X.outer (λ_ hb=>hb) I.ok.funs
theorem Inv.stack (I:Inv X pins σ H s):s.heap.FunFrames X.base X.stack:=by
 rcases I.ok.stk with e|⟨e,hf⟩
 .rw[e];exact I.funs
 .rw[e];obtain⟨m,hn,_⟩:=I.loc;refine .cons (by rw[I.ok.kind];decide) hf hn ?_ I.funs;exact xa (bo I.ok.bsz I.ok.above)
theorem Inv.stkSub (I:Inv X pins σ H s):∀b∈frs X.stack,b∈X.env.locals::X.fs:=λb hb=>by
 rcases I.ok.stk with e|⟨e,hf⟩
 .rw[e]at hb;exact bx _ hb
 .rw[e]at hb;unfold frs at hb;rw[iz,hf]at hb;exact hb
theorem Inv.stkFree (I:Inv X pins σ H s):∀b∈frs X.stack,H b=none:=λb hb=>by
 rcases ba.mp (I.stkSub b hb) with e|hb
 .rw[e];exact I.free
 .obtain⟨_,o,ho,_⟩:=I.ok.funs.mem hb;exact I.base.free b o ho (I.ok.frf b hb) λz=>I.ok.exfs b z hb
theorem Inv.step (I:Inv X pins σ H s)
  (hch:∀b∈ch,(b∈X.ex∨X.s₀.heap.objs.size<=b)/\b≠X.env.locals/\(∀x c,X.env.cells.lookup x=some c->c≠b)/\∀p∈X.pn++pins,p.1≠b)
  (keep:∀b o,b≠X.env.locals->b∉X.fs->b∉ch->s.heap.get? b=some o->H b=none->h'.get? b=some o)
  (slot:∀b o,b≠X.env.locals->b∈X.fs->b∉ch->s.heap.get? b=some o->H b=none->∃sl,h'.get? b=some { o with slots:=sl })(free:∀b o,b∉ch->s.heap.get? b=some o->H b=none->H' b=none)
  (there:∀b o,b∉ch->s.heap.get? b=some o->∃o',h'.get? b=some o')
  (tups:∀b xs,H b=some (.tup xs)->H' b=some (.tup xs))(frzs:∀b o u,H b=some (.frz o u)->H' b=some (.frz o u))(tbls:∀b ps,H b=some (.tbl ps)->∃more,H' b=some (.tbl (ps++more)))
  (ns:∀m,s.heap.Ns X.env.locals m->h'.Ns X.env.locals m)(hok:HOk X.prog X.w H' h')(hg:qw g') :
  Inv X pins σ H' { s with heap:=h',gens:=g',drawn:=d',toks:=t' }:=by
 have neL:∀b o,X.s₀.heap.get? b=some o->b≠X.env.locals:=λb o e=>bp (au (ag e) I.ok.above);have neC:∀b o,X.s₀.heap.get? b=some o->b∉X.ex->b∉ch:=λb o e hx hb=>by
  rcases (hch b hb).1 with z|z
  .exact hx z
  .exact absurd (au (ag e) z) (bt _)
 have cellK:∀x c,X.env.cells.lookup x=some c->∀v,s.heap.IsCell c v->h'.IsCell c v:=λx c e v ⟨o,ho,hd⟩=>by
  have nch:c∉ch:=λz=>(hch c z).2.2.1 x c e rfl
  by_cases hc:c∈X.fs
  .obtain⟨sl,q⟩:=slot c o (I.cne x c e) hc nch ho (I.freeC x c e);exact⟨_,q,hd⟩
  .exact⟨o,keep c o (I.cne x c e) hc nch ho (I.freeC x c e),hd⟩
 refine⟨I.ok,I.os,hg,⟨λb o e n hb hx=> ?_,λb o e n hb hx=> ?_,λb o e n hx=> ?_,λb o e hx=> ?_,λb xs e=>tups b xs (I.base.tups b xs e),λb o xs e=>frzs b o xs (I.base.frzs b o xs e),λb ps e=> ?_⟩,?_,λx c e=> ?_,?_,λx c e=> ?_,λp hp=> ?_,hok,I.len⟩
 .exact keep b o (neL b o e) hb (neC b o e hx) (I.base.keep b o e n hb hx) (I.base.free b o e n hx)
 .obtain⟨sl,e1⟩:=I.base.slot b o e n hb hx;obtain⟨sl',e2⟩:=slot b _ (neL b o e) hb (neC b o e hx) e1 (I.base.free b o e n hx);exact⟨sl',e2⟩
 .obtain⟨o',e1⟩:=I.base.there b o e hx;exact free b o' (neC b o e hx) e1 (I.base.free b o e n hx)
 .obtain⟨o',e1⟩:=I.base.there b o e hx;exact there b o' (neC b o e hx) e1
 .obtain⟨m1,e1⟩:=I.base.tbls b ps e;obtain⟨m2,e2⟩:=tbls b _ e1;exact⟨m1++m2,by rw[e2,Array.append_assoc]⟩
 .obtain⟨m,hn,hl⟩:=I.loc;refine⟨m,ns m hn,λi x v e1 e2 e3=> ?_⟩;obtain⟨u,r,l⟩:=hl i x v e1 e2 e3;refine⟨u,r,?_⟩;rcases l with l|⟨k,c,e,z⟩
  .exact .inl l
  .exact .inr ⟨k,c,e,cellK x c e _ z⟩
 .obtain⟨v,z⟩:=I.cell x c e;exact⟨v,cellK x c e v z⟩
 .obtain⟨m,⟨o,_,_,ho,_⟩,_⟩:=I.loc;exact free _ o (λz=>(hch _ z).2.1 rfl) ho I.free
 .obtain⟨v,o,ho,hd⟩:=I.cell x c e;exact free c o (λz=>(hch c z).2.2.1 x c e rfl) ho (I.freeC x c e)
 .obtain⟨e,n,ne,nf,d⟩:=I.pin p hp;have nch:p.1∉ch:=λz=>(hch p.1 z).2.2.2 p hp rfl;exact⟨keep p.1 p.2 ne nf nch e n,free p.1 p.2 nch e n,ne,nf,d⟩
theorem Inv.un (I:Inv X pins σ H s)(u:Un X.fs [] H H' s.heap h')(hok:HOk X.prog X.w H' h'):Inv X pins σ H' { s with heap:=h',toks:=t' }:=by
 obtain⟨m,⟨o,es,ep,ho,r⟩,_⟩:=id I.loc;obtain⟨sl,hL⟩:=u.any ho I.free (by simp);exact I.step (g':=s.gens) (d':=s.drawn) (ch:=[]) (λ_ z=>nomatch z) (λb o _ hb _ e n=>u.keep b o e n hb (by simp)) (λb o _ hb _ e n=>u.slot b o e n hb (by simp)) (λb o _ e n=>u.free b o e n (by simp)) (λb o _ e=>u.there b o e (by simp)) u.tups u.frzs u.tbls (λm' hm=>by
  obtain⟨o',es',ep',ho',r'⟩:=hm;rw[ho]at ho';cases ho';exact⟨_,es',ep',hL,r'⟩) hok I.bare
theorem Inv.call (I:Inv X pins σ H s)(u:Un (frs X.stack) ch H H' s.heap h')(hok:HOk X.prog X.w H' h')(hg:qw g')
  (hch:∀b∈ch,(b∈X.ex∨X.s₀.heap.objs.size<=b)/\b≠X.env.locals/\(∀x c,X.env.cells.lookup x=some c->c≠b)/\∀p∈X.pn++pins,p.1≠b) :
  Inv X pins σ H' { s with heap:=h',gens:=g',drawn:=d',toks:=t' }:=by
 obtain⟨m,⟨o,es,ep,ho,r⟩,_⟩:=id I.loc;obtain⟨sl,hL⟩:=u.any ho I.free λz=>(hch _ z).2.1 rfl;exact I.step (ch:=ch) hch (λb o hL hb hc e n=>u.keep b o e n (λz=>(ba.mp (I.stkSub b z)).elim hL hb) hc) (λb o _ _ hc e n=>u.any e n hc) (λb o hc e n=>u.free b o e n hc) (λb o hc e=>u.there b o e hc) u.tups u.frzs u.tbls (λm' hm=>by
  obtain⟨o',es',ep',ho',r'⟩:=hm;rw[ho]at ho';cases ho';exact⟨_,es',ep',hL,r'⟩) hok hg
theorem Inv.turned (I:Inv X pins σ H s)(k:∀b o,b≠it->s.heap.get? b=some o->h'.get? b=some o)(hn:H it=none)(hL:it≠X.env.locals)
  (h1:it∈X.ex∨X.s₀.heap.objs.size<=it)(h2:∀x c,X.env.cells.lookup x=some c->c≠it)(h3:∀p∈X.pn++pins,p.1≠it):Inv X pins σ H { s with heap:=h',toks:=t' }:=by
 have nit:∀b u,H b=some u->b≠it:=λb u e z=>by rw[z,hn]at e;cases e
 refine I.step (g':=s.gens) (d':=s.drawn) (ch:=[it]) (λb hb=> ?_) (λb o _ _ hc e _=>k b o (λz=>hc (by simp[z])) e) (λb o _ _ hc e _=>⟨o.slots,k b o (λz=>hc (by simp[z])) e⟩) (λ_ _ _ _ n=>n)
  (λb o hc e=>⟨o,k b o (λz=>hc (by simp[z])) e⟩) (λ_ _ e=>e) (λ_ _ _ e=>e) (λb ps e=>⟨#[],by rw[e];simp⟩) (λm hm=> ?_) (λb u e=> ?_) I.bare
 .have e:b=it:=by simpa using hb
  subst e;exact⟨h1,hL,h2,h3⟩
 .obtain⟨o,es,ep,ho,r⟩:=hm;exact⟨o,es,ep,k _ o (dg hL) ho,r⟩
 .refine(I.hok b u e).stay (λc v hc q=>k c v ?_ q) (λ_ q=>q) λ_ _ q=>q;rcases hc with z|z
  .rw[z];exact nit b u e
  .exact nit c _ z
theorem Inv.tok (I:Inv X pins σ H s)(t:Nat):Inv X pins σ H { s with toks:=t }:=I.un (h':=s.heap) (t':=t) Un.refl I.hok
theorem Inv.kept (I:Inv X pins σ H s)(k:∀b u,s.heap.get? b=some u->h'.get? b=some u):Inv X pins σ H { s with heap:=h',toks:=t' }:=I.un (Un.kept k) (I.hok.kept k)
theorem Inv.laid {o:HO}(I:Inv X pins σ H s)(k:∀b u,s.heap.get? b=some u->h'.get? b=some u)(hp:s.heap.objs.size<=a)(new:ObjOk X.prog X.w (upd H a o) h' a o):
  Inv X pins σ (upd H a o) { s with heap:=h',toks:=t' }:=I.un (Un.laid k hp (I.hok.fresh hp)) (I.hok.laid k hp new)
theorem Inv.write {x e:Addr}{o:HO}(I:Inv X pins σ H s)(mu:Mut (H x))(he:e=x∨H e=some (.own x))(k:∀b u,b≠e->s.heap.get? b=some u->h'.get? b=some u)(heo:∃u,h'.get? e=some u)
  (new:ObjOk X.prog X.w (upd H x o) h' x o):Inv X pins σ (upd H x o) { s with heap:=h',toks:=t' }:=I.un (Un.write mu he k heo) (I.hok.write mu he k heo new)
theorem Inv.weak {σ':List (Option V)}(I:Inv X pins σ H s)(hl:σ'.length=σ.length)(w:∀(i:Nat) v,σ'[i]? =some (some v)->σ[i]? =some (some v)):Inv X pins σ' H s :=
 ⟨I.ok,I.os,I.bare,I.base,let ⟨m,hn,hl'⟩:=I.loc;⟨m,hn,λi x v e1 e2 e3=>hl' i x v e1 (w i v e2) e3⟩,I.cell,I.free,I.freeC,I.pin,I.hok,hl.trans I.len⟩
theorem Inv.pins_of {pins':List (Addr×Obj)}(I:Inv X pins σ H s)(h:∀p∈pins',s.heap.get? p.1=some p.2/\H p.1=none/\p.1≠X.env.locals/\p.1∉X.fs/\∀v,p.2.data≠ .cell v):Inv X pins' σ H s :=
 ⟨I.ok,I.os,I.bare,I.base,I.loc,I.cell,I.free,I.freeC,λp hp=>(fc.mp hp).elim (λz=>I.pin p (gk _ z)) (h p),I.hok,I.len⟩
theorem A4 (hN:N.Nodup){j:Nat}(a:N[i]? =some x)(b:N[j]? =some x):i=j:=by
 obtain⟨h1,e1⟩:=ay.mp a;obtain⟨h2,e2⟩:=ay.mp b;exact(List.getElem_inj hN).mp (e1.trans e2.symm)
theorem U7 {M:vz}{Q:Unit->aj->Prop}(I:Inv X pins σ H s)(hN:X.N.Nodup)(hi:X.N[i]? =some x)(hx:Loc X.env.scope x)(r:RelV v u)
  (h:∀s',Inv X pins (σ.set i (some v)) H s'->(∃a,ie a s.heap s'.heap/\(a=X.env.locals∨X.env.cells.lookup x=some a))->Q () s')(hf:X.fn x=true∨X.env.scope.names.lookup x=some .local:=by first|exact .inl rfl|exact .inr rfl|assumption):ax M A (storeName X.env x u) Q E s:=by
 obtain⟨m,hn,hl⟩:=id I.loc;have hcls:(X.env.scope.kind== .class||(X.env.scope.kind== .module&&X.env.locals !=X.env.globals))=false:=by rw[I.ok.kind];rfl
 have hiσ:i<σ.length:=by rw[I.len];exact(ay.mp hi).1
 have cne:=I.cne;have tracked:∀{a:Addr}{h':Heap},(∃o,s.heap.get? a=some o/\H a=none)->ie a s.heap h'->HOk X.prog X.w H h':=λ{a h'} ha hs b ob e=>by
  obtain⟨_,_,hfree⟩:=ha;refine(I.hok b ob e).stay (λc w' hc q=>(hs.2 c ?_).trans q) (λ_ q=>q) λ_ _ q=>q;rintro rfl;rcases hc with rfl|hc
  .rw[hfree]at e;cases e
  .rw[hfree]at hc;cases hc
 rcases hx with hk|hk
 .refine wpAny_storeName_local hk hn (λh' hn' hs=> ?_) hcls;obtain⟨oL,_,_,hoL,_⟩:=id hn;refine h _ ⟨I.ok,I.os,I.bare,⟨λb o e n hb hx=> ?_,λb o e n hb hx=> ?_,I.base.free,λb o e hx=> ?_,I.base.tups,I.base.frzs,I.base.tbls⟩,⟨_,hn',λj y v' e1 e2 e3=> ?_⟩,λy c e=> ?_,I.free,I.freeC,λp hp=> ?_,tracked ⟨oL,hoL,I.free⟩ hs,by simpa using I.len⟩ ⟨_,hs,.inl rfl⟩
  .exact(hs.2 b (bp (au (ag e) I.ok.above))).trans (I.base.keep b o e n hb hx)
  .obtain⟨sl,e1⟩:=I.base.slot b o e n hb hx;exact⟨sl,(hs.2 b (bp (au (ag e) I.ok.above))).trans e1⟩
  .obtain⟨o',e1⟩:=I.base.there b o e hx;exact⟨o',(hs.2 b (bp (au (ag e) I.ok.above))).trans e1⟩
  .by_cases hj:j=i
   .subst hj;rw[hi]at e1;cases e1;rw[vq hiσ]at e2;cases e2;exact⟨u,r,.inl ⟨hk,by simp⟩⟩
   .rw[mf (dg hj)]at e2;obtain⟨u',r',q⟩:=hl j y v' e1 e2 e3;refine⟨u',r',?_⟩;rcases q with⟨k,e⟩|⟨k,c,e,z⟩
    .refine .inl ⟨k,?_⟩;have:y≠x:=λe=>hj (A4 hN e1 (e▸hi));simp[this,e]
    .exact .inr ⟨k,c,e,z.sameBut hs (cne y c e)⟩
  .obtain⟨w',z⟩:=I.cell y c e;exact⟨w',z.sameBut hs (cne y c e)⟩
  .obtain⟨e,n,ne,nf,d⟩:=I.pin p hp;exact⟨(hs.2 p.1 ne).trans e,n,ne,nf,d⟩
 .have hfn:X.fn x=true:=by
   rcases hf with z|z
   .exact z
   .rw[z]at hk;cases hk
  obtain⟨c,hc⟩:=I.ok.has x (.inl hk);obtain⟨w',z⟩:=I.cell x c hc;refine wpAny_storeName_cell I.ok.kind hk hc z (λh' hc' hs=> ?_);obtain⟨oc,hoc,hocd⟩:=id z;refine h { s with heap:=h' } ⟨I.ok,I.os,I.bare,⟨λb o e n hb hx=> ?_,λb o e n hb hx=> ?_,I.base.free,λb o e hx=> ?_,I.base.tups,I.base.frzs,I.base.tbls⟩,⟨m,hn.sameBut hs (dg (cne x c hc)),λj y v' e1 e2 e3=> ?_⟩,λy c' e=> ?_,I.free,I.freeC,λp hp=> ?_,tracked ⟨oc,hoc,I.freeC x c hc⟩ hs,by simpa using I.len⟩ ⟨c,hs,.inr hc⟩
  .exact(hs.2 b (bp (au (ag e) (I.ok.cab x c hfn hc)))).trans (I.base.keep b o e n hb hx)
  .obtain⟨sl,e1⟩:=I.base.slot b o e n hb hx;exact⟨sl,(hs.2 b (bp (au (ag e) (I.ok.cab x c hfn hc)))).trans e1⟩
  .obtain⟨o',e1⟩:=I.base.there b o e hx;exact⟨o',(hs.2 b (bp (au (ag e) (I.ok.cab x c hfn hc)))).trans e1⟩
  .by_cases hj:j=i
   .subst hj;rw[hi]at e1;cases e1;rw[vq hiσ]at e2;cases e2;exact⟨u,r,.inr ⟨.inl hk,c,hc,hc'⟩⟩
   .rw[mf (dg hj)]at e2;obtain⟨u',r',q⟩:=hl j y v' e1 e2 e3;refine⟨u',r',?_⟩;rcases q with q|⟨k,c',e,z'⟩
    .exact .inl q
    .refine .inr ⟨k,c',e,z'.sameBut hs ?_⟩;rintro rfl;exact hj (A4 hN e1 (I.ok.inj _ _ _ e hc▸hi))
  .by_cases hcc:c'=c
   .subst hcc;exact⟨_,hc'⟩
   .obtain⟨w2,z2⟩:=I.cell y c' e;exact⟨w2,z2.sameBut hs hcc⟩
  .obtain⟨e,n,ne,nf,d⟩:=I.pin p hp;refine⟨(hs.2 p.1 ?_).trans e,n,ne,nf,d⟩;intro q;rw[q,hoc]at e;have q':oc=p.2:=cp e;exact d w' (by rw[←q'];exact hocd)
theorem zZ {M:vz}{Q:Unit->aj->Prop}(I:Inv X pins σ H s)(hN:X.N.Nodup)(hi:X.N[i]? =some x)(hx:Loc X.env.scope x)(r:RelV v u)
  (h:∀s',Inv X pins (σ.set i (some v)) H s'->Q () s')(hf:X.fn x=true∨X.env.scope.names.lookup x=some .local:=by first|exact .inl rfl|exact .inr rfl|assumption):ax M A (storeName X.env x u) Q E s :=
 U7 I hN hi hx r (λs' I' _=>h s' I') hf
theorem Inv.call' (I:Inv X pins σ H s)(ho:s'.os=s.os)(u:Un (frs X.stack) ch H H' s.heap s'.heap)(hok:HOk X.prog X.w H' s'.heap)(hg:qw s'.gens)
  (hch:∀b∈ch,(b∈X.ex∨X.s₀.heap.objs.size<=b)/\b≠X.env.locals/\(∀x c,X.env.cells.lookup x=some c->c≠b)/\∀p∈X.pn++pins,p.1≠b):Inv X pins σ H' s':=by
 obtain⟨h',g',d',t',o'⟩:=s';have e:o'=s.os:=ho;subst e;exact I.call (g':=g') (t':=t') (d':=d') u hok hg hch
end
abbrev XK:=af->Option Addr->Hp->Prop
abbrev St:=List (Option V)
abbrev VK:=V->Hp->Prop
abbrev TE:=St->Hp->VK->Prop
abbrev TT:=St->Hp->(Bool->Hp->Prop)->Prop
abbrev TA:=St->Hp->(List V->Hp->Prop)->Prop
structure d6 where
 nx:St->Hp->Prop
 rt:VK
 bk:St->Hp->Prop:=λ_ _=>False
 ct:St->Hp->Prop:=λ_ _=>False
abbrev TS:=d6->St->Hp->Prop
def EP (X:Cx)(pins:List (Addr×Obj))(σ:St)(Q:VK)(u:af)(s':aj):Prop:=∃v H',Inv X pins σ H' s'/\RelV v u/\Q v H'
def TP (X:Cx)(pins:List (Addr×Obj))(σ:St)(Q:Bool->Hp->Prop)(b:Bool)(s':aj):Prop:=∃H',Inv X pins σ H' s'/\Q b H'
def AP (X:Cx)(pins:List (Addr×Obj))(σ:St)(Q:List V->Hp->Prop)(us:List af)(s':aj):Prop:=∃vs H',Inv X pins σ H' s'/\Vals vs us/\Q vs H'
def SP (X:Cx)(pins:List (Addr×Obj))(D:d6)(f:Flow)(s':aj):Prop :=
 match f with
 | .next=>∃σ' H',Inv X pins σ' H' s'/\D.nx σ' H'
 | .brk=>∃σ' H',Inv X pins σ' H' s'/\D.bk σ' H'
 | .cont=>∃σ' H',Inv X pins σ' H' s'/\D.ct σ' H'
 | .ret u=>∃v σ' H',Inv X pins σ' H' s'/\RelV v u/\D.rt v H'
def PE (X:Cx)(e:Expr)(t:TE):Prop :=
 ∀(pins:List (Addr×Obj)) (s:aj) (σ:St) (H:Hp) (Q:VK),Inv X pins σ H s->t σ H Q->ax (be X.prog X.w) X.A (eval e X.env) (EP X pins σ Q) X.xe s
def PT (X:Cx)(e:Expr)(t:TT):Prop :=
 ∀(pins:List (Addr×Obj)) (s:aj) (σ:St) (H:Hp) (Q:Bool->Hp->Prop),Inv X pins σ H s->t σ H Q->ax (be X.prog X.w) X.A (isTrue e X.env (eval e X.env)) (TP X pins σ Q) X.xe s
def PW (X:Cx)(e:Expr)(t:TT):Prop :=
 ∀(whole:Sem af) (pins:List (Addr×Obj)) (s:aj) (σ:St) (H:Hp) (Q:Bool->Hp->Prop),Inv X pins σ H s->t σ H Q->ax (be X.prog X.w) X.A (isTrue e X.env whole) (TP X pins σ Q) X.xe s
variable {e tg:Expr}
theorem PW.pt {t:TT}(h:PW X e t):PT X e t:=h _
def PA (X:Cx)(es:List Expr)(t:TA):Prop :=
 ∀(pos:Pos) (pins:List (Addr×Obj)) (s:aj) (σ:St) (H:Hp) (Q:List V->Hp->Prop),Inv X pins σ H s->t σ H Q->ax (be X.prog X.w) X.A (spliced (fh pos (az es X.env))) (AP X pins σ Q) X.xe s
def PS (X:Cx)(st:Stmt)(t:TS):Prop :=
 ∀(pins:List (Addr×Obj)) (s:aj) (σ:St) (H:Hp) (D:d6),Inv X pins σ H s->t D σ H->ax (be X.prog X.w) X.A (exec st X.env) (SP X pins D) X.xe s
def PSs (X:Cx)(st:List Stmt)(t:TS):Prop :=
 ∀(pins:List (Addr×Obj)) (s:aj) (σ:St) (H:Hp) (D:d6),Inv X pins σ H s->t D σ H->ax (be X.prog X.w) X.A (execs st X.env) (SP X pins D) X.xe s
theorem thn {α:Type}{t:Sem α}{Q Q':α->aj->Prop}{M:vz}(h:ax M A t Q E s)(hQ:∀a s,Q a s->Q' a s):ax M A t Q' E s:=bu h hQ λ_ _ x=>x
variable {apos pos pos':Pos}{σ:St}{op op':CmpOp}{es:List Expr}{ta te:TE}
section
def gY (i:Nat):TE:=λσ H Q=>∃v,σ[i]? =some (some v)/\Q v H
def tC (v:V):TE:=λ_ H Q=>Q v H
theorem aDj (hN:X.N[i]? =some x)(hv:Vis X.env.scope x)(hd:(x==("__debug__" :Str))=false:=by decide)(hcd:(x==("__classdict__" :Str))=false:=by decide):PE X (.Name x pos) (gY i):=by
 intro pins s σ H Q I h;obtain⟨v,e,h⟩:=h;obtain⟨m,hn,hl⟩:=I.loc;obtain⟨u,r,l⟩:=hl i x v hN e hv;have fin:EP X pins σ Q u s:=⟨v,H,I,r,h⟩
 rcases l with⟨hk,hm⟩|⟨hk,c,hc,hcell⟩
 .exact wpAny_Name (wpAny_loadName_local I.ok.kind hk hn hm fin) hd
 .rcases hk with hk|hk
  .exact wpAny_Name (wpAny_loadName_cell I.ok.kind hk hc hcell fin) hd
  .exact wpAny_Name (wpAny_loadName_free I.ok.kind hk hc hcell fin hcd) hd
theorem aF {i j pos}:PE X (.Constant (.int i) j pos) (tC (.int i)):=λ_ _ _ H _ I h=>wpAny_Constant_int ⟨.int i,H,I.tok _,⟨_,rfl⟩,h⟩
theorem xZ {b j pos}:PE X (.Constant (.bool b) j pos) (tC (.bl b)):=λ_ _ _ H _ I h=>Constant_bool ⟨.bl b,H,I,rfl,h⟩
theorem qJ {j pos}:PE X (.Constant .none j pos) (tC .non):=λ_ _ _ H _ I h=>Constant_none ⟨.non,H,I,rfl,h⟩
theorem aL {x j pos}:PE X (.Constant (.str x) j pos) (tC (.str x)):=λ_ _ _ H _ I h=>ye ⟨.str x,H,I.tok _,⟨_,rfl⟩,h⟩
def Gl (X:Cx)(x:Str):Prop:=X.env.kindOf x=some .globalImplicit
theorem dH (I:Inv X pins σ H s)(hg:Gl X x)(hm:X.mg x=some u)(h:Q u s)
  (hd:(x==("__debug__" :Str))=false:=by decide):ax (be X.prog X.w) X.A (eval (.Name x pos) X.env) Q E s :=
 tf I.ok.kind hg (Calls.loadGlobal_global (by rw[I.ok.glob];exact I.mod.glob.keeps I.bk) hm h) hd
theorem tK (I:Inv X pins σ H s)(hg:Gl X x)(hm:X.mg x=none)(hv:dv x=some u)(h:Q u s)
  (hn:x≠ "__name__" :=by decide)(hd:(x==("__debug__" :Str))=false:=by decide):ax (be X.prog X.w) X.A (eval (.Name x pos) X.env) Q E s:=by
 obtain⟨mb,h1,h2⟩:=I.mod.blt;exact tf I.ok.kind hg (Calls.loadGlobal_builtin (by rw[I.ok.glob];exact I.mod.glob.keeps I.bk) hm (by rw[I.ok.blt];exact h1.keeps I.bk) ((h2 x hn).trans hv) h) hd
theorem NY (hg:Gl X x)(hm:X.mg x=some u)(r:RelV v u)(hd:(x==("__debug__" :Str))=false:=by decide):PE X (.Name x pos) (tC v) :=
 λ_ _ _ H _ I h=>dH I hg hm ⟨v,H,I,r,h⟩ hd
theorem aAZ (hg:Gl X x)(hm:X.mg x=none)(hv:dv x=some u)(r:RelV v u)(hn:x≠ "__name__" :=by decide)(hd:(x==("__debug__" :Str))=false:=by decide):PE X (.Name x pos) (tC v) :=
 λ_ _ _ H _ I h=>tK I hg hm hv ⟨v,H,I,r,h⟩ hn hd
variable {a b:Expr}{tb:TE}
def PC (X:Cx)(op:CmpOp)(a b:Expr)(t:TE):Prop :=
 ∀(pins:List (Addr×Obj)) (s:aj) (σ:St) (H:Hp) (Q:VK),Inv X pins σ H s->t σ H Q →
  ax (be X.prog X.w) X.A (eval a X.env) (λv s₁=>ax (be X.prog X.w) X.A (eval b X.env) (λu s₂=>ax (be X.prog X.w) X.A (fe op v u) (EP X pins σ Q) X.xe s₂) X.xe s₁) X.xe s
def tB (t:TE):TT:=λσ H Q=>t σ H λx H1=>∃c,x= .bl c/\Q c H1
theorem wX {t:TE}(h:PC X op a b t)(h1:qx op b=false:=by first|exact nobehind _ (by decide) (by decide)|rfl):PT X (.Compare a [op] [b] pos) (tB t):=by
 intro pins s σ H Q I hw;refine wpAny_isTrue_Compare1 (thn (h pins s σ H _ I hw) λv s1 h1=>thn h1 λu s2 h2=>thn h2 λc s3 ⟨x,H1,I1,r1,q1⟩=> ?_) h1;obtain⟨d,rfl,q⟩:=q1;cases r1;exact ft ⟨H1,I1,q⟩
theorem cA {t:TE}(h:PE X e t)(he:∀whole,isTrue e X.env whole=(do let v ←whole;xr e.pos;vt [v] (truthy v)):=by intro _;rfl):PT X e (tB t):=by
 intro pins s σ H Q I hw;refine isTrue_plain (thn (h pins s σ H _ I hw) λv s1 ⟨x,H1,I1,r1,q1⟩=> ?_) (he _);obtain⟨d,rfl,q⟩:=q1;cases r1;exact ft ⟨H1,I1,q⟩
variable {tA tB':TT}{rest:List Expr}
def aDw (t u:TT):TT:=λσ H Q=>t σ H λc H1=>if c=true then u σ H1 Q else Q false H1
def tOr (t u:TT):TT:=λσ H Q=>t σ H λc H1=>if c=true then Q true H1 else u σ H1 Q
def aDE (t:TT):TT:=λσ H Q=>t σ H λc H1=>Q (!c) H1
theorem lY (ha:PT X a tA):PW X (.BoolOp .And [a] pos) tA:=by
 intro wh pins s σ H Q I h;refine isTrue_and (thn (ha pins s σ H Q I h) λc s1 e=> ?_);cases c with
 | true=>exact isTrue_and_nil e
 | false=>exact e
theorem qC (ha:PT X a tA):PW X (.BoolOp .Or [a] pos) tA:=by
 intro wh pins s σ H Q I h;refine isTrue_or (thn (ha pins s σ H Q I h) λc s1 e=> ?_);cases c with
 | false=>exact isTrue_or_nil e
 | true=>exact e
theorem pZ (ha:PT X a tA)(hb:PW X (.BoolOp .And (b::rest) pos) tB'):PW X (.BoolOp .And (a::b::rest) pos) (aDw tA tB'):=by
 intro wh pins s σ H Q I h;refine isTrue_and (thn (ha pins s σ H _ I h) λc s1 ⟨H1,I1,q1⟩=> ?_);cases c with
 | true=>exact hb wh pins s1 σ H1 Q I1 q1
 | false=>exact⟨H1,I1,q1⟩
theorem rJ (ha:PT X a tA)(hb:PW X (.BoolOp .Or (b::rest) pos) tB'):PW X (.BoolOp .Or (a::b::rest) pos) (tOr tA tB'):=by
 intro wh pins s σ H Q I h;refine isTrue_or (thn (ha pins s σ H _ I h) λc s1 ⟨H1,I1,q1⟩=> ?_);cases c with
 | true=>exact⟨H1,I1,q1⟩
 | false=>exact hb wh pins s1 σ H1 Q I1 q1
theorem eK (ha:PT X a tA):PT X (.UnaryOp .Not a pos) (aDE tA):=by
 intro pins s σ H Q I h;exact isTrue_not (ha pins s σ H (λc H1=>Q (!c) H1) I h)
def ZI (ta tb:TE):TE:=λσ H Q=>ta σ H λx H1=>∃c,x= .bl c/\if c=true then tb σ H1 Q else Q (.bl false) H1
def aCl (ta tb:TE):TE:=λσ H Q=>ta σ H λx H1=>∃c,x= .bl c/\if c=true then Q (.bl true) H1 else tb σ H1 Q
def ZH (ta:TE):TE:=λσ H Q=>ta σ H λx H1=>∃c,x= .bl c/\Q (.bl (!c)) H1
theorem BX {op}{t:TE}(h:PE X a t):PE X (.BoolOp op [a] pos) t:=λpins s σ H Q I hw=>BoolOp_one (h pins s σ H Q I hw)
theorem JE (ha:PE X a ta)(hb:PE X (.BoolOp .And (b::rest) pos) tb):PE X (.BoolOp .And (a::b::rest) pos) (ZI ta tb):=by
 intro pins s σ H Q I h;refine BoolOp_and (thn (ha pins s σ H _ I h) λv s1 ⟨x,H1,I1,r1,q1⟩=> ?_);obtain⟨c,rfl,q1⟩:=q1;cases r1;refine ft ?_;cases c with
 | true=>exact hb pins s1 σ H1 Q I1 q1
 | false=>exact⟨.bl false,H1,I1,rfl,q1⟩
theorem aEp (ha:PE X a ta)(hb:PE X (.BoolOp .Or (b::rest) pos) tb):PE X (.BoolOp .Or (a::b::rest) pos) (aCl ta tb):=by
 intro pins s σ H Q I h;refine BoolOp_or (thn (ha pins s σ H _ I h) λv s1 ⟨x,H1,I1,r1,q1⟩=> ?_);obtain⟨c,rfl,q1⟩:=q1;cases r1;refine ft ?_;cases c with
 | false=>exact hb pins s1 σ H1 Q I1 q1
 | true=>exact⟨.bl true,H1,I1,rfl,q1⟩
theorem BY (ha:PE X a ta):PE X (.UnaryOp .Not a pos) (ZH ta):=by
 intro pins s σ H Q I h;refine UnaryOp_ (thn (ha pins s σ H _ I h) λv s1 ⟨x,H1,I1,r1,q1⟩=> ?_);obtain⟨c,rfl,q1⟩:=q1;cases r1;exact not_of (ft ⟨.bl (!c),H1,I1,rfl,q1⟩)
def tIf (t:TT)(ta tb:TE):TE:=λσ H Q=>t σ H λc H1=>if c=true then ta σ H1 Q else tb σ H1 Q
theorem AK {c:Expr}(hc:PT X c tA)(ha:PE X a ta)(hb:PE X b tb):PE X (.IfExp c a b pos) (tIf tA ta tb):=by
 intro pins s σ H Q I h;refine wpAny_IfExp (thn (hc pins s σ H _ I h) λd s1 ⟨H1,I1,q1⟩=> ?_);cases d with
 | true=>exact ha pins s1 σ H1 Q I1 q1
 | false=>exact hb pins s1 σ H1 Q I1 q1
end
def SqL (K:W.Frag)(H:Hp)(a:Addr)(xs:List V):Prop :=
 Rd H a (.lst xs) ∨
  ∃(o:Obj) (its:Array af) (n:Nat),K.lookup a=some o/\o.cls= .type "list" /\o.dict=none/\o.data= .seq its n/\its.size<=sizeLine/\Vals xs its.toList
def SqT (K:W.Frag)(H:Hp)(a:Addr)(xs:List V):Prop :=
 Rd H a (.tup xs) ∨
  ∃(o:Obj) (its:Array af) (n:Nat),K.lookup a=some o/\o.cls= .type "tuple" /\o.data= .seq its n/\its.size<=sizeLine/\Vals xs its.toList
def aFb:af->Option V
 | .none=>some .non
 | .bool b=>some (.bl b)
 | .int i _=>some (.int i)
 | .str x _=>some (.str x)
 | .bytes b _=>some (.byt b)
 | .float b _=>some (.flt b)
 | .ref a=>some (.ref a)
 | .type n=>some (.ty n)
 | _=>none
theorem RelV.abs {x:V}(r:RelV x u):aFb u=some x:=by
 cases x with
 | non=>cases r;rfl
 | bl _=>cases r;rfl
 | int _=>obtain⟨t,rfl⟩:=r;rfl
 | str _=>obtain⟨t,rfl⟩:=r;rfl
 | byt _=>obtain⟨t,rfl⟩:=r;rfl
 | flt _=>obtain⟨t,rfl⟩:=r;rfl
 | ref _=>cases r;rfl
 | ty _=>cases r;rfl
theorem RelV.inj {x y:V}(r:RelV x u)(q:RelV y u):x=y:=cp (r.abs.symm.trans q.abs)
theorem Vals.inj:∀{xs ys:List V}{us:List af},Vals xs us->Vals ys us->xs=ys
 | _,_,_,.nil,.nil=>rfl
 | _,_,_,.cons r t,.cons r' t'=>by rw[r.inj r',Vals.inj t t']
variable {K:W.Frag}
section
variable {ys:List V}
theorem SqL.of (h:H a=some (.lst xs)):SqL K H a xs:= .inl (.inl h)
theorem SqT.of (h:H a=some (.tup xs)):SqT K H a xs:= .inl (.inl h)
theorem Inv.list (I:Inv X pins σ H s)(h:SqL X.K H a xs):∃its:List af,Vals xs its/\PlainL s.heap a its.toArray/\xs.length<=sizeLine:=by
 rcases h with h|⟨o,its,n,hk,hc,hd,hs,hz,r⟩
 .obtain⟨z,its,n,r,e⟩:=h.ok I.hok;exact⟨its,r,⟨_,n,e,rfl,rfl,rfl⟩,z⟩
 .refine⟨its.toList,r,⟨o,n,I.kIn a o hk,hc,hd,by simpa using hs⟩,?_⟩;have e:=r.length;simp only[fj]at e
  lia
theorem Inv.tuple (I:Inv X pins σ H s)(h:SqT X.K H a xs):∃its:List af,Vals xs its/\IsTup s.heap a its.toArray/\xs.length<=sizeLine:=by
 rcases h with h|⟨o,its,n,hk,hc,hs,hz,r⟩
 .obtain⟨z,its,r,p⟩:=h.ok I.hok;exact⟨its,r,p,z⟩
 .refine⟨its.toList,r,⟨o,I.kIn a o hk,hc,n,by simpa using hs⟩,?_⟩;have e:=r.length;simp only[fj]at e
  lia
theorem Inv.list_inj (I:Inv X pins σ H s)(h:SqL X.K H a xs)(h':SqL X.K H a ys):xs=ys:=by
 obtain⟨its,r,⟨o,n,e,_,_,d⟩,_⟩:=I.list h;obtain⟨its',r',⟨o',n',e',_,_,d'⟩,_⟩:=I.list h';rw[e]at e';cases e';rw[d]at d';injection d' with d1 _;have:its=its':=by simpa using congrArg Array.toList d1
 subst this;exact r.inj r'
theorem Inv.tuple_inj (I:Inv X pins σ H s)(h:SqT X.K H a xs)(h':SqT X.K H a ys):xs=ys:=by
 obtain⟨its,r,⟨o,e,_,n,d⟩,_⟩:=I.tuple h;obtain⟨its',r',⟨o',e',_,n',d'⟩,_⟩:=I.tuple h';rw[e]at e';cases e';rw[d]at d';injection d' with d1 _;have:its=its':=by simpa using congrArg Array.toList d1
 subst this;exact r.inj r'
end
abbrev Cx.wish (X:Cx)(E:af->aj->Prop):Cx:={ X with xe:=E }
abbrev Cx.nox (X:Cx):Cx:=X.wish λ_ _=>False
theorem Cx.Ok.wish (ok:X.Ok)(E:af->aj->Prop):(X.wish E).Ok :=
 ⟨ok.mod,ok.kind,ok.glob,ok.blt,ok.above,ok.inj,ok.has,ok.cab,ok.hd,ok.frames,ok.stk,ok.exf,ok.bs,ok.bsz,ok.noex,ok.exfs,ok.funs,ok.frf⟩
theorem Cx.Ok.unwish (ok:(X.wish E).Ok):X.Ok :=
 ⟨ok.mod,ok.kind,ok.glob,ok.blt,ok.above,ok.inj,ok.has,ok.cab,ok.hd,ok.frames,ok.stk,ok.exf,ok.bs,ok.bsz,ok.noex,ok.exfs,ok.funs,ok.frf⟩
variable {body:List Stmt}{tb:TS}
theorem Inv.wish (I:Inv X pins σ H s)(E:af->aj->Prop):Inv (X.wish E) pins σ H s:=⟨I.ok.wish E,I.os,I.bare,I.base,I.loc,I.cell,I.free,I.freeC,I.pin,I.hok,I.len⟩
theorem Inv.unwish (I:Inv (X.wish E) pins σ H s):Inv X pins σ H s:=⟨I.ok.unwish,I.os,I.bare,I.base,I.loc,I.cell,I.free,I.freeC,I.pin,I.hok,I.len⟩
theorem SP.unwish {D:d6}{f:Flow}(h:SP (X.wish E) pins D f s'):SP X pins D f s':=by
 cases f with
 | next=>obtain⟨σ',H',I,q⟩:=h;exact⟨σ',H',I.unwish,q⟩
 | brk=>obtain⟨σ',H',I,q⟩:=h;exact⟨σ',H',I.unwish,q⟩
 | cont=>obtain⟨σ',H',I,q⟩:=h;exact⟨σ',H',I.unwish,q⟩
 | ret u=>obtain⟨v,σ',H',I,r,q⟩:=h;exact⟨v,σ',H',I.unwish,r,q⟩
theorem PSs.nox {st:List Stmt}{t:TS}(h:PSs X.nox st t):PSs X st t:=λpins s σ H D I hw =>
 bu (h pins s σ H D (I.wish _) hw) (λ_ _ q=>q.unwish) λ_ _ z=>dh z
section
variable {st:Stmt}{rest:List Stmt}{t u:TS}
def Z6:TS:=λD σ H=>D.nx σ H
def JQ (t u:TS):TS:=λD σ H=>t { D with nx:=u D } σ H
theorem aQ:PSs X [] Z6:=λ_ _ σ H _ I h=>kz ⟨σ,H,I,h⟩
theorem aC (h1:PS X st t)(h2:PSs X rest u):PSs X (st::rest) (JQ t u):=by
 intro pins s σ H D I h;refine jy (thn (h1 pins s σ H { D with nx:=u D } I h) λf s1 q=> ?_);cases f with
 | next =>
  obtain⟨σ',H',I',q⟩:=q;exact h2 pins s1 σ' H' D I' q
 | ret v=>exact q
 | brk=>exact q
 | cont=>exact q
theorem aD (h1:PS X st t):PSs X [st] t:=by
 intro pins s σ H D I h;refine jy (thn (h1 pins s σ H D I h) λf s1 q=> ?_);cases f with
 | next=>exact kz q
 | ret v=>exact q
 | brk=>exact q
 | cont=>exact q
theorem Inv.quiet (I:Inv X pins σ H s):interactive X.env=false:=by simp[interactive,I.ok.kind]
def ZX (te:TE):TS:=λD σ H=>te σ H λ_ H1=>D.nx σ H1
theorem bQ (he:PE X e te)(hs:mn e none pos.line X.env=pure false:=by rfl):PS X (.Expr e pos) (ZX te):=by
 intro pins s σ H D I h;exact xb (thn (he pins s σ H _ I h) λv s1 ⟨x,H1,I1,r1,q1⟩=>⟨σ,H1,I1,q1⟩) I.quiet hs
def aCU (te:TE):TS:=λD σ H=>te σ H D.rt
theorem aM (he:PE X e te):PS X (.Return (some e) pos) (aCU te):=by
 intro pins s σ H D I h;exact wpAny_Return_some (thn (he pins s σ H _ I h) λv s1 ⟨x,H1,I1,r1,q1⟩=>⟨x,σ,H1,I1,r1,q1⟩)
def O5 (c:TT)(t u:TS):TS:=λD σ H=>c σ H λb H1=>if b=true then t D σ H1 else u D σ H1
theorem a9 {c:Expr}{a b:List Stmt}{tc:TT}(hc:PT X c tc)(ha:PSs X a t)(hb:PSs X b u):PS X (.If c a b pos) (O5 tc t u):=by
 intro pins s σ H D I h;refine wpAny_If (thn (hc pins s σ H _ I h) λd s1 ⟨H1,I1,q1⟩=> ?_);cases d with
 | true=>exact ha pins s1 σ H1 D I1 q1
 | false=>exact hb pins s1 σ H1 D I1 q1
def aCS:TS:=λ_ _ _=>False
theorem pI:PS X st aCS:=λ_ _ _ _ _ _ h=>h.elim
end
abbrev TG:=V->St->Hp->(St->Hp->Prop)->Prop
abbrev TGs:=List V->St->Hp->(St->Hp->Prop)->Prop
def PG (X:Cx)(target:Expr)(t:TG):Prop :=
 ∀(pins:List (Addr×Obj)) (s:aj) (σ:St) (H:Hp) (v:V) (u:af) (Q:St->Hp->Prop),Inv X pins σ H s->RelV v u->t v σ H Q →
  ax (be X.prog X.w) X.A (uo target X.env u) (λ_ s'=>∃σ' H',Inv X pins σ' H' s'/\Q σ' H') X.xe s
def PGs (X:Cx)(ts:List Expr)(t:TGs):Prop :=
 ∀(pins:List (Addr×Obj)) (s:aj) (σ:St) (H:Hp) (vs:List V) (us:List af) (Q:St->Hp->Prop),Inv X pins σ H s->Vals vs us->t vs σ H Q →
  ax (be X.prog X.w) X.A (assignInOrder ((qj ts X.env).map (·.2)) us) (λ_ s'=>∃σ' H',Inv X pins σ' H' s'/\Q σ' H') X.xe s
variable {g:TG}
def cT (i:Nat):TG:=λv σ H Q=>Q (σ.set i (some v)) H
theorem aS (hN:X.N.Nodup)(hi:X.N[i]? =some x)(hx:Loc X.env.scope x)(hf:X.fn x=true∨X.env.scope.names.lookup x=some .local:=by first|exact .inl rfl|exact .inr rfl|assumption):PG X (.Name x pos) (cT i):=by
 intro pins s σ H v u Q I r h;exact wpAny_assign_Name (zZ I hN hi hx r (λs' I'=>⟨_,H,I',h⟩) hf)
def IO:TGs:=λvs σ H Q=>vs=[]/\Q σ H
def qX (t:TG)(u:TGs):TGs:=λvs σ H Q=>∃v r,vs=v::r/\t v σ H λσ' H'=>u r σ' H' Q
theorem dI:PGs X [] IO:=by
 intro pins s σ H vs us Q I r h;obtain⟨e,h⟩:=h;subst e;cases r;exact assignInOrder_nil ⟨σ,H,I,h⟩
theorem bK {t:TG}{u:TGs}(h1:PG X e t)(h2:PGs X es u)
  (hs:(qj (e::es) X.env).map (·.2)=uo e X.env::(qj es X.env).map (·.2):=by rfl):PGs X (e::es) (qX t u):=by
 intro pins s σ H vs us Q I r h;obtain⟨v,vr,e1,h⟩:=h;subst e1;cases r with
 | cons r rr =>
  rw[hs];refine assignInOrder_cons (thn (h1 pins s σ H _ _ _ I r h) λ_ s1 ⟨σ1,H1,I1,q1⟩=> ?_);exact h2 pins s1 σ1 H1 _ _ Q I1 rr q1
def DO (K:W.Frag)(n:Nat)(t:TGs):TG:=λv σ H Q=>∃a xs,v= .ref a/\SqT K H a xs/\xs.length=n/\t xs σ H Q
theorem tF {k:Nat}{t:TGs}(hc:X.calm=true)(h:PGs X es t)
  (hn:(qj es X.env).length=n:=by rfl)(hst:(qj es X.env).findIdx? (·.1)=none:=by rfl):PG X (.Tuple es k pos) (DO X.K n t):=by
 intro pins s σ H v u Q I r hw;obtain⟨a,xs,e1,hq,hl,hw⟩:=hw;subst e1;cases r;obtain⟨its,rv,ht,hz⟩:=I.tuple hq;refine assign_Tuple_tuple (I.ok.hd hc) ht (by simp[hn,←hl,rv.length]) hst λh' hx=> ?_;have I1:Inv X pins σ H { s with heap:=h' }:=I.kept (t':=s.toks) λb o e=>hx b o (bp (ag e)) e;exact h pins _ σ H xs _ Q I1 (by simpa using rv) hw
def PH (te:TE)(g:TG):TS:=λD σ H=>te σ H λx H1=>g x σ H1 D.nx
theorem bD (hN:X.N.Nodup)(hi:X.N[i]? =some x)(hx:Loc X.env.scope x)(he:PE X e te)(hs:mn e (some (.Name x pos')) pos.line X.env=pure false:=by rfl)(hf:X.fn x=true∨X.env.scope.names.lookup x=some .local:=by first|exact .inl rfl|exact .inr rfl|assumption):
  PS X (.Assign [.Name x pos'] e pos) (PH te (cT i)):=by
 intro pins s σ H D I h;refine wpAny_Assign_Name (thn (he pins s σ H _ I h) λv s1 ⟨y,H1,I1,r1,q1⟩=> ?_) hs;exact zZ I1 hN hi hx r1 (λs2 I2=>⟨_,H1,I2,q1⟩) hf
structure It where
 go:Nat->Hp->Prop
 yld:Nat->Hp->V->Hp->Prop
 stop:Nat->Hp->Prop
def fK (X:Cx)(pins:List (Addr×Obj))(H:Hp)(b:Addr):Prop :=
 H b=none/\b≠X.env.locals/\b∉X.fs/\(b∈X.ex∨X.s₀.heap.objs.size<=b)/\(∀x c,X.env.cells.lookup x=some c->c≠b)/\∀p∈X.pn++pins,p.1≠b
theorem Inv.fpOk (I:Inv X pins σ H s)(hb:s.heap.objs.size<=b)(hn:H' b=none):fK X pins H' b:=by
 refine⟨hn,km (au I.lt hb),I.nofs hb,.inr (bo I.sz hb),λx c e z=> ?_,λp hp z=> ?_⟩
 .obtain⟨v,q⟩:=I.cell x c e;exact absurd (au q.lt (by rw[z];exact hb)) (bt _)
 .exact absurd (au (ag (I.pin p hp).1) (by rw[z];exact hb)) (bt _)
structure sF (P:ef)(w:gd)(K:W.Frag)(tg:Expr)(J:It)(fp:List Addr)(it:Addr)(tn:Nat->Heap->Prop):Prop where
 mem:it∈fp
 obj:∀i h,tn i h->∀b∈fp,∃o,h.get? b=some o/\∀v,o.data≠ .cell v
 keep:∀i h h',tn i h->(∀b∈fp,∀o,h.get? b=some o->h'.get? b=some o)->tn i h'
 item:∀(X:Cx),X.prog=P->X.w=w->X.K=K->X.calm=true->∀(i:Nat) (pins:List (Addr×Obj)) (s:aj) (σ:St) (H:Hp) (E:af->aj->Prop),Inv X pins σ H s->(∀b∈fp,fK X pins H b)->tn i s.heap->J.go i H →
  ax (be P w) X.A (rl (.ref it)) (λr s1=>∃u,r=some u ∧
   ax (be P w) X.A (rm tg (.ref it) u) (λ_ s2=>∃x H',Inv X pins σ H' s2/\RelV x u/\J.yld i H x H'/\tn (i+1) s2.heap/\∀b∈fp,H' b=none) E s1) E s
 done:∀(X:Cx),X.prog=P->X.w=w->X.K=K->X.calm=true->∀(i:Nat) (pins:List (Addr×Obj)) (s:aj) (σ:St) (H:Hp) (E:af->aj->Prop),Inv X pins σ H s->(∀b∈fp,fK X pins H b)->tn i s.heap->J.stop i H →
  ax (be P w) X.A (rl (.ref it)) (λr s1=>r=none/\Inv X pins σ H s1) E s
 self:∀(A:jx) (i:Nat) (s:aj) (Q:af->aj->Prop) (E:af->aj->Prop),tn i s.heap->Q (.ref it) s->ax (be P w) A (pyIter (.ref it)) Q E s
abbrev TI:=St->Hp->(It->Hp->Prop)->Prop
def PIE (X:Cx)(pins:List (Addr×Obj))(σ:St)(tg:Expr)(R:It->Hp->Prop)(itv:af)(s2:aj):Prop :=
 ∃(it:Addr) (fp:List Addr) (tn:Nat->Heap->Prop) (J:It) (H':Hp),itv= .ref it/\Inv X pins σ H' s2/\sF X.prog X.w X.K tg J fp it tn/\tn 0 s2.heap/\(∀b∈fp,fK X pins H' b)/\R J H'
def PI (X:Cx)(tg iter:Expr)(wi:TI):Prop :=
 ∀(pins:List (Addr×Obj)) (s:aj) (σ:St) (H:Hp) (R:It->Hp->Prop),Inv X pins σ H s->wi σ H R →
  ax (be X.prog X.w) X.A (eval iter X.env) (λv s1=>ax (be X.prog X.w) X.A (pyIter v) (PIE X pins σ tg R) X.xe s1) X.xe s
theorem QJ {M:vz}{n:String}{vs:Array af}{Q:Unit->aj->Prop}(ho:s.heap.get? it=some o)(hc:o.cls= .type n)(hd:o.data= .fields vs)
  (hn:["enumerate","zip","dict_itemiterator","dict_reverseitemiterator","odict_iterator","itertools.zip_longest","itertools.pairwise"].contains n=false)(hQ:Q () s):ax M A (rm tg (.ref it) u) Q E s:=by
 unfold rm;cases tg<;>first
  | exact ai hQ
  | (cases u<;>first
    | exact ai hQ
    | (refine aa (wpAny_load ho ?_);rw[hc,hd];show ax M A (if (["enumerate","zip","dict_itemiterator","dict_reverseitemiterator","odict_iterator","itertools.zip_longest","itertools.pairwise"].contains n&&vs[0]? ==some (rawInt _))=true then _ else _) Q E s;rw[if_neg (by intro h;rw[hn,mh]at h;cases h)];exact ai hQ))
def Itl (K:W.Frag)(a:Addr):It :=
 ⟨λi H=>∃xs x,SqL K H a xs/\xs[i]? =some x,λi H x H'=>H'=H/\∀xs,SqL K H a xs->xs[i]? =some x,λi H=>∃xs,SqL K H a xs/\xs.length<=i⟩
def Itr (lo:Int)(n:Nat):It:=⟨λi _=>i<n,λi H x H'=>H'=H/\x= .int (lo+i),λi _=>n<=i⟩
theorem VC (a it:Addr):sF P w K tg (Itl K a) [it] it (λi h=>h.IsListIter it a i) where
 mem:=by simp
 obj:=λi h st b hb=>by
  have e:b=it:=by simpa using hb
  subst e;obtain⟨o,e,c,d⟩:=st;exact⟨o,e,λv z=>by rw[d]at z;cases z⟩
 keep:=λi h h' st k=>st.at λo e=>k it (by simp) o e
 item:=by
  intro X hP hw hK hc i pins s σ H E I hf st hg;subst hP hw hK;obtain⟨xs,x,hq,hx⟩:=hg;obtain⟨its,rv,p,hz⟩:=I.list hq;obtain⟨u,hu,ru⟩:=rv.get hx;obtain⟨f0,f1,f2,f3,f4,f5⟩:=hf it (by simp);refine wpAny_pyNext_list_item st p.isList (x:=u) (by simpa using hu) λh' st' sb=> ?_;have I1:Inv X pins σ H { s with heap:=h' }:=I.turned (t':=s.toks) (λb o hb e=>(sb.2 b hb).trans e) f0 f1 f3 f4 f5;obtain⟨o,e,c,d⟩:=id st';exact⟨u,rfl,QJ (s:={ s with heap:=h' }) e c d (by decide) ⟨x,H,I1,ru,⟨rfl,λys hy=>by rw[I.list_inj hy hq];exact hx⟩,st',λb hb=>(hf b hb).1⟩⟩
 done:=by
  intro X hP hw hK hc i pins s σ H E I hf st hg;subst hP hw hK;obtain⟨xs,hq,hx⟩:=hg;obtain⟨its,rv,p,hz⟩:=I.list hq;obtain⟨f0,f1,f2,f3,f4,f5⟩:=hf it (by simp);have hl:=rv.length;exact wpAny_pyNext_list_end (I.ok.hd hc) st p.isList (by simp;lia) λh' eb=>⟨rfl,I.turned (t':=s.toks) (λb o hb e=>eb b o hb e) f0 f1 f3 f4 f5⟩
 self:=λ_ _ _ _ _ st h=>wpAny_pyIter_listiter st h
theorem OO (it:Addr)(lo:Int)(n:Nat):sF P w K tg (Itr lo n) [it] it (λi h=>IsRangeIter h it (lo+(i:Nat) * 1) ((n:Int) - (i:Nat)) 1) where
 mem:=by simp
 obj:=λi h st b hb=>by
  have e:b=it:=by simpa using hb
  subst e;exact⟨_,st,λv z=>by
   have z':Data.fields _=Data.cell v:=z;cases z'⟩
 keep:=λi h h' st k=>k it (by simp) _ st
 item:=by
  intro X hP hw hK hc i pins s σ H E I hf st hg;subst hP hw hK;obtain⟨f0,f1,f2,f3,f4,f5⟩:=hf it (by simp);have W:=Walks.range (prog:=X.prog) (w:=X.w) (I.ok.hd hc) it lo 1 n;refine W.item i s _ _ hg st λv h' tk hv st' kk=> ?_;obtain⟨t,rfl⟩:=hv;have I1:Inv X pins σ H { s with heap:=h',toks:=tk }:=I.turned (λb o hb e=>kk b o (by simpa using hb) e) f0 f1 f3 f4 f5;refine⟨_,rfl,QJ (s:={ s with heap:=h',toks:=tk }) (n:= "range_iterator") st' rfl rfl (by decide) ⟨.int (lo+i),H,I1,⟨t,?_⟩,⟨rfl,rfl⟩,st',λb hb=>(hf b hb).1⟩⟩;rw[Int.mul_one]
 done:=by
  intro X hP hw hK hc i pins s σ H E I hf st hg;subst hP hw hK;obtain⟨f0,f1,f2,f3,f4,f5⟩:=hf it (by simp);exact wpAny_pyNext_range_end (I.ok.hd hc) st (by have:n<=i:=hg;lia) λh' eb=>⟨rfl,I.turned (t':=s.toks) (λb o hb e=>eb b o hb e) f0 f1 f3 f4 f5⟩
 self:=λ_ _ _ _ _ st h=>wpAny_pyIter_rangeiter st h
variable {lo:Int}
def aAc (K:W.Frag)(tl:TE):TI:=λσ H R=>tl σ H λx H1=>∃a,x= .ref a/\(∃xs,SqL K H1 a xs)/\R (Itl K a) H1
theorem b0 {l:Expr}{tl:TE}(hl:PE X l tl):PI X tg l (aAc X.K tl):=by
 intro pins s σ H R I h;refine thn (hl pins s σ H _ I h) λv s1 ⟨x,H1,I1,r1,q1⟩=> ?_;obtain⟨a,e,⟨xs,hq⟩,q⟩:=q1;subst e;cases r1;obtain⟨its,rv,p,hz⟩:=I1.list hq;refine lu p.isList ?_;refine⟨s1.heap.objs.size,[s1.heap.objs.size],_,_,H1,rfl,I1.kept (t':=s1.toks) λb o e=>ae _ e,VC a _,⟨_,aw _ rfl,rfl,rfl⟩,λb hb=> ?_,q⟩;have e:b=s1.heap.objs.size:=by simpa using hb
 subst e;exact I1.fpOk (ar _) (I1.hok.fresh (ar _))
theorem JG {R:It->Hp->Prop}{hi:Int}{t u v:Tok}{tk:Nat}(I:Inv X pins σ H s)(h1: -(2^62)<=lo)(h2:lo<2^62)(h3: -(2^62)<=hi)(h4:hi<2^62)
  (q:R (Itr lo (hi - lo).toNat) H):ax (be X.prog X.w) X.A (pyIter (.ref s.heap.objs.size)) (PIE X pins σ tg R) E { s with heap:=s.heap.push { cls:= .type "range",data:= .fields #[.int lo t,.int hi u,.int 1 v] },toks:=tk }:=by
 refine wpAny_pyIter_range (IsRange.new ..) (small_one h1 h2 h3 h4) ?_;have I1:Inv X pins σ H { s with heap:=s.heap.push { cls:= .type "range",data:= .fields #[.int lo t,.int hi u,.int 1 v] },toks:=tk }:=I.kept λb o e=>ae _ e;refine⟨(s.heap.push { cls:= .type "range",data:= .fields #[.int lo t,.int hi u,.int 1 v] }).objs.size,[(s.heap.push { cls:= .type "range",data:= .fields #[.int lo t,.int hi u,.int 1 v] }).objs.size],_,_,H,rfl,
  I1.kept (t':=tk) λb o e=>ae _ e,OO _ lo (hi - lo).toNat,?_,λb hb=> ?_,q⟩
 .have e1:lo+((0:Nat):Int) * 1=lo:=by simp
  have e2:(((hi - lo).toNat:Nat):Int) - ((0:Nat):Int)=nq.Range.rangeSize lo hi 1:=by rw[rangeSize_one];split<;>lia
  show IsRangeIter _ _ (lo+((0:Nat):Int) * 1) ((((hi - lo).toNat:Nat):Int) - ((0:Nat):Int)) 1;rw[e1,e2];exact aw _ rfl
 .have e:b=(s.heap.push { cls:= .type "range",data:= .fields #[.int lo t,.int hi u,.int 1 v] }).objs.size:=by simpa using hb
  subst e;exact I1.fpOk (ar _) (I1.hok.fresh (ar _))
def aAg (ta:TA):TI:=λσ H R=>ta σ H λvs H1=>∃j:Int,vs=[.int j]/\ -(2^62)<=j/\j<2^62/\R (Itr 0 j.toNat) H1
def Z0 (ta:TA):TI:=λσ H R=>ta σ H λvs H1=>∃i j:Int,vs=[.int i,.int j]/\(-(2^62)<=i/\i<2^62/\ -(2^62)<=j/\j<2^62)/\R (Itr i (j - i).toNat) H1
theorem GA {a:Expr}{ta:TA}{p:Pos}(hg:Gl X "range")(hm:X.mg "range" =none)(ha:PA X [a] ta)(hs:az [a] X.env=[(false,eval a X.env)]:=by rfl):PI X tg (.Call (.Name "range" p) [a] [] pos) (aAg ta):=by
 intro pins s σ H R I h;refine Call_ (tK I hg hm boot_range (jc (thn (ha pos pins s σ H _ I h) λus s1 ⟨vs,H1,I1,r1,q1⟩=> ?_) hs rfl));obtain⟨j,e,q1,q2,q⟩:=q1;subst e;cases r1 with
 | cons r rr =>
  cases rr;obtain⟨t,rfl⟩:=r;exact call_range_1 (JG I1 (by lia) (by lia) q1 q2 (by simpa using q))
theorem SH {a b:Expr}{ta:TA}{p pos:Pos}(hg:Gl X "range")(hm:X.mg "range" =none)(ha:PA X [a,b] ta)(hs:az [a,b] X.env=[(false,eval a X.env),(false,eval b X.env)]:=by rfl)(hs2:az [b] X.env=[(false,eval b X.env)]:=by rfl):
  PI X tg (.Call (.Name "range" p) [a,b] [] pos) (Z0 ta):=by
 intro pins s σ H R I h;refine Call_ (tK I hg hm boot_range (jc (thn (ha pos pins s σ H _ I h) λus s1 ⟨vs,H1,I1,r1,q1⟩=> ?_) (by rw[hs,hs2]) (by rw[hs2];rfl)));obtain⟨i,j,e,⟨q1,q2,q3,q4⟩,q⟩:=q1;subst e;cases r1 with
 | cons r rr =>
  cases rr with
  | cons r' rr =>
   cases rr;obtain⟨t,rfl⟩:=r;obtain⟨t',rfl⟩:=r';exact call_range_2 (JG I1 q1 q2 q3 q4 q)
def aDW (wi:TI)(g:TG)(tb:TS):TS:=λD σ H=>wi σ H λJ H1=>∃W:Nat->Nat->St->Hp->Prop,(∃m,W 0 m σ H1)/\∀i m σ H,W i m σ H →
 (J.stop i H/\D.nx σ H)∨(J.go i H/\∃N:St->Hp->Prop,(∀σ' H',N σ' H'->∃m',m'<m/\W (i+1) m' σ' H')/\∀x H',J.yld i H x H'->g x σ H' λσ2 H2=>tb { D with nx:=N,ct:=N,bk:=D.nx } σ2 H2)
def fF (fp:List Addr)(h:Heap):List (Addr×Obj):=fp.filterMap λb=>(h.get? b).map λo=>(b,o)
theorem dW (hb:b∈fp)(e:h.get? b=some o):(b,o)∈fF fp h:=ko.mpr ⟨b,hb,by rw[e];rfl⟩
theorem wS {p:Addr×Obj}(hp:p∈fF fp h):p.1∈fp/\h.get? p.1=some p.2:=by
 obtain⟨b,hb,e⟩:=ko.mp hp;cases q:h.get? b with
 | none=>rw[q]at e;cases e
 | some o =>
  rw[q]at e;have e':(b,o)=p:=cp e;subst e';exact⟨hb,q⟩
theorem Inv.pinned (I:Inv X pins σ H s)(hf:∀b∈fp,fK X pins H b)(ho:∀b∈fp,∃o,s.heap.get? b=some o/\∀v,o.data≠ .cell v):Inv X (pins++fF fp s.heap) σ H s :=
 I.pins_of λp hp=>(fc.mp hp).elim (λz=>I.pin p (bc _ z)) λz=>by
  obtain⟨hb,e⟩:=wS z;obtain⟨f0,f1,f2,_⟩:=hf p.1 hb;obtain⟨o,e',d⟩:=ho p.1 hb;rw[e]at e';cases e';exact⟨e,f0,f1,f2,d⟩
theorem Inv.unpinned {pl:List (Addr×Obj)}(I:Inv X (pins++pl) σ H s):Inv X pins σ H s:=I.pins_of λp hp=>I.pin p (bc _ (gk _ hp))
theorem dS {iter:Expr}{wi:TI}(hp:PassesOwn (be X.prog X.w) X.A X.env X.xe)(hc:X.calm=true)(hi:PI X tg iter wi)(hg:PG X tg g)(hb:PSs X body tb)
  (hs:∀x,ji iter X.env x=pure x:=by intro _;rfl):PS X (.For tg iter body [] pos) (aDW wi g tb):=by
 intro pins s σ H D I h;refine wpAny_For (thn (hi pins s σ H _ I h) λv s1 h1=>thn h1 λitv s2 h2=> ?_) hs;obtain⟨it,fp,tn,J,H2,e,I2,T,st2,f2,W,⟨m0,w0⟩,turn⟩:=h2;subst e;have stat:∀{H':Hp},(∀b∈fp,H' b=none)->∀b∈fp,fK X pins H' b:=λhn b hb=>⟨hn b hb,(f2 b hb).2⟩
 refine codeAny_forLoop_any (λn s'=>∃i σ' H',Inv X pins σ' H' s'/\tn i s'.heap/\(∀b∈fp,H' b=none)/\W i n σ' H') ?_ m0 ⟨0,σ,H2,I2,st2,λb hb=>(f2 b hb).1,w0⟩;rintro n s3 ⟨i,σ3,H3,I3,st3,fr3,w3⟩;rcases turn i n σ3 H3 w3 with⟨stop,qn⟩|⟨go,N,hN,step⟩
 .refine ni hp (thn (T.done X rfl rfl rfl hc i pins s3 σ3 H3 X.xe I3 (stat fr3) st3 stop) λr s4 ⟨hr,I4⟩=> ?_);subst hr;exact kz ⟨σ3,H3,I4,qn⟩
 .refine ni hp (thn (T.item X rfl rfl rfl hc i pins s3 σ3 H3 X.xe I3 (stat fr3) st3 go) λr s4 ⟨u,hr,h4⟩=> ?_);subst hr;refine ni hp (thn h4 λ_ s5 ⟨x,H5,I5,r5,y5,st5,fr5⟩=> ?_);have I5':=I5.pinned (stat fr5) (T.obj _ _ st5);refine ni hp (thn (hg _ s5 σ3 H5 x u _ I5' r5 (step x H5 y5)) λ_ s6 ⟨σ6,H6,I6,q6⟩=> ?_);refine ni hp (thn (hb _ s6 σ6 H6 _ I6 q6) λf s7 q7=> ?_);have again:∀{σ7:St}{H7:Hp},Inv X (pins++fF fp s5.heap) σ7 H7 s7->N σ7 H7->∃m,m<n/\∃i σ' H',Inv X pins σ' H' s7/\tn i s7.heap/\(∀b∈fp,H' b=none)/\W i m σ' H':=λ{σ7 H7} I7 n7=>by
   obtain⟨m',hm,w7⟩:=hN σ7 H7 n7;refine⟨m',hm,i+1,σ7,H7,I7.unpinned,T.keep _ _ _ st5 λb hb o e=>(I7.pin (b,o) (bc _ (bc _ (dW hb e)))).1,λb hb=> ?_,w7⟩;obtain⟨o,e,d⟩:=T.obj _ _ st5 b hb;exact(I7.pin (b,o) (bc _ (bc _ (dW hb e)))).2.1
  cases f with
  | next=>obtain⟨σ7,H7,I7,n7⟩:=q7;exact again I7 n7
  | cont=>obtain⟨σ7,H7,I7,n7⟩:=q7;exact again I7 n7
  | brk=>obtain⟨σ7,H7,I7,q7⟩:=q7;exact⟨σ7,H7,I7.unpinned,q7⟩
  | ret v=>obtain⟨x7,σ7,H7,I7,r7,q7⟩:=q7;exact⟨x7,σ7,H7,I7.unpinned,r7,q7⟩
theorem WF {D:d6}(Pv:Nat->St->Hp->Prop)(h0:Pv 0 σ H)(hl:∀i σ H,i<=xs.length->Pv i σ H->SqL K H a xs)
  (hs:∀i x σ H,xs[i]? =some x->Pv i σ H->g x σ H λσ2 H2=>tb { D with nx:=Pv (i+1),ct:=Pv (i+1),bk:=D.nx } σ2 H2)(hd:∀σ H,Pv xs.length σ H->D.nx σ H) :
  ∃W:Nat->Nat->St->Hp->Prop,(∃m,W 0 m σ H)/\∀i m σ H,W i m σ H →
   ((Itl K a).stop i H/\D.nx σ H)∨((Itl K a).go i H/\∃N:St->Hp->Prop,(∀σ' H',N σ' H'->∃m',m'<m/\W (i+1) m' σ' H')/\∀x H',(Itl K a).yld i H x H'->g x σ H' λσ2 H2=>tb { D with nx:=N,ct:=N,bk:=D.nx } σ2 H2):=by
 refine⟨λi m σ H=>m=xs.length - i/\i<=xs.length/\Pv i σ H,⟨xs.length,by simp,gi _,h0⟩,?_⟩;rintro i m σ H ⟨rfl,hi,p⟩;have q:=hl i σ H hi p
 by_cases hlt:i<xs.length
 .refine .inr ⟨⟨xs,xs[i],q,by simp[hlt]⟩,Pv (i+1),λσ' H' p'=>⟨xs.length - (i+1),by lia,rfl,hlt,p'⟩,λx H' y=> ?_⟩;obtain⟨e,y⟩:=y;subst e;exact hs i x σ _ (y xs q) p
 .have e:i=xs.length:=by lia
  subst e;exact .inl ⟨⟨xs,q,ar _⟩,hd σ H p⟩
theorem U4 {D:d6}(Pv:Nat->St->Hp->Prop)(h0:Pv 0 σ H)
  (hs:∀i σ H,i<n->Pv i σ H->g (.int (lo+i)) σ H λσ2 H2=>tb { D with nx:=Pv (i+1),ct:=Pv (i+1),bk:=D.nx } σ2 H2)(hd:∀σ H,Pv n σ H->D.nx σ H) :
  ∃W:Nat->Nat->St->Hp->Prop,(∃m,W 0 m σ H)/\∀i m σ H,W i m σ H →
   ((Itr lo n).stop i H/\D.nx σ H)∨((Itr lo n).go i H/\∃N:St->Hp->Prop,(∀σ' H',N σ' H'->∃m',m'<m/\W (i+1) m' σ' H')/\∀x H',(Itr lo n).yld i H x H'->g x σ H' λσ2 H2=>tb { D with nx:=N,ct:=N,bk:=D.nx } σ2 H2):=by
 refine⟨λi m σ H=>m=n - i/\i<=n/\Pv i σ H,⟨n,by simp,gi _,h0⟩,?_⟩;rintro i m σ H ⟨rfl,hi,p⟩
 by_cases hlt:i<n
 .refine .inr ⟨hlt,Pv (i+1),λσ' H' p'=>⟨n - (i+1),by lia,rfl,hlt,p'⟩,λx H' y=> ?_⟩;obtain⟨e,y⟩:=y;subst e y;exact hs i σ _ hlt p
 .have e:i=n:=by lia
  subst e;exact .inl ⟨ar _,hd σ H p⟩
abbrev R2:=V->V->Hp->VK->Prop
def OpR (X:Cx)(f:af->af->Sem af)(r:R2):Prop :=
 ∀(pins:List (Addr×Obj)) (s:aj) (σ:St) (H:Hp) (x y:V) (v u:af) (Q:VK),Inv X pins σ H s->RelV x v->RelV y u->r x y H Q →
  ax (be X.prog X.w) X.A (f v u) (EP X pins σ Q) X.xe s
def UnR (X:Cx)(f:af->Sem af)(r:V->Hp->VK->Prop):Prop :=
 ∀(pins:List (Addr×Obj)) (s:aj) (σ:St) (H:Hp) (x:V) (v:af) (Q:VK),Inv X pins σ H s->RelV x v->r x H Q →
  ax (be X.prog X.w) X.A (f v) (EP X pins σ Q) X.xe s
def cQ (X:Cx)(f:af)(r:List V->Hp->VK->Prop):Prop :=
 ∀(pins:List (Addr×Obj)) (s:aj) (σ:St) (H:Hp) (xs:List V) (us:List af) (Q:VK),Inv X pins σ H s->Vals xs us->r xs H Q →
  ax (be X.prog X.w) X.A (call f us) (EP X pins σ Q) X.xe s
def tOp (r:R2)(ta tb:TE):TE:=λσ H Q=>ta σ H λx H1=>tb σ H1 λy H2=>r x y H2 Q
def tUn (r:V->Hp->VK->Prop)(ta:TE):TE:=λσ H Q=>ta σ H λx H1=>r x H1 Q
def rI (C:Int->Int->Prop)(g:Int->Int->V):R2:=λx y H Q=>∃i j,x= .int i/\y= .int j/\C i j/\Q (g i j) H
def rI0 (g:Int->Int->V):R2:=λx y H Q=>∃i j,x= .int i/\y= .int j/\Q (g i j) H
def rU (g:Int->V):V->Hp->VK->Prop:=λx H Q=>∃i,x= .int i/\Q (g i) H
variable {r':R2}
section
variable {a b c:Expr}{tb tc:TE}
theorem W1 (ha:PE X a ta)(hb:PE X b tb){R:V->V->Hp->Prop}(I:Inv X pins σ H s)
  (h:ta σ H λx H1=>tb σ H1 λy H2=>R x y H2){Q:af->aj->Prop}{f:af->af->Sem af}
  (hf:∀v u s2 x y H2,Inv X pins σ H2 s2->RelV x v->RelV y u->R x y H2->ax (be X.prog X.w) X.A (f v u) Q X.xe s2) :
  ax (be X.prog X.w) X.A (eval a X.env) (λv s₁=>ax (be X.prog X.w) X.A (eval b X.env) (λu s₂=>ax (be X.prog X.w) X.A (f v u) Q X.xe s₂) X.xe s₁) X.xe s:=by
 refine thn (ha pins s σ H _ I h) λv s1 ⟨x,H1,I1,r1,q1⟩=> ?_;refine thn (hb pins s1 σ H1 _ I1 q1) λu s2 ⟨y,H2,I2,r2,q2⟩=> ?_;exact hf v u s2 x y H2 I2 r1 r2 q2
theorem bR {op:Operator}{r:R2}(ho:OpR X (rg op) r)(ha:PE X a ta)(hb:PE X b tb):PE X (.BinOp a op b pos) (tOp r ta tb):=by
 intro pins s σ H Q I h;exact wpAny_BinOp (W1 ha hb I h λv u s2 x y H2 I2 rx ry q=>ho pins s2 σ H2 x y v u Q I2 rx ry q)
theorem Z1 {op:UnaryOp}{r:V->Hp->VK->Prop}(ho:UnR X (unaryOp op) r)(ha:PE X a ta):PE X (.UnaryOp op a pos) (tUn r ta):=by
 intro pins s σ H Q I h;exact UnaryOp_ (thn (ha pins s σ H _ I h) λv s1 ⟨x,H1,I1,r1,q1⟩=>ho pins s1 σ H1 x v Q I1 r1 q1)
theorem opI {f:af->af->Sem af}{C:Int->Int->Prop}{g:Int->Int->Int}
  (rule:∀(i j:Int) (t u:Tok) (s:aj) (Q:af->aj->Prop) (E:af->aj->Prop),C i j->Q (.int (g i j) s.toks) { s with toks:=s.toks+1 }->ax (be X.prog X.w) X.A (f (.int i t) (.int j u)) Q E s) :
  OpR X f (rI C λi j=> .int (g i j)):=by
 intro pins s σ H x y v u Q I rx ry h;obtain⟨i,j,rfl,rfl,hc,q⟩:=h;obtain⟨t,rfl⟩:=rx;obtain⟨t',rfl⟩:=ry;exact rule i j t t' s _ _ hc ⟨.int (g i j),H,I.tok _,⟨_,rfl⟩,q⟩
theorem aDD {f:af->af->Sem af}{g:Int->Int->Int}
  (rule:∀(i j:Int) (t u:Tok) (s:aj) (Q:af->aj->Prop) (E:af->aj->Prop),Q (.int (g i j) s.toks) { s with toks:=s.toks+1 }->ax (be X.prog X.w) X.A (f (.int i t) (.int j u)) Q E s) :
  OpR X f (rI0 λi j=> .int (g i j)):=by
 intro pins s σ H x y v u Q I rx ry h;obtain⟨i,j,rfl,rfl,q⟩:=h;obtain⟨t,rfl⟩:=rx;obtain⟨t',rfl⟩:=ry;exact rule i j t t' s _ _ ⟨.int (g i j),H,I.tok _,⟨_,rfl⟩,q⟩
theorem OW {f:af->af->Sem af}{g:Int->Int->Bool}
  (rule:∀(i j:Int) (t u:Tok) (s:aj) (Q:af->aj->Prop) (E:af->aj->Prop),Q (.bool (g i j)) s->ax (be X.prog X.w) X.A (f (.int i t) (.int j u)) Q E s) :
  OpR X f (rI0 λi j=> .bl (g i j)):=by
 intro pins s σ H x y v u Q I rx ry h;obtain⟨i,j,rfl,rfl,q⟩:=h;obtain⟨t,rfl⟩:=rx;obtain⟨t',rfl⟩:=ry;exact rule i j t t' s _ _ ⟨.bl (g i j),H,I,rfl,q⟩
def aCA (i j:Int):Prop:=0<j/\j<1073741824
def aDO (i j:Int):Prop:=0<=j/\j<=1000000/\i.natAbs<2^64
theorem eN:OpR X (rg .Add) (rI0 λi j=> .int (i+j)):=aDD λ_ _ _ _ _ _ _ q=>add_int q
theorem CO:OpR X (rg .Sub) (rI0 λi j=> .int (i - j)):=aDD λ_ _ _ _ _ _ _ q=>sub_int q
theorem MZ:OpR X (rg .FloorDiv) (rI aCA λi j=> .int (i/j)):=opI λi j _ _ _ _ _ hc q=>by
 have h1:(0:Int)<j:=hc.1;have h2:j<1073741824:=hc.2;exact floordiv_int (by lia) (by rw[Int.fdiv_eq_ediv_of_nonneg i (by lia)];exact q) (.inl (PyProof.noPylong_small (by lia)))
theorem BL:OpR X (rg .Mod) (rI (λ_ j=>0<j) λi j=> .int (i%j)):=opI λi j _ _ _ _ _ hc q=>by
 have h1:(0:Int)<j:=hc;exact mod_int' (by lia) (by rw[Int.fmod_eq_emod_of_nonneg i (by lia)];exact q)
theorem aCz:OpR X (rg .Pow) (rI aDO λi j=> .int (i^j.toNat)):=opI λ_ _ _ _ _ _ _ hc q=>pow_int_small hc.1 hc.2.1 hc.2.2 q
theorem unI {f:af->Sem af}{g:Int->Int}
  (rule:∀(i:Int) (t:Tok) (s:aj) (Q:af->aj->Prop) (E:af->aj->Prop),Q (.int (g i) s.toks) { s with toks:=s.toks+1 }->ax (be X.prog X.w) X.A (f (.int i t)) Q E s) :
  UnR X f (rU λi=> .int (g i)):=by
 intro pins s σ H x v Q I rx h;obtain⟨i,rfl,q⟩:=h;obtain⟨t,rfl⟩:=rx;exact rule i t s _ _ ⟨.int (g i),H,I.tok _,⟨_,rfl⟩,q⟩
theorem VE:UnR X (unaryOp .USub) (rU λi=> .int (-i)):=unI λ_ _ _ _ _ q=>neg_int q
end
def aDK:V->V->Bool
 | .non,.non=>true| .non,.int _=>true| .int _,.non=>true| .non,.bl _=>true| .bl _,.non=>true| .non,.str _=>true| .str _,.non=>true
 | .int _,.int _=>true| .bl _,.bl _=>true| .str _,.str _=>true| .byt _,.byt _=>true
 | .int _,.str _=>true| .str _,.int _=>true| .bl _,.str _=>true| .str _,.bl _=>true
 | _,_=>false
def rEq:R2:=λx y H Q=>aDK x y=true/\Q (.bl (decide (x=y))) H
def rNe:R2:=λx y H Q=>aDK x y=true/\Q (.bl (!decide (x=y))) H
theorem N2 {i j:Int}:decide (V.int i=V.int j)=(i==j):=by
 rw[nj];simp
theorem UJ {i j:Bool}:decide (V.bl i=V.bl j)=(i==j):=by
 rw[nj];simp
theorem MY {i j:Str}:decide (V.str i=V.str j)=(i==j):=by
 rw[nj];simp
theorem NO {i j:Array UInt8}:decide (V.byt i=V.byt j)=(i.toList==j.toList):=by
 rw[nj];cases i;cases j;simp
section
variable {a b c:Expr}{tb tc:TE}
theorem bV {Q:VK}{k k':Bool}(I:Inv X pins σ H s)(q:Q (.bl k) H)(e:k=k'):EP X pins σ Q (.bool k') s:=by
 subst e;exact⟨.bl k,H,I,rfl,q⟩
theorem cN:OpR X (fe .Eq) rEq:=by
 intro pins s σ H x y v u Q I rx ry h;obtain⟨hs,q⟩:=h;cases x with
 | non =>
  cases rx;cases y with
  | non=>cases ry;exact PySem.EqNone.eq_none_none (bV I q (by simp))
  | bl j=>cases ry;exact PySem.EqNone.eq_none_bool (bV I q (by simp))
  | int j=>obtain⟨t',rfl⟩:=ry;exact PySem.EqNone.eq_none_int (bV I q (by simp))
  | str j=>obtain⟨t',rfl⟩:=ry;exact PySem.EqNone.eq_none_str (bV I q (by simp))
  | _=>exact absurd (show false=true from hs) bh
 | bl i =>
  cases rx;cases y with
  | non=>cases ry;exact PySem.EqNone.eq_bool_none (bV I q (by simp))
  | bl j=>cases ry;exact eq_bool (bV I q UJ)
  | str j=>obtain⟨t',rfl⟩:=ry;exact PySem.EqMixed.eq_bool_str (bV I q (by simp))
  | _=>exact absurd (show false=true from hs) bh
 | int i =>
  obtain⟨t,rfl⟩:=rx;cases y with
  | non=>cases ry;exact PySem.EqNone.eq_int_none (bV I q (by simp))
  | int j=>obtain⟨t',rfl⟩:=ry;exact eq_int (bV I q N2)
  | str j=>obtain⟨t',rfl⟩:=ry;exact PySem.EqMixed.eq_int_str (bV I q (by simp))
  | _=>exact absurd (show false=true from hs) bh
 | str i =>
  obtain⟨t,rfl⟩:=rx;cases y with
  | non=>cases ry;exact PySem.EqNone.eq_str_none (bV I q (by simp))
  | bl j=>cases ry;exact PySem.EqMixed.eq_str_bool (bV I q (by simp))
  | int j=>obtain⟨t',rfl⟩:=ry;exact PySem.EqMixed.eq_str_int (bV I q (by simp))
  | str j=>obtain⟨t',rfl⟩:=ry;exact eq_str (bV I q MY)
  | _=>exact absurd (show false=true from hs) bh
 | byt i =>
  obtain⟨t,rfl⟩:=rx;cases y with
  | byt j=>obtain⟨t',rfl⟩:=ry;exact W.eq_bytes (bV I q NO)
  | _=>exact absurd (show false=true from hs) bh
 | _=>cases y<;>exact absurd (show false=true from hs) bh
theorem ZO:OpR X (fe .NotEq) rNe:=by
 intro pins s σ H x y v u Q I rx ry h;obtain⟨hs,q⟩:=h;cases x with
 | non =>
  cases rx;cases y with
  | non=>cases ry;exact PySem.EqNone.ne_none_none (bV I q (by simp))
  | bl j=>cases ry;exact PySem.EqNone.ne_none_bool (bV I q (by simp))
  | int j=>obtain⟨t',rfl⟩:=ry;exact PySem.EqNone.ne_none_int (bV I q (by simp))
  | str j=>obtain⟨t',rfl⟩:=ry;exact PySem.EqNone.ne_none_str (bV I q (by simp))
  | _=>exact absurd (show false=true from hs) bh
 | bl i =>
  cases rx;cases y with
  | non=>cases ry;exact PySem.EqNone.ne_bool_none (bV I q (by simp))
  | bl j=>cases ry;exact ne_bool (bV I q (congrArg not UJ))
  | str j=>obtain⟨t',rfl⟩:=ry;exact PySem.EqMixed.ne_bool_str (bV I q (by simp))
  | _=>exact absurd (show false=true from hs) bh
 | int i =>
  obtain⟨t,rfl⟩:=rx;cases y with
  | non=>cases ry;exact PySem.EqNone.ne_int_none (bV I q (by simp))
  | int j=>obtain⟨t',rfl⟩:=ry;exact ne_int (bV I q (congrArg not N2))
  | str j=>obtain⟨t',rfl⟩:=ry;exact PySem.EqMixed.ne_int_str (bV I q (by simp))
  | _=>exact absurd (show false=true from hs) bh
 | str i =>
  obtain⟨t,rfl⟩:=rx;cases y with
  | non=>cases ry;exact PySem.EqNone.ne_str_none (bV I q (by simp))
  | bl j=>cases ry;exact PySem.EqMixed.ne_str_bool (bV I q (by simp))
  | int j=>obtain⟨t',rfl⟩:=ry;exact PySem.EqMixed.ne_str_int (bV I q (by simp))
  | str j=>obtain⟨t',rfl⟩:=ry;exact ne_str (bV I q (congrArg not MY))
  | _=>exact absurd (show false=true from hs) bh
 | byt i =>
  obtain⟨t,rfl⟩:=rx;cases y with
  | byt j=>obtain⟨t',rfl⟩:=ry;exact W.ne_bytes (bV I q (congrArg not NO))
  | _=>exact absurd (show false=true from hs) bh
 | _=>cases y<;>exact absurd (show false=true from hs) bh
theorem fM:OpR X (fe .Lt) (rI0 λi j=> .bl (decide (i<j))):=OW λ_ _ _ _ _ _ _ q=>lt_int q
theorem BZ:OpR X (fe .LtE) (rI0 λi j=> .bl (decide (i<=j))):=OW λ_ _ _ _ _ _ _ q=>le_int q
theorem yF:OpR X (fe .Gt) (rI0 λi j=> .bl (decide (j<i))):=OW λ_ _ _ _ _ _ _ q=>gt_int q
theorem Z7:OpR X (fe .GtE) (rI0 λi j=> .bl (decide (j<=i))):=OW λ_ _ _ _ _ _ _ q=>ge_int q
theorem aDa:OpR X (fe .Is) (λx y H Q=>y= .non/\Q (.bl (decide (x= .non))) H):=by
 intro pins s σ H x y v u Q I rx ry h;obtain⟨rfl,q⟩:=h;cases ry;refine is_none_gen (bV I q ?_);cases x<;>first
  | (cases rx;rfl)
  | (obtain⟨t,rfl⟩:=rx;rfl)
theorem aBk:OpR X (fe .IsNot) (λx y H Q=>y= .non/\Q (.bl (!decide (x= .non))) H):=by
 intro pins s σ H x y v u Q I rx ry h;obtain⟨rfl,q⟩:=h;cases ry;refine isnot_none_gen (bV I q ?_);cases x<;>first
  | (cases rx;rfl)
  | (obtain⟨t,rfl⟩:=rx;rfl)
theorem aX (b:Expr)(h:op≠ .In:=by decide)(h2:op≠ .NotIn:=by decide):qx op b=false:=by
 have e1:(op==CmpOp.In)=false:=by cases op<;>first|rfl|exact absurd rfl h
 have e2:(op==CmpOp.NotIn)=false:=by cases op<;>first|rfl|exact absurd rfl h2
 cases b<;>simp[qx,e1,e2]
theorem jQ {r:R2}(ho:OpR X (fe op) r)(ha:PE X a ta)(hb:PE X b tb)(hm:qx op b=false):PE X (.Compare a [op] [b] pos) (tOp r ta tb):=by
 intro pins s σ H Q I h;exact wpAny_Compare1 (W1 ha hb I h λv u s2 x y H2 I2 rx ry q=>ho pins s2 σ H2 x y v u Q I2 rx ry q) hm
def QT (t:TE):TT:=λσ H Q=>t σ H λx H'=>∃k,x= .bl k/\Q k H'
theorem aT {r:R2}(ho:OpR X (fe op) r)(ha:PE X a ta)(hb:PE X b tb)(hm:qx op b=false):PT X (.Compare a [op] [b] pos) (QT (tOp r ta tb)):=by
 intro pins s σ H Q I h;refine wpAny_isTrue_Compare1 (thn (ha pins s σ H _ I h) λv s1 ⟨x,H1,I1,r1,q1⟩=>thn (hb pins s1 σ H1 _ I1 q1) λu s2 ⟨y,H2,I2,r2,q2⟩ =>
  thn (ho pins s2 σ H2 x y v u _ I2 r1 r2 q2) λc s3 ⟨z,H3,I3,r3,k,e,q3⟩=> ?_) hm
 subst e;cases r3;exact ft ⟨H3,I3,q3⟩
def JR (r r':R2)(ta tb tc:TE):TE:=λσ H Q=>ta σ H λx H1=>tb σ H1 λy H2=>r x y H2 λz H3=>∃k,z= .bl k ∧
 (if k=true then tc σ H3 λw' H4=>r' y w' H4 Q else Q (.bl false) H3)
theorem AV {r:R2}(ho:OpR X (fe op) r)(ho':OpR X (fe op') r')(ha:PE X a ta)(hb:PE X b tb)(hc:PE X c tc)
  (hm:lastMarks [op,op'] [b,c]=false:=by with_unfolding_all rfl):PE X (.Compare a [op,op'] [b,c] pos) (JR r r' ta tb tc):=by
 intro pins s σ H Q I h;refine Compare_chain (thn (ha pins s σ H _ I h) λv s1 ⟨x,H1,I1,r1,q1⟩=>chain_link (thn (hb pins s1 σ H1 _ I1 q1) λu s2 ⟨y,H2,I2,r2,q2⟩ =>
  thn (ho pins s2 σ H2 x y v u _ I2 r1 r2 q2) λd s3 ⟨z,H3,I3,r3,k,e,q3⟩=> ?_)) hm
 subst e;cases r3;refine ft ?_;cases k with
 | false=>exact ite_ff ⟨.bl false,H3,I3,rfl,q3⟩
 | true=>exact ite_tt (chain_last (thn (hc pins s3 σ H3 _ I3 q3) λw' s4 ⟨z',H4,I4,r4,q4⟩=>ho' pins s4 σ H4 y z' u w' Q I4 r2 r4 q4))
theorem K0 {r:R2}(ho:OpR X (fe op) r)(ho':OpR X (fe op') r')(ha:PE X a ta)(hb:PE X b tb)(hc:PE X c tc)
  (hm:lastMarks [op,op'] [b,c]=false:=by with_unfolding_all rfl):PT X (.Compare a [op,op'] [b,c] pos) (QT (JR r r' ta tb tc)):=by
 intro pins s σ H Q I h;refine isTrue_chain (thn (ha pins s σ H _ I h) λv s1 ⟨x,H1,I1,r1,q1⟩=>test_link (thn (hb pins s1 σ H1 _ I1 q1) λu s2 ⟨y,H2,I2,r2,q2⟩ =>
  thn (ho pins s2 σ H2 x y v u _ I2 r1 r2 q2) λd s3 ⟨z,H3,I3,r3,k,e,q3⟩=> ?_)) hm
 subst e;cases r3;refine ft ?_;cases k with
 | false =>
  obtain⟨k',e',q'⟩:=q3;cases e';exact ite_ff ⟨H3,I3,q'⟩
 | true =>
  refine ite_tt (test_last (thn (hc pins s3 σ H3 _ I3 q3) λw' s4 ⟨z',H4,I4,r4,q4⟩=>thn (ho' pins s4 σ H4 y z' u w' _ I4 r2 r4 q4) λd' s5 ⟨z2,H5,I5,r5,k2,e2,q5⟩=> ?_));subst e2;cases r5;exact ft ⟨H5,I5,q5⟩
theorem BI:(sizeLine:Nat)<2^63:=by rw[bq];decide
theorem QG:OpR X (rg .Add) (λx y H Q=>∃i j,x= .str i/\y= .str j/\i.length+j.length<=sizeLine/\Q (.str (i++j)) H):=by
 intro pins s σ H x y v u Q I rx ry h;obtain⟨i,j,rfl,rfl,hz,q⟩:=h;obtain⟨t,rfl⟩:=rx;obtain⟨t',rfl⟩:=ry;exact add_str (λt' tk=>⟨.str (i++j),H,I.tok _,⟨_,rfl⟩,q⟩) hz
theorem gG {x:V}(r:Vals [x] us):∃u,us=[u]/\RelV x u:=by
 cases r with
 | cons r1 r2=>cases r2;exact⟨_,rfl,r1⟩
theorem IA {x y:V}(r:Vals [x,y] us):∃u w',us=[u,w']/\RelV x u/\RelV y w':=by
 cases r with
 | cons r1 r2 =>
  cases r2 with
  | cons r3 r4=>cases r4;exact⟨_,_,rfl,r1,r3⟩
theorem JH:cQ X (.type "str") (λxs H Q=>∃i,xs=[.int i]/\i.natAbs.log2<1920/\Q (.str (toString i)) H):=by
 intro pins s σ H xs us Q I r h;obtain⟨i,rfl,hz,q⟩:=h;obtain⟨u,rfl,t,rfl⟩:=gG r;exact PySem.P.str_of_int hz ⟨.str _,H,I.tok _,⟨_,rfl⟩,q⟩
end
structure ObjM (h:Heap)(x dx C:Addr)(mA:Str->Option af):Prop where
 obj:h.get? x=some (W.instObj C dx)
 ns:h.Ns1 dx mA
 ne:dx≠x
variable {mA mg:Str->Option af}
theorem UD (n:h.Ns1 dx mA):∃od,h.get? dx=some od/\∀name,W.lookIn name od=some (mA name):=by
 obtain⟨o,es,ep,ho,hd,hk,_,hm⟩:=n;refine⟨o,ho,λname=> ?_⟩;have e:=hm name;unfold nsFind findBy at e;rw[←yf]at e;unfold W.lookIn;rw[hd]
 dsimp only
 split
 .rename_i y q;rw[q]at e;exact congrArg some e
 .rename_i q;rw[q]at e;have a:es.toList.any (·.refKey)=false:=by
   rw[ue];intro y hy;obtain⟨z,t,hkey⟩:=hk y (rh.mp hy);simp[lj.refKey,hkey]
  have a':¬es.toList.any (·.refKey)=true:=by rw[a];exact bh
  rw[if_neg a'];exact congrArg some e
theorem ObjM.look {x:Addr}(I:ObjM h x dx C mA):∃od,W.InstAt h x (W.instObj C dx) C (some od)/\∀name,W.lookIn name od=some (mA name) :=
 let ⟨od,ho,hl⟩:=UD I.ns
 ⟨od,⟨I.obj,rfl,rfl,ho⟩,hl⟩
variable {pl:Sem Bool}{kw:List (Str×af)}
section
variable {x f:Addr}{v:af}
theorem aBu {expr:Bool}(X:K.In s.heap)(I:ObjM s.heap x dx C mA)(hg:W.plainGet K C name=true)(hh:W.hasDictIn K C=true)
  (ha:W.findIn K (.ref C) name=some none)(hv:mA name=some v)(hv':W.handedIn v=true)(h:Q v { s with toks:=s.toks+1 }) :
  ax (be prog w) A (getAttr (.ref x) name expr) Q E s:=by
 obtain⟨od,J,hl⟩:=I.look;exact W.get_value X J (W.plainGet_of hg).1 (W.findObj_own hh ha rfl (by rw[hl,hv])) hv' h
theorem X9 {Q:af×List af->aj->Prop}(X:K.In s.heap)(I:ObjM s.heap x dx C mA)(hg:W.plainGet K C name=true)
  (hf:W.findIn K (.ref C) name=some (some (.ref f)))(ht:W.isFn K (.ref f)=true)(hv:mA name=none)(h:Q (.ref f,[.ref x]) s) :
  ax (be prog w) A (ql (.ref x) name pl) Q E s:=by
 obtain⟨od,J,hl⟩:=I.look;exact W.method_fn X J (W.plainGet_of hg).1 (W.plainGet_of hg).2 hf (beq_iff_eq.mp ht) (by show (W.lookIn name od).map (·.isSome)=some false;rw[hl,hv];rfl) h
theorem aAq {ns:List Str}{Q:Unit->aj->Prop}(X:K.In s.heap)(I:ObjM s.heap x dx C mA)
  (hs:W.findIn K (.ref C) "__setattr__" =some (some (.builtin "object.__setattr__")))(hp:W.plainOver K C=true)(ht:W.takerIn K C name=some none)(hh:W.hasDictIn K C=true)
  (hw:yk mA ns)(hsz:ns.length<=sizeLine)
  (h:∀h',ObjM h' x dx C (λy=>if y=name then some v else mA y)->ie dx s.heap h'->Q () { s with heap:=h',toks:=s.toks+2 }) :
  ax (be prog w) A (setAttr (.ref x) name v) Q E s:=by
 obtain⟨od,J,hl⟩:=I.look;refine W.set_plain X J hs (W.osa_open (s:={ s with toks:=s.toks+1 }) (r:=none) X J hp ht λb=> ?_);obtain⟨cd,hc,hd'⟩:=W.any_some hh;have hx:s.heap.get? x=some ⟨.ref C,some dx,.plain,#[]⟩:=I.obj;refine aa (ai (aa (aa (wpAny_loadPart hx (aa (W.Looks.here (s:={ s with toks:=s.toks+1 }) (W.looks_clsIn X hc) ?_))))));rw[hd'];refine ai (a:=some dx) (aa (ai (aa ?_)));refine wpAny_nsSet1 (s:={ s with toks:=s.toks+1 }) I.ns λh' hn2 hs2=> ?_;obtain⟨oD,esD,epD,hoD,hdD,hcD⟩:=hn2.count (yk.cons name v hw);refine aa (wpAny_lookBehind hoD (by rw[hdD];exact pastItsLine_dict (bo hcD (by rw[cv];lia))) ?_);exact ai (h _ ⟨(hs2.2 _ (dg I.ne)).trans I.obj,hn2,I.ne⟩ hs2)
theorem KG {R:yg->aj->Prop}{vs:List af}(X:K.In s.heap)(hm:W.makesIn K C=true)
  (hi:W.findIn K (.ref C) "__init__" =some (some (.ref f)))(hf:W.typeIn K (.ref f)=some (.type "function"))
  (h:iu (be prog w) (A.under (.builtin "type.__call__" ⟨.ref C::vs,kw⟩)) (.call (.ref f) ⟨.ref (s.heap.objs.size+1)::vs,kw⟩) (W.InitBack (s.heap.objs.size+1) R)
   { s with heap:=(s.heap.push W.emptyDict).push (W.instObj C s.heap.objs.size) }) :
  iu (be prog w) A (.call (.ref C) ⟨vs,kw⟩) R s:=by
 obtain⟨hh,g,d,t,os⟩:=s;exact W.make_core (W.makes_of X hm) (W.looks_findIn X hi) (λself=>W.bind_fn X self hf) (.inl rfl) h
end
def cM (f:Str)(v:V):List (Str×V)->List (Str×V)
 | []=>[(f,v)]
 | (g,x)::r=>if g=f then (g,v)::r else (g,x)::cM f v r
theorem mK (f g:Str)(v:V):∀fs:List (Str×V),(cM f v fs).lookup g=if g=f then some v else fs.lookup g
 | []=>by
  show il g [(f,v)]=_
  by_cases h:g=f
  .have hb:(g==f)=true:=beq_iff_eq.mpr h;simp only[il,hb,if_pos h]
  .have hb:(g==f)=false:=beq_eq_false_iff_ne.mpr h;simp only[il,hb,if_neg h]
 | (k,x)::r=>by
  have ih:=mK f g v r;rw[show cM f v ((k,x)::r)=(if k=f then (k,v)::r else (k,x)::cM f v r) from rfl]
  by_cases hk:k=f
  .rw[if_pos hk]
   by_cases h:g=k
   .have hb:(g==k)=true:=beq_iff_eq.mpr h;simp only[il,hb,if_pos (h.trans hk)]
   .have hb:(g==k)=false:=beq_eq_false_iff_ne.mpr h;simp only[il,hb,if_neg (λe:g=f=>h (e.trans hk.symm))]
  .rw[if_neg hk]
   by_cases h:g=k
   .have hb:(g==k)=true:=beq_iff_eq.mpr h;simp only[il,hb,if_neg (λe:g=f=>hk (h.symm.trans e))]
   .have hb:(g==k)=false:=beq_eq_false_iff_ne.mpr h;simp only[il,hb];exact ih
theorem vZ (f:Str)(v:V):∀fs:List (Str×V),f∈(cM f v fs).map (·.1)/\∀g,g∈fs.map (·.1)->g∈(cM f v fs).map (·.1)
 | []=>⟨by simp[cM],λg h=>by simp at h⟩
 | (k,x)::r=>by
  obtain⟨i1,i2⟩:=vZ f v r;rw[show cM f v ((k,x)::r)=(if k=f then (k,v)::r else (k,x)::cM f v r) from rfl]
  by_cases hk:k=f
  .rw[if_pos hk];subst hk;exact⟨by simp,λg h=>by simpa using h⟩
  .rw[if_neg hk];refine⟨?_,λg h=> ?_⟩
   .rw[dm];exact bx _ i1
   .rw[dm]at h ⊢;rcases ba.mp h with e|e
    .exact ba.mpr (.inl e)
    .exact bx _ (i2 g e)
theorem zN (f:Str)(v:V):∀fs:List (Str×V),(cM f v fs).length<=fs.length+1
 | []=>by simp[cM]
 | (k,x)::r=>by
  have ih:=zN f v r;rw[show cM f v ((k,x)::r)=(if k=f then (k,v)::r else (k,x)::cM f v r) from rfl]
  by_cases hk:k=f
  .rw[if_pos hk,cv,cv];lia
  .rw[if_neg hk,cv,cv];lia
theorem RelO.some_of {o:Option af}(r:RelO (some v) o):∃u,o=some u/\RelV v u:=by
 cases o with
 | none=>exact(show False from r).elim
 | some u=>exact⟨u,rfl,r⟩
theorem RelO.none_of {o:Option af}(r:RelO none o):o=none:=by
 cases o with
 | none=>rfl
 | some u=>exact(show False from r).elim
theorem GC (r:RelV v u):W.handedIn u=true:=by
 cases v with
 | non=>cases (show u=bw from r);rfl
 | bl b=>cases (show u=sy b from r);rfl
 | int i=>obtain⟨t,e⟩:=(show ∃t,u=sq i t from r);cases e;rfl
 | str x=>obtain⟨t,e⟩:=(show ∃t,u=sr x t from r);cases e;rfl
 | byt b=>obtain⟨t,e⟩:=(show ∃t,u=af.bytes b t from r);cases e;rfl
 | flt b=>obtain⟨t,e⟩:=(show ∃t,u=yr b t from r);cases e;rfl
 | ref a=>cases (show u=av a from r);rfl
 | ty n=>cases (show u=ki n from r);rfl
section
variable {fs fs':List (Str×V)}
theorem yK (hok:HOk P w H h)(e:H a=some (.ins C dx fs)):∃mA,ObjM h a dx C mA/\(∀f,RelO (fs.lookup f) (mA f))/\yk mA (fs.map (·.1))/\fs.length<=1000/\H dx=some (.own a):=by
 obtain⟨d,z,ne,ob,mA,n,r,q⟩:=(show ObjOk P w H h a (.ins C dx fs) from hok a _ e)
 exact⟨mA,⟨ob,n,ne⟩,r,q,z,d⟩
end
structure Cls (K:W.Frag)(C:Addr):Prop where
 pg:W.plainGet K C xt=true
 hd:W.hasDictIn K C=true
 po:W.plainOver K C=true
 sa:W.findIn K (.ref C) "__setattr__" =some (some (.builtin "object.__setattr__"))
theorem Cls.get (c:Cls K C)(f:Str):W.plainGet K C f=true:=c.pg
def NoAttr (K:W.Frag)(C:Addr)(f:Str):Prop:=W.findIn K (.ref C) f=some none
theorem NoAttr.taker {f:Str}(n:NoAttr K C f):W.takerIn K C f=some none:=by
 unfold W.takerIn;rw[show W.findIn K (.ref C) f=some none from n];rfl
structure Meth (K:W.Frag)(C:Addr)(m:Str)(f:Addr):Prop where
 at_:W.findIn K (.ref C) m=some (some (.ref f))
 fn:W.isFn K (.ref f)=true
 kp:W.keepIn K (.ref f)=true
section
variable {fs:List (Str×V)}{f:Str}
theorem OP {b:Bool}(I:Inv X pins σ H s)(e:H a=some (.ins C dx fs))(c:Cls X.K C)(n:NoAttr X.K C f)(l:fs.lookup f=some v)
  (h:∀u s',Inv X pins σ H s'->RelV v u->Q u s'):ax (be X.prog X.w) A (getAttr (.ref a) f b) Q E s:=by
 obtain⟨mA,O,r,_,_,_⟩:=yK I.hok e;obtain⟨u,hu,ru⟩:=RelO.some_of (v:=v) (o:=mA f) (by rw[←l];exact r f);exact aBu I.kIn O (c.get f) c.hd n hu (GC ru) (h u _ (I.tok _) ru)
theorem oR {g:Addr}{Q:af×List af->aj->Prop}(I:Inv X pins σ H s)(e:H a=some (.ins C dx fs))(c:Cls X.K C)(k:Meth X.K C m g)(l:fs.lookup m=none)
  (h:Q (.ref g,[.ref a]) s):ax (be X.prog X.w) A (ql (.ref a) m pl) Q E s:=by
 obtain⟨mA,O,r,_,_,_⟩:=yK I.hok e;have hn:mA m=none:=RelO.none_of (by rw[←l];exact r m);exact X9 I.kIn O (c.get m) k.at_ k.fn hn h
theorem O0 {y:V}{Q:Unit->aj->Prop}(I:Inv X pins σ H s)(e:H a=some (.ins C dx fs))(c:Cls X.K C)(n:NoAttr X.K C f)(hl:fs.length<1000)(ry:RelV y u)
  (h:∀s',Inv X pins σ (upd H a (.ins C dx (cM f y fs))) s'->Q () s'):ax (be X.prog X.w) A (setAttr (.ref a) f u) Q E s:=by
 obtain⟨mA,O,r,wi,_,ho⟩:=yK I.hok e;have hz:(fs.map (·.1)).length<=sizeLine:=by rw[ao,bq];lia
 refine aAq I.kIn O c.sa c.po n.taker c.hd wi hz λh' O' sb=>h _ ?_;have hd:∃o,h'.get? dx=some o:=let ⟨o,_,_,e',_⟩:=O'.ns;⟨o,e'⟩;refine I.write (x:=a) (e:=dx) (by rw[e];exact jg) (.inr ho) (λb q hb z=>(sb.2 b hb).trans z) hd ?_;refine⟨by rw[aJ O.ne];exact ho,?_,O.ne,O'.obj,_,O'.ns,λg=> ?_,λg hg=> ?_⟩
 .have:=zN f y fs;lia
 .show RelO ((cM f y fs).lookup g) (if g=f then some u else mA g);rw[mK]
  by_cases q:g=f
  .rw[if_pos q,if_pos q];exact ry
  .rw[if_neg q,if_neg q];exact r g
 .by_cases q:g=f
  .rw[q];exact(vZ f y fs).1
  .refine(vZ f y fs).2 g (wi g λz=>hg ?_);show (if g=f then some u else mA g)=none;rw[if_neg q];exact z
theorem Inv.made (I:Inv X pins σ H s):Inv X pins σ (upd (upd H s.heap.objs.size (.own (s.heap.objs.size+1))) (s.heap.objs.size+1) (.ins C s.heap.objs.size []))
  { s with heap:=(s.heap.push W.emptyDict).push (W.instObj C s.heap.objs.size) }:=by
 have e1:(s.heap.push W.emptyDict).get? s.heap.objs.size=some W.emptyDict:=aw s.heap rfl;have e2:((s.heap.push W.emptyDict).push (W.instObj C s.heap.objs.size)).get? (s.heap.objs.size+1)=some (W.instObj C s.heap.objs.size):=by
  have:=aw (s.heap.push W.emptyDict) (o:=W.instObj C s.heap.objs.size) rfl
  rwa [ig]at this
 have e3:(s.heap.push W.emptyDict).Ns s.heap.objs.size (λ_=>none):=⟨W.emptyDict,#[],_,e1,rfl,(λe he=>absurd he (by simp)),λ_=>rfl⟩
 have I1:=I.laid (a:=s.heap.objs.size) (o:= .own (s.heap.objs.size+1)) (h':=s.heap.push W.emptyDict) (t':=s.toks) (λb u q=>ae _ q) (ar _) ⟨_,e1⟩;refine I1.laid (a:=s.heap.objs.size+1) (o:= .ins C s.heap.objs.size []) (t':=s.toks) (λb u q=>ae _ q) (si (ig _ _)) ?_;have ne:s.heap.objs.size≠s.heap.objs.size+1:=bp (mo _);refine⟨by rw[aJ ne,aU],gi _,ne,e2,λ_=>none,(Heap.Ns1.of_empty e3).at λo q=>ae _ q,λ_=>jg,λy hy=>absurd rfl hy⟩
theorem M0 {env:Env}{f:Str}(hb:jt e f env (eval e env)=eval e env)
  (h:ax (be prog w) A (eval e env) (λo s₁=>ax (be prog w) A (getAttr o f true) Q E s₁) E s):ax (be prog w) A (eval (.Attribute e f pos) env) Q E s :=
 Attribute_any_ h (by rw[arm_eval_Attribute,hb])
end
def XJ (K:W.Frag)(ta:TE)(f:Str):TE:=λσ H Q=>ta σ H λx H1=>∃a C dx fs v,x= .ref a/\H1 a=some (.ins C dx fs)/\Cls K C/\NoAttr K C f/\fs.lookup f=some v/\Q v H1
def aDM (K:W.Frag)(ta tv:TE)(f:Str):TS:=λD σ H=>tv σ H λy H1=>ta σ H1 λx H2=>∃a C dx fs,x= .ref a/\H2 a=some (.ins C dx fs)/\Cls K C/\NoAttr K C f/\fs.length<1000 ∧
 D.nx σ (upd H2 a (.ins C dx (cM f y fs)))
def aDV (X:Cx)(op:Operator)(rd:V->V->Hp->VK->Prop):Prop :=
 ∀(pins:List (Addr×Obj)) (s:aj) (σ:St) (H:Hp) (x y:V) (u v:af) (Q:VK),Inv X pins σ H s->RelV x u->RelV y v->rd x y H Q->ax (be X.prog X.w) X.A (inplaceOp op u v) (EP X pins σ Q) X.xe s
section
variable {o value:Expr}{f:Str}{tpos:Pos}{tv:TE}
theorem bO (he:PE X e ta)(hb:jt e f X.env (eval e X.env)=eval e X.env):PE X (.Attribute e f pos) (XJ X.K ta f):=by
 intro pins s σ H Q I h;refine M0 hb (thn (he pins s σ H _ I h) λu s1 ⟨x,H1,I1,rx,a,C,dx,fs,v,ex,ea,c,n,l,q⟩=> ?_);subst ex;obtain rfl:u=av a:=rx;exact OP I1 ea c n l λu' s2 I2 ru=>⟨v,H1,I2,ru,q⟩
theorem eQ (ha:PE X o ta)(hv:PE X value tv)(hs:mn value (some (.Attribute o f pos')) pos.line X.env=pure false):PS X (.Assign [.Attribute o f pos'] value pos) (aDM X.K ta tv f):=by
 intro pins s σ H D I h;refine qf (thn (hv pins s σ H _ I h) λu s1 ⟨y,H1,I1,ry,q⟩=>thn (ha pins s1 σ H1 _ I1 q) λov s2 ⟨x,H2,I2,rx,a,C,dx,fs,ex,ea,c,n,l,q2⟩=> ?_) hs;subst ex;obtain rfl:ov=av a:=rx;exact O0 I2 ea c n l ry λs3 I3=>⟨σ,_,I3,q2⟩
def aC1:V->V->Hp->VK->Prop:=λx y H Q=>∃i j,x= .int i/\y= .int j/\Q (.int (i+j)) H
theorem aCf:aDV X .Add aC1:=by
 rintro pins s σ H x y u v Q I rx ry ⟨i,j,rfl,rfl,q⟩;obtain⟨t,rfl⟩:=(show ∃t,u=sq i t from rx)
 obtain⟨t',rfl⟩:=(show ∃t',v=sq j t' from ry)
 exact PyProof.Rows.iadd_int ⟨.int (i+j),H,I.tok _,⟨_,rfl⟩,q⟩
end
section
variable {c:af}{b:Bool}
inductive iV (K:W.Frag)(H:Hp):V->af->Prop where
 | non:iV K H .non (.type "NoneType")
 | bl (x:Bool):iV K H (.bl x) (.type "bool")
 | int (i:Int):iV K H (.int i) (.type "int")
 | str (x:Str):iV K H (.str x) (.type "str")
 | flt (x:UInt64):iV K H (.flt x) (.type "float")
 | lst {a:Addr}{xs:List V} (e:H a=some (.lst xs)):iV K H (.ref a) (.type "list")
 | frz {a:Addr}{o:Obj}{xs:List V} (e:H a=some (.frz o (.lst xs))):iV K H (.ref a) (.type "list")
 | tup {a:Addr}{xs:List V} (e:H a=some (.tup xs)):iV K H (.ref a) (.type "tuple")
 | dK {a:Addr}{kvs:List (Key×V)} (e:H a=some (.dK kvs)):iV K H (.ref a) (.type "dict")
 | dT {a:Addr}{kvs:List (List Key×V)} (e:H a=some (.dT kvs)):iV K H (.ref a) (.type "dict")
 | ins {a C dx:Addr}{fs:List (Str×V)} (e:H a=some (.ins C dx fs)) (cl:Cls K C) (ha:W.findIn K (.ref C) "__class__" =some (some (.builtin "object.__class__")))
   (hn:W.specialIn K (.builtin "object.__class__") "__get__" =some (some (.builtin "getset_descriptor.__get__")))(htk:W.takesIn K (.builtin "object.__class__")=some true)
   (hm:W.mroIn K C (.type "object")=some true):iV K H (.ref a) (.ref C)
theorem UA {x:V}{t:af}(I:Inv X pins σ H s)(rx:RelV x u)(ty:iV X.K H x t)(e:W.kitOne X.K t c=some b)(h:∀tk,Q (.bool b) { s with toks:=tk }):
  ax (be X.prog X.w) A (call (.builtin "isinstance") [u,c]) Q E s:=by
 cases ty with
 | non=>cases (show u=bw from rx);exact W.kia_one W.kitx_none I.kIn jg e (λz=>nomatch z) h
 | bl y=>cases (show u=sy y from rx);exact W.kia_one W.kitx_bool I.kIn jg e (λz=>nomatch z) h
 | int i=>obtain⟨t,q⟩:=(show ∃t,u=sq i t from rx);cases q;exact W.kia_one W.kitx_int I.kIn jg e (λz=>nomatch z) h
 | str y=>obtain⟨t,q⟩:=(show ∃t,u=sr y t from rx);cases q;exact W.kia_one W.kitx_str I.kIn jg e (λz=>nomatch z) h
 | flt y=>obtain⟨t,q⟩:=(show ∃t,u=yr y t from rx);cases q;exact W.kia_one W.kitx_float I.kIn jg e (λz=>nomatch z) h
 | @lst a xs ea =>
  cases (show u=av a from rx);obtain⟨_,_,n,_,h1⟩:=(show ObjOk X.prog X.w H s.heap a (.lst xs) from I.hok a _ ea)
  exact W.kia_one W.kitx_list I.kIn ⟨_,h1,rfl⟩ e (λz=>nomatch z) h
 | @frz a ob xs ea =>
  cases (show u=av a from rx);obtain⟨_,_,_,n,_,h1⟩:=(show ObjOk X.prog X.w H s.heap a (.frz ob (.lst xs)) from I.hok a _ ea)
  exact W.kia_one W.kitx_list I.kIn ⟨_,h1,rfl⟩ e (λz=>nomatch z) h
 | @tup a xs ea =>
  cases (show u=av a from rx);obtain⟨_,_,_,p⟩:=(show ObjOk X.prog X.w H s.heap a (.tup xs) from I.hok a _ ea)
  obtain⟨o,h1,h2,_⟩:=p;exact W.kia_one W.kitx_tuple I.kIn ⟨o,h1,h2⟩ e (λz=>nomatch z) h
 | @dK a kvs ea =>
  cases (show u=av a from rx);obtain⟨_,_,vs,_,p⟩:=(show ObjOk X.prog X.w H s.heap a (.dK kvs) from I.hok a _ ea)
  obtain⟨o,es,ep,h1,h2,_⟩:=p;exact W.kia_one W.kitx_dict I.kIn ⟨o,h1,h2.1⟩ e (λz=>nomatch z) h
 | @dT a kvs ea =>
  cases (show u=av a from rx);obtain⟨_,_,xs,_,o,es,ep,h1,h2,_⟩:=(show ObjOk X.prog X.w H s.heap a (.dT kvs) from I.hok a _ ea)
  exact W.kia_one W.kitx_dict I.kIn ⟨o,h1,h2.1⟩ e (λz=>nomatch z) h
 | @ins a C dx fs ea cl ha hn htk hm =>
  cases (show u=av a from rx);obtain⟨mA,O,_⟩:=yK I.hok ea;obtain⟨od,J,_⟩:=O.look;exact W.kia_one (W.kitx_own (cl.get _) cl.hd ha hn htk hm) I.kIn J e (λz=>nomatch z) h
end
structure Room (k:Nat)(A:jx):Prop where
 hd:A.handled=none
 dp:A.depth+3 * k+5<recursionLimit
 un:A.units+16 * k+200<nz
theorem Room.mono {j k:Nat}(r:Room k A)(h:j<=k):Room j A:=⟨r.hd,by have:=r.dp;lia,by have:=r.un;lia⟩
theorem Room.deeper {k:Nat}(r:Room (k+1) A)(env:Env):Room k (A.deeper env) :=
 ⟨r.hd,by have:=r.dp;show A.depth+1+3 * k+5<_;lia,by have:=r.un;show A.units+3+16 * k+200<_;lia⟩
theorem OJ:(A.under (.builtin "type.__call__" ⟨.ref C::us,kw⟩)).depth=A.depth+1:=by
 first|rfl|simp[yl,Code.weight,Code.isCreation,Code.isGuard,Code.isCaller,Code.frames,ym,guardIds]
theorem QY:(A.under (.builtin "type.__call__" ⟨.ref C::us,kw⟩)).units=A.units+1:=by
 first|rfl|simp[yl,Code.cUnits,Code.frames,ym]
theorem Room.make {k:Nat}(r:Room (k+1) A)(C:Addr)(us:List af)(kw:List (Str×af)):Room k (A.under (.builtin "type.__call__" ⟨.ref C::us,kw⟩)) :=
 ⟨r.hd,by have:=r.dp;rw[OJ];lia,by have:=r.un;rw[QY];lia⟩
theorem Room.depth {k:Nat}(r:Room k A):A.depth<recursionLimit:=by have:=r.dp;lia
theorem Room.units0 {k:Nat}(r:Room k A):A.units<nz:=by have:=r.un;lia
def DS:TA:=λ_ H Q=>Q [] H
def OX (ta:TE)(tr:TA):TA:=λσ H Q=>ta σ H λx H1=>tr σ H1 λxs H2=>Q (x::xs) H2
section
variable {t:TA}
theorem aB:PA X [] DS:=λ_ _ _ _ H Q I h=>uf ⟨[],H,I,.nil,h⟩
theorem aA (ha:PE X e te)(hr:PA X es t)(hs:az (e::es) X.env=(false,eval e X.env)::az es X.env:=by rfl):PA X (e::es) (OX te t):=by
 intro pos pins s σ H Q I h;rw[hs];show ax _ _ (spliced ((false,eval e X.env)::fh pos (az es X.env))) _ _ s;refine nv (thn (ha pins s σ H _ I h) λu s1 ⟨x,H1,I1,r1,q1⟩=> ?_);exact thn (hr pos pins s1 σ H1 _ I1 q1) λus s2 ⟨xs,H2,I2,r2,q2⟩=>⟨x::xs,H2,I2,.cons r1 r2,q2⟩
def aCH (t:TA):TE:=λσ H Q=>t σ H λxs H1=>xs.length<=sizeLine/\∀p,H1 p=none->Q (.ref p) (upd H1 p (.tup xs))
def aCu (t:TA):TE:=λσ H Q=>t σ H λxs H1=>xs.length<=sizeLine/\∀p,H1 p=none->Q (.ref p) (upd H1 p (.lst xs))
theorem bI {x1}(h:PA X es t):PE X (.Tuple es x1 pos) (aCH t):=by
 intro pins s σ H Q I hq;refine wpAny_Tuple_spliced (thn (h pos pins s σ H _ I hq) λus s1 ⟨xs,H1,I1,r,z,q⟩=>⟨by rw[←r.length];exact z,?_⟩);have hf:H1 s1.heap.objs.size=none:=I1.hok.fresh (ar _);refine⟨.ref s1.heap.objs.size,upd H1 s1.heap.objs.size (.tup xs),I1.laid (t':=s1.toks) (λb u e=>ae _ e) (ar _) ?_,rfl,q _ hf⟩;exact⟨z,us,r,⟨_,aw _ rfl,rfl,_,rfl⟩⟩
theorem bJ (h:PA X es t):PE X (.List es pos) (aCu t):=by
 intro pins s σ H Q I hq;refine wpAny_List_spliced (thn (h pos pins s σ H _ I hq) λus s1 ⟨xs,H1,I1,r,z,q⟩=>⟨by rw[←r.length];exact z,?_⟩);have hf:H1 s1.heap.objs.size=none:=I1.hok.fresh (ar _);refine⟨.ref s1.heap.objs.size,upd H1 s1.heap.objs.size (.lst xs),I1.laid (t':=s1.toks) (λb u e=>ae _ e) (ar _) ?_,rfl,q _ hf⟩;exact⟨z,us,0,r,aw _ rfl⟩
end
abbrev Sp:=List V->Hp->VK->XK->Prop
abbrev CXT:=List Env->Hp->aj->XK->af->aj->Prop
structure Env0 (P:ef)(w:gd)(K:W.Frag)(mg:Str->Option af)(base:Heap)(A:jx)(outer:List Env)(s:aj)(H:Hp):Prop where
 frames:A.frames=some outer
 mod:Mod K mg base
 bs:∀b o,base.get? b=some o->s.heap.get? b=some o/\H b=none
 bsz:base.objs.size<=s.heap.objs.size
 funs:s.heap.FunFrames base outer
 frf:∀b∈frs outer,H b=none
 hok:HOk P w H s.heap
 bare:qw s.gens
def CE (outer:List Env)(P:ef)(w:gd)(H:Hp)(s:aj)(Q:VK)(u:af)(s':aj):Prop :=
 ∃v H',s'.os=s.os/\qw s'.gens/\Un (frs outer) [] H H' s.heap s'.heap/\HOk P w H' s'.heap/\RelV v u/\Q v H'
def CR (CX:CXT)(outer:List Env)(P:ef)(w:gd)(H:Hp)(s:aj)(Q:VK)(E:XK)(r:yg)(s':aj):Prop :=
 match r with
 | .ok (.ret u)=>CE outer P w H s Q u s'
 | .ok _=>False
 | .error e=>CX outer H s E e s'
structure aP (P:ef)(w:gd)(K:W.Frag)(mg:Str->Option af)(base:Heap)(CX:CXT)(k:Nat)(f:Addr)(fd:jz)(ps:List Str)(sp:Sp):Prop where
 len:∀vs H Q E,sp vs H Q E->vs.length=ps.length
 run:∀(A:jx) (outer:List Env) (s:aj) (H:Hp) (args:Args) (us:List af) (vs:List V) (Q:VK) (E:XK),Room k A->Env0 P w K mg base A outer s H->BindsTo s fd args (ps.zip us)->Vals vs us->sp vs H Q E →
  iu (be P w) A (.call (.ref f) args) (CR CX outer P w H s Q E) s
variable {outer:List Env}
theorem Env0.make (e:Env0 P w K mg base A outer s H)(C:Addr)(us:List af)(kw:List (Str×af)):
  Env0 P w K mg base (A.under (.builtin "type.__call__" ⟨.ref C::us,kw⟩)) outer s H:=⟨by first|exact e.frames|(simpa [yl,Code.envs,ym,pushEnvs] using e.frames),e.mod,e.bs,e.bsz,e.funs,e.frf,e.hok,e.bare⟩
theorem Inv.env0 (I:Inv X pins σ H s):Env0 X.prog X.w X.K X.mg X.base X.A X.stack s H :=
 ⟨I.ok.frames,I.ok.mod,I.bs,bo I.ok.bsz I.sz,I.stack,I.stkFree,I.hok,I.bare⟩
theorem Inv.after {Q:VK}(I:Inv X pins σ H s)(h:CE X.stack X.prog X.w H s Q u s'):EP X pins σ Q u s':=by
 obtain⟨v,H',os,bare,un,hok,r,q⟩:=h;obtain⟨hh,g,d,t,os'⟩:=s';obtain rfl:os'=s.os:=os;exact⟨v,H',I.call (h':=hh) (g':=g) (d':=d) (t':=t) (ch:=[]) un hok bare (λb z=>absurd z (by simp)),r,q⟩
def jZ (sp:Sp)(dvs:List V)(E:XK)(t:TA):TE:=λσ H Q=>t σ H λvs H1=>sp (vs++dvs) H1 Q E
def tN (C:Addr)(sp:Sp)(dvs:List V)(E:XK)(t:TA):TE:=λσ H Q=>t σ H λvs H1=>∀x dx,H1 x=none->H1 dx=none->dx≠x →
 sp (.ref x::(vs++dvs)) (upd (upd H1 dx (.own x)) x (.ins C dx [])) (λv H2=>v= .non/\Q (.ref x) H2) E
def Binds (K:W.Frag)(fd:jz)(ps:List Str)(ds:List af):Prop :=
 ∀(s:aj) (us:List af),K.In s.heap->(us++ds).length=ps.length->BindsTo s fd ⟨us,[]⟩ (ps.zip (us++ds))
variable {fd:jz}
theorem Binds.all {ps:List Str}(h:∀us:List af,us.length=ps.length->bindArgs fd ⟨us,[]⟩=pure (ps.zip us)):Binds K fd ps []:=λs us _ hl=>by
 rw[gw]at hl ⊢;exact .of_eq (h us hl)
def c7 (CX:CXT)(X:Cx)(E:XK):Prop:=∀(pins:List (Addr×Obj)) (σ:St) (H:Hp) (s:aj) (e:af) (s':aj),Inv X pins σ H s->CX X.stack H s E e s'->X.xe e s'
variable {CX:CXT}{sp:Sp}
section
variable {k:Nat}{f:Addr}{ps:List Str}{dvs:List V}{ds:List af}{E:XK}{p:Pos}{o:Expr}{t:TA}
theorem tL {Q:VK}(F:aP X.prog X.w X.K X.mg X.base CX k f fd ps sp)(hr:Room k X.A)(hb:Binds X.K fd ps ds)(hd:Vals dvs ds)(hx:c7 CX X E)
  (I:Inv X pins σ H s)(r:Vals vs us)(h:sp (vs++dvs) H Q E):ax (be X.prog X.w) X.A (call (.ref f) us) (EP X pins σ Q) X.xe s:=by
 have r2:Vals (vs++dvs) (us++ds):=r.append hd;have hl:(us++ds).length=ps.length:=by rw[←r2.length];exact F.len _ _ _ _ h
 refine qm (jj (F.run X.A X.stack s H ⟨us,[]⟩ (us++ds) (vs++dvs) Q E hr I.env0 (hb s us I.kIn hl) r2 h) λr s' hq=> ?_);cases r with
 | error e=>exact hx pins σ H s e s' I hq
 | ok fl =>
  cases fl with
  | ret u=>exact I.after hq
  | next=>exact dh hq
  | brk=>exact dh hq
  | cont=>exact dh hq
theorem yI (F:aP X.prog X.w X.K X.mg X.base CX k f fd ps sp)(hr:Room k X.A)(hg:Gl X x)(hm:X.mg x=some (.ref f))(hk:W.keepIn X.K (.ref f)=true)(hb:Binds X.K fd ps ds)(hd:Vals dvs ds)(hx:c7 CX X E)
  (ha:PA X (e::es) t)(hdb:(x==("__debug__" :Str))=false:=by decide)(he:az (e::es) X.env=(false,eval e X.env)::az es X.env:=by rfl)(hpl:(fh pos (az es X.env)).any (·.1)=false:=by rfl) :
  PE X (.Call (.Name x p) (e::es) [] pos) (jZ sp dvs E t):=by
 intro pins s σ H Q I h;refine gz (dH I hg hm ?_ hdb);refine W.callWith_K (h₀:=X.base) I.ok.mod.kin hk (thn (ha pos pins s σ H _ I h) λus s1 ⟨vs,H1,I1,r,q⟩=>⟨I1.kIn,?_⟩) he hpl;exact tL F hr hb hd hx I1 r q
structure Mk (K:W.Frag)(C f:Addr):Prop where
 makes:W.makesIn K C=true
 init:W.findIn K (.ref C) "__init__" =some (some (.ref f))
 fn:W.isFn K (.ref f)=true
 kp:W.keepIn K (.ref C)=true
theorem IW {Q:VK}(M:Mk X.K C f)(F:aP X.prog X.w X.K X.mg X.base CX k f fd ps sp)(hr:Room (k+1) X.A)(hb:Binds X.K fd ps ds)(hd:Vals dvs ds)
  (hx:c7 CX X E)(I:Inv X pins σ H s)(r:Vals vs us)
  (h:∀x dx,H x=none->H dx=none->dx≠x->sp (.ref x::(vs++dvs)) (upd (upd H dx (.own x)) x (.ins C dx [])) (λv H2=>v= .non/\Q (.ref x) H2) E) :
  ax (be X.prog X.w) X.A (call (.ref C) us) (EP X pins σ Q) X.xe s:=by
 have hq:=h (s.heap.objs.size+1) s.heap.objs.size (I.hok.fresh (jk _)) (I.hok.fresh (ar _)) (bp (mo _));have I2:=Inv.made (C:=C) I;have r2:Vals (V.ref (s.heap.objs.size+1)::(vs++dvs)) (av (s.heap.objs.size+1)::(us++ds)):= .cons rfl (r.append hd);have hl:(av (s.heap.objs.size+1)::us++ds).length=ps.length:=by
  have e:=r2.length;rw[F.len _ _ _ _ hq]at e;exact e.symm
 refine qm (KG (f:=f) I.kIn M.makes M.init (beq_iff_eq.mp M.fn) (jj (F.run _ X.stack _ _ ⟨av (s.heap.objs.size+1)::us,[]⟩ (av (s.heap.objs.size+1)::(us++ds)) _ _ E (hr.make C us [])
  (I2.env0.make C us []) (hb _ (av (s.heap.objs.size+1)::us) I2.kIn hl) r2 hq) λr s' hq'=> ?_))
 cases r with
 | error e=>exact hx pins σ _ _ e s' I2 hq'
 | ok fl =>
  cases fl with
  | ret u =>
   obtain⟨v,H',I3,rv,ev,q3⟩:=I2.after hq';subst ev;exact⟨rv,⟨V.ref (s.heap.objs.size+1),H',I3,rfl,q3⟩⟩
  | next=>exact dh hq'
  | brk=>exact dh hq'
  | cont=>exact dh hq'
theorem NE (M:Mk X.K C f)(F:aP X.prog X.w X.K X.mg X.base CX k f fd ps sp)(hr:Room (k+1) X.A)(hg:Gl X x)(hm:X.mg x=some (.ref C))(hb:Binds X.K fd ps ds)(hd:Vals dvs ds)(hx:c7 CX X E)
  (ha:PA X (e::es) t)(hdb:(x==("__debug__" :Str))=false:=by decide)(he:az (e::es) X.env=(false,eval e X.env)::az es X.env:=by rfl)(hpl:(fh pos (az es X.env)).any (·.1)=false:=by rfl) :
  PE X (.Call (.Name x p) (e::es) [] pos) (tN C sp dvs E t):=by
 intro pins s σ H Q I h;refine gz (dH I hg hm ?_ hdb);refine W.callWith_K (h₀:=X.base) I.ok.mod.kin M.kp (thn (ha pos pins s σ H _ I h) λus s1 ⟨vs,H1,I1,r,q⟩=>⟨I1.kIn,?_⟩) he hpl;exact IW M F hr hb hd hx I1 r q
theorem WC (M:Mk X.K C f)(F:aP X.prog X.w X.K X.mg X.base CX k f fd ps sp)(hr:Room (k+1) X.A)(hg:Gl X x)(hm:X.mg x=some (.ref C))(hb:Binds X.K fd ps ds)(hd:Vals dvs ds)(hx:c7 CX X E)
  (hdb:(x==("__debug__" :Str))=false:=by decide):PE X (.Call (.Name x p) [] [] pos) (tN C sp dvs E DS):=by
 intro pins s σ H Q I h;refine gz (dH I hg hm ?_ hdb);exact W.callWith_K0 I.kIn M.kp (IW (us:=[]) M F hr hb hd hx I .nil h)
end
section
variable {k:Nat}{f:Addr}{ps ks:List Str}{E:XK}{p kpos:Pos}{o:Expr}{kws:List xu}{t tk:TA}{nm:Option Str}
variable {g:List af->List af->List af}{gV:List V->List V->List V}
end
structure aK (N P:List Str)(sc:ud):Prop where
 kind:sc.kind= .function
 co:sc.isCoroutine=false
 gen:sc.isGenerator=false
 nd:N.Nodup
 pre:N.take P.length=P
 par:∀x∈P,sc.names.lookup x=some .local∨sc.names.lookup x=some .cell
 nofree:∀y∈sc.names,y.2≠ .free
variable {kindOf:Str->Option ox}
theorem FP:∀{binds:List (Str×af)}{m:Str->Option af},(∀v,(x,v)∉binds)->bindL kindOf binds m x=m x
 | [],_,_=>rfl
 | (n,v)::r,m,h=>by
  unfold bindL;rw[FP λw hw=>h w (bx _ hw)]
  split
  .have:x≠n:=by rintro rfl;exact h v cy
   simp[this]
  .rfl
theorem GB:∀{binds:List (Str×af)}{m:Str->Option af},(∀v,(x,v)∉binds)->bindC kindOf binds m x=m x
 | [],_,_=>rfl
 | (n,v)::r,m,h=>by
  unfold bindC;rw[GB λw hw=>h w (bx _ hw)]
  split
  .rfl
  .have:x≠n:=by rintro rfl;exact h v cy
   simp[this]
theorem FV {v:af}:∀{P:List Str}{vs:List af}{i:Nat}{m:Str->Option af},P.Nodup->P[i]? =some x->vs[i]? =some v->kindOf x=some .local →
  bindL kindOf (P.zip vs) m x=some v
 | [],_,_,_,_,h,_,_=>by simp at h
 | _::_,[],_,_,_,_,h,_=>by simp at h
 | p::P,w::vs,0,m,nd,h1,h2,hk=>by
  simp at h1 h2;subst h1;subst h2;show bindL kindOf ((p,w)::P.zip vs) m p=_;unfold bindL;rw[FP λv hv=>(eg.mp nd).1 (wa hv).1,if_pos hk];simp
 | p::P,w::vs,i+1,m,nd,h1,h2,hk=>by
  show bindL kindOf ((p,w)::P.zip vs) m x=_;unfold bindL;exact FV (i:=i) (eg.mp nd).2 (by simpa using h1) (by simpa using h2) hk
theorem F3 {v:af}:∀{P:List Str}{vs:List af}{i:Nat}{m:Str->Option af},P.Nodup->P[i]? =some x->vs[i]? =some v->kindOf x≠some .local →
  bindC kindOf (P.zip vs) m x=some v
 | [],_,_,_,_,h,_,_=>by simp at h
 | _::_,[],_,_,_,_,h,_=>by simp at h
 | p::P,w::vs,0,m,nd,h1,h2,hk=>by
  simp at h1 h2;subst h1;subst h2;show bindC kindOf ((p,w)::P.zip vs) m p=_;unfold bindC;rw[GB λv hv=>(eg.mp nd).1 (wa hv).1,if_neg hk];simp
 | p::P,w::vs,i+1,m,nd,h1,h2,hk=>by
  show bindC kindOf ((p,w)::P.zip vs) m x=_;unfold bindC;exact F3 (i:=i) (eg.mp nd).2 (by simpa using h1) (by simpa using h2) hk
def iM (N:List Str)(vs:List V):St:=vs.map some++oy (N.length - vs.length) none
def c6 (CX:CXT)(P:ef)(w:gd)(K:W.Frag)(mg:Str->Option af)(base:Heap)(N:List Str)(qual:Str)(scope:ud)(f:Addr)(cd:af)(A:jx)(outer:List Env)(s:aj)(H:Hp)(E:XK):Cx where
 prog:=P
 w:=w
 K:=K
 mg:=mg
 base:=base
 A:=A.deeper (rn qual scope s.heap.objs.size f cd)
 N:=N
 s₀:=s
 H₀:=H
 env:=rn qual scope s.heap.objs.size f cd
 outer:=outer
 stack:=rn qual scope s.heap.objs.size f cd::outer
 ex:=[]
 calm:=true
 fn:=λ_=>true
 pn:=[]
 xe:=λe s'=>ax (be P w) (A.deeper (rn qual scope s.heap.objs.size f cd)) (lx (rn qual scope s.heap.objs.size f cd) e) (λ_ s''=>CX outer H s E e s'') (λe' s''=>CX outer H s E e' s'') s'
variable {scope:ud}
theorem A0 {sc:ud}(h:sc.names.lookup x=some .cell):∃c,(cellsFrom n sc.names []).lookup x=some c:=by
 have q:=W.cellsFrom_some sc.names n [] (.inl h);exact nc.mp q
theorem UZ {ps:List Str}{f:Addr}{cd:af}{s1:aj}{E:XK}
  (S:aK N ps scope)(hd:A.handled=none)(e0:Env0 P w K mg base A outer s H)(hl:vs.length=ps.length)(r:Vals vs us)
  (x:InCallC s s.heap.objs.size (bindL (rn qual scope s.heap.objs.size f cd).kindOf (ps.zip us) λ_=>none) (cellsFrom (s.heap.objs.size+1) scope.names []) (bindC (rn qual scope s.heap.objs.size f cd).kindOf (ps.zip us) λ_=>none) s1) :
  Inv (c6 CX P w K mg base N qual scope f cd A outer s H E) [] (iM N vs) H s1:=by
 have hpl:ps.length<=N.length:=by have:=congrArg List.length S.pre;rw[fm]at this;lia
 obtain⟨h1,tk,rfl,hk⟩:=x.done;have noA:∀b:Addr,b∉(c6 CX P w K mg base N qual scope f cd A outer s H E).ex:=λb z=>absurd (show b∈([]:List Addr) from z) (by simp);refine⟨⟨e0.mod,S.kind,rfl,rfl,ar _,λy z c h1 h2=> ?_,λy hy=> ?_,λy c _ h=> ?_,λ_=>hd,jx.frames_deeper e0.frames,.inr ⟨rfl,rfl⟩,λb z=>absurd z (noA b),e0.bs,e0.bsz,λb _ _=>noA b,λb z=>absurd z (noA b),e0.funs,e0.frf⟩,
  rfl,e0.bare,Un.kept hk,⟨_,x.toInCall.ns,λi y v h1 h2 h3=> ?_⟩,λy c h=>⟨_,x.cell y c h⟩,e0.hok.fresh (ar _),λy c h=> ?_,λp hp=>absurd (show p∈([]:List (Addr×Obj)) from hp) (by simp),e0.hok.kept hk,?_⟩
 .exact name_of_addr x.apart (ja h1) (ja h2)
 .have hy:scope.names.lookup y=some .cell∨scope.names.lookup y=some .free:=hy;rcases hy with hy|hy
  .exact A0 hy
  .exact absurd rfl (S.nofree _ (ja hy))
 .exact kj (x.above y c (ja h))
 .have hi:i<vs.length:=by
   unfold iM at h2
   by_cases hi:i<vs.length
   .exact hi
   .rw[jh (by simpa using hi)]at h2;rw[uz]at h2
    split at h2<;>cases h2
  have ha:vs[i]? =some v:=by
   unfold iM at h2;rw[ir (by simpa using hi),dk]at h2;cases e:vs[i]? with
   | none=>rw[e]at h2;cases h2
   | some a=>rw[e]at h2;cases h2;rfl
  obtain⟨u,hu,rv⟩:=r.get ha;have hp:ps[i]? =some y:=by
   rw[←S.pre,List.getElem?_take_of_lt (by lia)];exact h1
  have ndP:ps.Nodup:=by rw[←S.pre];exact S.nd.sublist (List.take_sublist _ _)
  refine⟨u,rv,?_⟩;rcases S.par y (bz hp) with k|k
  .exact .inl ⟨k,FV ndP hp hu k⟩
  .obtain⟨c,e⟩:=A0 (n:=s.heap.objs.size+1) k;refine .inr ⟨.inl k,c,e,?_⟩;have q:=x.cell y c e;rw[F3 ndP hp hu (by show scope.names.lookup y≠_;rw[k];decide)]at q;exact q
 .exact e0.hok.fresh (kj (x.above y c (ja h)))
 .unfold iM;show _=N.length;rw[cb,ao,wo]
  lia
theorem OF {k:Nat}{f:Addr}{params:Arguments}{dV kV doc pm cdv ct oc:af}{an od:Option Addr}
  {osl:Array (Option af)}{N ps:List Str}{sp:Sp} (lk:K.lookup f=some ⟨oc,od,.func (W.fnOf name qual params body scope dV kV doc pm an cdv ct),osl⟩) (hcd:W.codeIn K cdv qual=true) (S:aK N ps scope)
  (len:∀vs H Q E,sp vs H Q E->vs.length=ps.length)
  (hbody:∀(A:jx) (outer:List Env) (s:aj) (H:Hp) (vs:List V) (Q:VK) (E:XK),Room k (A.deeper (rn qual scope s.heap.objs.size f cdv))->sp vs H Q E →
   ∃t,PSs (c6 CX P w K mg base N qual scope f cdv A outer s H E) body t/\t { nx:=λ_ H'=>Q .non H',rt:=Q } (iM N vs) H) :
  aP P w K mg base CX (k+1) f (W.fnOf name qual params body scope dV kV doc pm an cdv ct) ps sp:=by
 refine⟨len,λA outer s H args us vs Q E hr e0 hb r hsp=> ?_⟩;have hl:=len _ _ _ _ hsp;have KX:K.In s.heap:=e0.mod.kin.keeps λb o e=>(e0.bs b o e).1;have lim:s.heap.NoLimit:=e0.mod.nolimit.keeps λb o e=>(e0.bs b o e).1;have hkind:∀y∈ps.zip us,scope.names.lookup y.1=some .local∨(scope.names.lookup y.1=some .cell/\((cellsFrom (s.heap.objs.size+1) scope.names []).lookup y.1).isSome=true):=λ⟨n,v⟩ hy=>by
  rcases S.par n (wa hy).1 with q|q
  .exact .inl q
  .exact .inr ⟨q,W.cellsFrom_some _ _ _ (.inl q)⟩
 refine codeAny_call_function hr.depth (KX _ _ lk) rfl S.co S.gen rfl (W.codeRec_of KX hcd) (hb _ _ _ _ ?_);refine wpAny_newFunctionEnv_cells S.kind hkind λenv he s1 x=> ?_;subst he;refine⟨lim.keeps x.toInCall.keep,codeAny_func ?_⟩;obtain⟨t,ht,hq⟩:=hbody A outer s H vs Q E (hr.deeper _) hsp;have I:Inv (c6 CX P w K mg base N qual scope f cdv A outer s H E) [] (iM N vs) H s1:=UZ S hr.hd e0 hl r x;refine bu (ht [] s1 (iM N vs) H _ I hq) (λfl s' hs=> ?_) λe s' hs=>hs;have fin:∀{σ':St}{H':Hp}{v:V}{u:af},Inv (c6 CX P w K mg base N qual scope f cdv A outer s H E) [] σ' H' s'->RelV v u->Q v H'->CE outer P w H s Q u s' :=
  λ{σ' H' v u} J rv q=>⟨v,H',J.os,J.bare,J.base,J.hok,rv,q⟩
 cases fl with
 | ret u =>
  obtain⟨v,σ',H',J,rv,q⟩:=hs;exact fin J rv q
 | next =>
  obtain⟨σ',H',J,q⟩:=hs;exact fin (v:=V.non) (u:=bw) J rfl q
 | brk =>
  obtain⟨_,_,_,q⟩:=hs;exact dh q
 | cont =>
  obtain⟨_,_,_,q⟩:=hs;exact dh q
section
variable {p:Pos}{t:TA}{id T:String}{r:List V->Hp->VK->Prop}
def tCB (r:List V->Hp->VK->Prop)(t:TA):TE:=λσ H Q=>t σ H λvs H1=>r vs H1 Q
theorem bH (hc:cQ X (.builtin id) r)(hg:Gl X x)(hm:X.mg x=none)(hv:dv x=some (.builtin id))(ha:PA X (e::es) t)(hn:x≠ "__name__" :=by decide)(hdb:(x==("__debug__" :Str))=false:=by decide)
  (he:az (e::es) X.env=(false,eval e X.env)::az es X.env:=by rfl)(hpl:(fh pos (az es X.env)).any (·.1)=false:=by rfl):PE X (.Call (.Name x p) (e::es) [] pos) (tCB r t):=by
 intro pins s σ H Q I h;refine gz (tK I hg hm hv ?_ hn hdb);exact PyProof.Rows.callWith_builtin1 (thn (ha pos pins s σ H _ I h) λus s1 ⟨vs,H1,I1,r1,q1⟩=>hc pins s1 σ H1 vs us Q I1 r1 q1) he hpl
theorem fV (hc:cQ X (.type T) r)(hg:Gl X x)(hm:X.mg x=none)(hv:dv x=some (.type T))(ha:PA X (e::es) t)(hn:x≠ "__name__" :=by decide)(hdb:(x==("__debug__" :Str))=false:=by decide)
  (he:az (e::es) X.env=(false,eval e X.env)::az es X.env:=by rfl)(hpl:(fh pos (az es X.env)).any (·.1)=false:=by rfl):PE X (.Call (.Name x p) (e::es) [] pos) (tCB r t):=by
 intro pins s σ H Q I h;refine gz (tK I hg hm hv ?_ hn hdb);exact jc (thn (ha pos pins s σ H _ I h) λus s1 ⟨vs,H1,I1,r1,q1⟩=>hc pins s1 σ H1 vs us Q I1 r1 q1) he hpl
end
end L2
namespace HT
open PySem PyProof.Rows
section
open PySem.SeqAt
open PySem.AutoSeq1 (wpAny_loadPart')
open PySem.MeetsSeq PySem.MeetsSeq2 PySem.MeetsSeq3
end
section
variable {prog:ef}{w:gd}{A:jx}{E:af->aj->Prop}{s:aj}
def sIx (n d:Nat):Option Int->Nat
 | none=>d
 | some v=>if v<0 then (v+(n:Int)).toNat else min v.toNat n
theorem sIx_none (n d:Nat):sIx n d none=d:=rfl
theorem sIx_nat (n d k:Nat):sIx n d (some (k:Int))=min k n:=by
 show (if (k:Int)<0 then ((k:Int)+(n:Int)).toNat else min (k:Int).toNat n)=min k n;rw[if_neg (by lia),ly]
end
end HT
namespace L2
open PySem PySem.Spec PyProof.Rows
abbrev TO:=St->Hp->(Option Int->Hp->Prop)->Prop
def PO (X:Cx)(e:Option Expr)(t:TO):Prop :=
 ∀(pins:List (Addr×Obj)) (s:aj) (σ:St) (H:Hp) (Q:Option Int->Hp->Prop),Inv X pins σ H s->t σ H Q →
  ax (be X.prog X.w) X.A (evalPart e X.env) (λu s'=>∃o H',Inv X pins σ H' s'/\IsPart u o/\Q o H') X.xe s
def M7:TO:=λ_ H Q=>Q none H
def aAb (t:TE):TO:=λσ H Q=>t σ H λx H1=>∃i,x= .int i/\Q (some i) H1
variable {X:Cx}{e:Expr}{pos:Pos}
section
variable {te:TE}{lo hi:Option Expr}{tl th:TO}{p2:Pos}
theorem xV:PO X none M7:=by
 intro pins s σ H Q I h;rw[evalPart_none];exact ai ⟨none,H,I,.none,h⟩
theorem yL (h:PE X e te):PO X (some e) (aAb te):=by
 intro pins s σ H Q I hw;rw[evalPart_some];refine thn (h pins s σ H _ I hw) λu s1 ⟨x,H1,I1,r1,q1⟩=> ?_;obtain⟨i,rfl,q⟩:=q1;obtain⟨t,rfl⟩:=r1;exact⟨some i,H1,I1,.int i t,q⟩
def SlR (X:Cx)(r:V->Option Int->Option Int->Hp->VK->Prop):Prop :=
 ∀(pins:List (Addr×Obj)) (s:aj) (σ:St) (H:Hp) (x:V) (v vl vu:af) (lo hi:Option Int) (sl:Addr) (Q:VK),Inv X pins σ H s->RelV x v->s.heap.IsSliceOf sl vl vu .none->IsPart vl lo->IsPart vu hi->r x lo hi H Q →
  ∃T id,qo (.type T) "__getitem__" =pure (some (.builtin id))/\s.TypeIs v T/\ax (be X.prog X.w) X.A (getItem v (.ref sl)) (EP X pins σ Q) X.xe s
def tSl (r:V->Option Int->Option Int->Hp->VK->Prop)(te:TE)(tl th:TO):TE:=λσ H Q=>te σ H λx H1=>tl σ H1 λl H2=>th σ H2 λu H3=>r x l u H3 Q
theorem uG {r:V->Option Int->Option Int->Hp->VK->Prop}(hr:SlR X r)(he:PE X e te)(hl:PO X lo tl)(hu:PO X hi th):PE X (.Subscript e (.Slice lo hi none p2) pos) (tSl r te tl th):=by
 intro pins s σ H Q I h;refine Subscript_ (thn (he pins s σ H _ I h) λv s1 ⟨x,H1,I1,r1,q1⟩=> ?_);refine wpAny_Slice (thn (hl pins s1 σ H1 _ I1 q1) λvl s2 ⟨l,H2,I2,pl,q2⟩=>thn (hu pins s2 σ H2 _ I2 q2) λvu s3 ⟨u,H3,I3,pu,q3⟩=> ?_);rw[evalPart_none];refine ai ?_;have I4:Inv X pins σ H3 { s3 with heap:=s3.heap.push { cls:= .type "slice",data:= .fields #[vl,vu,.none] } }:=I3.kept (t':=s3.toks) λb ob q=>ae _ q;obtain⟨T,id,hT,ht,hg⟩:=hr pins { s3 with heap:=s3.heap.push { cls:= .type "slice",data:= .fields #[vl,vu,.none] } } σ H3 x v vl vu l u s3.heap.objs.size Q I4 r1 (Heap.IsSliceOf.new ..) pl pu q3;show ax (be X.prog X.w) X.A (subscriptTail e (.Slice lo hi none p2) v (.ref s3.heap.objs.size)) (EP X pins σ Q) X.xe { s3 with heap:=s3.heap.push { cls:= .type "slice",data:= .fields #[vl,vu,.none] } };exact tail_any (ops:=[.ref s3.heap.objs.size,v]) ht hT hg (by with_unfolding_all rfl)
def uU (xs:List V)(lo hi:Option Int):List V:=(xs.drop (HT.sIx xs.length 0 lo)).take (HT.sIx xs.length xs.length hi - HT.sIx xs.length 0 lo)
theorem ME (xs:List V)(lo hi:Option Int):(uU xs lo hi).length<=xs.length:=by
 unfold uU;rw[fm,vb]
 lia
end
def ixN (n:Nat)(i:Int):Option Nat:=if 0<=i then (if i<n then some i.toNat else none) else if -(n:Int)<=i then some (i+n).toNat else none
variable {α:Type}
def atI (xs:List α)(i:Int):Option α:=(ixN xs.length i).bind λj=>xs[j]?
variable {n t':Nat}
theorem aAF {i:Int}{j:Nat}(h:ixN n i=some j):seqIndex? i n=some j/\j<n/\ -(n:Int)<=i/\i<n:=by
 unfold ixN at h
 by_cases h0:0<=i
 .rw[if_pos h0]at h
  by_cases h1:i<n
  .rw[if_pos h1]at h;have e:i.toNat=j:=cp h;exact⟨by rw[seqIndex_of h0 h1,e],by lia,by lia,h1⟩
  .rw[if_neg h1]at h;cases h
 .rw[if_neg h0]at h
  by_cases h1: -(n:Int)<=i
  .rw[if_pos h1]at h;have e:(i+n).toNat=j:=cp h;exact⟨by rw[seqIndex_neg (by lia) h1,e],by lia,h1,by lia⟩
  .rw[if_neg h1]at h;cases h
theorem NN {α:Type}{xs:List α}{i:Int}{v:α}(h:atI xs i=some v):∃j,seqIndex? i xs.length=some j/\xs[j]? =some v/\j<xs.length/\ -(xs.length:Int)<=i/\i<xs.length:=by
 unfold atI at h;cases e:ixN xs.length i with
 | none=>rw[e]at h;cases h
 | some j =>
  rw[e]at h;obtain⟨h1,h2,h3,h4⟩:=aAF e;exact⟨j,h1,h,h2,h3,h4⟩
theorem o8 {α:Type}{xs:List α}{j:Nat}{v:α}(h:xs[j]? =some v):atI xs (j:Int)=some v:=by
 have hj:j<xs.length:=(ay.mp h).1;have e:ixN xs.length (j:Int)=some j:=by
  unfold ixN;rw[if_pos (by lia),if_pos (by lia)];simp
 unfold atI;rw[e];exact h
def aAN (b:Expr):Prop:=∀o i,xc b false o i=operate [o,i] (getItem o i)
def IxR (X:Cx)(r:R2):Prop :=
 ∀(value slice:Expr) (pins:List (Addr×Obj)) (s:aj) (σ:St) (H:Hp) (x y:V) (v u:af) (Q:VK),Inv X pins σ H s->RelV x v->RelV y u->r x y H Q →
  xc slice false v u=operate [v,u] (getItem v u)->ax (be X.prog X.w) X.A (subscriptTail value slice v u) (EP X pins σ Q) X.xe s
def MtR (X:Cx)(id:String)(r:V->List V->Hp->VK->Prop):Prop :=
 ∀(pins:List (Addr×Obj)) (s:aj) (σ:St) (H:Hp) (x:V) (xs:List V) (v:af) (us:List af) (Q:VK),Inv X pins σ H s->RelV x v->Vals xs us->r x xs H Q →
  ax (be X.prog X.w) X.A (call (.builtin id) (v::us)) (EP X pins σ Q) X.xe s
variable {A:jx}{s:aj}{u:af}{pins:List (Addr×Obj)}{σ:St}{H:Hp}
section
variable {a b:Expr}{ta tb:TE}
theorem dB {r:R2}(hr:IxR X r)(ha:PE X a ta)(hb:PE X b tb)(hs:aAN b):PE X (.Subscript a b pos) (tOp r ta tb):=by
 intro pins s σ H Q I h;exact Subscript_ (W1 ha hb I h λv u s2 x y H2 I2 rx ry q=>hr a b pins s2 σ H2 x y v u Q I2 rx ry q (hs _ _))
def RO (K:W.Frag):R2:=λx y H Q=>∃p xs i v,x= .ref p/\y= .int i/\SqL K H p xs/\atI xs i=some v/\Q v H
def XF (K:W.Frag):R2:=λx y H Q=>∃p xs i v,x= .ref p/\y= .int i/\SqT K H p xs/\atI xs i=some v/\Q v H
theorem gH:IxR X (RO X.K):=by
 intro value slice pins s σ H x y v u Q I rx ry h hs;obtain⟨p,xs,i,z,rfl,rfl,hq,he,q⟩:=h;cases rx;obtain⟨t,rfl⟩:=ry;obtain⟨its,r,pl,hz⟩:=I.list hq;obtain⟨j,h1,h2,h3,h4,h5⟩:=NN he;obtain⟨w,ew,rw'⟩:=r.get h2;have hl:=r.length;have hn:=BI;have fin:EP X pins σ Q w s:=⟨z,H,I,rw',q⟩
 by_cases h0:0<=i
 .have hj:i.toNat=j:=by
   rw[seqIndex_of h0 h5]at h1;exact cp h1
  exact item_listR pl.isList h0 (by lia) (by rw[hj];simpa using ew) fin hs
 .have hj:(i+(its.toArray.size:Int)).toNat=j:=by
   rw[seqIndex_neg (by lia) h4]at h1;rw[br,←hl];exact cp h1
  exact subscriptTail_builtinR (x:=w) pl.isList.typeIs slot_list_getitem.lookup
   (wpAny_getItem_list_neg (Q:=λr s'=>r=w/\EP X pins σ Q r s') pl.isList (by lia) (by rw[br]<;>lia) (by lia) (by rw[hj];simpa using ew) ⟨rfl,fin⟩) hs
theorem kH:IxR X (XF X.K):=by
 intro value slice pins s σ H x y v u Q I rx ry h hs;obtain⟨p,xs,i,z,rfl,rfl,hq,he,q⟩:=h;cases rx;obtain⟨t,rfl⟩:=ry;obtain⟨its,r,pl,hz⟩:=I.tuple hq;obtain⟨j,h1,h2,h3,h4,h5⟩:=NN he;obtain⟨w,ew,rw'⟩:=r.get h2;have hl:=r.length;have hn:=BI;have fin:EP X pins σ Q w s:=⟨z,H,I,rw',q⟩
 exact subscriptTail_builtinR (x:=w) pl.typeIs slot_tuple_getitem.lookup
  (getItem_tuple (j:=j) (Q:=λr s'=>r=w/\EP X pins σ Q r s') pl (by lia) (by lia) (by rw[br,←hl];exact h1) (by simpa using ew) ⟨rfl,fin⟩) hs
theorem JO (lo hi:Option Int)(n:Nat):(og lo hi none n).1=((HT.sIx n 0 lo:Nat):Int)/\(og lo hi none n).2.1=((HT.sIx n n hi:Nat):Int)/\(og lo hi none n).2.2=1:=by
 refine⟨?_,?_,rfl⟩
 .cases lo with
  | none=>simp[og,HT.sIx]
  | some i =>
   simp only[og,HT.sIx,Option.getD_none,show (1:Int)>0 by decide,if_true]
   by_cases h:i<0
   .simp only[h,if_true]<;>lia
   .simp only[h,if_false]<;>lia
 .cases hi with
  | none=>simp[og,HT.sIx]
  | some i =>
   simp only[og,HT.sIx,Option.getD_none,show (1:Int)>0 by decide,if_true]
   by_cases h:i<0
   .simp only[h,if_true]<;>lia
   .simp only[h,if_false]<;>lia
theorem HE (its:List af)(lo hi:Option Int):slicePick its.toArray lo hi none=((its.drop (HT.sIx its.length 0 lo)).take (HT.sIx its.length its.length hi - HT.sIx its.length 0 lo)).toArray:=by
 obtain⟨h1,h2,h3⟩:=JO lo hi its.toArray.size;unfold slicePick;rw[h1,h2,h3];simp only[sliceRange_one,pick_run,br]<;>rfl
def W9 (K:W.Frag):V->Option Int->Option Int->Hp->VK->Prop:=λx lo hi H Q=>∃a xs,x= .ref a/\SqL K H a xs/\∀p,H p=none->Q (.ref p) (upd H p (.lst (uU xs lo hi)))
theorem DZ:SlR X (W9 X.K):=by
 intro pins s σ H x v vl vu lo hi sl Q I rx hs pl pu h;obtain⟨a,xs,rfl,hx,q⟩:=h;cases rx;obtain⟨its,r,ht,hz⟩:=I.list hx;have hlen:=r.length;refine⟨"list",_,slot_list_getitem.lookup,ht.isList.typeIs,?_⟩;refine wpAny_getItem_list_slice ht.isList hs pl pu .none (by simp) ?_ (by rw[br]<;>lia);rw[HE,←hlen];refine⟨.ref s.heap.objs.size,_,I.laid (t':=s.toks) (o:= .lst (uU xs lo hi)) (λb ob q=>ae _ q) (ar _) ?_,rfl,q _ (I.hok.fresh (ar _))⟩;exact⟨bo (ME xs lo hi) hz,_,0,(r.drop (HT.sIx xs.length 0 lo)).take (HT.sIx xs.length xs.length hi - HT.sIx xs.length 0 lo),aw _ rfl⟩
def gI:V->Bool
 | .non=>true
 | .bl _=>true
 | .int _=>true
 | .str _=>true
 | _=>false
def eqV:V->V->Bool
 | .non,.non=>true
 | .bl a,.bl b=>a==b
 | .bl a,.int b=>(if a then 1 else 0)==b
 | .int a,.bl b=>a==(if b then 1 else 0)
 | .int a,.int b=>a==b
 | .str a,.str b=>a==b
 | _,_=>false
theorem J3 {y x:V}{v:af}(ry:RelV y u)(rx:RelV x v)(fy:gI y=true)(fx:gI x=true):qq A s u v (eqV y x):=by
 cases y with
 | non =>
  cases ry;cases x with
  | non=>cases rx;exact ro _
  | bl b=>cases rx;exact qq.none_bool b
  | int b=>obtain⟨t,rfl⟩:=rx;exact qq.none_int b t
  | str b=>obtain⟨t,rfl⟩:=rx;exact qq.none_str b t
  | _=>exact absurd (show false=true from fx) bh
 | bl a =>
  cases ry;cases x with
  | non=>cases rx;exact qq.bool_none a
  | bl b=>cases rx;exact qq.bool_bool a b
  | int b=>obtain⟨t,rfl⟩:=rx;exact qq.bool_int a b t
  | str b=>obtain⟨t,rfl⟩:=rx;exact qq.bool_str a b t
  | _=>exact absurd (show false=true from fx) bh
 | int a =>
  obtain⟨t',rfl⟩:=ry;cases x with
  | non=>cases rx;exact qq.int_none a t'
  | bl b=>cases rx;exact qq.int_bool a t' b
  | int b=>obtain⟨t,rfl⟩:=rx;exact qq.int_int a t' b t
  | str b=>obtain⟨t,rfl⟩:=rx;exact yc a t' b t
  | _=>exact absurd (show false=true from fx) bh
 | str a =>
  obtain⟨t',rfl⟩:=ry;cases x with
  | non=>cases rx;exact qq.str_none a t'
  | bl b=>cases rx;exact qq.str_bool a t' b
  | int b=>obtain⟨t,rfl⟩:=rx;exact yd a t' b t
  | str b=>obtain⟨t,rfl⟩:=rx;exact qq.str_str a t' b t
  | _=>exact absurd (show false=true from fx) bh
 | _=>exact absurd (show false=true from fy) bh
def eqU (x:V)(u:af):Bool:=match u with
 | .none=>eqV .non x
 | .bool b=>eqV (.bl b) x
 | .int i _=>eqV (.int i) x
 | .str z _=>eqV (.str z) x
 | _=>false
theorem UY {x y:V}(r:RelV y u)(f:gI y=true):eqU x u=eqV y x:=by
 cases y with
 | non=>cases r;rfl
 | bl b=>cases r;rfl
 | int i=>obtain⟨t,rfl⟩:=r;rfl
 | str z=>obtain⟨t,rfl⟩:=r;rfl
 | _=>exact absurd (show false=true from f) bh
theorem sW {x:V}:∀{xs:List V}{us:List af},Vals xs us->xs.all gI=true->us.any (eqU x)=xs.any λy=>eqV y x
 | _,_,.nil,_=>rfl
 | y::xs,u::us,.cons r t,f=>by
  rw[lh,cq]at f;rw[jf,jf,UY r f.1,sW t f.2]
theorem pM {x:V}{v:af}(rx:RelV x v)(fx:gI x=true):∀{xs:List V}{us:List af},Vals xs us->xs.all gI=true->∀u∈us,qq A s u v (eqU x u)
 | _,_,.nil,_=>λu hu=>by cases hu
 | y::xs,u::us,.cons r t,f=>λu' hu=>by
  rw[lh,cq]at f;rcases ba.mp hu with rfl|hu
  .rw[UY r f.1];exact J3 r rx f.1 fx
  .exact pM rx fx t f.2 u' hu
def inV (x:V)(xs:List V):Bool:=xs.any λy=>eqV y x
def rIn (K:W.Frag)(neg:Bool):R2:=λx y H Q=>∃p xs,y= .ref p/\(SqL K H p xs∨SqT K H p xs)/\gI x=true/\xs.all gI=true/\Q (.bl (if neg then !inV x xs else inV x xs)) H
theorem R3:OpR X (fe .In) (rIn X.K false):=by
 intro pins s σ H x y v u Q I rx ry h;obtain⟨p,xs,rfl,hq,fx,fs,q⟩:=h;cases ry;rcases hq with hq|hq
 .obtain⟨its,r,pl,hz⟩:=I.list hq;refine SeqAt.in_listAt (eqU x) pl.isList (λw hw=>pM rx fx r fs w (by simpa using hw)) ⟨.bl _,H,I,rfl,?_⟩;rw[show its.toArray.any (eqU x)=its.any (eqU x) by simp,sW r fs];exact q
 .obtain⟨its,r,pl,hz⟩:=I.tuple hq;refine SeqAt.in_tupleAt (eqU x) pl (λw hw=>pM rx fx r fs w (by simpa using hw)) ⟨.bl _,H,I,rfl,?_⟩;rw[show its.toArray.any (eqU x)=its.any (eqU x) by simp,sW r fs];exact q
theorem xA:OpR X (fe .NotIn) (rIn X.K true):=by
 intro pins s σ H x y v u Q I rx ry h;obtain⟨p,xs,rfl,hq,fx,fs,q⟩:=h;cases ry;rcases hq with hq|hq
 .obtain⟨its,r,pl,hz⟩:=I.list hq;refine SeqAt.notIn_listAt (eqU x) pl.isList (λw hw=>pM rx fx r fs w (by simpa using hw)) ⟨.bl _,H,I,rfl,?_⟩;rw[show its.toArray.any (eqU x)=its.any (eqU x) by simp,sW r fs];exact q
 .obtain⟨its,r,pl,hz⟩:=I.tuple hq;refine SeqAt.notIn_tupleAt (eqU x) pl (λw hw=>pM rx fx r fs w (by simpa using hw)) ⟨.bl _,H,I,rfl,?_⟩;rw[show its.toArray.any (eqU x)=its.any (eqU x) by simp,sW r fs];exact q
theorem IQ:cQ X (.builtin "len") (λxs H Q=>∃p ys,xs=[.ref p]/\(SqL X.K H p ys∨SqT X.K H p ys)/\Q (.int ys.length) H):=by
 intro pins s σ H xs us Q I r h;obtain⟨p,ys,rfl,hq,q⟩:=h;obtain⟨u,rfl,rx⟩:=gG r;cases rx;have hn:=BI;rcases hq with hq|hq
 .obtain⟨its,r',pl,hz⟩:=I.list hq;have hlen:=r'.length;exact Calls.call_len_list pl.isList (by simp only[br]<;>lia) ⟨.int ys.length,H,I.tok _,⟨s.toks+1,by rw[br,hlen]⟩,q⟩
 .obtain⟨its,r',pl,hz⟩:=I.tuple hq;have hlen:=r'.length;exact len_tuple pl (by simp only[br]<;>lia) ⟨.int ys.length,H,I.tok _,⟨s.toks+1,by rw[br,hlen]⟩,q⟩
theorem IN:cQ X (.builtin "len") (λxs H Q=>∃z,xs=[.str z]/\z.length<=sizeLine/\Q (.int z.length) H):=by
 intro pins s σ H xs us Q I r h;obtain⟨z,rfl,hz,q⟩:=h;obtain⟨u,rfl,t,rfl⟩:=gG r;have hn:=BI;exact len_str (by lia) ⟨.int z.length,H,I.tok _,⟨_,rfl⟩,q⟩
theorem GQ:cQ X (.type "tuple") (λxs H Q=>∃p ys,xs=[.ref p]/\((SqL X.K H p ys/\∀l,H l=none->Q (.ref l) (upd H l (.tup ys)))∨(SqT X.K H p ys/\Q (.ref p) H))):=by
 intro pins s σ H xs us Q I r h;obtain⟨p,ys,rfl,h⟩:=h;obtain⟨u,rfl,rx⟩:=gG r;cases rx;rcases h with⟨hq,q⟩|⟨hq,q⟩
 .obtain⟨its,r',pl,hz⟩:=I.list hq;have hlen:=r'.length;refine call_tuple_list pl.isList (λh' kp=> ?_) (by simp only[br]<;>lia);have I1:Inv X pins σ H { s with heap:=h' }:=I.kept (t':=s.toks) kp;have I2:Inv X pins σ (upd H h'.objs.size (.tup ys)) { s with heap:=h'.push { cls:= .type "tuple",data:= .seq its.toArray } } :=
   I1.laid (t':=s.toks) (λb o e=>ae _ e) (ar _) (show ObjOk X.prog X.w _ _ _ (.tup ys) from⟨hz,its,r',IsTup.new _ _⟩)
  exact⟨.ref h'.objs.size,_,I2,rfl,q _ (I1.hok.fresh (ar _))⟩
 .obtain⟨its,r',pl,hz⟩:=I.tuple hq;exact call_tuple_same pl ⟨.ref p,H,I,rfl,q⟩
def tyV (K:W.Frag)(T:String)(x:V)(H:Hp):Prop:=match x with
 | .str _=>T= "str"
 | .int _=>T= "int"
 | .ref p=>(T= "list" /\∃xs,SqL K H p xs)∨(T= "tuple" /\∃o,K.lookup p=some o/\o.cls= .type "tuple" /\o.dict=none) ∨
   (T= "dict" /\((∃kvs,H p=some (.dK kvs))∨∃kvs,H p=some (.dT kvs)))∨(T= "set" /\∃S n,H p=some (.set S n))
 | _=>False
theorem aC7 {T:String}{x:V}{v:af}(I:Inv X pins σ H s)(r:RelV x v)(ty:tyV X.K T x H):
  s.TypeIs v T/\∀a,v= .ref a->∃ob,s.heap.get? a=some ob/\ob.dict=none:=by
 cases x with
 | str z =>
  obtain⟨t,rfl⟩:=r;cases (show T= "str" from ty);exact⟨yh s z t,λ_ e=>nomatch e⟩
 | int i =>
  obtain⟨t,rfl⟩:=r;cases (show T= "int" from ty);exact⟨typeIs_int s i t,λ_ e=>nomatch e⟩
 | ref p =>
  cases r;rcases ty with⟨rfl,xs,hq⟩|⟨rfl,o,hk,hc,hd⟩|⟨rfl,hk⟩|⟨rfl,S,n,hk⟩
  .obtain⟨its,_,pl,_⟩:=I.list hq;refine⟨pl.isList.typeIs,λa e=> ?_⟩;cases e;obtain⟨o,n,e,c,hd,_⟩:=pl;exact⟨o,e,hd⟩
  .refine⟨⟨o,I.kIn p o hk,hc⟩,λa e=> ?_⟩;cases e;exact⟨o,I.kIn _ o hk,hd⟩
  .have z:∃o,s.heap.get? p=some o/\o.ExactDict:=by
    rcases hk with⟨kvs,hk⟩|⟨kvs,hk⟩
    .obtain⟨_,_,_,_,o,_,_,e,ex,_⟩:=I.hok p _ hk;exact⟨o,e,ex⟩
    .obtain⟨_,_,_,_,o,_,_,e,ex,_⟩:=I.hok p _ hk;exact⟨o,e,ex⟩
   obtain⟨o,e,ex⟩:=z;refine⟨⟨o,e,ex.1⟩,λa e2=> ?_⟩;cases e2;exact⟨o,e,ex.2.1⟩
  .obtain⟨o,_,_,_,e,ex,_⟩:=I.hok p _ hk;refine⟨⟨o,e,ex.1⟩,λa e2=> ?_⟩;cases e2;exact⟨o,e,ex.2.1⟩
 | _=>exact dh ty
def tBM (K:W.Frag)(T:String)(r:V->List V->Hp->VK->Prop)(to:TE)(t:TA):TE:=λσ H Q=>to σ H λx H1=>tyV K T x H1/\t σ H1 λxs H2=>r x xs H2 Q
variable {o:Expr}{es:List Expr}{to:TE}{t:TA}{name:Str}{apos cpos:Pos}{T id:String}{r:V->List V->Hp->VK->Prop}
theorem oT (pa:PlainAttrs T)(slot:Slot T name id)(hty:xg (.builtin id)=pure (.type "method_descriptor"))(hm:MtR X id r)(ho:PE X o to)(ha:PA X (e::es) t)
  (hbase:jt o name X.env (eval o X.env)=eval o X.env:=by rfl)
  (hfew:((fh cpos (az (e::es) X.env)).all (λx=> !x.1)&&(ri cpos (kh [] X.env)).all (λx=>x.1.isSome)
   && decide ((e::es).length+([]:List xu).length+(if ([]:List xu).isEmpty then 0 else 1)<30))=true:=by rfl)
  (hline:(apos.endLine==cpos.line)=true:=by rfl)(hs:az (e::es) X.env=(false,eval e X.env)::az es X.env:=by rfl)(hplain:(fh cpos (az es X.env)).any (·.1)=false:=by rfl) :
  PE X (.Call (.Attribute o name apos) (e::es) [] cpos) (tBM X.K T r to t):=by
 intro pins s σ H Q I h;refine wpAny_Call_method_late hbase hfew hline rfl (thn (ho pins s σ H _ I h) λv s1 ⟨x,H1,I1,r1,ty,q1⟩=> ?_);obtain⟨h1,h2⟩:=aC7 I1 r1 ty;refine⟨T,id,pa,slot,hty,h1,h2,?_⟩;have hA:=ha cpos pins s1 σ H1 _ I1 q1;rw[hs]at hA ⊢;refine oz (by show (false||(fh cpos (az es X.env)).any (·.1))=false;rw[hplain]<;>rfl) (jm ?_);exact thn hA λus s2 ⟨vs,H2,I2,r2,q2⟩=>hm pins s2 σ H2 x vs v us Q I2 r1 r2 q2
end
def MtM (X:Cx)(id:String)(r:V->List V->Hp->VK->Prop):Prop :=
 ∀(pins:List (Addr×Obj)) (s:aj) (σ:St) (H:Hp) (x:V) (xs:List V) (v:af) (us:List af) (Q:VK),Inv X pins σ H s->RelV x v->Vals xs us->r x xs H Q →
  ax (be X.prog X.w) X.A (call (.builtin id) (v::us)) (EP X pins σ Q) X.xe s
theorem Vals.one:∀{x:V}{us:List af},Vals [x] us->∃u,us=[u]/\RelV x u
 | _,_,.cons r .nil=>⟨_,rfl,r⟩
section
variable {l b:Addr}{xs ys zs:List V}
theorem Inv.lset {its its':List af}{f:Array af->Array af}(I:Inv X pins σ H s)(hH:H l=some (.lst xs))
  (e:s.heap.get? l=some { cls:= .type "list",data:= .seq its.toArray n })(hf:f its.toArray=its'.toArray)(hv:Vals ys its')(hz:ys.length<=sizeLine) :
  Inv X pins σ (upd H l (.lst ys)) { s with heap:=s.heap.update l (ju f),toks:=t' }:=by
 have q:=PySem.IsL.update e f;rw[hf]at q;refine I.write (x:=l) (e:=l) (by rw[hH];exact trivial) (.inl rfl) (λb' u hb hu=>(bf s.heap (ju f) (dg hb)).trans hu) ⟨_,q⟩ ?_;exact⟨hz,its',_,hv,q⟩
theorem Inv.lnew {its:List af}(I:Inv X pins σ H s)(hv:Vals ys its)(hz:ys.length<=sizeLine):
  Inv X pins σ (upd H s.heap.objs.size (.lst ys)) { s with heap:=s.heap.push { cls:= .type "list",data:= .seq its.toArray },toks:=t' } :=
 I.laid (λ_ _ q=>ae _ q) (ar _) ⟨hz,its,0,hv,aw _ rfl⟩
theorem Inv.fresh (I:Inv X pins σ H s):H s.heap.objs.size=none:=I.hok.fresh (ar _)
theorem Inv.lstM (I:Inv X pins σ H s)(hH:H l=some (.lst xs)):xs.length<=sizeLine/\∃(its:List af) (n:Nat),Vals xs its/\xs.length=its.length/\s.heap.get? l=some { cls:= .type "list",data:= .seq its.toArray n }:=by
 obtain⟨z,its,n,r,e⟩:=I.hok l _ hH;exact⟨z,its,n,r,r.length,e⟩
theorem YI (h:n<=sizeLine):ng n=false:=by
 unfold ng;exact decide_eq_false (by lia)
end
def NL:V->List V->Hp->VK->Prop:=λx vs H Q=>∃l xs y,x= .ref l/\vs=[y]/\H l=some (.lst xs)/\xs.length<sizeLine/\Q .non (upd H l (.lst (xs++[y])))
theorem rD:MtM X "list.append" NL:=by
 intro pins s σ H x vs v us Q I rx rv h;obtain⟨l,xs,y,rfl,rfl,hH,hz,q⟩:=h;cases rx;obtain⟨u,rfl,ru⟩:=rv.one;obtain⟨z,its,n,r,hl,e⟩:=I.lstM hH;refine call_meets F.slot_list_append ⟨_,e,rfl⟩ F.entry_list_append (F.args_list_append_2 _ _) (PySem.list_append l its.toArray n u (by rw[br];lia)) ⟨e,?_⟩;refine⟨.non,_,I.lset (its':=its++[u]) hH e (by simp) (r.append (.cons ru .nil)) ?_,rfl,q⟩;rw[cb,List.length_singleton]
 lia
def NS:V->List V->Hp->VK->Prop:=λx vs H Q=>∃l b xs zs,x= .ref l/\vs=[.ref b]/\H l=some (.lst xs)/\H b=some (.lst zs)/\xs.length+zs.length<=sizeLine/\Q .non (upd H l (.lst (xs++zs)))
theorem TU:MtM X "list.extend" NS:=by
 intro pins s σ H x vs v us Q I rx rv h;obtain⟨l,b,xs,zs,rfl,rfl,hH,hB,hz,q⟩:=h;cases rx;obtain⟨u,rfl,ru⟩:=rv.one;cases ru;obtain⟨z,its,n,r,hl,e⟩:=I.lstM hH;obtain⟨z2,its2,n2,r2,hl2,e2⟩:=I.lstM hB;have hsz:its.toArray.size+its2.toArray.size<=sizeLine:=by rw[br,br];lia
 have hlong:¬(!its.toArray.isEmpty&&ng (its.toArray.size+its2.toArray.size))=true:=by
  rw[YI hsz,Bool.and_false];exact bh
 refine call_meets F.slot_list_extend ⟨_,e,rfl⟩ F.entry_list_extend (F.args_list_extend_2 _ _)
  (AutoSeq1.list_extend_list_list_0 l its.toArray n b its2.toArray n2 hlong (by rw[br];lia) (by lia)) ⟨e,e2,?_⟩
 refine⟨.non,_,I.lset (its':=its++its2) hH e (by simp) (r.append r2) ?_,rfl,q⟩;rw[cb]
 lia
def aCt:R2:=λx y H Q=>∃l b xs zs,x= .ref l/\y= .ref b/\H l=some (.lst xs)/\H b=some (.lst zs)/\xs.length+zs.length<=sizeLine/\∀p,H p=none->Q (.ref p) (upd H p (.lst (xs++zs)))
theorem qB:OpR X (rg .Add) aCt:=by
 intro pins s σ H x y v u Q I rx ry h;obtain⟨l,b,xs,zs,rfl,rfl,hH,hB,hz,q⟩:=h;cases rx;cases ry;obtain⟨z,its,n,r,hl,e⟩:=I.lstM hH;obtain⟨z2,its2,n2,r2,hl2,e2⟩:=I.lstM hB;refine PySem.P.add_list e e2 ?_ (by rw[br,br];lia);have ea:its.toArray++its2.toArray=(its++its2).toArray:=by simp
 rw[ea];exact⟨.ref _,_,I.lnew (t':=s.toks) (r.append r2) (by rw[cb];lia),rfl,q _ I.fresh⟩
section
variable {prog:ef}{w:gd}{E:af->aj->Prop}
set_option maxRecDepth 100000 in
end
end L2
namespace Att
open PySem PySem.W PySem.Calls PyProof.Rows
variable {h:Heap}
theorem CZ {P:Params}:∀(ns:List Int) (vs:List af),WellAll P h vs (ns.map WData.int)->IntsAre vs ns:=by
 intro ns
 induction ns with
 | nil =>
  intro vs w;rw[yn]at w;cases w;exact .nil
 | cons n ns ih =>
  intro vs w;rw[dm]at w;cases w with
  | cons a b =>
   cases a;exact .cons _ _ (ih _ b)
variable {n:Nat}
theorem VJ {l:OpenLaw}(hn:l.most=some n){P:Params}{args:List WData}{vals:List af}
  (hpre:l.row.toRowW.claim.pre args=true)(hwl:WellAll P h vals args) :
  ∃a vs ns,vals=[av a]/\args=[WData.list (ns.map WData.int)]/\h.get? a=some { cls:= .type "list",data:= .seq vs.toArray }/\IntsAre vs ns/\ns.length<=n:=by
 have hsh:WShape.hasAll [] args [.list .int]=true:=(pre_splitW hpre).1;have hc:l.pre.holds [] { args:=args }=true:=(pre_splitW hpre).2;obtain⟨d,r,rfl,h1,h2⟩:=hasAllW_cons hsh;obtain rfl:=hasAllW_nil h2;obtain⟨xs,rfl,h3⟩:=hasW_list h1;obtain⟨ns,rfl⟩:=items_int h3;have hlen:ns.length<=n:=by
  unfold OpenLaw.pre at hc;have h4:(WTm.not (.lt (.lit (.int (n:Int))) (.len (.arg 0)))).holds [] { args:=[.list (ns.map .int)] }=true:=by
   have h4:=(holds_andW hc).1;rw[hn]at h4;exact h4
  have h5:=condW_of h4 (w_not (w_lt w_lit (w_len_list (w_arg rfl))));rw[ao]at h5;refine Nat.le_of_not_lt λq=> ?_;have q':(n:Int)<((ns.length:Nat):Int):=by lia
  first
   | (rw[decide_eq_true q']at h5;exact absurd h5 (by decide))
   | (simp at h5;lia)
 cases hwl with
 | cons w1 w2 =>
  cases w2;cases w1 with
  | list ho hall=>exact⟨_,_,ns,rfl,rfl,ho,CZ ns _ hall,hlen⟩
theorem SJ (l:OpenLaw)(args:List WData):l.row.toRowW.claim.post args (.bool true) args=true :=
 postW_of (r:=l.row.toRowW) (X:=(true==true))
  (show WShape.has [] (.bool true) .bool=true by first|rfl|decide|simp[WShape.has,WShape.arms,WShape.armsAll])
  (show (WTm.eq .res (.lit (.bool true))).value [] { args:=args,res:=some (.bool true),after:=args }=some (.bool (true==true)) from w_eq_bool (w_res rfl) w_lit) rfl
theorem attach_call {l:OpenLaw}{q:ef}{loose:List Str}{XP:(Str->Option af)->Heap->Prop}{YP:gd->Heap->Prop}{d:DefRec}
  (hn:l.most=some n)(hdf:d.params.defaults=[])
  (call:∀(w:gd) (s₀ s₁:aj) (mg mb:Str->Option af) (fa:Addr) (o:Obj) (pm cd doc:af) (a:Addr) (vs:List af) (ns:List Int),
   Ground q loose [] XP w s₀ mg mb s₁.heap->YP w s₁.heap →
   s₁.heap.get? fa=some o->o.data= .func (docDef d.name d.params d.body d.scope pm cd doc)->s₁.heap.CodeRec cd d.name->mg d.name=some (.ref fa) →
   s₁.heap.get? a=some { cls:= .type "list",data:= .seq vs.toArray }->IntsAre vs ns->ns.length<=n->s₁.gens= #[] →
   iu (be l.prog w) xv (.call (.ref fa) ⟨[.ref a],[]⟩) (λr s'=>r= .ok (.ret (.bool true))/\OldK s₁.heap s'.heap/\s'.os=s₁.os/\qw s'.gens) s₁) :
  WalkO q loose XP YP l.row.toRowW d [] (λf vs=>PySem.call f vs):=by
 intro w s₀ s₁ mg mb G Y fa o pm cd doc dV kV ho hd hcd hD hmg hg args vals as hpre hlay hrd hwl hlo;obtain rfl:dV= .none:=Dflts.none hD hdf;obtain rfl:kV= .none:=Dflts.noKw hD;obtain⟨a,vs,ns,rfl,rfl,hobj,hints,hlen⟩:=VJ hn hpre hwl;refine enter_call (jj (call w s₀ s₁ mg mb fa o pm cd doc a vs ns G Y ho (fd_plain hd) hcd hmg hobj hints hlen hg) λr s' hq=> ?_);obtain⟨rfl,h2,h3,h4⟩:=hq;exact⟨.inl ⟨.bool true,.bool true,[],rfl,λ_=>rfl,.bool true,SJ l _,λ_=>⟨List.Pairwise.nil,λ_ hm=>(nomatch hm)⟩⟩,h2,h3,h4⟩
section
variable {prog:ef}{w:gd}{A:jx}{E:af->aj->Prop}{s:aj}{K:Frag}
end
end Att
namespace L2
open PySem PySem.Spec PyProof.Rows
theorem FY:∀{vs:List af}{ns:List Int},IntsAre vs ns->Vals (ns.map V.int) vs
 | _,_,.nil=> .nil
 | _,_,.cons n t h=> .cons ⟨t,rfl⟩ (FY h)
def V5 (H:Hp):Prop:=∀b,H b=none∨∃o xs,H b=some (.frz o (.lst xs))
variable {P prog:ef}{w:gd}{K:W.Frag}{mg:Str->Option af}{C T a b dx ea p:Addr}{fd:jz}{m qual x z:Str}{sp:Sp}{i k' n nl:Nat}{s s2 s₀:aj}{us:List af}
theorem X6 {mb:Str->Option af}{CX:CXT}{k:Nat}{fa:Addr}{s₁:aj}{vs:List af}{ns:List Int}
  (KX:K.In s₁.heap)(hns:s₁.heap.Ns ah mg)(hb:s₁.heap.Ns builtinsNs mb)(hbb:∀x:Str,x≠ "__name__" ->mb x=dv x)(hlim:s₁.heap.NoLimit)(hg:s₁.gens= #[])
  (ha:s₁.heap.get? a=some { cls:= .type "list",data:= .seq vs.toArray })(hi:IntsAre vs ns)(hl:ns.length<=sizeLine)(hr:Room k xv)
  (F:∀base:Heap,K.In base->base.Ns ah mg->aP P w K mg base CX k fa fd [x] sp)(hbind:∀(s:aj) (u:af),BindsTo s fd ⟨[u],[]⟩ [(x,u)])
  (hsp:∀H:Hp,V5 H->SqL K H a (ns.map V.int)->sp [.ref a] H (λv _=>v= .bl true) λ_ _ _=>False)
  (hCX:∀H e s',CX [] H s₁ (λ_ _ _=>False) e s'->False) :
  iu (be P w) xv (.call (.ref fa) ⟨[.ref a],[]⟩) (λr s'=>r= .ok (.ret (.bool true))/\OldK s₁.heap s'.heap/\s'.os=s₁.os/\qw s'.gens) s₁:=by
 have rv:=FY hi;have lenV:=hi.length;have core:∀H:Hp,V5 H->SqL K H a (ns.map V.int)->HOk P w H s₁.heap->(∀b,H b≠none->b=a)->(H a≠none->K.lookup a=none) →
   iu (be P w) xv (.call (.ref fa) ⟨[.ref a],[]⟩) (λr s'=>r= .ok (.ret (.bool true))/\OldK s₁.heap s'.heap/\s'.os=s₁.os/\qw s'.gens) s₁:=by
  intro H hO hS hok hA hK;have base_of:∀{b:Addr}{o:Obj},s₁.heap.get? b=some o->H b=none->(uL s₁.heap H).get? b=some o:=λe n=>YY e n;have noA:∀{b:Addr}{o:Obj}{es:Array lj}{ep:Nat},s₁.heap.get? b=some o->o.data= .dict es ep->H b=none:=λ{b o es ep} e d=>by
   cases q:H b with
   | none=>rfl
   | some u =>
    have e':b=a:=hA b (by rw[q];simp);subst e';rw[ha]at e;cases e;have d':Data.seq vs.toArray _=Data.dict es ep:=d;cases d'
  have nsK:∀{b:Addr}{m:Str->Option af},s₁.heap.Ns b m->(uL s₁.heap H).Ns b m:=λ{b m} ⟨o,es,ep,e,d,r⟩=>⟨o,es,ep,base_of e (noA e d),d,r⟩
  have hKb:K.In (uL s₁.heap H):=λb o e=>base_of (KX b o e) (by
   cases q:H b with
   | none=>rfl
   | some u =>
    have e':b=a:=hA b (by rw[q];simp);subst e';rw[hK (by rw[q];simp)]at e;cases e)
  have hM:Mod K mg (uL s₁.heap H):=⟨hKb,nsK hns,⟨mb,nsK hb,hbb⟩,let ⟨mc,h1,h2⟩:=hlim;⟨mc,nsK h1,h2⟩⟩
  have e0:Env0 P w K mg (uL s₁.heap H) xv [] s₁ H:=⟨rfl,hM,λb o e=>aAu e,si (UE _ _),trivial,λb hb=>absurd (show b∈([]:List Addr) from hb) (by simp),hok,.of_eq hg⟩
  refine jj ((F _ hKb (nsK hns)).run xv [] s₁ H ⟨[.ref a],[]⟩ [.ref a] [.ref a] _ _ hr e0 (hbind s₁ (.ref a)) (.cons rfl .nil) (hsp H hO hS)) λr s' h=> ?_;cases r with
  | error e=>exact(hCX H e s' h).elim
  | ok fl =>
   cases fl with
   | next=>exact dh h
   | brk=>exact dh h
   | cont=>exact dh h
   | ret u =>
    obtain⟨v,H',os,bare,un,hok',r',q⟩:=h;have q':v= .bl true:=q;subst q';obtain rfl:u=sy true:=r';refine⟨rfl,OldK.of_keep λb o e=> ?_,os,bare⟩;cases q:H b with
    | none=>exact un.keep b o e q (by intro z;exact absurd (show b∈([]:List Addr) from z) (by simp)) (by simp)
    | some u =>
     rcases hO b with z|⟨ob,xs,z⟩
     .rw[q]at z;cases z
     .have z2:=un.frzs b ob _ z;obtain⟨e1,_⟩:=hok b _ z;obtain⟨e2,_⟩:=hok' b _ z2;rw[e]at e1;cases e1;exact e2
 cases hk:K.lookup a with
 | some o =>
  have e:=KX a o hk;rw[ha]at e;cases e;refine core (λ_=>none) (λ_=> .inl rfl) (.inr ⟨_,vs.toArray,_,hk,rfl,rfl,rfl,by rw[br,lenV];exact hl,by simpa using rv⟩) (λb u z=>by have z':(none:Option HO)=some u:=z;cases z') (λb z=>absurd rfl z) λz=>absurd rfl z
 | none =>
  refine core (λb=>if b=a then some (.frz { cls:= .type "list",data:= .seq vs.toArray } (.lst (ns.map V.int))) else none) (λb=> ?_) (.inl (.inr ⟨{ cls:= .type "list",data:= .seq vs.toArray },if_pos rfl⟩)) (λb u z=> ?_) (λb z=> ?_) λ_=>hk
  .by_cases hb:b=a
   .exact .inr ⟨_,_,if_pos hb⟩
   .exact .inl (if_neg hb)
  .by_cases hb:b=a
   .have z':=(if_pos hb).symm.trans z;cases z';subst hb;exact⟨ha,by rw[ao];exact hl,vs,_,rv,ha⟩
   .have z':=(if_neg hb).symm.trans z;cases z'
  .by_cases hb:b=a
   .exact hb
   .exact absurd (if_neg hb) z
variable {N:List Str}
theorem walk_of {l:W.OpenLaw}{k:Nat}{q:ef}{loose:List Str}{XP:(Str->Option af)->Heap->Prop}{YP:gd->Heap->Prop}{d:DefRec}{K:Params->W.Frag}{CX:gd->CXT}{sp:gd->Sp}
  (hn:l.most=some n)(hn2:n<=sizeLine)(hdf:d.params.defaults=[])(hr:Room k xv)
  (hY:∀(w:gd) (h:Heap),YP w h->(K w.params).In h)
  (F:∀(w:gd) (mg:Str->Option af) (fa:Addr) (h:Heap),(K w.params).In h->h.Ns ah mg->mg d.name=some (.ref fa) →
   ∃fd:jz,(∀(s:aj) (u:af),BindsTo s fd ⟨[u],[]⟩ [(x,u)]) ∧
    ∀base:Heap,(K w.params).In base->base.Ns ah mg->aP l.prog w (K w.params) mg base (CX w) k fa fd [x] (sp w))
  (hsp:∀(w:gd) (H:Hp) (a:Addr) (ns:List Int),ns.length<=n->V5 H->SqL (K w.params) H a (ns.map V.int)->sp w [.ref a] H (λv _=>v= .bl true) λ_ _ _=>False)
  (hCX:∀(w:gd) (H:Hp) (s:aj) (e:af) (s':aj),CX w [] H s (λ_ _ _=>False) e s'->False) :
  W.WalkO q loose XP YP l.row.toRowW d [] (λf vs=>PySem.call f vs):=by
 refine Att.attach_call hn hdf λw s₀ s₁ mg mb fa o pm cd doc a vs ns G Y ho hd hcd hmg hobj hints hlen hg=> ?_;have KX:=hY w _ Y;obtain⟨fd,hb,hF⟩:=F w mg fa _ KX G.T.g hmg;exact X6 KX G.T.g G.T.b G.T.builtins G.T.nolimit hg hobj hints (bo hlen hn2) hr hF hb (λH hO hS=>hsp w H a ns hlen hO hS) λH e s'=>hCX w H s₁ e s'
def cC (s:Stmt)(j:Nat):Stmt:=match s with
 | .ClassDef _ _ _ body _ _ _ _ _ _ _=>body.getD j (.Pass ⟨0,0,0,0⟩)
 | _=> .Pass ⟨0,0,0,0⟩
def dP (s:Stmt):Arguments:=match s with
 | .FunctionDef _ a _ _ _ _ _ _ _ _=>a
 | _=>{ posonlyargs:=[],args:=[],vararg:=none,kwonlyargs:=[],kw_defaults:=[],kwarg:=none,defaults:=[] }
def cZ (s:Stmt):List Stmt:=match s with
 | .FunctionDef _ _ b _ _ _ _ _ _ _=>b
 | _=>[]
def aE (s:Stmt):ud:=match s with
 | .FunctionDef _ _ _ _ _ _ sc _ _ _=>sc
 | _=>{ kind:= .function,names:=[],isGenerator:=false,isCoroutine:=false }
abbrev CX0:CXT:=λ_ _ _ _ _ _=>False
abbrev E0:XK:=λ_ _ _=>False
variable {X:Cx}
theorem yQ:c7 CX0 X E0:=λ_ _ _ _ _ _ _ h=>h.elim
variable {base h h' h1 h6:Heap}
theorem mY (h:n<=1000):n<sizeLine:=Nat.lt_of_le_of_lt h (by decide)
variable {apos np pos:Pos}
theorem pv (i:Nat){pos:Pos}(hN:X.N[i]? =some x:=by rfl)(hv:Vis X.env.scope x:=by first|exact Or.inl rfl|exact Or.inr (Or.inl rfl)|exact Or.inr (Or.inr rfl))(hd:(x==("__debug__" :Str))=false:=by decide)
  (hcd:(x==("__classdict__" :Str))=false:=by decide):PE X (.Name x pos) (gY i):=aDj hN hv hd hcd
variable {B:Prop}
theorem AW {c A:Prop}[Decidable c](h1:c->A)(h2:¬c->B):if c then A else B:=by
 by_cases h:c
 .rw[if_pos h];exact h1 h
 .rw[if_neg h];exact h2 h
def Same (H H':Hp):Prop:=∀b o,H b=some o->H' b=some o
theorem Same.refl (H:Hp):Same H H:=λ_ _ h=>h
variable {H H' H1 H2 H₀:Hp}
theorem Same.trans (a:Same H H1)(b:Same H1 H2):Same H H2:=λc o h=>b c o (a c o h)
variable {dvs vs xs ys:List V}
theorem Same.seq (e:Same H H')(h:SqL K H a xs):SqL K H' a xs:=by
 rcases h with (h|⟨o,h⟩)|h
 .exact .inl (.inl (e _ _ h))
 .exact .inl (.inr ⟨o,e _ _ h⟩)
 .exact .inr h
variable {σ σ0:St}{pins:List (Addr×Obj)}
section
variable {D:Addr}
theorem HOk.adds {o:HO}(x:HOk P w H h)(hn:H D=none)(new:ObjOk P w (upd H D o) h D o):HOk P w (upd H D o) h:=λb u e=>by
 by_cases hb:b=D
 .subst hb;rw[aU]at e;cases e;exact new
 .rw[aJ hb]at e;exact(x b u e).stay (λc v _ q=>q) (λc q=>by rw[aJ (aO q hn)];exact q) λc xs q=>by rw[aJ (aO q hn)];exact q
theorem HOk.drops (x:HOk P w (upd H D (.lst ys)) h)(hn:H D=none):HOk P w H h:=λb u e=>by
 have hb:b≠D:=aO e hn;refine(x b u (by rw[aJ hb];exact e)).stay (λc v _ q=>q) (λc q=> ?_) λc xs q=> ?_
 .by_cases hc:c=D
  .subst hc;rw[aU]at q;cases q
  .rw[aJ hc]at q;exact q
 .by_cases hc:c=D
  .subst hc;rw[aU]at q;cases q
  .rw[aJ hc]at q;exact q
theorem Inv.track {its:List af}(I:Inv X pins σ H s)(hn:H D=none)(e:s.heap.get? D=some { cls:= .type "list",data:= .seq its.toArray n })(r:Vals ys its)(hz:ys.length<=sizeLine)
  (h0:X.s₀.heap.objs.size<=D)(h1:D≠X.env.locals)(h2:∀x c,X.env.cells.lookup x=some c->c≠D)(h3:∀p∈X.pn++pins,p.1≠D):Inv X pins σ (upd H D (.lst ys)) s where
 ok:=I.ok
 os:=I.os
 bare:=I.bare
 base:=by
  have lt:∀b o,X.s₀.heap.get? b=some o->b≠D:=λb o q=>bp (au (ag q) h0);refine⟨I.base.keep,I.base.slot,λb o q n' hx=> ?_,I.base.there,λb xs q=> ?_,λb o u q=> ?_,λb ps q=> ?_⟩
  .rw[aJ (lt b o q)];exact I.base.free b o q n' hx
  .have z:=I.base.tups b xs q;rw[aJ (aO z hn)];exact z
  .have z:=I.base.frzs b o u q;rw[aJ (aO z hn)];exact z
  .obtain⟨more,z⟩:=I.base.tbls b ps q;exact⟨more,by rw[aJ (aO z hn)];exact z⟩
 loc:=I.loc
 cell:=I.cell
 free:=by rw[aJ (dg h1)];exact I.free
 freeC:=λx c q=>by rw[aJ (h2 x c q)];exact I.freeC x c q
 pin:=λp hp=>by
  obtain⟨a,b,c⟩:=I.pin p hp;exact⟨a,by rw[aJ (h3 p hp)];exact b,c⟩
 hok:=I.hok.adds hn ⟨hz,its,n,r,e⟩
 len:=I.len
theorem Inv.untrack (I:Inv X pins σ (upd H D (.lst ys)) s)(hn:H D=none):Inv X pins σ H s where
 ok:=I.ok
 os:=I.os
 bare:=I.bare
 base:=by
  have low:∀b u,upd H D (.lst ys) b=some u->(∀xs,u≠ .lst xs)->H b=some u:=λb u q nl=>by
   by_cases hb:b=D
   .subst hb;rw[aU]at q;cases q;exact absurd rfl (nl ys)
   .rw[aJ hb]at q;exact q
  refine⟨I.base.keep,I.base.slot,λb o q n' hx=> ?_,I.base.there,λb xs q=> ?_,λb o u q=> ?_,λb ps q=> ?_⟩
  .have z:=I.base.free b o q n' hx
   by_cases hb:b=D
   .subst hb;exact hn
   .rw[aJ hb]at z;exact z
  .exact low _ _ (I.base.tups b xs q) (λ_ z=>by cases z)
  .exact low _ _ (I.base.frzs b o u q) (λ_ z=>by cases z)
  .obtain⟨more,z⟩:=I.base.tbls b ps q;exact⟨more,low _ _ z (λ_ z=>by cases z)⟩
 loc:=I.loc
 cell:=I.cell
 free:=by
  have z:=I.free
  by_cases hb:X.env.locals=D
  .rw[hb];exact hn
  .rw[aJ hb]at z;exact z
 freeC:=λx c q=>by
  have z:=I.freeC x c q
  by_cases hb:c=D
  .rw[hb];exact hn
  .rw[aJ hb]at z;exact z
 pin:=λp hp=>by
  obtain⟨a,b,c⟩:=I.pin p hp;refine⟨a,?_,c⟩
  by_cases hb:p.1=D
  .rw[hb];exact hn
  .rw[aJ hb]at b;exact b
 hok:=I.hok.drops hn
 len:=I.len
end
def bG (X:Cx)(scope:ud)(cl:List (Str×Addr))(N:List Str)(C:Addr)(s0:aj)(H0:Hp)(fp:List Addr):Cx where
 prog:=X.prog
 w:=X.w
 K:=X.K
 mg:=X.mg
 base:=X.base
 A:=X.A
 N:=N
 s₀:=s0
 H₀:=H0
 env:=vc scope cl C X.env
 outer:=X.stack
 stack:=X.stack
 ex:=fp
 fn:=λ_=>false
 calm:=X.calm
 pn:=[]
 xe:=λ_ _=>False
structure Blk (X:Cx)(scope:ud)(cl:List (Str×Addr))(N:List Str)(nl:Nat)(ci:List Nat):Prop where
 kind:scope.kind= .function
 names:∀y∈scope.names,y.2= .local->scope.names.lookup y.1=some .local
 nocell:∀y∈scope.names,y.2≠ .cell
 clos:closureFor scope X.env=pure cl
 sub:∀n c,cl.lookup n=some c->X.env.cells.lookup n=some c
 has:∀n,((pd scope X.env).names.lookup n=some .cell∨(pd scope X.env).names.lookup n=some .free)->∃c,cl.lookup n=some c
 len:N.length=nl+ci.length
 cap:∀(j i:Nat),ci[j]? =some i->∃n,N[nl+j]? =some n/\X.N[i]? =some n/\(X.env.scope.names.lookup n=some .cell∨X.env.scope.names.lookup n=some .free) ∧
  ((pd scope X.env).names.lookup n=some .cell∨(pd scope X.env).names.lookup n=some .free)/\cl.lookup n=X.env.cells.lookup n
def bX (nl:Nat)(ci:List Nat)(σ:St):St:=oy nl none++ci.map λi=>(σ[i]?).join
variable {ci:List Nat}{v:V}
theorem VG {k:Nat}(h:(bX nl ci σ)[k]? =some (some v)):∃j i,k=nl+j/\ci[j]? =some i/\σ[i]? =some (some v):=by
 unfold bX at h
 by_cases hk:k<nl
 .rw[ir (by simpa using hk),uz]at h
  split at h<;>cases h
 .rw[jh (by simpa using hk),wo,dk]at h;cases e:ci[k - nl]? with
  | none=>rw[e]at h;cases h
  | some i =>
   rw[e]at h;have h':(σ[i]?).join=some v:=by simpa using h
   refine⟨k - nl,i,by lia,e,?_⟩;cases q:σ[i]? with
   | none=>rw[q]at h';cases h'
   | some o=>rw[q]at h';simp at h';rw[h']
theorem KS:(bX nl ci σ).length=nl+ci.length:=by unfold bX;simp
variable {scope:ud}{fp:List Addr}{cl cs:List (Str×Addr)}
theorem zP (B:Blk X scope cl N nl ci)(I:Inv X pins σ H2 s2)(f2:∀b∈fp,fK X pins H2 b)(fo:∀b∈fp,∃o,s2.heap.get? b=some o){h4:Heap}{t4:Nat}{m4:Str->Option af}(hC:s2.heap.objs.size<=C)(hns:h4.Ns C m4)
  (hk:∀b o,s2.heap.get? b=some o->h4.get? b=some o):Inv (bG X scope cl N C s2 H2 fp) [] (bX nl ci σ) H2 { s2 with heap:=h4,toks:=t4 }:=by
 have lt2:∀b∈fp,b<s2.heap.objs.size:=λb hb=>by obtain⟨o,e⟩:=fo b hb;exact ag e
 have ok:(bG X scope cl N C s2 H2 fp).Ok:=by
  refine⟨I.ok.mod,B.kind,I.ok.glob,I.ok.blt,hC,λx y c h1 h2=>I.ok.inj x y c (B.sub x c h1) (B.sub y c h2),λx hx=>B.has x hx,λx c hf _=>(by cases hf),I.ok.hd,I.ok.frames,.inl rfl,λb hb=>⟨?_,?_⟩,I.bs,?_,λb o e hb=> ?_,λb hb z=> ?_,I.stack,I.stkFree⟩
  .exact bp (au (lt2 b hb) hC)
  .exact λx c h=>(f2 b hb).2.2.2.2.1 x c (B.sub x c h)
  .exact bo I.ok.bsz I.sz
  .rcases (f2 b hb).2.2.2.1 with z|z
   .exact I.ok.noex b o e z
   .exact absurd (au (ag e) (bo I.ok.bsz z)) (bt _)
  .rcases ba.mp (I.stkSub b z) with q|q
   .exact(f2 b hb).2.1 q
   .exact(f2 b hb).2.2.1 q
 refine⟨ok,rfl,I.bare,Un.kept hk,⟨m4,hns,λk x v e1 e2 e3=> ?_⟩,λx c e=> ?_,I.hok.fresh hC,λx c e=>I.freeC x c (B.sub x c e),λp hp=>(by cases hp),I.hok.kept hk,?_⟩
 .obtain⟨j,i,rfl,hj,hσ⟩:=VG e2;obtain⟨n,hn1,hn2,hk1,hk2,hl⟩:=B.cap j i hj;have en:x=n:=by
   have e1':N[nl+j]? =some x:=e1;rw[hn1]at e1';exact(cp e1').symm
  subst en;obtain⟨m,hm,hloc⟩:=I.loc;have vis:Vis X.env.scope x:= .inr hk1;obtain⟨u,ru,lk⟩:=hloc i x v hn2 hσ vis;refine⟨u,ru,.inr ⟨hk2,?_⟩⟩;rcases lk with⟨kl,_⟩|⟨_,c,ec,hc⟩
  .have kl':X.env.scope.names.lookup x=some .local:=kl;rcases hk1 with z|z<;>· rw[z]at kl';cases kl'
  .refine⟨c,hl.trans ec,?_⟩;obtain⟨o,ho,hd⟩:=hc;exact⟨o,hk _ _ ho,hd⟩
 .obtain⟨v,o,ho,hd⟩:=I.cell x c (B.sub x c e);exact⟨v,o,hk _ _ ho,hd⟩
 .show (bX nl ci σ).length=N.length;rw[KS,B.len]
theorem wA {σ':St}{s':aj}{pb:List (Addr×Obj)}(I:Inv X pins σ H2 s2)(f2:∀b∈fp,fK X pins H2 b)(J:Inv (bG X scope cl N C s2 H2 fp) pb σ' H' s'):Inv X pins σ H' s' :=
 I.call' J.os J.base J.hok J.bare λb hb=>⟨(f2 b hb).2.2.2.1,(f2 b hb).2.1,(f2 b hb).2.2.2.2.1,(f2 b hb).2.2.2.2.2⟩
variable {e elt iter tg:Expr}{es ifs:List Expr}{env:Env}{cd cdv cls doc hd0 oc pm:af}{R:yg->aj->Prop}{A:jx}
theorem zG {elt target iter:Expr}{ifs:List Expr}{scope:ud}{pos:Pos}{it acc:af}{env:Env}(I:Nat->aj->Prop)
  (turn:∀n s,I n s->ax (be prog w) A (rl it) (λr s₁=>match r with
   | none=>R (.ok .next) s₁
   | some v=>ax (be prog w) A (rm target it v) (λ_ s₁'=>ax (be prog w) A (uo target env v) (λ_ s₂ =>
     ax (be prog w) A (forIn ifs true λc r=>if r=true then do let ok ←isTrue c env (eval c env);pure (la ok) else pure (la r)) (λok s₃ =>
      if ok=true then ax (be prog w) A (eval elt env) (λx s₄ =>
       ax (be prog w) A (call (.builtin "list.append") [acc,x]) (λ_ s₅=>∃m,m<n/\I m s₅) (ug (be prog w) A env λe s'=>R (.error e) s') s₄) (ug (be prog w) A env λe s'=>R (.error e) s') s₃
      else ∃m,m<n/\I m s₃) (ug (be prog w) A env λe s'=>R (.error e) s') s₂) (ug (be prog w) A env λe s'=>R (.error e) s') s₁') (ug (be prog w) A env λe s'=>R (.error e) s') s₁) (ug (be prog w) A env λe s'=>R (.error e) s') s)
  (n:Nat)(h:I n s) :
  iu (be prog w) A (.compLoop (.ListComp elt [⟨target,iter,ifs,0⟩] scope pos) 0 it acc env) R s:=by
 refine codeAny_loop rfl I (λn s hI=> ?_) n h;show ax _ A ((compTurn (.ListComp elt [⟨target,iter,ifs,0⟩] scope pos) 0 it acc env).onRaise (λx=>do ka x env;theTreesLotGoes x)) _ _ s;refine wpAny_noted ?_;rw[compTurn_list];refine aa (gu (aa (bu (turn n s hI) (λr s₁ h₁=> ?_) λ_ _ h'=>h')));cases r with
 | none=>exact ai h₁
 | some v =>
  refine aa (bu h₁ (λ_ s₁' h₁'=> ?_) λ_ _ h'=>h');refine aa (bu h₁' (λ_ s₂ h₂=>aa (bu h₂ (λok s₃ h₃=> ?_) λ_ _ h'=>h')) λ_ _ h'=>h');cases ok with
  | false=>exact ai ⟨rfl,h₃⟩
  | true =>
   exact aa (aa (bu h₃ (λx s₄ h₄=>aa (bu h₄ (λ_ s₅ h₅=>ai (ai ⟨rfl,h₅⟩)) λ_ _ h'=>h')) λ_ _ h'=>h'))
def PF (X:Cx)(ifs:List Expr)(t:TT):Prop :=
 ∀(pins:List (Addr×Obj)) (s:aj) (σ:St) (H:Hp) (Q:Bool->Hp->Prop),Inv X pins σ H s->t σ H Q →
  ax (be X.prog X.w) X.A (forIn ifs true λc r=>if r=true then do let ok ←isTrue c X.env (eval c X.env);pure (la ok) else pure (la r)) (TP X pins σ Q) X.xe s
def wL:TT:=λ_ H Q=>Q true H
theorem dR:PF X [] wL:=λ_ _ _ H _ I h=>wpAny_tests_nil ⟨H,I,h⟩
variable {ti:TT}
theorem nJ {c:Expr}{t:TT}(h:PT X c t):PF X [c] t:=λpins s σ H Q I q=>wpAny_tests_one (h pins s σ H Q I q)
def dN (J:It)(g:TG)(ti:TT)(te:TE)(σ0:St)(fin:List V->Hp->Prop)(H1:Hp):Prop :=
 ∃W:Nat->Nat->List V->Hp->Prop,(∃m,W 0 m [] H1)/\∀i m ys H,W i m ys H →
  (J.stop i H/\fin ys H) ∨
  (J.go i H/\∀x H',J.yld i H x H'->g x σ0 H' λσ2 H2=>(σ2.length=σ0.length/\∀(j:Nat) v,σ0[j]? =some (some v)->σ2[j]? =some (some v)) ∧
   ti σ2 H2 λb H3=>if b=true then te σ2 H3 λy H4=>ys.length<sizeLine/\∃m',m'<m/\W (i+1) m' (ys++[y]) H4 else ∃m',m'<m/\W (i+1) m' ys H3)
def BR (wi:TI)(nl:Nat)(ci:List Nat)(g:TG)(ti:TT)(te:TE):TE:=λσ H Q =>
 wi σ H λJ H1=>dN J g ti te (bX nl ci σ) (λys H'=>∀p,H' p=none->Q (.ref p) (upd H' p (.lst ys))) H1
variable {J:It}{E:af->aj->Prop}{fin:List V->Hp->Prop}{g:TG}{ta te:TE}{wi:TI}
theorem F0 {it:Addr}{tn:Nat->Heap->Prop}{RR:af->Addr->yg->aj->Prop}
  (hc:X.calm=true)(B:Blk X scope cl N nl ci)(hg:∀C s0 H0 fp,PG (bG X scope cl N C s0 H0 fp) tg g)(hi:∀C s0 H0 fp,PF (bG X scope cl N C s0 H0 fp) ifs ti)(he:∀C s0 H0 fp,PE (bG X scope cl N C s0 H0 fp) elt te)
  (I2:Inv X pins σ H2 s2)(T:sF X.prog X.w X.K tg J fp it tn)(st2:tn 0 s2.heap)(f2:∀b∈fp,fK X pins H2 b)(hW:dN J g ti te (bX nl ci σ) fin H2)
  (hfin:∀(D C:Addr) (s':aj) (H':Hp) (ys:List V) (oC:Obj) (m:Str->Option af),H' D=none->Inv X (pins++[(C,oC)]) σ (upd H' D (.lst ys)) s'->s'.heap.Ns C m->s2.heap.objs.size<=C->fin ys H'->RR (.ref D) C (.ok .next) s') :
  ax (be X.prog X.w) X.A (newList []) (λacc s₃=>ax (be X.prog X.w) X.A (xh scope X.env.globals cl [] X.env.qual none .none (some X.env)) (λcenv s₄ =>
   iu (be X.prog X.w) X.A (.compStart (.ListComp elt [⟨tg,iter,ifs,0⟩] scope pos) 0 (.ref it) acc { cenv with scope:=pd scope X.env }) (RR acc cenv.locals) s₄) E s₃) E s2:=by
 obtain⟨W,⟨m0,w0⟩,turn⟩:=hW;refine fu (wpAny_newFunctionEnv B.nocell (by intro y hy;simp at hy) (λh1 hns1 hsb1=> ?_) B.kind)
 dsimp only at hns1 hsb1 ⊢
 generalize hH2:s2.heap.push { cls:= .type "list",dict:=none,data:= .seq ([]:List af).toArray }=G2 at hns1 hsb1 ⊢;have hCs:G2.objs.size=s2.heap.objs.size+1:=by rw[←hH2,ig]
 generalize hCe:G2.objs.size=C at hns1 hsb1 hCs ⊢;have hDC:s2.heap.objs.size≠C:=by rw[hCs];exact bp (mo _)
 have hCle:s2.heap.objs.size<=C:=by rw[hCs];exact jk _
 have old:∀b o,s2.heap.get? b=some o->h1.get? b=some o:=λb o e=>hsb1.extBut b o (by rw[hCs];exact bp (uh (ag e))) (ae _ (hH2▸ae _ e));have hacc:h1.get? s2.heap.objs.size=some { cls:= .type "list",data:= .seq ([]:List af).toArray 0 }:=hsb1.extBut _ _ hDC (ae _ (hH2▸aw _ rfl));have fo:∀b∈fp,∃o,s2.heap.get? b=some o:=λb hb=>let ⟨o,e,_⟩:=T.obj 0 _ st2 b hb;⟨o,e⟩;have lt2:∀b∈fp,b<s2.heap.objs.size:=λb hb=>let ⟨o,e⟩:=fo b hb;ag e;have hDfp:s2.heap.objs.size∉fp:=λz=>bt _ (lt2 _ z);have hCfp:C∉fp:=λz=>bt _ (au (lt2 _ z) hCle);generalize hDe:s2.heap.objs.size=D at hCs hDC hCle hacc hDfp lt2;have loop:∀s3:aj,s3={ s2 with heap:=h1,toks:=s2.toks+([]:List (Str×af)).length } →
   iu (be X.prog X.w) X.A (.compLoop (.ListComp elt [⟨tg,iter,ifs,0⟩] scope pos) 0 (.ref it) (.ref D) (vc scope cl C X.env)) (RR (.ref D) C) s3:=by
  rintro s3 rfl;have I4:Inv (bG X scope cl N C s2 H2 fp) [] (bX nl ci σ) H2 { s2 with heap:=h1,toks:=s2.toks+([]:List (Str×af)).length }:=zP B I2 f2 fo (by rw[hDe];exact hCle) hns1 old;have fpk:∀{H':Hp},(∀b∈fp,H' b=none)->∀b∈fp,fK (bG X scope cl N C s2 H2 fp) [] H' b:=λhn b hb =>
   ⟨hn b hb,(I4.ok.exf b hb).1,I4.ok.exfs b hb,.inl hb,(I4.ok.exf b hb).2,λp hp=>by cases hp⟩
  have hDX:∀x c,(bG X scope cl N C s2 H2 fp).env.cells.lookup x=some c->c≠D:=λx c e=>by
   obtain⟨v,o,ho,_⟩:=I2.cell x c (B.sub x c e);rw[←hDe];exact bp (ag ho)
  have hDL:D≠(bG X scope cl N C s2 H2 fp).env.locals:=hDC;have hDf:D∉(bG X scope cl N C s2 H2 fp).fs:=λz=>by
   rcases ba.mp (I2.stkSub D z) with q|q
   .exact bt _ (by have:=I2.lt;rw[hDe,←q]at this;exact this)
   .exact I2.nofs (by rw[hDe];exact ar _) q
  refine zG (λn s'=>∃i ys its k H',W i n ys H'/\Inv (bG X scope cl N C s2 H2 fp) [] (bX nl ci σ) H' s'/\tn i s'.heap/\(∀b∈fp,H' b=none)/\H' D=none ∧
   s'.heap.get? D=some { cls:= .type "list",data:= .seq its.toArray k }/\Vals ys its/\ys.length<=sizeLine) ?_ m0 ?_
  .rintro n s' ⟨i,ys,its,k,H',w',I',st',fr',hD',eD,rv,hz⟩;have IP:Inv (bG X scope cl N C s2 H2 fp) [(D,{ cls:= .type "list",data:= .seq its.toArray k })] (bX nl ci σ) H' s':=I'.pins_of λp hp=>by
    obtain rfl:p=_:=by simpa using hp
    exact⟨eD,hD',hDL,hDf,λv z=>by cases z⟩
   have fpD:∀{H'':Hp},(∀b∈fp,H'' b=none)->∀b∈fp,fK (bG X scope cl N C s2 H2 fp) [(D,{ cls:= .type "list",data:= .seq its.toArray k })] H'' b:=λhn b hb =>
    ⟨hn b hb,(I4.ok.exf b hb).1,I4.ok.exfs b hb,.inl hb,(I4.ok.exf b hb).2,λp hp=>by
     obtain rfl:p=_:=by simpa [bG] using hp
     exact λz=>hDfp ((show D=b from z)▸hb)⟩
   rcases turn i n ys H' w' with⟨stop,q⟩|⟨go,step⟩
   .refine thn (T.done (bG X scope cl N C s2 H2 fp) rfl rfl rfl hc i _ s' (bX nl ci σ) H' _ IP (fpD fr') st' stop) λr s'' ⟨hr,I''⟩=> ?_;subst hr;have eD2:=(I''.pin (D,_) (bc _ cy)).1;have J1:Inv (bG X scope cl N C s2 H2 fp) [] (bX nl ci σ) (upd H' D (.lst ys)) s'' :=
     (I''.pins_of (pins':=[]) λp hp=>by cases hp).track hD' eD2 rv hz (by show s2.heap.objs.size<=D;rw[hDe];exact ar _) hDL hDX λp hp=>by cases hp
    have K1:Inv X pins σ (upd H' D (.lst ys)) s'':=wA I2 f2 J1;obtain⟨mC,nsC,_⟩:=J1.loc;obtain⟨oC,es,ep,hoC,hdC,rC⟩:=id nsC;refine hfin D C s'' H' ys oC mC hD' (K1.pins_of λp hp=> ?_) nsC (by rw[hDe];exact hCle) q;rcases fc.mp hp with hp|hp
    .exact K1.pin p (bc _ hp)
    .obtain rfl:p=(C,oC):=by simpa using hp
     refine⟨hoC,J1.free,km (au I2.lt (by rw[hDe];exact hCle)),I2.nofs (by rw[hDe];exact hCle),λv z=> ?_⟩;rw[hdC]at z;cases z
   .refine thn (T.item (bG X scope cl N C s2 H2 fp) rfl rfl rfl hc i _ s' (bX nl ci σ) H' _ IP (fpD fr') st' go) λr s4 ⟨u,hr,h4⟩=> ?_;subst hr;refine thn h4 λ_ s5 ⟨x,H5,I5,r5,y5,st5,fr5⟩=> ?_;have I5':=I5.pinned (fpD fr5) (T.obj _ _ st5);refine bu (hg C s2 H2 fp _ s5 (bX nl ci σ) H5 x u _ I5' r5 (step x H5 y5)) (λ_ s6 ⟨σ6,H6,I6,⟨hl6,hk6⟩,q6⟩=> ?_) λ_ _ f=>f.elim;refine bu (hi C s2 H2 fp _ s6 σ6 H6 _ I6 q6) (λb s7 ⟨H7,I7,q7⟩=> ?_) λ_ _ f=>f.elim;have pinD:∀{pp:List (Addr×Obj)}{σx:St}{Hx:Hp}{sx:aj},Inv (bG X scope cl N C s2 H2 fp) ([(D,({ cls:= .type "list",data:= .seq its.toArray k }:Obj))]++fF fp s5.heap) σx Hx sx →
      sx.heap.get? D=some { cls:= .type "list",data:= .seq its.toArray k }/\Hx D=none/\tn (i+1) sx.heap/\(∀b∈fp,Hx b=none):=λ{pp σx Hx sx} Ix=>by
     refine⟨(Ix.pin (D,_) (bc _ (gk _ cy))).1,(Ix.pin (D,_) (bc _ (gk _ cy))).2.1,T.keep _ _ _ st5 λb hb o e=>(Ix.pin (b,o) (bc _ (bc _ (dW hb e)))).1,λb hb=> ?_⟩;obtain⟨o,e,d⟩:=T.obj _ _ st5 b hb;exact(Ix.pin (b,o) (bc _ (bc _ (dW hb e)))).2.1
    cases b with
    | false =>
     rw[if_neg bh]at q7 ⊢;obtain⟨m',hm',w7⟩:=q7;obtain⟨e7,n7,st7,fr7⟩:=pinD (pp:=[]) I7;exact⟨m',hm',i+1,ys,its,k,H7,w7,(I7.pins_of (pins':=[]) λp hp=>by cases hp).weak hl6.symm hk6,st7,fr7,n7,e7,rv,hz⟩
    | true =>
     rw[if_pos rfl]at q7 ⊢;refine bu (he C s2 H2 fp _ s7 σ6 H7 _ I7 q7) (λy' s8 ⟨y,H8,I8,r8,hlt,m',hm',w8⟩=> ?_) λ_ _ f=>f.elim;obtain⟨e8,n8,st8,fr8⟩:=pinD (pp:=[]) I8;have I8f:Inv (bG X scope cl N C s2 H2 fp) (fF fp s5.heap) σ6 H8 s8:=I8.pins_of λp hp=>I8.pin p (bc _ (bc _ hp));have I8t:=I8f.track n8 e8 rv hz (by show s2.heap.objs.size<=D;rw[hDe];exact ar _) hDL hDX λp hp=>by
      have hp':p∈fF fp s5.heap:=by simpa [bG] using hp
      exact λz=>hDfp (z▸(wS hp').1)
     refine bu (rD (X:=bG X scope cl N C s2 H2 fp) (fF fp s5.heap) s8 σ6 _ (.ref D) [y] (.ref D) [y'] (λ_ H9=>H9=upd H8 D (.lst (ys++[y]))) I8t rfl (.cons r8 .nil)
      ⟨D,ys,y,rfl,rfl,aU,hlt,M3⟩) (λ_ s9 ⟨_,H9,I9,_,e9⟩=> ?_) λ_ _ f=>f.elim
     subst e9;obtain⟨hz9,its9,k9,rv9,e9⟩:=I9.hok D _ aU;have I9u:=I9.untrack n8;refine⟨m',hm',i+1,ys++[y],its9,k9,H8,w8,(I9u.pins_of (pins':=[]) λp hp=>by cases hp).weak hl6.symm hk6,?_,fr8,n8,e9,rv9,hz9⟩;exact T.keep _ _ _ st5 λb hb o e=>(I9u.pin (b,o) (bc _ (dW hb e))).1
  .exact⟨0,[],[],0,H2,w0,I4,T.keep _ _ _ st2 λb hb o e=>old b o e,λb hb=>(f2 b hb).1,I2.hok.fresh (by rw[hDe];exact ar _),hacc,.nil,gi _⟩
 exact codeAny_compStart_list (loop _ rfl) (T.self _ 0 _ _ _ (T.keep _ _ _ st2 λb hb o e=>old b o e) (loop _ rfl))
theorem dA (hc:X.calm=true)(B:Blk X scope cl N nl ci)(hp:PI X tg iter wi)(hg:∀C s0 H0 fp,PG (bG X scope cl N C s0 H0 fp) tg g)(hi:∀C s0 H0 fp,PF (bG X scope cl N C s0 H0 fp) ifs ti)
  (he:∀C s0 H0 fp,PE (bG X scope cl N C s0 H0 fp) elt te)(hs:∀x,ji iter X.env x=pure x:=by intro _;rfl):PE X (.ListComp elt [⟨tg,iter,ifs,0⟩] scope pos) (BR wi nl ci g ti te):=by
 intro pins s σ H Q I h;rw[eval_ListComp];refine uq (use:=none) rfl hs B.clos B.kind B.names (thn (hp pins s σ H _ I h) λv s1 h1=>thn h1 λitv s2 h2=> ?_);obtain⟨it,fp,tn,J,H2,e,I2,T,st2,f2,hW⟩:=h2;subst e;refine F0 (RR:=λacc C=>compPost (be X.prog X.w) X.A X.xe none (EP X pins σ Q) acc C) hc B hg hi he I2 T st2 f2 hW ?_;intro D C s' H' ys oC m hD K1 hn hC q;refine⟨m,hn,λh' hs'=> ?_⟩;have hL:C≠X.env.locals:=(K1.pin (C,oC) (by simp)).2.2.1;have I9:Inv X pins σ (upd H' D (.lst ys)) { s' with heap:=h',toks:=s'.toks }:=K1.unpinned.turned (t':=s'.toks) (it:=C) (λb o hb e=>hs'.extBut b o hb e) (K1.pin (C,oC) (by simp)).2.1 hL (.inr (bo I2.sz hC)) (λx c e z=> ?_) λp hp z=> ?_
 .exact⟨.ref D,_,I9,rfl,q D hD⟩
 .obtain⟨v,o,ho,_⟩:=I2.cell x c e;exact absurd (au (ag ho) (z▸hC)) (bt _)
 .exact absurd (au (ag (I2.pin p hp).1) (z▸hC)) (bt _)
theorem j3 {pos' spos:Pos}(hN:X.N.Nodup)(hix:X.N[i]? =some x)(hx:Loc X.env.scope x)(hc:X.calm=true)(B:Blk X scope cl N nl ci)(hp:PI X tg iter wi)(hg:∀C s0 H0 fp,PG (bG X scope cl N C s0 H0 fp) tg g)
  (hi:∀C s0 H0 fp,PF (bG X scope cl N C s0 H0 fp) ifs ti)(he:∀C s0 H0 fp,PE (bG X scope cl N C s0 H0 fp) elt te)
  (hsw:mn (.ListComp elt [⟨tg,iter,ifs,0⟩] scope pos) (some (.Name x pos')) spos.line X.env=pure true:=by rfl)(hs:∀x,ji iter X.env x=pure x:=by intro _;rfl)
  (hf:X.fn x=true∨X.env.scope.names.lookup x=some .local:=by first|exact .inl rfl|exact .inr rfl|assumption) :
  PS X (.Assign [.Name x pos'] (.ListComp elt [⟨tg,iter,ifs,0⟩] scope pos) spos) (PH (BR wi nl ci g ti te) (cT i)):=by
 intro pins s σ H D I h;rw[exec_Assign_Name_used _ _ _ _ hsw];refine aa (gu (aa ?_));show ax _ X.A (do let _ ←comprehension (.ListComp elt [⟨tg,iter,ifs,0⟩] scope pos) scope X.env _ (newList []) false (eval iter X.env) (some (uo (.Name x pos') X.env))) _ _ s;refine aa (bu (uq (use:=some (uo (.Name x pos') X.env)) (Q:=λ_ s'=>SP X pins D .next s') rfl hs B.clos B.kind B.names
  (thn (hp pins s σ H _ I h) λv s1 h1=>thn h1 λitv s2 h2=> ?_)) (λ_ s' hq=>ai (ai hq)) λ_ _ e=>e)
 obtain⟨it,fp,tn,J,H2,e,I2,T,st2,f2,hW⟩:=h2;subst e;refine F0 (RR:=λacc C=>compPost (be X.prog X.w) X.A X.xe (some (uo (.Name x pos') X.env)) (λ_ s'=>SP X pins D .next s') acc C) hc B hg hi he I2 T st2 f2 hW ?_;intro Dd C s' H' ys oC m hD K1 hn hC q;show ax _ X.A (uo (.Name x pos') X.env (.ref Dd)) _ _ _;refine thn (aS (i:=i) hN hix hx hf (pins++[(C,oC)]) s' σ (upd H' Dd (.lst ys)) (.ref Dd) (.ref Dd) (λσ' H''=>D.nx σ' H'') K1 rfl (q Dd hD)) λ_ s'' ⟨σ',H'',K2,q2⟩=> ?_;have eC:=K2.pin (C,oC) (by simp);obtain⟨oC',es,ep,hoC,hdC,rC⟩:=id hn;have eo:oC'=oC:=by
  have:=(K1.pin (C,oC) (by simp)).1;rw[hoC]at this;exact cp this
 subst eo;refine⟨m,⟨oC',es,ep,eC.1,hdC,rC⟩,λh' hs'=> ?_⟩;have hL:C≠X.env.locals:=eC.2.2.1;have I9:Inv X pins σ' H'' { s'' with heap:=h',toks:=s''.toks }:=K2.unpinned.turned (t':=s''.toks) (it:=C) (λb o hb e=>hs'.extBut b o hb e) eC.2.1 hL (.inr (bo I2.sz hC)) (λx c e z=> ?_) λp hp z=> ?_
 .exact⟨σ',H'',I9,q2⟩
 .obtain⟨v,o,ho,_⟩:=I2.cell x c e;exact absurd (au (ag ho) (z▸hC)) (bt _)
 .exact absurd (au (ag (I2.pin p hp).1) (z▸hC)) (bt _)
def Its (x:Str):It:=⟨λi _=>i<x.cps.size,λi H v H'=>H'=H/\∃c,x.cps[i]? =some c/\v= .str ⟨#[c]⟩,λi _=>i=x.cps.size⟩
theorem KU (it:Addr)(x:Str)(t:Tok)(ty:String)
  (hty:["enumerate","zip","dict_itemiterator","dict_reverseitemiterator","odict_iterator","itertools.zip_longest","itertools.pairwise"].contains ty=false)
  (W:∀A':jx,A'.handled=none->Walks P w A' it [it] [it] x.cps.size (SignAt x) (λi h=>h.IsStrIter it ty x t i))
  (hself:∀(A:jx) (i:Nat) (s:aj) (Q:af->aj->Prop) (E:af->aj->Prop),s.heap.IsStrIter it ty x t i->Q (.ref it) s->ax (be P w) A (pyIter (.ref it)) Q E s) :
  sF P w K tg (Its x) [it] it (λi h=>h.IsStrIter it ty x t i) where
 mem:=by simp
 obj:=λi h st b hb=>by
  have e:b=it:=by simpa using hb
  subst e;obtain⟨o,e,c,d⟩:=st;exact⟨o,e,λv z=>by rw[d]at z;cases z⟩
 keep:=λi h h' st k=>let ⟨o,ho,r⟩:=st;⟨o,k it (by simp) o ho,r⟩
 item:=by
  intro X hP hw hK hc i pins s σ H E I hf st hg;subst hP hw hK;obtain⟨f0,f1,f2,f3,f4,f5⟩:=hf it (by simp);refine(W X.A (I.ok.hd hc)).item i s _ _ hg st λv h' tk hv st' kk=> ?_;obtain⟨c,u,hc',rfl⟩:=hv;have I1:Inv X pins σ H { s with heap:=h',toks:=tk }:=I.turned (λb o hb e=>kk b o (by simpa using hb) e) f0 f1 f3 f4 f5;obtain⟨o,e,c1,d⟩:=id st';exact⟨_,rfl,QJ (s:={ s with heap:=h',toks:=tk }) e c1 d hty ⟨.str ⟨#[c]⟩,H,I1,⟨u,rfl⟩,⟨rfl,c,hc',rfl⟩,st',λb hb=>(hf b hb).1⟩⟩
 done:=by
  intro X hP hw hK hc i pins s σ H E I hf st hg;subst hP hw hK;obtain⟨f0,f1,f2,f3,f4,f5⟩:=hf it (by simp);have e:i=x.cps.size:=hg;subst e;exact(W X.A (I.ok.hd hc)).done s _ _ st λh' tk kk=>⟨rfl,I.turned (λb o hb e=>kk b o (by simpa using hb) e) f0 f1 f3 f4 f5⟩
 self:=hself
def aCI (tl:TE):TI:=λσ H R=>tl σ H λx H1=>∃z,x= .str z/\R (Its z) H1
theorem UH {l:Expr}{tl:TE}(hl:PE X l tl):PI X tg l (aCI tl):=by
 intro pins s σ H R I h;refine thn (hl pins s σ H _ I h) λv s1 ⟨x,H1,I1,rx,z,ez,q⟩=> ?_;subst ez;obtain⟨t,rfl⟩:=rx;cases ha:z.cps.all (·<128)
 .refine wpAny_pyIter_wide ha ⟨s1.heap.objs.size,[s1.heap.objs.size],_,Its z,H1,rfl,I1.kept (t':=s1.toks) λb u e=>ae _ e,KU _ z t "str_iterator" (by decide) (λA' hA=>Walks.strWide hA _ z t) (λ_ _ _ _ _ st h=>wpAny_pyIter_striter_wide st h),⟨_,aw _ rfl,rfl,rfl⟩,λb hb=> ?_,q⟩;have e:b=s1.heap.objs.size:=by simpa using hb
  subst e;exact I1.fpOk (ar _) (I1.hok.fresh (ar _))
 .refine wpAny_pyIter_ascii ha ⟨s1.heap.objs.size,[s1.heap.objs.size],_,Its z,H1,rfl,I1.kept (t':=s1.toks) λb u e=>ae _ e,KU _ z t "str_ascii_iterator" (by decide) (λA' hA=>Walks.strAscii hA _ z t) (λ_ _ _ _ _ st h=>wpAny_pyIter_striter_ascii st h),⟨_,aw _ rfl,rfl,rfl⟩,λb hb=> ?_,q⟩;have e:b=s1.heap.objs.size:=by simpa using hb
  subst e;exact I1.fpOk (ar _) (I1.hok.fresh (ar _))
theorem M4 (n:Nat)(f:Nat->V)(hn:n<=sizeLine)(Ok:Hp->Prop)(h0:Ok H1)
  (hst:∀H,Ok H->J.stop n H)(hgo:∀i H,i<n->Ok H->J.go i H)
  (hstep:∀i H x H',i<n->Ok H->J.yld i H x H'->g x σ0 H' λσ2 H2=>(σ2.length=σ0.length/\∀(j:Nat) v,σ0[j]? =some (some v)->σ2[j]? =some (some v))/\ti σ2 H2 λb H3=>b=true/\te σ2 H3 λy H4=>y=f i/\Ok H4)
  (mono:∀σ H (Q Q':Bool->Hp->Prop),(∀b H',Q b H'->Q' b H')->ti σ H Q->ti σ H Q')(mono2:∀σ H (Q Q':VK),(∀b H',Q b H'->Q' b H')->te σ H Q->te σ H Q')(mono3:∀x σ H (Q Q':St->Hp->Prop),(∀σ' H',Q σ' H'->Q' σ' H')->g x σ H Q->g x σ H Q')
  (hfin:∀H,Ok H->fin ((fz n).map f) H):dN J g ti te σ0 fin H1:=by
 refine⟨λi m ys H=>m=n - i/\i<=n/\ys=(fz i).map f/\Ok H,⟨n,by simp,gi _,rfl,h0⟩,?_⟩;rintro i m ys H ⟨rfl,hi,rfl,ok⟩
 by_cases hlt:i<n
 .refine .inr ⟨hgo i H hlt ok,λx H' y=> ?_⟩;refine mono3 _ _ _ _ _ (λσ' H'' q=>⟨q.1,mono _ _ _ _ (λb H3 q=> ?_) q.2⟩) (hstep i H x H' hlt ok y);obtain⟨rfl,q⟩:=q;rw[if_pos rfl];refine mono2 _ _ _ _ (λv H4 q=> ?_) q;obtain⟨rfl,ok4⟩:=q;refine⟨by rw[ao,List.length_range];lia,n - (i+1),by lia,rfl,hlt,?_,ok4⟩;rw[List.range_succ,du];rfl
 .have e:i=n:=by lia
  subst e;exact .inl ⟨hst H ok,hfin H ok⟩
theorem KL:∀bs:List Bool,(fz bs.length).all (λi=>bs.getD i true)=bs.all id
 | []=>rfl
 | b::bs=>by
  rw[cv,pe,lh,List.all_map,lh,←KL bs];rfl
theorem EO (hc:X.calm=true):cQ X (.builtin "all") (λxs H Q=>∃(p:Addr) (bs:List Bool),xs=[.ref p]/\SqL X.K H p (bs.map V.bl)/\Q (.bl (bs.all id)) H):=by
 intro pins s σ H xs us Q I r h;obtain⟨p,bs,rfl,hq,q⟩:=h;obtain⟨u,rfl,rx⟩:=gG r;cases rx;obtain⟨its,r',pl,hz⟩:=I.list hq;have hl:=pl.isList;have hlt:p<s.heap.objs.size:=by obtain⟨_,e,_⟩:=hl;exact ag e
 have hlen:bs.length=its.length:=by have:=r'.length;rw[ao]at this;exact this
 refine call_all_walk (lu hl ?_);refine⟨s.heap.objs.size,_,_,its.toArray.size,_,_,λi=>bs.getD i true,rfl,Walks.list (show X.A.in1.handled=none from I.ok.hd hc) s.heap.objs.size p (bp hlt) its.toArray,⟨⟨_,aw _ rfl,rfl,rfl⟩,hl.push _⟩,?_,?_⟩
 .intro i v s' Q' E' hi hQ;have hi':its[i]? =some v:=by simpa using hi
  have hib:i<bs.length:=by rw[hlen];exact(ay.mp hi').1
  obtain⟨u,hu,ru⟩:=r'.get (i:=i) (x:=V.bl bs[i]) (by rw[dk,aq hib];rfl);rw[hi']at hu;cases hu;have:v=sy bs[i]:=ru;subst this;refine ft ?_;have eb:bs.getD i true=bs[i]:=by rw[cf,aq hib];rfl
  have hQ':Q' (bs.getD i true) s':=hQ;rw[eb]at hQ';exact hQ'
 .intro h' tk hk;have eall:(fz its.toArray.size).all (λi=>bs.getD i true)=bs.all id:=by
   rw[br,←hlen];exact KL bs
  rw[eall];refine⟨.bl (bs.all id),H,?_,rfl,q⟩;have I1:Inv X pins σ H { s with heap:=s.heap.push { cls:= .type "list_iterator",data:= .fields #[.ref p,.int 0 0] },toks:=s.toks }:=I.kept λb u e=>ae _ e;obtain⟨f0,f1,f2,f3,f4,f5⟩:=I.fpOk (ar _) (I.hok.fresh (ar _));exact I1.turned (λb o hb e=>hk b o (by simpa using hb) e) f0 f1 f3 f4 f5
theorem MC:cQ X (.builtin "isinstance") (λxs H Q=>∃x c t u b,xs=[x,c]/\iV X.K H x t/\RelV c u/\W.kitOne X.K t u=some b/\Q (.bl b) H):=by
 intro pins s σ H xs us Q I r h;obtain⟨x,c,t,u,b,rfl,ty,rc,e,q⟩:=h;obtain⟨v1,v2,rfl,r1,r2⟩:=IA r;have e2:v2=u:=by
  cases c with
  | non=>exact(show v2=_ from r2).trans (show u=_ from rc).symm
  | bl b=>exact(show v2=_ from r2).trans (show u=_ from rc).symm
  | ref b=>exact(show v2=_ from r2).trans (show u=_ from rc).symm
  | ty b=>exact(show v2=_ from r2).trans (show u=_ from rc).symm
  | int i =>
   obtain⟨t1,rfl⟩:=(show ∃t,u=_ from rc)
   cases ty<;>simp[W.kitOne,W.kitCls]at e
  | str i =>
   obtain⟨t1,rfl⟩:=(show ∃t,u=_ from rc)
   cases ty<;>simp[W.kitOne,W.kitCls]at e
  | byt i =>
   obtain⟨t1,rfl⟩:=(show ∃t,u=_ from rc)
   cases ty<;>simp[W.kitOne,W.kitCls]at e
  | flt i =>
   obtain⟨t1,rfl⟩:=(show ∃t,u=_ from rc)
   cases ty<;>simp[W.kitOne,W.kitCls]at e
 subst e2;exact UA I r1 ty e λtk=>⟨.bl b,H,I.tok tk,rfl,q⟩
theorem R5:OpR X (fe .LtE) (λx y H Q=>∃i j,x= .str i/\y= .str j/\Q (.bl (!decide (j.cps.toList<i.cps.toList))) H):=by
 intro pins s σ H x y v u Q I rx ry h;obtain⟨i,j,rfl,rfl,q⟩:=h;obtain⟨t,rfl⟩:=rx;obtain⟨t',rfl⟩:=ry;exact P.le_str ⟨.bl _,H,I,rfl,q⟩
theorem CV {v:af}{o:Option Int}(p:IsPart v o):∃l:Option (Int×Tok),v=partValue l/\o=l.map (·.1):=by
 cases p with
 | none=>exact⟨none,rfl,rfl⟩
 | int i u=>exact⟨some (i,u),rfl,rfl⟩
def aCD:V->Option Int->Option Int->Hp->VK->Prop:=λx lo hi H Q=>∃z,x= .str z/\z.length<=sizeLine/\Q (.str (xw z lo hi)) H
theorem aD1:SlR X aCD:=by
 intro pins s σ H x v vl vu lo hi sl Q I rx hs pl pu h;obtain⟨z,rfl,hz,q⟩:=h;obtain⟨t,rfl⟩:=rx;obtain⟨l,rfl,rfl⟩:=CV pl;obtain⟨u,rfl,rfl⟩:=CV pu;refine⟨"str",_,F.slot_str_getitem.lookup,yh _ _ _,?_⟩;exact wpAny_getItem_str_slice (l:=l) (u:=u) (st:=none) hs rfl (post_val_or_str ⟨bo (Txt.slice_le z _ _) hz,λt' k=>⟨.str _,H,I.tok k,⟨t',rfl⟩,q⟩⟩)
def ZY (xs:List (Str×ox))(XN:List Str)(ns:List (Str×ox))(N:List Str)(nl:Nat)(ci:List Nat):Bool :=
 (ns.all λy=>y.2 != .cell&&(y.2 != .local||ns.lookup y.1==some .local)&&(y.2 != .free||(xs.lookup y.1==some .cell&&ns.lookup y.1==some .free))) &&
 (N.length==nl+ci.length) &&
 (fz ci.length).all λj=>match ci[j]?,N[nl+j]? with
  | some i,some n=>XN[i]? ==some n&&xs.lookup n==some .cell&&ns.lookup n==some .free
  | _,_=>false
def uD (ns:List (Str×ox))(cs:List (Str×Addr)):List (Str×Addr)->List (Str×Addr)
 | acc=>ns.foldl (λacc y=>if y.2== .free then (y.1,(cs.lookup y.1).getD 0)::acc else acc) acc
theorem vI:∀(ns:List (Str×ox)) (acc:List (Str×Addr)),(∀y∈ns,y.2= .free->∃c,env.cells.lookup y.1=some c) →
  (forIn ns acc λx r=>(do
   let (name,kind):=x
   if (kind==gf)=true then do
     let c ←cellOf env name
     pure (la ((name,c)::r))
    else pure (la r)):Sem (List (Str×Addr)))=pure (uD ns env.cells acc)
 | [],acc,_=>rfl
 | (n,k)::r,acc,h=>by
  have ih:=λacc=>vI r acc λy hy=>h y (bx _ hy);rw[wb]
  by_cases hk:k= .free
  .subst hk;obtain⟨c,e⟩:=h (n,.free) cy rfl;have e1:cellOf env n=pure c:=by unfold cellOf;rw[e]
   simp only[beq_self_eq_true,if_true,e1];show (forIn r ((n,c)::acc) _:Sem (List (Str×Addr)))=_;rw[ih];show _=pure (uD ((n,gf)::r) env.cells acc);simp only[uD,List.foldl_cons,beq_self_eq_true,if_true,e,vd]
  .have hb:(k==gf)=false:=by simpa using hk
   simp only[hb,gm,if_false];show (forIn r acc _:Sem (List (Str×Addr)))=_;rw[ih];simp only[uD,List.foldl_cons,hb,gm,if_false]
theorem iJ:∀(ns:List (Str×ox)) (acc:List (Str×Addr)) (n:Str),(∀y∈ns,y.2= .free->∃c,cs.lookup y.1=some c) →
  ((n,gf)∈ns∨acc.lookup n=cs.lookup n)->(∀c,acc.lookup n=some c->cs.lookup n=some c)->(uD ns cs acc).lookup n=cs.lookup n
 | [],acc,n,_,h,_=>by
  rcases h with h|h
  .cases h
  .exact h
 | (m,k)::r,acc,n,hc,h,hs=>by
  have hc':∀y∈r,y.2= .free->∃c,cs.lookup y.1=some c:=λy hy=>hc y (bx _ hy);show (uD r cs (if k== .free then (m,(cs.lookup m).getD 0)::acc else acc)).lookup n=cs.lookup n
  by_cases hk:k= .free
  .subst hk;obtain⟨c,e⟩:=hc (m,.free) cy rfl;simp only[beq_self_eq_true,if_true,e,vd]
   by_cases hm:n=m
   .subst hm;have q:il n ((n,c)::acc)=some c:=by simp[dz]
    exact iJ r _ n hc' (.inr (q.trans e.symm)) λc' z=>by rw[q]at z;cases z;exact e
   .have hb:(n==m)=false:=by simpa using hm
    have q:il n ((m,c)::acc)=acc.lookup n:=by simp[dz,hb]
    refine iJ r _ n hc' ?_ λc' z=>hs c' (q▸z);rcases h with h|h
    .rcases ba.mp h with z|z
     .cases z;exact absurd rfl hm
     .exact .inl z
    .exact .inr (q.trans h)
  .have hb:(k==gf)=false:=by simpa using hk
   simp only[hb,gm,if_false];refine iJ r _ n hc' ?_ hs;rcases h with h|h
   .rcases ba.mp h with z|z
    .cases z;exact absurd rfl hk
    .exact .inl z
   .exact .inr h
theorem K5:∀(ns:List (Str×ox)) (acc:List (Str×Addr)),(∀y∈ns,y.2= .free->∃c,cs.lookup y.1=some c) →
  (∀n c,acc.lookup n=some c->cs.lookup n=some c)->∀n c,(uD ns cs acc).lookup n=some c->cs.lookup n=some c
 | [],acc,_,hs,n,c,h=>hs n c h
 | (m,k)::r,acc,hc,hs,n,c,h=>by
  have hc':∀y∈r,y.2= .free->∃c,cs.lookup y.1=some c:=λy hy=>hc y (bx _ hy);have h':(uD r cs (if k== .free then (m,(cs.lookup m).getD 0)::acc else acc)).lookup n=some c:=h;refine K5 r _ hc' ?_ n c h';intro n' c' z
  by_cases hk:k= .free
  .subst hk;obtain⟨d,e⟩:=hc (m,.free) cy rfl;simp only[beq_self_eq_true,if_true,e,vd]at z
   by_cases hm:n'=m
   .subst hm;simp[dz]at z;subst z;exact e
   .have hb:(n'==m)=false:=by simpa using hm
    simp[dz,hb]at z;exact hs n' c' z
  .have hb:(k==gf)=false:=by simpa using hk
   simp only[hb,gm,if_false]at z;exact hs n' c' z
theorem lF (hkf:env.scope.kind= .function):∀{names:List (Str×ox)}{x:Str},names.lookup x=some .free->env.kindOf x=some .cell →
  (names.map λ(n,k)=>if (k==gf&&env.scope.kind== .function&&env.kindOf n==some .cell) then (n,qy) else (n,k)).lookup x=some .cell
 | [],_,h,_=>by simp at h
 | (n,k)::r,x,h,hc=>by
  show il x ((if (k==gf&&env.scope.kind== .function&&env.kindOf n==some .cell)=true then (n,qy) else (n,k))::_)=_;cases hx:x==n with
  | true =>
   simp only[dz,hx]at h;cases h;have e:x=n:=by simpa using hx
   subst e;rw[hkf,hc];simp[dz]
  | false =>
   simp only[dz,hx]at h;have ih:=lF hkf h hc
   split
   .simp only[dz,hx];exact ih
   .simp only[dz,hx];exact ih
theorem fL:∀{names:List (Str×ox)}{x:Str}{k':ox},(∀y∈names,y.2≠ .cell)->(k'= .cell∨k'= .free) →
  (names.map λ(n,k)=>if (k==gf&&env.scope.kind== .function&&env.kindOf n==some .cell) then (n,qy) else (n,k)).lookup x=some k'->(x,gf)∈names
 | [],_,_,_,_,h=>by simp at h
 | (n,k)::r,x,k',hn,hk',h=>by
  have h':il x ((if (k==gf&&env.scope.kind== .function&&env.kindOf n==some .cell)=true then (n,qy) else (n,k))::r.map _)=some k':=h;cases hx:x==n with
  | true =>
   have e:x=n:=by simpa using hx
   subst e
   by_cases hf:k= .free
   .subst hf;exact cy
   .have hb:(k==gf)=false:=by simpa using hf
    simp only[hb,mh,gm,if_false,dz,hx]at h';cases h';rcases hk' with z|z
    .exact absurd z (hn (x,k) cy)
    .exact absurd z hf
  | false =>
   have h2:il x (r.map λ(n,k)=>if (k==gf&&env.scope.kind== .function&&env.kindOf n==some .cell) then (n,qy) else (n,k))=some k':=by
    split at h'
    .simp only[dz,hx]at h';exact h'
    .simp only[dz,hx]at h';exact h'
   exact bx _ (fL (λy hy=>hn y (bx _ hy)) hk' h2)
theorem blk (n0:Nat)(hX:X.env.cells=cellsFrom n0 X.env.scope.names [])(hkf:X.env.scope.kind= .function)(hk:scope.kind= .function)
  (h:ZY X.env.scope.names X.N scope.names N nl ci=true):Blk X scope (uD scope.names X.env.cells []) N nl ci:=by
 unfold ZY at h;rw[cq,cq]at h;obtain⟨⟨h1,h2⟩,h3⟩:=h;rw[gh]at h1;have h1':∀y∈scope.names,y.2≠ .cell/\(y.2= .local->scope.names.lookup y.1=some .local)/\(y.2= .free->X.env.scope.names.lookup y.1=some .cell/\scope.names.lookup y.1=some .free):=λy hy=>by
  have q:=h1 y hy;simp only[cq,Bool.or_eq_true,bne_iff_ne,ne_eq,beq_iff_eq]at q;obtain⟨⟨q1,q2⟩,q3⟩:=q;exact⟨q1,λe=>q2.resolve_left λz=>z e,λe=>q3.resolve_left λz=>z e⟩
 have hcs:∀y∈scope.names,y.2= .free->∃c,X.env.cells.lookup y.1=some c:=λy hy e=>by
  rw[hX];exact A0 ((h1' y hy).2.2 e).1
 refine⟨hk,λy hy=>(h1' y hy).2.1,λy hy=>(h1' y hy).1,?_,?_,?_,by simpa using h2,?_⟩
 .unfold closureFor;refine(congrArg (λm:Sem (List (Str×Addr))=>m >>= λcs=>pure cs) (vI scope.names [] hcs)).trans ?_;rfl
 .exact K5 scope.names [] hcs λn c z=>by cases z
 .intro n hn;have hm:(n,gf)∈scope.names:=by
   rcases hn with z|z
   .exact fL (λy hy=>(h1' y hy).1) (.inl rfl) z
   .exact fL (λy hy=>(h1' y hy).1) (.inr rfl) z
  obtain⟨c,e⟩:=hcs _ hm rfl;exact⟨c,(iJ scope.names [] n hcs (.inl hm) λc z=>by cases z).trans e⟩
 .intro j i hj;have hjl:j<ci.length:=(ay.mp hj).1;rw[gh]at h3;have q:=h3 j (List.mem_range.mpr hjl);rw[hj]at q;cases e:N[nl+j]? with
  | none=>rw[e]at q;cases q
  | some n =>
   rw[e]at q;simp only[cq,beq_iff_eq]at q;obtain⟨⟨q1,q2⟩,q3⟩:=q;refine⟨n,rfl,q1,.inl q2,.inl (lF hkf q3 q2),?_⟩;exact iJ scope.names [] n hcs (.inl (ja q3)) λc z=>by cases z
structure Fc (P:ef)(w:gd)(K:W.Frag)(mg:Str->Option af)(base:Heap)(x:Str)(k:Nat)(ps:List Str)(sp:Sp):Prop where
 ex:∃f fd,mg x=some (.ref f)/\W.keepIn K (.ref f)=true/\Binds K fd ps []/\aP P w K mg base CX0 k f fd ps sp
theorem cG {k:Nat}{ps:List Str}{t:TA}{p pos:Pos}(F:Fc X.prog X.w X.K X.mg X.base x k ps sp)(hr:Room k' X.A)(ha:PA X (e::es) t)(hk:k<=k':=by decide)(hg:Gl X x:=by rfl)
  (hdb:(x==("__debug__" :Str))=false:=by decide)(he:az (e::es) X.env=(false,eval e X.env)::az es X.env:=by rfl)(hpl:(fh pos (az es X.env)).any (·.1)=false:=by rfl) :
  PE X (.Call (.Name x p) (e::es) [] pos) (jZ sp [] E0 t):=by
 obtain⟨f,fd,hm,kp,b,G⟩:=F.ex;exact yI G (hr.mono hk) hg hm kp b .nil yQ ha hdb he hpl
theorem yM {n:String}(hg:Gl X x)(hm:X.mg x=none)(hv:dv x=some (.type n))(hn:x≠ "__name__" :=by decide)(hd:(x==("__debug__" :Str))=false:=by decide):PE X (.Name x pos) (tC (.ty n)):=aAZ hg hm hv rfl hn hd
variable {j lo:Int}{tk:Tok}
theorem NC {i:Int}{t:Tok}(hg:Gl X x)(hm:X.mg x=some (.int i t))(hd:(x==("__debug__" :Str))=false:=by decide):PE X (.Name x pos) (tC (.int i)):=NY hg hm ⟨t,rfl⟩ hd
theorem dM (hg:Gl X x)(hm:X.mg x=some (.ref a))(hd:(x==("__debug__" :Str))=false:=by decide):PE X (.Name x pos) (tC (.ref a)):=NY hg hm rfl hd
theorem bF:dv "isinstance" =some (.builtin "isinstance"):=by decide +kernel
theorem VS:dv "all" =some (.builtin "all"):=by decide +kernel
theorem p8:dv "len" =some (.builtin "len"):=by decide +kernel
theorem TB:dv "int" =some (.type "int"):=by decide +kernel
theorem sZ:dv "str" =some (.type "str"):=by decide +kernel
theorem aA4:dv "bool" =some (.type "bool"):=by decide +kernel
theorem aA3:dv "list" =some (.type "list"):=by decide +kernel
theorem V6:dv "tuple" =some (.type "tuple"):=by decide +kernel
theorem aBl:dv "dict" =some (.type "dict"):=by decide +kernel
inductive BTy (K:W.Frag)(H:Hp):V->String->Prop where
 | non:BTy K H .non "NoneType"
 | bl (x:Bool):BTy K H (.bl x) "bool"
 | int (i:Int):BTy K H (.int i) "int"
 | str (x:Str):BTy K H (.str x) "str"
 | lst {a:Addr}{xs:List V} (e:H a=some (.lst xs)):BTy K H (.ref a) "list"
 | tup {a:Addr}{xs:List V} (e:H a=some (.tup xs)):BTy K H (.ref a) "tuple"
 | dK {a:Addr}{kvs:List (Key×V)} (e:H a=some (.dK kvs)):BTy K H (.ref a) "dict"
theorem BTy.ty {x:V}{n:String}(b:BTy K H x n):iV K H x (.type n):=by
 cases b with
 | non=>exact .non
 | bl=>exact .bl _
 | int=>exact .int _
 | str=>exact .str _
 | lst e=>exact .lst e
 | tup e=>exact .tup e
 | dK e=>exact .dK e
def isB (n c:String):Bool:=n==c||(n== "bool" &&c== "int")
theorem C5 {x:V}{n:String}(b:BTy K H x n)(c:String)(hc:c= "int" ∨c= "bool" ∨c= "str"):W.kitOne K (.type n) (.type c)=some (isB n c):=by
 cases b<;>rcases hc with rfl|rfl|rfl<;>kernel_rfl
theorem SK (n:Nat)(Ok:Nat->List V->Hp->Prop)(hn:n<=sizeLine)(h00:σ0[0]? =some none)(h0:Ok 0 [] H1)(hlen:∀i ys H,Ok i ys H->ys.length<=i)
  (hst:∀ys H,Ok n ys H->J.stop n H/\fin ys H)(hstep:∀i ys H,i<n->Ok i ys H->J.go i H/\∀x H',J.yld i H x H'->∀R:VK,(∀y H4,Ok (i+1) (ys++[y]) H4->R y H4)->te (σ0.set 0 (some x)) H' R):dN J (cT 0) wL te σ0 fin H1:=by
 refine⟨λi m ys H=>m=n - i/\i<=n/\Ok i ys H,⟨n,by simp,gi _,h0⟩,?_⟩;rintro i m ys H ⟨rfl,hi,ok⟩
 by_cases hlt:i<n
 .obtain⟨go,st⟩:=hstep i ys H hlt ok;refine .inr ⟨go,λx H' y=>⟨⟨by simp,λj v hv=> ?_⟩,?_⟩⟩
  .cases j with
   | zero=>rw[h00]at hv;cases hv
   | succ j=>rw[mf (by lia)];exact hv
  .unfold wL
   dsimp only
   rw[if_pos rfl];exact st x H' y _ λz H4 ok4=>⟨by have:=hlen i ys H ok;lia,n - (i+1),by lia,rfl,hlt,ok4⟩
 .have e:i=n:=by lia
  subst e;exact .inl (hst ys H ok)
theorem QC (Ok:Nat->List V->Hp->Prop)(hn:n<=sizeLine)(h00:σ0[0]? =some none)(h0:Ok 0 [] H1)(hlen:∀i ys H,Ok i ys H->ys.length<=i)(hfin:∀ys H,Ok n ys H->fin ys H)
  (hstep:∀i ys H,i<n->Ok i ys H->∀R:VK,(∀y H4,Ok (i+1) (ys++[y]) H4->R y H4)->te (σ0.set 0 (some (.int (lo+i)))) H R):dN (Itr lo n) (cT 0) wL te σ0 fin H1 :=
 SK n Ok hn h00 h0 hlen (λys H ok=>⟨ar _,hfin ys H ok⟩) λi ys H hi ok=>⟨hi,λx H' y=>by
  obtain⟨e1,e2⟩:=y;subst e1 e2;exact hstep i ys _ hi ok⟩
theorem X3 {x:V}(h:gI x=true):eqV x x=true:=by
 cases x<;>first|rfl|(simp[eqV];done)|exact absurd h bh
theorem zU (n:Nat):(fz n).all (λ_=>true)=true:=by simp
structure FunV (K:W.Frag)(x qual:Str)(st:Stmt)(f:Addr)(fd:jz):Prop where
 ex:∃(oc:af) (od:Option Addr) (dV kV doc pm:af) (an:Option Addr) (cdv ct:af) (osl:Array (Option af)),
  fd=W.fnOf x qual (dP st) (cZ st) (aE st) dV kV doc pm an cdv ct/\K.lookup f=some ⟨oc,od,.func fd,osl⟩/\W.codeIn K cdv qual=true
 kp:W.keepIn K (.ref f)=true
variable {an dd od:Option Addr}
theorem FunV.ok {st:Stmt}{f:Addr}{ps:List Str}{k:Nat}(F:FunV K x qual st f fd)(S:aK N ps (aE st))(len:∀vs H Q E,sp vs H Q E->vs.length=ps.length)
  (hbody:∀(cdv:af) (A:jx) (outer:List Env) (s:aj) (H:Hp) (vs:List V) (Q:VK) (E:XK),Room k (A.deeper (rn qual (aE st) s.heap.objs.size f cdv))->sp vs H Q E →
   ∃t,PSs (c6 CX0 P w K mg base N qual (aE st) f cdv A outer s H E).nox (cZ st) t/\t { nx:=λ_ H'=>Q .non H',rt:=Q } (iM N vs) H):aP P w K mg base CX0 (k+1) f fd ps sp:=by
 obtain⟨oc,od,dV,kV,doc,pm,an,cdv,ct,osl,rfl,lk,hcd⟩:=F.ex;refine OF lk hcd S len λA outer s H vs Q E hr h=> ?_;obtain⟨t,h1,h2⟩:=hbody cdv A outer s H vs Q E hr h;exact⟨t,PSs.nox h1,h2⟩
theorem tD {st:Stmt}{f:Addr}{osl:Array (Option af)}{dV kV ct:af}(l:K.lookup f=some ⟨oc,od,.func (W.fnOf x qual (dP st) (cZ st) (aE st) dV kV doc pm an cdv ct),osl⟩)(c:W.codeIn K cdv qual=true)
  (k:W.keepIn K (.ref f)=true):FunV K x qual st f (W.fnOf x qual (dP st) (cZ st) (aE st) dV kV doc pm an cdv ct):=⟨⟨oc,od,dV,kV,doc,pm,an,cdv,ct,osl,rfl,l,c⟩,k⟩
structure Mc (P:ef)(w:gd)(K:W.Frag)(mg:Str->Option af)(base:Heap)(C:Addr)(nm:Str)(k:Nat)(sp:Sp):Prop where
 ex:∃f fd ps,Cls K C/\Meth K C nm f/\Binds K fd ps []/\aP P w K mg base CX0 k f fd ps sp
structure Kc (P:ef)(w:gd)(K:W.Frag)(mg:Str->Option af)(base:Heap)(x:Str)(C:Addr)(k:Nat)(dvs:List V)(sp:Sp):Prop where
 ex:∃f fd ps ds,mg x=some (.ref C)/\Mk K C f/\Vals dvs ds/\Binds K fd ps ds/\aP P w K mg base CX0 k f fd ps sp
variable {pl:Sem Bool}
section
variable {k:Nat}{p:Pos}{o:Expr}{t:TA}
def tMD (M:Addr->Sp->Prop)(m:Str)(ta:TE)(t:TA):TE:=λσ H Q=>ta σ H λx H1=>∃a C dx fs sp,x= .ref a/\H1 a=some (.ins C dx fs)/\fs.lookup m=none/\M C sp/\t σ H1 λvs H2=>sp (x::vs) H2 Q E0
theorem kG (k:Nat){pl:Sem Bool}(hr:Room k' X.A)(ho:PE X o ta)(ha:PA X (e::es) t)(hk:k<=k':=by decide)
  (hst:az (e::es) X.env=(false,eval e X.env)::az es X.env:=by rfl)(hpl:(fh pos (az es X.env)).any (·.1)=false:=by rfl)
  (ht:eval (.Call (.Attribute o m apos) (e::es) [] pos) X.env=(do
   let ov ←eval o X.env
   xr apos.atName
   let (f,first) ←vt [ov] (ql ov m pl)
   tj pos f first (fh pos (az (e::es) X.env)) (ri pos (kh [] X.env))):=by rfl) :
  PE X (.Call (.Attribute o m apos) (e::es) [] pos) (tMD (λC sp=>Mc X.prog X.w X.K X.mg X.base C m k sp) m ta t):=by
 intro pins s σ H Q I h;refine W.methodCall_KW (pl:=pl) (thn (ho pins s σ H _ I h) λu s1 ⟨x,H1,I1,rx,a,C,dx,fs,sp,ex,ea,l,M,q⟩=> ?_) ht;subst ex;obtain rfl:u=av a:=rx;obtain⟨f,fd,ps,c,hm,hb,F⟩:=M.ex;refine oR I1 ea c hm l ?_;refine W.callWith_K (first:=[.ref a]) (h₀:=X.base) I.ok.mod.kin hm.kp (thn (ha pos pins s1 σ H1 _ I1 q) λus s2 ⟨vs,H2,I2,r,q2⟩=>⟨I2.kIn,?_⟩) hst hpl;exact tL (us:= .ref a::us) (vs:= .ref a::vs) (dvs:=[]) F (hr.mono hk) hb .nil yQ I2 (.cons rfl r) (by rw[gw];exact q2)
theorem m8 (k:Nat){pl:Sem Bool}(hr:Room k' X.A)(ho:PE X o ta)(hk:k<=k':=by decide)
  (ht:eval (.Call (.Attribute o m apos) [] [] pos) X.env=(do
   let ov ←eval o X.env
   xr apos.atName
   let (f,first) ←vt [ov] (ql ov m pl)
   tj pos f first (fh pos (az [] X.env)) (ri pos (kh [] X.env))):=by rfl) :
  PE X (.Call (.Attribute o m apos) [] [] pos) (tMD (λC sp=>Mc X.prog X.w X.K X.mg X.base C m k sp) m ta DS):=by
 intro pins s σ H Q I h;refine W.methodCall_KW (pl:=pl) (thn (ho pins s σ H _ I h) λu s1 ⟨x,H1,I1,rx,a,C,dx,fs,sp,ex,ea,l,M,q⟩=> ?_) ht;subst ex;obtain rfl:u=av a:=rx;obtain⟨f,fd,ps,c,hm,hb,F⟩:=M.ex;refine oR I1 ea c hm l ?_;exact W.callWith_K0 (first:=[.ref a]) I1.kIn hm.kp (tL (us:=[.ref a]) (vs:=[.ref a]) (dvs:=[]) F (hr.mono hk) hb .nil yQ I1 (.cons rfl .nil) q)
theorem yP (F:Kc X.prog X.w X.K X.mg X.base x C k dvs sp)(hr:Room k' X.A)(ha:PA X (e::es) t)(hk:k+1<=k':=by decide)(hg:Gl X x:=by rfl)
  (hdb:(x==("__debug__" :Str))=false:=by decide)(he:az (e::es) X.env=(false,eval e X.env)::az es X.env:=by rfl)(hpl:(fh pos (az es X.env)).any (·.1)=false:=by rfl) :
  PE X (.Call (.Name x p) (e::es) [] pos) (tN C sp dvs E0 t):=by
 obtain⟨f,fd,ps,ds,hm,M,hd,hb,G⟩:=F.ex;exact NE M G (hr.mono hk) hg hm hb hd yQ ha hdb he hpl
end
def ZR:R2:=λx y H Q=>∃i j,x= .str i/\y= .str j/\i.length+j.length<=sizeLine/\Q (.str (i++j)) H
def O3:R2:=λx y H Q=>y= .non/\Q (.bl (decide (x= .non))) H
def P8:R2:=λx y H Q=>y= .non/\Q (.bl (!decide (x= .non))) H
def aE8:R2:=λx y H Q=>∃i j,x= .str i/\y= .str j/\Q (.bl (!decide (j.cps.toList<i.cps.toList))) H
def WZ (K:W.Frag):List V->Hp->VK->Prop:=λxs H Q=>∃x c t u b,xs=[x,c]/\iV K H x t/\RelV c u/\W.kitOne K t u=some b/\Q (.bl b) H
def aEY (K:W.Frag):List V->Hp->VK->Prop:=λxs H Q=>∃(p:Addr) (bs:List Bool),xs=[.ref p]/\SqL K H p (bs.map V.bl)/\Q (.bl (bs.all id)) H
def Z2:List V->Hp->VK->Prop:=λxs H Q=>∃z,xs=[.str z]/\z.length<=sizeLine/\Q (.int z.length) H
def ZJ (K:W.Frag):List V->Hp->VK->Prop:=λxs H Q=>∃p ys,xs=[.ref p]/\(SqL K H p ys∨SqT K H p ys)/\Q (.int ys.length) H
def Z3:List V->Hp->VK->Prop:=λxs H Q=>∃i,xs=[.int i]/\i.natAbs.log2<1920/\Q (.str (toString i)) H
theorem fH:OpR X (rg .Add) ZR:=QG
theorem JM:OpR X (fe .Is) O3:=aDa
theorem aBx:OpR X (fe .IsNot) P8:=aBk
theorem BU:OpR X (fe .LtE) aE8:=R5
theorem qG:cQ X (.builtin "isinstance") (WZ X.K):=MC
theorem KF (hc:X.calm=true):cQ X (.builtin "all") (aEY X.K):=EO hc
theorem FW:cQ X (.builtin "len") Z2:=IN
theorem mV:cQ X (.builtin "len") (ZJ X.K):=IQ
theorem wU:cQ X (.type "str") Z3:=JH
theorem aBC {i:Int}(n:Int){k1 k2 p1 p2 pos}(h:i^j.toNat=n)(c:aDO i j):PE X (.BinOp (.Constant (.int i) k1 p1) .Pow (.Constant (.int j) k2 p2) pos) (tC (.int n)):=by
 subst h;intro pins s σ H Q I q;exact bR aCz aF aF pins s σ H Q I ⟨i,j,rfl,rfl,c,q⟩
def uF (P:Bool->Hp->Prop):VK:=λx H=>∃k,x= .bl k/\P k H
def aDB (O:Option Int->Hp->Prop):VK:=λx H=>∃i,x= .int i/\O (some i) H
def aCa (Q:VK):List V->Hp->Prop:=λxs H=>xs.length<=sizeLine/\∀p,H p=none->Q (.ref p) (upd H p (.lst xs))
def aDb (Q:VK):List V->Hp->Prop:=λxs H=>xs.length<=sizeLine/\∀p,H p=none->Q (.ref p) (upd H p (.tup xs))
def aDR (Q:VK):List V->Hp->Prop:=λys H=>∀p,H p=none->Q (.ref p) (upd H p (.lst ys))
def aDo (K:W.Frag)(f:Str)(Q:VK):VK:=λx H=>∃a C dx fs v,x= .ref a/\H a=some (.ins C dx fs)/\Cls K C/\NoAttr K C f/\fs.lookup f=some v/\Q v H
def Z5 (K:W.Frag)(f:Str)(y:V)(q:Hp->Prop):VK:=λx H=>∃a C dx fs,x= .ref a/\H a=some (.ins C dx fs)/\Cls K C/\NoAttr K C f/\fs.length<1000/\q (upd H a (.ins C dx (cM f y fs)))
def MdP (M:Addr->Sp->Prop)(m:Str)(t:TA)(σ:St)(Q:VK):VK:=λx H=>∃a C dx fs sp,x= .ref a/\H a=some (.ins C dx fs)/\fs.lookup m=none/\M C sp/\t σ H λvs H2=>sp (x::vs) H2 Q E0
def t9 (C:Addr)(sp:Sp)(dvs:List V)(E:XK)(Q:VK):List V->Hp->Prop:=λvs H1=>∀x dx,H1 x=none->H1 dx=none->dx≠x →
 sp (.ref x::(vs++dvs)) (upd (upd H1 dx (.own x)) x (.ins C dx [])) (λv H2=>v= .non/\Q (.ref x) H2) E
def BmP (K:W.Frag)(T:String)(r:V->List V->Hp->VK->Prop)(t:TA)(σ:St)(Q:VK):VK:=λx H1=>tyV K T x H1/\t σ H1 λxs H2=>r x xs H2 Q
def aCC (K:W.Frag)(R:It->Hp->Prop):VK:=λx H1=>∃a,x= .ref a/\(∃xs,SqL K H1 a xs)/\R (Itl K a) H1
def aDI (R:It->Hp->Prop):VK:=λx H1=>∃z,x= .str z/\R (Its z) H1
def aDm (R:It->Hp->Prop):List V->Hp->Prop:=λvs H1=>∃j:Int,vs=[.int j]/\ -(2^62)<=j/\j<2^62/\R (Itr 0 j.toNat) H1
def aD0 (R:It->Hp->Prop):List V->Hp->Prop:=λvs H1=>∃i j:Int,vs=[.int i,.int j]/\(-(2^62)<=i/\i<2^62/\ -(2^62)<=j/\j<2^62)/\R (Itr i (j - i).toNat) H1
variable {tb:TS}{r:V->List V->Hp->VK->Prop}{ct nx:St->Hp->Prop}{rt:VK}
section
variable {bk:St->Hp->Prop}{Q:VK}{t u:TS}{tb tc:TE}{c d:TT}{E:XK}
theorem aDZ (h:t ⟨u ⟨nx,rt,bk,ct⟩,rt,bk,ct⟩ σ H):JQ t u ⟨nx,rt,bk,ct⟩ σ H:=h
theorem NI (R:St->Hp->Prop)(h2:∀σ' H',R σ' H'->u ⟨nx,rt,bk,ct⟩ σ' H')(h1:∀nx':St->Hp->Prop,(∀σ' H',R σ' H'->nx' σ' H')->t ⟨nx',rt,bk,ct⟩ σ H):JQ t u ⟨nx,rt,bk,ct⟩ σ H:=h1 _ h2
theorem X8 {v:TS}(h:JQ (O5 c t u) v ⟨nx,rt,bk,ct⟩ σ H):JQ (O5 c t u) v ⟨nx,rt,bk,ct⟩ σ H:=h
theorem aAH (h:nx σ H):Z6 ⟨nx,rt,bk,ct⟩ σ H:=h
theorem aDP (h:te σ H λx H1=>g x σ H1 nx):PH te g ⟨nx,rt,bk,ct⟩ σ H:=h
theorem aCm (h:te σ H rt):aCU te ⟨nx,rt,bk,ct⟩ σ H:=h
theorem aAT (h:te σ H λ_ H1=>nx σ H1):ZX te ⟨nx,rt,bk,ct⟩ σ H:=h
theorem aER (h:c σ H λb H1=>if b=true then t ⟨nx,rt,bk,ct⟩ σ H1 else u ⟨nx,rt,bk,ct⟩ σ H1):O5 c t u ⟨nx,rt,bk,ct⟩ σ H:=h
def RH (J:It)(g:TG)(tb:TS)(D:d6)(σ:St)(H:Hp):Prop :=
 ∃W:Nat->Nat->St->Hp->Prop,(∃m,W 0 m σ H)/\∀i m σ H,W i m σ H →
  (J.stop i H/\D.nx σ H)∨(J.go i H/\∃N:St->Hp->Prop,(∀σ' H',N σ' H'->∃m',m'<m/\W (i+1) m' σ' H')/\∀x H',J.yld i H x H'->g x σ H' λσ2 H2=>tb { D with nx:=N,ct:=N,bk:=D.nx } σ2 H2)
theorem aDe {tb:TS}(h:wi σ H λJ H1=>RH J g tb ⟨nx,rt,bk,ct⟩ σ H1):aDW wi g tb ⟨nx,rt,bk,ct⟩ σ H:=h
theorem aEi {l:St}(h:Q v H):gY 0 (some v::l) H Q:=⟨v,rfl,h⟩
theorem aEo {a0}{l:St}(h:Q v H):gY 1 (a0::some v::l) H Q:=⟨v,rfl,h⟩
theorem aEr {a0 a1}{l:St}(h:Q v H):gY 2 (a0::a1::some v::l) H Q:=⟨v,rfl,h⟩
theorem aEG {a0 a1 a2}{l:St}(h:Q v H):gY 3 (a0::a1::a2::some v::l) H Q:=⟨v,rfl,h⟩
theorem aEC {a0 a1 a2 a3}{l:St}(h:Q v H):gY 4 (a0::a1::a2::a3::some v::l) H Q:=⟨v,rfl,h⟩
theorem aEt {a0 a1 a2 a3 a4}{l:St}(h:Q v H):gY 5 (a0::a1::a2::a3::a4::some v::l) H Q:=⟨v,rfl,h⟩
theorem aEN {a0 a1 a2 a3 a4 a5}{l:St}(h:Q v H):gY 6 (a0::a1::a2::a3::a4::a5::some v::l) H Q:=⟨v,rfl,h⟩
theorem aEM {a0 a1 a2 a3 a4 a5 a6}{l:St}(h:Q v H):gY 7 (a0::a1::a2::a3::a4::a5::a6::some v::l) H Q:=⟨v,rfl,h⟩
variable {q:St->Hp->Prop}
theorem aEd {a0 a}{l:St}(h:q (a0::some v::l) H):cT 1 v (a0::a::l) H q:=h
theorem aEF {a0 a1 a}{l:St}(h:q (a0::a1::some v::l) H):cT 2 v (a0::a1::a::l) H q:=h
theorem aEf {a0 a1 a2 a}{l:St}(h:q (a0::a1::a2::some v::l) H):cT 3 v (a0::a1::a2::a::l) H q:=h
theorem aEv {a0 a1 a2 a3 a}{l:St}(h:q (a0::a1::a2::a3::some v::l) H):cT 4 v (a0::a1::a2::a3::a::l) H q:=h
theorem aES {a0 a1 a2 a3 a4 a}{l:St}(h:q (a0::a1::a2::a3::a4::some v::l) H):cT 5 v (a0::a1::a2::a3::a4::a::l) H q:=h
theorem aEz {a0 a1 a2 a3 a4 a5 a}{l:St}(h:q (a0::a1::a2::a3::a4::a5::some v::l) H):cT 6 v (a0::a1::a2::a3::a4::a5::a::l) H q:=h
theorem aEn {a0 a1 a2 a3 a4 a5 a6 a}{l:St}(h:q (a0::a1::a2::a3::a4::a5::a6::some v::l) H):cT 7 v (a0::a1::a2::a3::a4::a5::a6::a::l) H q:=h
theorem aEZ (h:Q v H):tC v σ H Q:=h
theorem aEQ {r:R2}(h:ta σ H λx H1=>tb σ H1 λy H2=>r x y H2 Q):tOp r ta tb σ H Q:=h
theorem aEw {r:V->Hp->VK->Prop}(h:ta σ H λx H1=>r x H1 Q):tUn r ta σ H Q:=h
theorem aEk {f:Int->Int->V}{i:Int}(h:Q (f i j) H):rI0 f (.int i) (.int j) H Q:=⟨i,j,rfl,rfl,h⟩
theorem aE5 {f:Int->V}{i:Int}(h:Q (f i) H):rU f (.int i) H Q:=⟨i,rfl,h⟩
theorem aDx {f:Int->Int->V}{i:Int}(h0:0<j)(h1:j<1073741824)(h:Q (f i j) H):rI aCA f (.int i) (.int j) H Q:=⟨i,j,rfl,rfl,⟨h0,h1⟩,h⟩
theorem aD3 {f:Int->Int->V}{i:Int}(h0:0<j)(h:Q (f i j) H):rI (λ_ j=>0<j) f (.int i) (.int j) H Q:=⟨i,j,rfl,rfl,h0,h⟩
theorem ZE {i:Int}:decide (V.int i=V.int j)=decide (i=j):=by simp
theorem aEl {i j:Str}:decide (V.str i=V.str j)=decide (i=j):=by simp
theorem aDG {i:Int}(h:Q (.bl (decide (i=j))) H):rEq (.int i) (.int j) H Q:=⟨rfl,by rw[ZE];exact h⟩
theorem aCP {i j:Str}(h:Q (.bl (decide (i=j))) H):rEq (.str i) (.str j) H Q:=⟨rfl,by rw[aEl];exact h⟩
theorem aCG {i:Int}(h:Q (.bl (!decide (i=j))) H):rNe (.int i) (.int j) H Q:=⟨rfl,by rw[ZE];exact h⟩
theorem aAD (h:Q (.bl true) H):O3 .non .non H Q:=⟨rfl,h⟩
theorem aA1 {i:Addr}(h:Q (.bl false) H):O3 (.ref i) .non H Q:=⟨rfl,by rw[decide_eq_false (λz=>by cases z)];exact h⟩
theorem aBq (h:Q (.bl (decide (v= .non))) H):O3 v .non H Q:=⟨rfl,h⟩
theorem aA0 (h:Q (.bl false) H):P8 .non .non H Q:=⟨rfl,h⟩
theorem aAI {i:Str}(h:Q (.bl true) H):P8 (.str i) .non H Q:=⟨rfl,by rw[decide_eq_false (λz=>by cases z)];exact h⟩
theorem aBg {i j:Str}(hl:i.length+j.length<=sizeLine)(h:Q (.str (i++j)) H):ZR (.str i) (.str j) H Q:=⟨i,j,rfl,rfl,hl,h⟩
theorem aBV (h:ta σ H (uF λc H1=>if c=true then tb σ H1 Q else Q (.bl false) H1)):ZI ta tb σ H Q:=h
theorem aCZ (h:ta σ H (uF λc H1=>if c=true then Q (.bl true) H1 else tb σ H1 Q)):aCl ta tb σ H Q:=h
theorem aBU (h:ta σ H (uF λc H1=>Q (.bl (!c)) H1)):ZH ta σ H Q:=h
theorem aCc (h:c σ H λk H1=>if k=true then ta σ H1 Q else tb σ H1 Q):tIf c ta tb σ H Q:=h
theorem W4 {r r':R2}(h:ta σ H λx H1=>tb σ H1 λy H2=>r x y H2 (uF λk H3=>if k=true then tc σ H3 λw' H4=>r' y w' H4 Q else Q (.bl false) H3)):JR r r' ta tb tc σ H Q:=h
theorem aBr {t:TA}(h:t σ H λvs H1=>sp vs H1 Q E):jZ sp [] E t σ H Q:=by
 unfold jZ;simp only[gw];exact h
theorem aEI {r:List V->Hp->VK->Prop}{t:TA}(h:t σ H λvs H1=>r vs H1 Q):tCB r t σ H Q:=h
theorem aDC {t:TA}(h:t σ H (aCa Q)):aCu t σ H Q:=h
theorem aCg {t:TA}(h:t σ H (aDb Q)):aCH t σ H Q:=h
theorem eO {o:HO}{R:V->Hp->Prop}(h:∀p H',H p=none->Same H H'->H' p=some o->R (.ref p) H'):∀p,H p=none->R (.ref p) (upd H p o) :=
 λp hp=>h p _ hp (λb u e=>by rw[aJ (aO e hp)];exact e) aU
theorem aAW (hn:xs.length<=sizeLine)(h:∀p H',H p=none->Same H H'->H' p=some (.lst xs)->Q (.ref p) H'):aCa Q xs H:=⟨hn,eO h⟩
theorem aBy (hn:xs.length<=sizeLine)(h:∀p H',H p=none->Same H H'->H' p=some (.tup xs)->Q (.ref p) H'):aDb Q xs H:=⟨hn,eO h⟩
theorem aBw (h:∀p H',H p=none->Same H H'->H' p=some (.lst xs)->Q (.ref p) H'):aDR Q xs H:=eO h
theorem aDU {f:Str}(h:ta σ H (aDo K f Q)):XJ K ta f σ H Q:=h
theorem aBN {fs:List (Str×V)}{f:Str}(e:H a=some (.ins C dx fs))(cl:Cls K C)(na:NoAttr K C f)(l:fs.lookup f=some v)(h:Q v H):aDo K f Q (.ref a) H:=⟨a,C,dx,fs,v,rfl,e,cl,na,l,h⟩
theorem aA6 {f:Str}(h:ta σ H λy H1=>tb σ H1 (Z5 K f y (nx σ))):aDM K tb ta f ⟨nx,rt,bk,ct⟩ σ H:=h
theorem XD {fs:List (Str×V)}{f:Str}{y:V}{w:Hp->Prop}(e:H a=some (.ins C dx fs))(cl:Cls K C)(na:NoAttr K C f)(l:decide (fs.length<1000)=true)
  (h:∀H',(∀b o,H b=some o->b≠a->H' b=some o)->H' a=some (.ins C dx (cM f y fs))->w H'):Z5 K f y w (.ref a) H :=
 ⟨a,C,dx,fs,rfl,e,cl,na,of_decide_eq_true l,h _ (λb o q hb=>by rw[aJ hb];exact q) aU⟩
theorem aEq {M:Addr->Sp->Prop}{t:TA}(h:ta σ H (MdP M m t σ Q)):tMD M m ta t σ H Q:=h
theorem aDp {M:Addr->Sp->Prop}{t:TA}{fs:List (Str×V)}(e:H a=some (.ins C dx fs))(l:fs.lookup m=none)(F:M C sp)(h:t σ H λvs H2=>sp (.ref a::vs) H2 Q E0):MdP M m t σ Q (.ref a) H :=
 ⟨a,C,dx,fs,sp,rfl,e,l,F,h⟩
theorem aAn {t:TA}(h:t σ H (t9 C sp dvs E Q)):tN C sp dvs E t σ H Q:=h
theorem WW {fs:List (Str×V)}
  (hsp:∀p dx H0 (Q':VK),H0 p=some (.ins C dx [])->(∀H',(∀b o,H0 b=some o->b≠p->H' b=some o)->H' p=some (.ins C dx fs)->Q' .non H')->Same H H0->sp (.ref p::(vs++dvs)) H0 Q' E)
  (k:∀p dx H',H p=none->Same H H'->H' p=some (.ins C dx fs)->Q (.ref p) H'):t9 C sp dvs E Q vs H:=by
 intro x dx nx nd ne;have s0:Same H (upd (upd H dx (.own x)) x (.ins C dx [])):=λb o e=>by
  rw[aJ (aO e nx),aJ (aO e nd)];exact e
 exact hsp x dx _ _ aU (λH' sb e=>⟨rfl,k x dx H' nx (λb o q=>sb b o (s0 b o q) (aO q nx)) e⟩) s0
theorem aAL (h:wi σ H λJ H1=>dN J g ti te (bX nl ci σ) (aDR Q) H1):BR wi nl ci g ti te σ H Q:=h
theorem aEe {r:V->Option Int->Option Int->Hp->VK->Prop}{tl th:TO}(h:te σ H λx H1=>tl σ H1 λl H2=>th σ H2 λu H3=>r x l u H3 Q):tSl r te tl th σ H Q:=h
theorem aDJ {lo hi:Option Int}(hz:z.length<=sizeLine)(h:(xw z lo hi).length<=z.length->Q (.str (xw z lo hi)) H):aCD (.str z) lo hi H Q:=⟨z,rfl,hz,h (Txt.slice_le _ _ _)⟩
theorem aCL {lo hi:Option Int}(e:SqL K H a xs)(h:∀p H',H p=none->Same H H'->H' p=some (.lst (uU xs lo hi))->Q (.ref p) H'):W9 K (.ref a) lo hi H Q:=⟨a,xs,rfl,e,eO h⟩
theorem aCO {i:Int}(e:SqL K H p xs)(l:atI xs i=some v)(h:Q v H):RO K (.ref p) (.int i) H Q:=⟨p,xs,i,v,rfl,rfl,e,l,h⟩
theorem aC2 {i:Int}(e:SqT K H p xs)(l:atI xs i=some v)(h:Q v H):XF K (.ref p) (.int i) H Q:=⟨p,xs,i,v,rfl,rfl,e,l,h⟩
theorem aAP {a b i:Int}(e:SqL K H p [.int a,.int b])(h0:0<=i)(h1:i<2)(h:∀v,(i=0/\v=a)∨(i=1/\v=b)->Q (.int v) H):RO K (.ref p) (.int i) H Q:=by
 have:i=0∨i=1:=by lia
 rcases this with rfl|rfl
 .exact⟨p,_,0,_,rfl,rfl,e,rfl,h a (.inl ⟨rfl,rfl⟩)⟩
 .exact⟨p,_,1,_,rfl,rfl,e,rfl,h b (.inr ⟨rfl,rfl⟩)⟩
theorem yB {l:Addr}{zs:List V}(e:H l=some (.lst xs))(e2:H b=some (.lst zs))(hn:xs.length+zs.length<=sizeLine)(h:∀p H',H p=none->Same H H'->H' p=some (.lst (xs++zs))->Q (.ref p) H'):aCt (.ref l) (.ref b) H Q :=
 ⟨l,b,xs,zs,rfl,rfl,e,e2,hn,eO h⟩
theorem aEH {T:String}{to:TE}{t:TA}(h:to σ H (BmP K T r t σ Q)):tBM K T r to t σ H Q:=h
theorem aC0 {t:TA}(h:t σ H λxs H2=>r (.str z) xs H2 Q):BmP K "str" r t σ Q (.str z) H:=⟨rfl,h⟩
theorem aDh {t:TA}(e:SqL K H p xs)(h:t σ H λxs H2=>r (.ref p) xs H2 Q):BmP K "list" r t σ Q (.ref p) H:=⟨.inl ⟨rfl,xs,e⟩,h⟩
theorem aBf {x:V}{n cn:String}(b:BTy K H x n)(hc:cn= "int" ∨cn= "bool" ∨cn= "str")(h:Q (.bl (isB n cn)) H):WZ K [x,.ty cn] H Q:=⟨x,.ty cn,_,_,_,rfl,b.ty,rfl,C5 b cn hc,h⟩
theorem WP {i:Str}(h:Q (.bl true) H):WZ K [.str i,.ty "str"] H Q:=aBf (.str i) (.inr (.inr rfl)) h
structure ICls (K:W.Frag)(C:Addr):Prop where
 cl:Cls K C
 ha:W.findIn K (.ref C) "__class__" =some (some (.builtin "object.__class__"))
 hn:W.specialIn K (.builtin "object.__class__") "__get__" =some (some (.builtin "getset_descriptor.__get__"))
 tk:W.takesIn K (.builtin "object.__class__")=some true
 hm:W.mroIn K C (.type "object")=some true
theorem aAX (hz:z.length<=sizeLine)(h:Q (.int z.length) H):Z2 [.str z] H Q:=⟨z,rfl,hz,h⟩
theorem aAR (e:SqL K H p ys)(h:Q (.int ys.length) H):ZJ K [.ref p] H Q:=⟨p,ys,rfl,.inl e,h⟩
variable {B:Bool->Hp->Prop}
theorem aAo (h:te σ H (uF B)):QT te σ H B:=h
theorem aEK (h:te σ H (uF B)):tB te σ H B:=h
theorem aDg (h:c σ H λk H1=>if k=true then d σ H1 B else B false H1):aDw c d σ H B:=h
theorem aEs (h:c σ H λk H1=>if k=true then B true H1 else d σ H1 B):tOr c d σ H B:=h
theorem aCq (h:c σ H λk H1=>B (!k) H1):aDE c σ H B:=h
theorem aCV {b:Bool}{P:Bool->Hp->Prop}(h:P b H):uF P (.bl b) H:=⟨b,rfl,h⟩
theorem TX {A B:Prop}(h:A):if true=true then A else B:=by rw[if_pos rfl];exact h
theorem UO {A B:Prop}(h:B):if false=true then A else B:=by rw[if_neg bh];exact h
theorem aAS {A B:Prop}(h:B):if (!true)=true then A else B:=UO h
theorem aBe {A B:Prop}(h:A):if (!false)=true then A else B:=TX h
theorem aDd {p A B:Prop}[Decidable p](hp:p)(h:A):if decide p=true then A else B:=by rw[if_pos (decide_eq_true hp)];exact h
theorem aDF {p A B:Prop}[Decidable p](hp:¬p)(h:B):if decide p=true then A else B:=by rw[if_neg (by rw[decide_eq_false hp];exact bh)];exact h
theorem kC {p A B:Prop}[Decidable p](h1:p->A)(h2:¬p->B):if decide p=true then A else B:=AW (λh=>h1 (of_decide_eq_true h)) λh=>h2 λz=>h (decide_eq_true z)
variable {L:List V->Hp->Prop}{O:Option Int->Hp->Prop}{tr:TA}
theorem aCk (h:L [] H):DS σ H L:=h
theorem aAC (h:te σ H λx H1=>tr σ H1 λxs H2=>L (x::xs) H2):OX te tr σ H L:=h
theorem T9 (h:O none H):M7 σ H O:=h
theorem aAU (h:te σ H (aDB O)):aAb te σ H O:=h
theorem aCx {i:Int}(h:O (some i) H):aDB O (.int i) H:=⟨i,rfl,h⟩
variable {gs:TGs}
theorem aAp (h:q σ H):IO [] σ H q:=⟨rfl,h⟩
theorem YO (h:g v σ H λσ' H'=>gs vs σ' H' q):qX g gs (v::vs) σ H q:=⟨v,vs,rfl,h⟩
theorem aBH (e:SqT K H a vs)(hl:vs.length=n)(h:gs vs σ H q):DO K n gs (.ref a) σ H q:=⟨a,vs,rfl,e,hl,h⟩
variable {R:It->Hp->Prop}
theorem WQ (h:te σ H (aCC K R)):aAc K te σ H R:=h
theorem FO (e:SqL K H a xs)(h:R (Itl K a) H):aCC K R (.ref a) H:=⟨a,rfl,⟨xs,e⟩,h⟩
theorem YS (h:tr σ H (aDm R)):aAg tr σ H R:=h
theorem VB (h0: -4611686018427387904<=j)(h1:j<4611686018427387904)(h:R (Itr 0 j.toNat) H):aDm R [.int j] H:=⟨j,rfl,by lia,by lia,h⟩
theorem WL (h:tr σ H (aD0 R)):Z0 tr σ H R:=h
theorem TC {i:Int}(h0: -4611686018427387904<=i)(h1:i<4611686018427387904)(h2: -4611686018427387904<=j)(h3:j<4611686018427387904)(h:R (Itr i (j - i).toNat) H):aD0 R [.int i,.int j] H:=⟨i,j,rfl,⟨by lia,by lia,by lia,by lia⟩,h⟩
theorem aBh (h:te σ H (aDI R)):aCI te σ H R:=h
theorem YN (h:R (Its z) H):aDI R (.str z) H:=⟨z,rfl,h⟩
theorem eU {tb:TS}(xs:List V)(Pv:Nat->St->Hp->Prop)(h0:Pv 0 σ H)(hl:∀i σ H,i<=xs.length->Pv i σ H->SqL K H a xs)
  (hs:∀i x σ H,xs[i]? =some x->Pv i σ H->g x σ H λσ2 H2=>tb ⟨Pv (i+1),rt,nx,Pv (i+1)⟩ σ2 H2)(hd:∀σ H,Pv xs.length σ H->nx σ H):RH (Itl K a) g tb ⟨nx,rt,bk,ct⟩ σ H :=
 WF (D:=⟨nx,rt,bk,ct⟩) Pv h0 hl hs hd
theorem MO {tb:TS}(Pv:Nat->St->Hp->Prop)(h0:Pv 0 σ H)
  (hs:∀i σ H,i<n->Pv i σ H->g (.int (lo+i)) σ H λσ2 H2=>tb ⟨Pv (i+1),rt,nx,Pv (i+1)⟩ σ2 H2)(hd:∀σ H,Pv n σ H->nx σ H):RH (Itr lo n) g tb ⟨nx,rt,bk,ct⟩ σ H :=
 U4 (D:=⟨nx,rt,bk,ct⟩) Pv h0 hs hd
end
section
variable {rest:St}
theorem IY (hr:ci.map (λi=>(σ[i]?).join)=rest):bX 1 ci σ=none::rest:=by
 unfold bX;rw[hr];rfl
theorem MG (P:Nat->V->Prop)(hn:n<=sizeLine)(hr:ci.map (λi=>(σ[i]?).join)=rest)
  (hs:∀i H1,i<n->Same H H1->∀R:VK,(∀y H2,P i y->Same H1 H2->R y H2)->te (some (.int (lo+i))::rest) H1 R)
  (hf:∀ys H1,Same H H1->ys.length=n->(∀i y,ys[i]? =some y->P i y)->fin ys H1):dN (Itr lo n) (cT 0) wL te (bX 1 ci σ) fin H:=by
 rw[IY hr];refine QC (λi ys H1=>Same H H1/\ys.length=i/\∀j y,ys[j]? =some y->P j y) hn rfl ⟨Same.refl _,rfl,λj y h=>by simp at h⟩ (λi ys H1 ok=>si ok.2.1) (λys H1 ok=>hf ys H1 ok.1 ok.2.1 ok.2.2) ?_;intro i ys H1 hi ⟨s1,hl,hp⟩ R hR;refine hs i H1 hi s1 R λy H2 hy s2=>hR y H2 ⟨s1.trans s2,by simp[hl],λj z hz=> ?_⟩
 by_cases hj:j<ys.length
 .rw[ir hj]at hz;exact hp j z hz
 .rw[jh (by lia)]at hz;have hj0:j - ys.length=0:=by
   cases e:j - ys.length with
   | zero=>rfl
   | succ k=>rw[e]at hz;simp at hz
  rw[hj0]at hz;have:z=y:=by simpa using hz.symm
  subst this;have:j=i:=by lia
  subst this;exact hy
end
section
variable {rest:St}
theorem OQ {α β:Type}{xs:List α}{ys:List β}{f:α->β}(hl:ys.length=xs.length)(h:∀(i:Nat) y,ys[i]? =some y->∃x,xs[i]? =some x/\y=f x):ys=xs.map f:=by
 apply List.ext_getElem?
 intro i;rw[dk];cases e:ys[i]? with
 | none =>
  have:xs[i]? =none:=by
   rw[List.getElem?_eq_none_iff]at e ⊢
   lia
  rw[this];rfl
 | some y =>
  obtain⟨x,hx,rfl⟩:=h i y e;rw[hx];rfl
theorem W5 (f:Nat->V)(hn:n<=sizeLine)(hr:ci.map (λi=>(σ[i]?).join)=rest)
  (hs:∀i H1,i<n->Same H H1->∀R:VK,(∀H2,Same H1 H2->R (f i) H2)->te (some (.int (lo+i))::rest) H1 R)
  (hf:∀H1,Same H H1->fin ((fz n).map f) H1):dN (Itr lo n) (cT 0) wL te (bX 1 ci σ) fin H:=by
 refine MG (λi y=>y=f i) hn hr (λi H1 hi s1 R hR=>hs i H1 hi s1 R λH2 s2=>hR _ H2 rfl s2) ?_;intro ys H1 s1 hl hp;have e:ys=(fz n).map f:=by
  refine OQ (by rw[hl,List.length_range]) λi y hy=> ?_;have hi:i<n:=by
   rw[←hl];exact(ay.mp hy).1
  exact⟨i,by simp[hi],hp i y hy⟩
 rw[e];exact hf H1 s1
end
theorem Same.at {o:HO}(s:Same H H')(h:H b=some o):H' b=some o:=s b o h
def SameBut (p:Addr)(H H':Hp):Prop:=∀b o,H b=some o->b≠p->H' b=some o
theorem SameBut.upd {o:HO}:SameBut p H (upd H p o):=λb u e hb=>by rw[aJ hb];exact e
theorem SameBut.trans (a:SameBut p H H1)(b:SameBut p H1 H2):SameBut p H H2:=λc o h hc=>b c o (a c o h hc) hc
theorem Same.but (s:Same H H'):SameBut p H H':=λb o e _=>s b o e
theorem SameBut.same {H0:Hp}(n:H0 p=none)(s:Same H0 H)(b:SameBut p H H'):Same H0 H':=λc o e=>b c o (s c o e) (aO e n)
theorem aG {t:TS}{D:d6}(e:iM N vs=σ)(h:t D σ H):t D (iM N vs) H:=e▸h
theorem SameBut.refl:SameBut p H H:=λ_ _ e _=>e
theorem SameBut.snoc (b:∀c o,H1 c=some o->c≠p->H2 c=some o)(a:SameBut p H H1):SameBut p H H2:=λc o h hc=>b c o (a c o h hc) hc
theorem SameBut.snocS (b:Same H1 H2)(a:SameBut p H H1):SameBut p H H2:=λc o h hc=>b c o (a c o h hc)
theorem Same.snoc (b:Same H1 H2)(a:Same H H1):Same H H2:=a.trans b
theorem aBO {f:Str}{fs:List (Str×V)}:(cM f v fs).lookup f=some v:=by rw[mK,if_pos rfl]
theorem aEE {f g:Str}{o:Option V}{fs:List (Str×V)}(h:decide (g=f)=false)(l:fs.lookup g=o):(cM f v fs).lookup g=o:=by rw[mK,if_neg (of_decide_eq_false h)];exact l
theorem UX {f:Str}:([]:List (Str×V)).lookup f=none:=rfl
variable {fv:Array af}
section
variable {st:Stmt}{kV ct:af}{ps:List Str}
theorem lL (k:Nat){ds:List af}{sl:Array (Option af)}{items:Array af}(lt:K.lookup T=some ⟨oc,od,.seq items n,sl⟩)
  (h:∀us:List af,us.length=k->∃k,bindArgs (W.fnOf x qual (dP st) (cZ st) (aE st) (.ref T) kV doc pm an cdv ct) ⟨us,[]⟩=seqItems? (.ref T) >>= k/\k (some items)=pure (ps.zip (us++ds)))(hk:k+ds.length=ps.length:=by rfl) :
  Binds K (W.fnOf x qual (dP st) (cZ st) (aE st) (.ref T) kV doc pm an cdv ct) ps ds:=λs us hK hl=>by
 obtain⟨k,h1,h2⟩:=h us (by rw[cb]at hl;lia);exact .of_defaults (T:=T) (items:=items) (n:=n) rfl (hK T _ lt) rfl h1 h2
end
def tP (i:Int):Str:=(toString i:String)
theorem CL {m:Nat}(h:m<10^31):(jo 10 m).length<=31:=by
 have:=PySem.digitsCore_len_pow 10 (by decide) 31 (m+1) m [] (by decide) h
 simpa [jo] using this
theorem aR (s:String):(jq s).length=s.length:=by
 rw[Str.ofString_eq_toList];show (s.toList.map Char.toNat).toArray.size=_;rw[br,ao,rj]
theorem YR {i:Int}(h0: -1000000000000000000000000000000<i)(h1:i<1000000000000000000000000000000):(tP i).length<=40:=by
 unfold tP;rw[aR];cases i with
 | ofNat m =>
  show (Nat.repr m).length<=40;have:=CL (m:=m) (by have h1':((m:Nat):Int)<1000000000000000000000000000000:=h1;lia);have e:(Nat.repr m).length=(jo 10 m).length:=by rw[←rj,Nat.toList_repr]
  lia
 | negSucc m =>
  show ("-" ++Nat.repr (m+1)).length<=40;have:=CL (m:=m+1) (by have h0': -1000000000000000000000000000000< -(((m:Nat):Int)+1):=h0;lia);have e:(Nat.repr (m+1)).length=(jo 10 (m+1)).length:=by rw[←rj,Nat.toList_repr]
  rw[String.length_append];have: "-".length=1:=rfl
  lia
theorem log2_lt (h:n<2^100):n.log2<1920:=by
 by_cases h0:n=0
 .subst h0;decide
 .exact Nat.lt_trans (Nat.log2_lt h0 |>.mpr h) (by decide)
theorem aDX {i:Int}{Q:VK}(h0: -1000000000000000000000000000000<i)(h1:i<1000000000000000000000000000000)(h:(tP i).length<=40->Q (.str (tP i)) H):Z3 [.int i] H Q :=
 ⟨i,rfl,log2_lt (by lia),h (YR h0 h1)⟩
def sgB (c:Nat):Bool:=decide (97<=c)&&decide (c<=122)
def aE1 (z:Str):Bool:=z.cps.toList.all sgB
def bM (z:Str):Bool:=decide (1<=(z.length:Int))&&decide ((z.length:Int)<=8)&&aE1 z
theorem wF (h:bM z=true):z.length<=8:=by
 unfold bM at h;simp only[cq,decide_eq_true_eq]at h
 lia
theorem cO (x y:Str):(x++y).length=x.length+y.length:=by
 show (x.cps++y.cps).size=_;rw[Array.size_append];rfl
theorem DH (c:Nat):(⟨#[c]⟩:Str).length=1:=rfl
section
variable {bk:St->Hp->Prop}
end
theorem aAO {Q:VK}{i:Int}(h0:0<j)(h:0<=i%j->i%j<j->Q (.int (i%j)) H):rI (λ_ j=>0<j) (λi j=> .int (i%j)) (.int i) (.int j) H Q:=⟨i,j,rfl,rfl,h0,h (Int.emod_nonneg _ (by lia)) (Int.emod_lt_of_pos _ h0)⟩
open PySem.W
structure ExcK (K:Frag)(C:Addr):Prop where
 ga:qr K (.ref C) "__getattribute__" =some (some (.builtin "BaseException.__getattribute__"))
 gg:qr K (.ref C) "__getattr__" =some none
 cl:qr K (.ref C) "__class__" =some (some (.builtin "object.__class__"))
 so:subIn K (.ref C) (.type "object")=some true
 sb:subIn K (.ref C) (.type "BaseException")=some true
 cd:∃cd,clsIn K C=some cd
variable {ob:Obj}
section
variable {g:Array wy}{d:Drawn}{t:Nat}{os:OsState}{o:Obj}{vs:Array af}{K:Frag}
theorem fW {M:vz}(hx:h.get? a=some o)(hc:o.cls= .ref C)(hd:o.data= .fields vs):Looks M h (xg (.ref a)) (.ref C):=by
 have L:Looks M h (xg (.ref a)) o.cls:=by
  refine(Looks.ld hx).andThen ?_;exact .now
 rw[hc]at L;exact L
theorem GK (X:K.In h)(k:ExcK K C)(hx:h.get? a=some o)(hc:o.cls= .ref C)(hd:o.data= .fields vs)(hq:R (.ok (.ret (.ref C))) ⟨h,g,d,t,os⟩):
  iu (be prog w) A (.call (.builtin "getset_descriptor.__get__") ⟨[.builtin "object.__class__",.ref a,.ref C],[]⟩) R ⟨h,g,d,t,os⟩:=by
 have hT5:(⟨h,g,d,t,os⟩:aj).TypeIs (.builtin "object.__class__") "getset_descriptor" :=F.typeOf_object_class;have L0:=fW (M:=be prog w) hx hc hd;have L1:Looks (be prog w) h (isSubtype (.ref C) (.type (".".intercalate ("object.__class__".cutAt '.').dropLast))) true:=by rw[F.owner_object_class];exact looks_subIn X k.so
 refine jr F.slot_gs_get.plain F.entry_gs_get (F.slot_gs_get.check _ _ _ _ _ _ _ _ hT5 (F.args_gs_get _ _ _) ?_)
 repeat (any_goals (first|assumption|(with_reducible refine L0.at ?_)|(with_reducible refine L1.at ?_)|wp_step))
 refine⟨tm _ (by decide +kernel),wc F.entry_object_class ?_⟩
 repeat (any_goals (first|assumption|(with_reducible refine L0.at ?_)|wp_step))
theorem BV {Q:Fin->aj->Prop}(X:K.In h)(k:ExcK K C)(hx:h.get? a=some o)(hc:o.cls= .ref C)(hd:o.data= .fields vs)(hq:Q (.done (.ret (.ref C))) ⟨h,g,d,t,os⟩):
  ax (be prog w) A (nq.«object.__getattribute__» ⟨[.ref a,.str "__class__" tk],[]⟩) Q E ⟨h,g,d,t,os⟩:=by
 have hT5:(⟨h,g,d,t,os⟩:aj).TypeIs (.builtin "object.__class__") "getset_descriptor" :=F.typeOf_object_class;have L0:=fW (M:=be prog w) hx hc hd;have L1:=mq (M:=be prog w) X k.cl;have f5:=F.typeOf_object_class;have f6:=F.slot_gs_get.lookup;have f7:=F.slot_gs_set.lookup
 repeat (any_goals (first|assumption|(with_reducible refine L0.at ?_)|(with_reducible refine L1.at ?_)|wp_step))
 refine GK X k hx hc hd ?_
 repeat (any_goals (first|assumption|wp_step))
theorem xD {M:vz}{nameV:af}{Q:Unit->aj->Prop}(X:K.In h)(k:ExcK K C)(hx:h.get? a=some o)(hc:o.cls= .ref C)(hd:o.data= .fields vs)(hq:Q () ⟨h,g,d,t,os⟩):
  ax M A (checkBuiltinCall "BaseException.__getattribute__" ⟨[.ref a,nameV],[]⟩) Q E ⟨h,g,d,t,os⟩:=by
 have hk:builtinKind "BaseException.__getattribute__" =some .slot:=by decide +kernel
 have hsplit:splitId "BaseException.__getattribute__" =some ("BaseException","__getattribute__"):=by decide +kernel
 have ha:=F.args_bexc_ga (.ref a) nameV;have L0:=fW (M:=M) hx hc hd;have L1:=looks_subIn (M:=M) X k.sb;simp only[checkBuiltinCall,hk,hsplit];refine aa ?_
 .unfold isInstance
  repeat (first|(with_reducible refine L0.at ?_)|(with_reducible refine L1.at ?_)|wp_step)
  exact hq
theorem DQ (X:K.In h)(k:ExcK K C)(hx:h.get? a=some o)(hc:o.cls= .ref C)(hd:o.data= .fields vs)(hq:R (.ok (.ret (.ref C))) ⟨h,g,d,t,os⟩):
  iu (be prog w) A (.call (.builtin "BaseException.__getattribute__") ⟨[.ref a,.str "__class__" tk],[]⟩) R ⟨h,g,d,t,os⟩ :=
 jr F.excAttr_ValueError.ga.plain F.entry_bexc_ga (xD X k hx hc hd (BV X k hx hc hd hq))
theorem KI {fill expr:Bool}{Q:af->aj->Prop}(X:K.In h)(k:ExcK K C)(hx:h.get? a=some o)(hc:o.cls= .ref C)(hd:o.data= .fields vs)(hq:Q (.ref C) ⟨h,g,d,t,os⟩):
  ax (be prog w) A (getAttrBy (.ref a) (.str "__class__" tk) fill expr) Q E ⟨h,g,d,t,os⟩:=by
 have L0:=fW (M:=be prog w) hx hc hd;have L1:=mq (M:=be prog w) X k.ga;have L2:=mq (M:=be prog w) X k.gg;have f3:=F.excAttr_ValueError.ga.bind (.ref a);have hx0:(expr&&onTheHeap (iw "BaseException.__getattribute__"))=false:=by cases expr<;>rfl
 have hx2:(iw "BaseException.__getattribute__" ==iw "object.__getattribute__")=false:=by decide +kernel
 have hx1:(onTheHeap (av C)&&iw "BaseException.__getattribute__" ==iw "object.__getattribute__")=false:=by rw[hx2];rfl
 repeat (any_goals (first|assumption|(with_reducible refine L0.at ?_)|(with_reducible refine L1.at ?_)|(with_reducible refine L2.at ?_)|wp_step))
 refine DQ X k hx hc hd ?_
 repeat (any_goals (first|assumption|wp_step))
theorem D4 {Q:Option af->aj->Prop}(X:K.In h)(k:ExcK K C)(hx:h.get? a=some o)(hc:o.cls= .ref C)(hd:o.data= .fields vs)(hq:Q (some (.ref C)) ⟨h,g,d,t+1,os⟩):
  ax (be prog w) A (getAttr? (.ref a) "__class__") Q E ⟨h,g,d,t,os⟩:=by
 unfold getAttr? getAttrBy?
 repeat (any_goals (first|assumption|with_reducible apply KI X k hx hc hd|wp_step))
end
def rN (a C:Addr)(h:Heap):Prop:=∃o vs,h.get? a=some o/\o.cls= .ref C/\o.data= .fields vs
theorem AJ {K:Frag}(k:ExcK K C):KitX K (.ref a) (.ref C) (rN a C) where
 ty:=λM h X ⟨o,vs,hx,hc,hd⟩=>fW hx hc hd
 it:=λ_ _ X _=>by
  obtain⟨cd,hcD⟩:=k.cd;unfold clsIn at hcD
  split at hcD
  .rename_i c' d' cd' sl' ho;intro A' Q' E' s' k q;unfold isType loadHead;exact aa (wpAny_loadPart (k _ _ (X _ _ ho)) (ai q))
  .cases hcD
 ne:=λh tp dd its n sl X htp=>by
  obtain⟨cd,hcD⟩:=k.cd;refine Bool.eq_false_iff.mpr λq=> ?_;have e:C=tp:=av.inj (beq_iff_eq.mp q);subst e;unfold clsIn at hcD
  split at hcD
  .rename_i c' d' cd' sl' ho;have z:=(X _ _ ho).symm.trans htp;cases z
  .cases hcD
 ca:=λ{_ _ _ _ _ s} X ⟨o,vs,hx,hc,hd⟩ q=>by
  obtain⟨h,g,d,t,os⟩:=s;exact D4 X k hx hc hd q
def PN (h base:Heap)(ea:Addr)(cls:af)(dd:Option Addr)(a0:af×af):Prop :=
 ∃ob fv tb tbo tv,h.get? ea=some ob/\ob.cls=cls/\ob.dict=dd/\(fv[0]? =some a0.1/\fv[2]? =some a0.2)/\ob.data= .fields fv/\fv[1]? =some (.ref tb)/\base.get? tb=none/\tb≠ea/\h.get? tb=some tbo/\tbo.data= .fields tv/\tv[3]? =some .none
def RM (base:Heap)(l:List Env)(ea:Addr)(cls:af)(dd:Option Addr)(a0:af×af)(h h':Heap):Prop :=
 base.StaysIn h'/\h'.FunFrames base l/\PN h' base ea cls dd a0/\h.UpToSlots h'
theorem xC (ob:Obj)(g):(ob.mapFields g).dict=ob.dict:=by
 obtain⟨c,d,dt,sl⟩:=ob;cases dt<;>rfl
variable {a0:af×af}{outer:List Env}
section
variable {M:vz}{L:Addr}{Q:Unit->aj->Prop}
theorem CW {nx:Bool}(hfr:A.frames=some (env::outer))(ff:s.heap.FunFrames base (env::outer))(hL:env.frame=some L)(go:s.heap.get? ea=some ob)(st:base.StaysIn s.heap)
  (nb:base.get? ea=none)(hdt:ob.data= .fields fv)(hz:1<fv.size)(h0:fv[0]? =some a0.1/\fv[2]? =some a0.2)(k:∀h',RM base (env::outer) ea ob.cls ob.dict a0 s.heap h'->Q () { s with heap:=h' }) :
  ax M A (do let a ←frameOf env;let pl ←entryPlaceOf L nx;let b ←my hd0 a .none (rawInt L) .none pl;tq (.ref ea) 1 b) (λ_ s'=>ax M A (sv (.ref ea) none) Q E s') E s:=by
 have nin:ea∉(env::outer).filterMap (·.frame):=λhm=>by
  obtain⟨_,o,ho,hnf⟩:=ff.mem hm;rw[go]at ho;cases ho;exact hnf fv hdt
 refine aa (wpAny_frameOf_fun hfr ff hL λhA sA=>aa (wpAny_entryPlaceOf λpl hpl=> ?_));unfold my newFields;refine aa (fu ?_ (hpl.sizeOk5 _ _ _ _ _));have gA:hA.get? ea=some ob:=(sA.2.1 ea nin).trans go;have stA:base.StaysIn hA:=λb o q=>(sA.2.1 b λhm=>by rw[(ff.mem hm).1]at q;cases q).trans (st b o q);generalize hN:({ cls:= .type "traceback",dict:=none,data:= .fields ([hd0,.ref L,.none,rawInt L,.none]++(if pl.isEmpty then oy 6 bw else pl)).toArray }:Obj)=nob;have hNd:∃tv,nob.data= .fields tv/\3<tv.size:=by
  rw[←hN];exact⟨_,rfl,by simp only[br,cb,cv,ip];lia⟩
 obtain⟨tv,hNd,hNs⟩:=hNd;have gB:(hA.push nob).get? ea=some ob:=ae nob gA;refine fq gB hdt hz ?_;have tne:hA.objs.size≠ea:=km (ag gA);have dC:=cu hdt (·.setIfInBounds 1 (av hA.objs.size));have gC:=ck (cc (·.setIfInBounds 1 (av hA.objs.size))) gB (df dC);have tC:((hA.push nob).update ea (cc (·.setIfInBounds 1 (av hA.objs.size)))).get? hA.objs.size=some nob:=(bf _ _ (dg tne)).trans (aw hA (df hNd));unfold sv;refine aa (cw gC dC (x:= .ref hA.objs.size) (by simp[hz]) ?_);rw[if_pos (show (av hA.objs.size !=bw)=true from by simp)];refine fq tC hNd hNs (k _ ?_);generalize hF:((hA.push nob).update ea (cc (·.setIfInBounds 1 (av hA.objs.size)))).update hA.objs.size _=hX;have keepF:∀b o,b≠ea->hA.get? b=some o->hX.get? b=some o:=λb o hb q=>by
  rw[←hF,bf _ _ (km (ag q)),bf _ _ (dg hb)];exact ae _ q
 have norec:∀b o,s.heap.get? b=some o->(∀vs,o.data≠ .fields vs)->b≠ea:=λb o q hnf z=>by
  rw[z,go]at q;cases q;exact hnf fv hdt
 refine⟨λb o q=>keepF b o (λz=>by rw[z,nb]at q;cases q) (stA b o q),ff.of_keeps λb o q hnf=> ?_,?_,λb o q hnf=> ?_⟩
 .obtain⟨sl,hs⟩:=sA.2.2 b o q;exact⟨_,keepF b _ (norec b o q hnf) hs,rfl⟩
 .refine⟨_,_,hA.objs.size,_,_,by rw[←hF,bf _ _ tne];exact gC,js _ _,xC _ _,⟨by rw[iq (by decide)];exact h0.1,by rw[iq (by decide)];exact h0.2⟩,dC,by simp[hz],stA.fresh,tne,
   by rw[←hF];exact ck _ tC (df (cu hNd _)),cu hNd _,?_⟩
  simp[hNs]
 .obtain⟨sl,hs⟩:=sA.2.2 b o q;exact⟨sl,keepF b _ (norec b o q hnf) hs⟩
theorem v7 (hfr:A.frames=some (env::outer))(ff:s.heap.FunFrames base (env::outer))(hL:env.frame=some L)(go:s.heap.get? ea=some ob)(st:base.StaysIn s.heap)(nb:base.get? ea=none)
  (hdt:ob.data= .fields fv)(h1:fv[1]? =some .none)(h0:fv[0]? =some a0.1/\fv[2]? =some a0.2)(k:∀h',RM base (env::outer) ea ob.cls ob.dict a0 s.heap h'->Q () { s with heap:=h' }):ax M A (lx env (.ref ea)) Q E s:=by
 unfold lx ka;simp only[hL];refine aa (aa (cw go hdt h1 ?_));rw[if_neg (by decide)];exact CW hfr ff hL go st nb hdt (dj.mp h1).1 h0 k
theorem LQ (hfr:A.frames=some (env::outer))(ff:s.heap.FunFrames base (env::outer))(hL:env.frame=some L)(tr:PN s.heap base ea cls dd a0)(st:base.StaysIn s.heap)(nb:base.get? ea=none)
  (k:∀h',RM base (env::outer) ea cls dd a0 s.heap h'->Q () { s with heap:=h' }):ax M A (lx env (.ref ea)) Q E s:=by
 obtain⟨ob,fv,tb,tbo,tv,go,ec,ed,h0,hdt,h1,nT,tne,gT,dT,h3⟩:=tr;subst ec ed;unfold lx ka;simp only[hL];refine aa (aa (cw go hdt h1 ?_));rw[if_pos (show (av tb !=bw)=true from by simp)];refine aa (cw gT dT h3 ?_);rw[if_neg (show ¬((bw==rawInt L)=true) from by simp[rawInt])];refine aa (fq gT dT (dj.mp h3).1 ?_);have oth:∀b,b≠tb->(s.heap.update tb (cc (·.setIfInBounds 3 bw))).get? b=s.heap.get? b:=λb hb=>bf _ _ (dg hb);have norec:∀b o,s.heap.get? b=some o->(∀vs,o.data≠ .fields vs)->b≠tb:=λb o q hnf z=>by
  rw[z,gT]at q;cases q;exact hnf tv dT
 refine CW hfr (ff.of_keeps λb o q hnf=>⟨o,(oth b (norec b o q hnf)).trans q,rfl⟩) hL ((oth ea (dg tne)).trans go) (λb o q=>(oth b λz=>by rw[z,nT]at q;cases q).trans (st b o q)) nb hdt (dj.mp h1).1 h0 λh' ⟨x1,x2,x3,x4⟩=> ?_;exact k h' ⟨x1,x2,x3,λb o q hnf=>x4 b o ((oth b (norec b o q hnf)).trans q) hnf⟩
def FlyD (base:Heap)(l:List Env)(ea:Addr)(cls:af)(dd:Option Addr)(a0:af×af)(h:Heap):Prop:=base.StaysIn h/\base.get? ea=none/\h.FunFrames base l/\PN h base ea cls dd a0
theorem FlyD.there {l:List Env}(x:FlyD base l ea cls dd a0 h):∃ob fv,h.get? ea=some ob/\ob.cls=cls/\ob.dict=dd/\ob.data= .fields fv/\fv[2]? =some a0.2:=by
 obtain⟨_,_,_,ob,fv,_,_,_,go,ec,ed,h0,hdt,_⟩:=x;exact⟨ob,fv,go,ec,ed,hdt,h0.2⟩
theorem BM (hfr:A.frames=some (env::outer))(hL:env.frame=some L)(fl:FlyD base (env::outer) ea cls dd a0 s.heap)(k:∀h',FlyD base outer ea cls dd a0 h'->s.heap.UpToSlots h'->Q () { s with heap:=h' }):
  ax M A (lx env (.ref ea)) Q E s:=by
 obtain⟨f1,f2,f3,f4⟩:=fl;refine LQ hfr f3 hL f4 f1 f2 λh' hl=> ?_;obtain⟨k1,⟨_,_,k2⟩,k3,k4⟩:=hl;exact k h' ⟨k1,f2,k2,k3⟩ k4
theorem JL {args:List af}(hfr:A.frames=some (env::outer))(hL:env.frame=some L)(st:base.StaysIn h)(ff:h.FunFrames base (env::outer))(m:ph h s.heap ea cls args)
  (k:∀h' t,FlyD base outer ea cls none (.ref t,.none) h'->s.heap.UpToSlots h'->Q () { s with heap:=h' }):ax M A (lx env (.ref ea)) Q E s:=by
 obtain⟨t,go,_,_⟩:=m.there;have nb:base.get? ea=none:=by
  cases q:base.get? ea with
  | none=>rfl
  | some o =>
   have z:=st ea o q;rw[m.new]at z;cases z
 refine v7 (a0:=(.ref t,.none)) hfr (ff.of_keeps λb o q _=>⟨o,m.keeps b o q,rfl⟩) hL go (λb o q=>m.keeps b o (st b o q)) nb rfl rfl ⟨rfl,rfl⟩ λh' hl=> ?_;obtain⟨k1,⟨_,_,k2⟩,k3,k4⟩:=hl;exact k h' t ⟨k1,nb,k2,k3⟩ k4
end
section
variable {o:HO}
theorem ObjOk.there (x:ObjOk P w H h a o):∃ob,h.get? a=some ob:=by
 cases o with
 | lst xs=>obtain⟨_,_,_,_,e⟩:=x;exact⟨_,e⟩
 | tup xs=>obtain⟨_,_,_,ob,e,_⟩:=x;exact⟨_,e⟩
 | dK kvs=>obtain⟨_,_,_,_,o,_,_,e,_⟩:=x;exact⟨_,e⟩
 | dT kvs=>obtain⟨_,_,_,_,o,_,_,e,_⟩:=x;exact⟨_,e⟩
 | set S n=>obtain⟨o,_,_,_,e,_⟩:=x;exact⟨_,e⟩
 | ins C dx fs=>obtain⟨_,_,_,e,_⟩:=x;exact⟨_,e⟩
 | own y=>exact x
 | xd fs=>obtain⟨_,⟨_,_,_,e,_⟩,_⟩:=x;exact⟨_,e⟩
 | rng lo hi=>obtain⟨_,_,_,e⟩:=x;exact⟨_,e⟩
 | frz ob u=>obtain⟨e,_⟩:=x;exact⟨_,e⟩
 | tbl ps=>exact⟨_,(show h.get? a=some _ from x)⟩
 | met f y=>exact⟨_,(show h.get? a=some _ from x)⟩
 | ext φ=>obtain⟨_,e,_⟩:=x;exact e
end
def CXE (P:ef)(w:gd):CXT:=λouter H s E e s' =>
 ∃ea cls dd,∃a0:af,∃H' B,e= .ref ea/\s'.os=s.os/\qw s'.gens/\Un (frs outer) [] H H' s.heap s'.heap/\HOk P w H' s'.heap/\H' ea=none/\s.heap.get? ea=none ∧
  FlyD B outer ea cls dd (a0,.none) s'.heap/\(∀b,(H' b≠none∨∃o,s.heap.get? b=some o)->b∉frs outer->∃o,B.get? b=some o)/\E cls dd H'
section
variable {s1:aj}{h2 B:Heap}
theorem IB (I:Inv X pins σ H s)(hex:X.ex=[])(st:B.StaysIn h2)(sb:B.StaysIn s.heap)(up:s.heap.UpToSlots h2)(cov:∀b,(H b≠none∨∃o,X.s₀.heap.get? b=some o)->b∉frs X.stack->∃o,B.get? b=some o)(hst:X.stack=X.env::X.outer)(hf:X.env.frame=some X.env.locals):
  Un X.fs [] X.H₀ H X.s₀.heap h2/\HOk X.prog X.w H h2:=by
 have hfr:∀b,b∈frs X.stack->b=X.env.locals∨b∈X.fs:=λb hb=>ba.mp (I.stkSub b hb);have nloc:∀b o,X.s₀.heap.get? b=some o->b≠X.env.locals:=λb o q z=>by
  have e1:=au (ag q) I.ok.above;rw[z]at e1;exact bt _ e1
 have same:∀b o,(H b≠none∨∃o,X.s₀.heap.get? b=some o)->b∉frs X.stack->s.heap.get? b=some o->h2.get? b=some o:=λb o hc hb q=>by
  obtain⟨o',e⟩:=cov b hc hb;have e1:=sb b o' e;rw[q]at e1;cases e1;exact st b _ e
 have ub:=I.base;rw[hex]at ub;refine⟨⟨λb o q n hb _=> ?_,λb o q n hb _=> ?_,λb o q n _=>ub.free b o q n (by simp),λb o q _=> ?_,ub.tups,ub.frzs,ub.tbls⟩,λb u e=> ?_⟩
 .have q1:=ub.keep b o q n hb (by simp);exact same b o (.inr ⟨o,q⟩) (λz=>(hfr b z).elim (nloc b o q) hb) q1
 .obtain⟨sl,q1⟩:=ub.slot b o q n hb (by simp);obtain⟨_,o',ho',hd⟩:=I.funs.mem hb;have hd1:∀vs,({ o with slots:=sl }:Obj).data≠ .fields vs:=λvs z=>by
   rw[q1]at ho';cases ho';exact hd vs z
  obtain⟨sl2,q2⟩:=up b _ q1 hd1;exact⟨sl2,q2⟩
 .obtain⟨o1,q1⟩:=ub.there b o q (by simp)
  by_cases hb:b∈frs X.stack
  .obtain⟨_,o',ho',hd⟩:=I.stack.mem hb;rw[q1]at ho';cases ho';obtain⟨sl2,q2⟩:=up b _ q1 hd;exact⟨_,q2⟩
  .exact⟨o1,same b o1 (.inr ⟨o,q⟩) hb q1⟩
 .refine(I.hok b u e).stay (λc v hc q=> ?_) (λ_ q=>q) λ_ _ q=>q;have hn:H c≠none:=by
   rcases hc with z|z
   .rw[z,e];simp
   .rw[z];simp
  exact same c v (.inl hn) (λz=>hn (I.stkFree c z)) q
end
theorem b9 {f:Addr}{E:XK}:
  c7 (CXE P w) (c6 (CXE P w) P w K mg base N qual scope f cd A outer s₀ H₀ E) E:=by
 intro pins σ H s e s' I h;obtain⟨ea,cls,dd,a0,H',B,rfl,os,bare,un,hok,hn,new,fl,cov,q⟩:=h;have I':=I.call' (ch:=[]) os un hok bare (λb z=>absurd z (by simp));have there:∀b o,s₀.heap.get? b=some o->∃o',s.heap.get? b=some o':=λb o e=>I.base.there b o e (λz=>absurd (show b∈([]:List Addr) from z) (by simp));show ax _ _ (lx _ _) _ _ s';refine BM (I.ok.frames) rfl fl λh2 fl2 up=> ?_;obtain⟨un2,hok2⟩:=IB (B:=B) (h2:=h2) I' rfl fl2.1 fl.1 up (λb hb hs=>cov b (hb.imp id λ⟨o,e⟩=>there b o e) hs) rfl rfl;refine⟨ea,cls,dd,a0,H',B,rfl,I'.os,bare,un2,hok2,hn,?_,fl2,λb hb hs=>cov b (hb.imp id λ⟨o,e⟩=>there b o e) λz=> ?_,q⟩
 .cases e:s₀.heap.get? ea with
  | none=>rfl
  | some o =>
   obtain⟨o',e'⟩:=there ea o e;rw[new]at e';cases e'
 .rcases ba.mp (I.stkSub b z) with e|hb'
  .rcases hb with hb|⟨o,e2⟩
   .exact hb (by rw[e];exact I'.free)
   .have e1:=au (ag e2) I.ok.above;rw[e]at e1;exact bt _ e1
  .exact hs hb'
theorem RQ {f:Addr}{E:XK}
  {pins:List (Addr×Obj)}{σ:St}{H:Hp}{s1:aj}{h':Heap}{ea:Addr}{cls:af}{args:List af} (I:Inv (c6 (CXE P w) P w K mg base N qual scope f cd A outer s₀ H₀ E) pins σ H s1)
  (m:ph s1.heap h' ea cls args)(q:E cls none H):(c6 (CXE P w) P w K mg base N qual scope f cd A outer s₀ H₀ E).xe (.ref ea) { s1 with heap:=h' }:=by
 have there:∀b o,s₀.heap.get? b=some o->∃o',s1.heap.get? b=some o':=λb o e=>I.base.there b o e (λz=>absurd (show b∈([]:List Addr) from z) (by simp));have hin:∀env∈(c6 (CXE P w) P w K mg base N qual scope f cd A outer s₀ H₀ E).stack,∀b,env.frame=some b->b∈frs (c6 (CXE P w) P w K mg base N qual scope f cd A outer s₀ H₀ E).stack:=λenv he b hb=>ko.mpr ⟨env,he,hb⟩;have hk:(ma s1.heap (frs (c6 (CXE P w) P w K mg base N qual scope f cd A outer s₀ H₀ E).stack)).StaysIn s1.heap:=λb o e=>yi _ e;have cov:∀b,(H b≠none∨∃o,s₀.heap.get? b=some o)->b∉frs (c6 (CXE P w) P w K mg base N qual scope f cd A outer s₀ H₀ E).stack →
   ∃o,(ma s1.heap (frs (c6 (CXE P w) P w K mg base N qual scope f cd A outer s₀ H₀ E).stack)).get? b=some o:=λb hb hs=>by
  have:∃o,s1.heap.get? b=some o:=by
   rcases hb with hb|⟨o,e⟩
   .cases e:H b with
    | none=>exact absurd e hb
    | some u=>exact(I.hok b u e).there
   .exact there b o e
  obtain⟨o,e⟩:=this;exact⟨o,xi _ e hs⟩
 show ax _ _ (lx _ _) _ _ _;refine JL (s:={ s1 with heap:=h' }) (h:=s1.heap) (base:=ma s1.heap (frs (c6 (CXE P w) P w K mg base N qual scope f cd A outer s₀ H₀ E).stack)) (I.ok.frames) rfl hk (xj I.stack hin) m λh2 t fl up=> ?_;have up2:s1.heap.UpToSlots h2:=(Heap.UpToSlots.of_keeps m.keeps).trans up;obtain⟨un2,hok2⟩:=IB (h2:=h2) I rfl fl.1 hk up2 cov rfl rfl;have hn:H ea=none:=by
  cases e:H ea with
  | none=>rfl
  | some u =>
   obtain⟨o,e2⟩:=(I.hok ea u e).there;rw[m.new]at e2;cases e2
 refine⟨ea,cls,none,.ref t,H,_,rfl,I.os,I.bare,un2,hok2,hn,?_,fl,λb hb hs=>cov b hb λz=> ?_,q⟩
 .cases e:s₀.heap.get? ea with
  | none=>rfl
  | some o =>
   obtain⟨o',e'⟩:=there ea o e;rw[m.new]at e';cases e'
 .rcases ba.mp (I.stkSub b z) with e|hb'
  .rcases hb with hb|⟨o,e2⟩
   .exact hb (by rw[e];exact I.free)
   .have e1:=au (ag e2) I.ok.above;rw[e]at e1;exact bt _ e1
  .exact hs hb'
def TL (X:Cx)(E:XK):Prop:=∀(pins:List (Addr×Obj)) (σ:St) (H:Hp) (s1:aj) (h':Heap) (ea:Addr) (cls:af) (args:List af),Inv X pins σ H s1->ph s1.heap h' ea cls args->E cls none H->X.xe (.ref ea) { s1 with heap:=h' }
theorem eS {f:Addr}{E:XK}:
  TL (c6 (CXE P w) P w K mg base N qual scope f cd A outer s₀ H₀ E) E:=λ_ _ _ _ _ _ _ _ I m q=>RQ I m q
abbrev bmV:List af:=[.type "ValueError",.type "Exception",.type "BaseException",.type "object"]
abbrev uS (K:W.Frag)(C:Addr):Prop:=excIn K C bmV "ValueError.__new__" =true
theorem NG {K:Frag}{h₀:Heap}{bmB:List af}{newId:String}(X:K.In h₀)(q:excIn K C bmB newId=true):
  ∃bm N nm q bs hdct sn sub ab col dd k0 k1 k2 k3 k5 mN,h₀.get? C=some (oh nm q C N bs bm hdct sn sub ab col dd k0 k1 k2 k3 k5 newId)/\h₀.Ns N mN/\mN "__init__" =none/\OwnTail h₀ bmB bm:=by
 unfold excIn at q
 split at q
 .rename_i dd cd sl ho
  split at q
  .rename_i C' bm k0 k1 k2 k3 n k5 hm hs;simp only[cq,beq_iff_eq,pj]at q;obtain⟨⟨⟨⟨⟨rfl,rfl⟩,hdel⟩,ht⟩,hok⟩,hni⟩:=q;obtain⟨nm,bs,mro,ns,qn,hd,sn,sub,ab,col,del⟩:=cd
   dsimp only at hm hdel hok hni
   subst hm hdel;have hsl:sl= #[k0,k1,k2,k3,some (.builtin n),k5]:=by
    obtain⟨l⟩:=sl;simp only at hs;rw[hs]
   subst hsl;exact⟨bm,ns,nm,qn,bs,hd,sn,sub,ab,col,dd,k0,k1,k2,k3,k5,_,X _ _ ho,.of_isNs (isNs_of_in X hok),nsMap_none_of_in X hok hni,tail_of_in X ht⟩
  .cases q
 .cases q
section
variable {E:XK}{cpos:Pos}{t:TA}
def SN (C:Addr)(E:XK)(t:TA):TS:=λD σ H=>t σ H λvs H1=>vs.length<=sizeLine/\E (.ref C) none H1
theorem cX (hm:X.mg x=some (.ref C))(hc:uS X.K C)(hx:TL X E)(ha:PA X (e::es) t)(cm:X.calm=true:=by rfl)(hg:Gl X x:=by rfl)(hdb:(x==("__debug__" :Str))=false:=by decide)
  (he:az (e::es) X.env=(false,eval e X.env)::az es X.env:=by rfl)(hpl:(fh cpos (az es X.env)).any (·.1)=false:=by rfl) :
  PS X (.Raise (some (.Call (.Name x np) (e::es) [] cpos)) none pos) (SN C E t):=by
 intro pins s σ H D I h;obtain⟨tl,N,nm,q,bs,hdct,sn,sub,ab,col,dd,k0,k1,k2,k3,k5,mN,hC,hN,hni,T⟩:=NG I.ok.mod.kin hc;refine wpAny_Raise_call_subT (C:=C) (nm:=nm) (q:=q) (N:=N) (bs:=bs) (bm:=tl) (hdct:=hdct) (sn:=sn) (sub:=sub) (ab:=ab) (col:=col) (dd:=dd) (k0:=k0) (k1:=k1) (k2:=k2) (k3:=k3) (k5:=k5)
  gn (mN:=mN) (T.hasType gn.hasBase) (I.ok.hd cm) (by rw[he];show (false||(fh cpos (az es X.env)).any (·.1))=false;rw[hpl];rfl) hni (dH I hg hm ⟨rfl,?_⟩ hdb)
 have hh:=ha cpos pins s σ H _ I h;rw[he]at hh ⊢;refine jm (bu hh (λvs s₂ h₂=> ?_) λ_ _ y=>y);obtain⟨us,H2,I2,r,z,q2⟩:=h₂;exact⟨rfl,by rw[←r.length];exact z,I2.bk _ _ hC,hN.keeps I2.bk,T.keeps I2.bk,λh' ea m=>hx pins σ H2 s₂ h' ea _ _ I2 m q2⟩
end
structure FcE (P:ef)(w:gd)(K:W.Frag)(mg:Str->Option af)(base:Heap)(x:Str)(k:Nat)(ps:List Str)(sp:Sp):Prop where
 ex:∃f fd,mg x=some (.ref f)/\W.keepIn K (.ref f)=true/\Binds K fd ps []/\aP P w K mg base (CXE P w) k f fd ps sp
structure McE (P:ef)(w:gd)(K:W.Frag)(mg:Str->Option af)(base:Heap)(C:Addr)(nm:Str)(k:Nat)(sp:Sp):Prop where
 ex:∃f fd ps,Cls K C/\Meth K C nm f/\Binds K fd ps []/\aP P w K mg base (CXE P w) k f fd ps sp
structure KcE (P:ef)(w:gd)(K:W.Frag)(mg:Str->Option af)(base:Heap)(x:Str)(C:Addr)(k:Nat)(dvs:List V)(sp:Sp):Prop where
 ex:∃f fd ps ds,mg x=some (.ref C)/\Mk K C f/\Vals dvs ds/\Binds K fd ps ds/\aP P w K mg base (CXE P w) k f fd ps sp
section
variable {k:Nat}{p:Pos}{o:Expr}{t:TA}{E:XK}{ps:List Str}
theorem cB (F:FcE X.prog X.w X.K X.mg X.base x k ps sp)(hr:Room k' X.A)(hx:c7 (CXE X.prog X.w) X E)(ha:PA X (e::es) t)(hk:k<=k':=by decide)(hg:Gl X x:=by rfl)
  (hdb:(x==("__debug__" :Str))=false:=by decide)(he:az (e::es) X.env=(false,eval e X.env)::az es X.env:=by rfl)(hpl:(fh pos (az es X.env)).any (·.1)=false:=by rfl) :
  PE X (.Call (.Name x p) (e::es) [] pos) (jZ sp [] E t):=by
 obtain⟨f,fd,hm,kp,b,G⟩:=F.ex;exact yI G (hr.mono hk) hg hm kp b .nil hx ha hdb he hpl
theorem jT (F:KcE X.prog X.w X.K X.mg X.base x C k dvs sp)(hr:Room k' X.A)(hx:c7 (CXE X.prog X.w) X E)(ha:PA X (e::es) t)(hk:k+1<=k':=by decide)(hg:Gl X x:=by rfl)
  (hdb:(x==("__debug__" :Str))=false:=by decide)(he:az (e::es) X.env=(false,eval e X.env)::az es X.env:=by rfl)(hpl:(fh pos (az es X.env)).any (·.1)=false:=by rfl) :
  PE X (.Call (.Name x p) (e::es) [] pos) (tN C sp dvs E t):=by
 obtain⟨f,fd,ps,ds,hm,M,hd,hb,G⟩:=F.ex;exact NE M G (hr.mono hk) hg hm hb hd hx ha hdb he hpl
def aB8 (M:Addr->Sp->Prop)(m:Str)(E:XK)(ta:TE)(t:TA):TE:=λσ H Q=>ta σ H λx H1=>∃a C dx fs sp,x= .ref a/\H1 a=some (.ins C dx fs)/\fs.lookup m=none/\M C sp/\t σ H1 λvs H2=>sp (x::vs) H2 Q E
theorem CT (k:Nat){pl:Sem Bool}(hr:Room k' X.A)(hx:c7 (CXE X.prog X.w) X E)(ho:PE X o ta)(ha:PA X (e::es) t)(hk:k<=k':=by decide)
  (hst:az (e::es) X.env=(false,eval e X.env)::az es X.env:=by rfl)(hpl:(fh pos (az es X.env)).any (·.1)=false:=by rfl)
  (ht:eval (.Call (.Attribute o m apos) (e::es) [] pos) X.env=(do
   let ov ←eval o X.env
   xr apos.atName
   let (f,first) ←vt [ov] (ql ov m pl)
   tj pos f first (fh pos (az (e::es) X.env)) (ri pos (kh [] X.env))):=by rfl) :
  PE X (.Call (.Attribute o m apos) (e::es) [] pos) (aB8 (λC sp=>McE X.prog X.w X.K X.mg X.base C m k sp) m E ta t):=by
 intro pins s σ H Q I h;refine W.methodCall_KW (pl:=pl) (thn (ho pins s σ H _ I h) λu s1 ⟨x,H1,I1,rx,a,C,dx,fs,sp,ex,ea,l,M,q⟩=> ?_) ht;subst ex;obtain rfl:u=av a:=rx;obtain⟨f,fd,ps,c,hm,hb,F⟩:=M.ex;refine oR I1 ea c hm l ?_;refine W.callWith_K (first:=[.ref a]) (h₀:=X.base) I.ok.mod.kin hm.kp (thn (ha pos pins s1 σ H1 _ I1 q) λus s2 ⟨vs,H2,I2,r,q2⟩=>⟨I2.kIn,?_⟩) hst hpl;exact tL (us:= .ref a::us) (vs:= .ref a::vs) (dvs:=[]) F (hr.mono hk) hb .nil hx I2 (.cons rfl r) (by rw[gw];exact q2)
end
theorem FunV.okE {st:Stmt}{f:Addr}{ps:List Str}{k:Nat}(F:FunV K x qual st f fd)(S:aK N ps (aE st))(len:∀vs H Q E,sp vs H Q E->vs.length=ps.length)
  (hbody:∀(cdv:af) (A:jx) (outer:List Env) (s:aj) (H:Hp) (vs:List V) (Q:VK) (E:XK),Room k (A.deeper (rn qual (aE st) s.heap.objs.size f cdv))->sp vs H Q E →
   ∃t,PSs (c6 (CXE P w) P w K mg base N qual (aE st) f cdv A outer s H E) (cZ st) t/\t { nx:=λ_ H'=>Q .non H',rt:=Q } (iM N vs) H):aP P w K mg base (CXE P w) (k+1) f fd ps sp:=by
 obtain⟨oc,od,dV,kV,doc,pm,an,cdv,ct,osl,rfl,lk,hcd⟩:=F.ex;exact OF lk hcd S len λA outer s H vs Q E hr h=>hbody cdv A outer s H vs Q E hr h
def HZ (h base:Heap)(ea:Addr)(cls:af)(dd:Option Addr)(a0:af×af)(mk:af):Prop :=
 ∃ob fv tb tbo tv,h.get? ea=some ob/\ob.cls=cls/\ob.dict=dd/\(fv[0]? =some a0.1/\fv[2]? =some a0.2)/\ob.data= .fields fv/\fv[1]? =some (.ref tb)/\base.get? tb=none/\tb≠ea/\h.get? tb=some tbo/\tbo.data= .fields tv/\tv[3]? =some mk
def ZM (base:Heap)(l:List Env)(ea:Addr)(cls:af)(dd:Option Addr)(a0:af×af)(mk:af)(h h':Heap):Prop :=
 base.StaysIn h'/\h'.FunFrames base l/\HZ h' base ea cls dd a0 mk/\h.UpToSlots h'
section
variable {M:vz}{L:Addr}{Q:Unit->aj->Prop}
theorem zO {nx:Bool}(hfr:A.frames=some (env::outer))(ff:s.heap.FunFrames base (env::outer))(hL:env.frame=some L)(go:s.heap.get? ea=some ob)(st:base.StaysIn s.heap)
  (nb:base.get? ea=none)(hdt:ob.data= .fields fv)(hz:1<fv.size)(h0:fv[0]? =some a0.1/\fv[2]? =some a0.2)(k:∀h',ZM base (env::outer) ea ob.cls ob.dict a0 (rawInt L) s.heap h'->Q () { s with heap:=h' }) :
  ax M A (do let a ←frameOf env;let pl ←entryPlaceOf L nx;let b ←my hd0 a .none (rawInt L) .none pl;tq (.ref ea) 1 b) Q E s:=by
 have nin:ea∉(env::outer).filterMap (·.frame):=λhm=>by
  obtain⟨_,o,ho,hnf⟩:=ff.mem hm;rw[go]at ho;cases ho;exact hnf fv hdt
 refine aa (wpAny_frameOf_fun hfr ff hL λhA sA=>aa (wpAny_entryPlaceOf λpl hpl=> ?_));unfold my newFields;refine aa (fu ?_ (hpl.sizeOk5 _ _ _ _ _));have gA:hA.get? ea=some ob:=(sA.2.1 ea nin).trans go;have stA:base.StaysIn hA:=λb o q=>(sA.2.1 b λhm=>by rw[(ff.mem hm).1]at q;cases q).trans (st b o q);generalize hN:({ cls:= .type "traceback",dict:=none,data:= .fields ([hd0,.ref L,.none,rawInt L,.none]++(if pl.isEmpty then oy 6 bw else pl)).toArray }:Obj)=nob;have hNd:∃tv,nob.data= .fields tv/\tv[3]? =some (rawInt L):=by
  rw[←hN];exact⟨_,rfl,by first|(simp;done)|(rcases hpl with rfl|⟨_,_,_,_,_,_,_,rfl⟩<;>simp)⟩
 obtain⟨tv,hNd,hN3⟩:=hNd;have gB:(hA.push nob).get? ea=some ob:=ae nob gA;refine fq gB hdt hz (k _ ?_);have tne:hA.objs.size≠ea:=km (ag gA);have dC:=cu hdt (·.setIfInBounds 1 (av hA.objs.size));have gC:=ck (cc (·.setIfInBounds 1 (av hA.objs.size))) gB (df dC);have tC:((hA.push nob).update ea (cc (·.setIfInBounds 1 (av hA.objs.size)))).get? hA.objs.size=some nob:=(bf _ _ (dg tne)).trans (aw hA (df hNd));generalize hF:(hA.push nob).update ea (cc (·.setIfInBounds 1 (av hA.objs.size)))=hX at gC tC ⊢;have keepF:∀b o,b≠ea->hA.get? b=some o->hX.get? b=some o:=λb o hb q=>by
  rw[←hF,bf _ _ (dg hb)];exact ae _ q
 have norec:∀b o,s.heap.get? b=some o->(∀vs,o.data≠ .fields vs)->b≠ea:=λb o q hnf z=>by
  rw[z,go]at q;cases q;exact hnf fv hdt
 refine⟨λb o q=>keepF b o (λz=>by rw[z,nb]at q;cases q) (stA b o q),ff.of_keeps λb o q hnf=> ?_,?_,λb o q hnf=> ?_⟩
 .obtain⟨sl,hs⟩:=sA.2.2 b o q;exact⟨_,keepF b _ (norec b o q hnf) hs,rfl⟩
 .exact⟨_,_,hA.objs.size,_,_,gC,js _ _,xC _ _,⟨by rw[iq (by decide)];exact h0.1,by rw[iq (by decide)];exact h0.2⟩,dC,by simp[hz],stA.fresh,tne,tC,hNd,hN3⟩
 .obtain⟨sl,hs⟩:=sA.2.2 b o q;exact⟨sl,keepF b _ (norec b o q hnf) hs⟩
theorem wH (hfr:A.frames=some (env::outer))(hL:env.frame=some L)(fl:FlyD base (env::outer) ea cls dd a0 s.heap)
  (k:∀h',ZM base (env::outer) ea cls dd a0 (rawInt L) s.heap h'->Q () { s with heap:=h' }):ax M A (ka (.ref ea) env) Q E s:=by
 obtain⟨st,nb,ff,ob,fv,tb,tbo,tv,go,ec,ed,h0,hdt,h1,nT,tne,gT,dT,h3⟩:=fl;subst ec ed;unfold ka;simp only[hL];refine aa (cw go hdt h1 ?_);rw[if_pos (show (av tb !=bw)=true from by simp)];refine aa (cw gT dT h3 ?_);rw[if_neg (show ¬((bw==rawInt L)=true) from by simp[rawInt])];refine aa (fq gT dT (dj.mp h3).1 ?_);have oth:∀b,b≠tb->(s.heap.update tb (cc (·.setIfInBounds 3 bw))).get? b=s.heap.get? b:=λb hb=>bf _ _ (dg hb);have norec:∀b o,s.heap.get? b=some o->(∀vs,o.data≠ .fields vs)->b≠tb:=λb o q hnf z=>by
  rw[z,gT]at q;cases q;exact hnf tv dT
 refine zO hfr (ff.of_keeps λb o q hnf=>⟨o,(oth b (norec b o q hnf)).trans q,rfl⟩) hL ((oth ea (dg tne)).trans go) (λb o q=>(oth b λz=>by rw[z,nT]at q;cases q).trans (st b o q)) nb hdt (dj.mp h1).1 h0 λh' ⟨x1,x2,x3,x4⟩=> ?_;exact k h' ⟨x1,x2,x3,λb o q hnf=>x4 b o ((oth b (norec b o q hnf)).trans q) hnf⟩
theorem tH {l:List Env}{mk:af}(st:base.StaysIn s.heap)(nb:base.get? ea=none)(ff:s.heap.FunFrames base l)(tr:HZ s.heap base ea cls dd a0 mk)
  (k:∀h',FlyD base l ea cls dd a0 h'->s.heap.UpToSlots h'->Q () { s with heap:=h' }):ax M A (sv (.ref ea) none) Q E s:=by
 obtain⟨ob,fv,tb,tbo,tv,go,ec,ed,h0,hdt,h1,nT,tne,gT,dT,h3⟩:=tr;have oth:∀b,b≠tb->(s.heap.update tb (cc (·.setIfInBounds 3 ((none:Option Addr).elim bw λf=>rawInt f)))).get? b=s.heap.get? b:=λb hb=>bf _ _ (dg hb);have norec:∀b o,s.heap.get? b=some o->(∀vs,o.data≠ .fields vs)->b≠tb:=λb o q hnf z=>by
  rw[z,gT]at q;cases q;exact hnf tv dT
 have z3:=(dj.mp h3).1;unfold sv;refine aa (cw go hdt h1 ?_);rw[if_pos (show (av tb !=bw)=true from by simp)];refine fq gT dT z3 (k _ ⟨λb o q=>(oth b λz=>by rw[z,nT]at q;cases q).trans (st b o q),nb,ff.of_keeps λb o q hnf=>⟨o,(oth b (norec b o q hnf)).trans q,rfl⟩,?_⟩ λb o q hnf=>⟨o.slots,(oth b (norec b o q hnf)).trans q⟩);exact⟨ob,fv,tb,_,_,(oth ea (dg tne)).trans go,ec,ed,h0,hdt,h1,nT,tne,ck _ gT (df (cu dT _)),cu dT _,by simp[z3]⟩
end
abbrev Cx.inx (X:Cx)(ea:Addr):Cx:={ X with A:=X.A.mark (some (.ref ea)),calm:=false,xe:=λ_ _=>False }
theorem Cx.Ok.inx (ok:X.Ok)(ea:Addr):(X.inx ea).Ok :=
 ⟨ok.mod,ok.kind,ok.glob,ok.blt,ok.above,ok.inj,ok.has,ok.cab,(λz=>by cases z),ok.frames,ok.stk,ok.exf,ok.bs,ok.bsz,ok.noex,ok.exfs,ok.funs,ok.frf⟩
theorem Inv.inx (I:Inv X pins σ H s)(ea:Addr):Inv (X.inx ea) pins σ H s:=⟨I.ok.inx ea,I.os,I.bare,I.base,I.loc,I.cell,I.free,I.freeC,I.pin,I.hok,I.len⟩
theorem Inv.outx (ok:X.Ok)(I:Inv (X.inx ea) pins σ H s):Inv X pins σ H s:=⟨ok,I.os,I.bare,I.base,I.loc,I.cell,I.free,I.freeC,I.pin,I.hok,I.len⟩
theorem M6 {fs:List Addr}{B:Heap}(un:Un fs [] H1 H' h1 h')(hok:HOk P w H' h')(cov:∀b,(H' b≠none∨∃o,h1.get? b=some o)->b∉fs->∃o,B.get? b=some o)
  (sb:B.StaysIn h')(st:B.StaysIn h6)(up:h'.UpToSlots h6)(hf:∀b∈fs,H' b=none/\∃o,h'.get? b=some o/\∀vs,o.data≠ .fields vs):Un fs [] H1 H' h1 h6/\HOk P w H' h6:=by
 have same:∀b o,(H' b≠none∨∃o,h1.get? b=some o)->b∉fs->h'.get? b=some o->h6.get? b=some o:=λb o hc hb q=>by
  obtain⟨o',e⟩:=cov b hc hb;have e1:=sb b o' e;rw[q]at e1;cases e1;exact st b _ e
 have atf:∀b o,b∈fs->h'.get? b=some o->∃sl,h6.get? b=some { o with slots:=sl }:=λb o hb q=>by
  obtain⟨_,o',e,d⟩:=hf b hb;rw[q]at e;cases e;exact up b _ q d
 refine⟨⟨λb o q n hb hx=>same b o (.inr ⟨o,q⟩) hb (un.keep b o q n hb hx),λb o q n hb hx=> ?_,un.free,λb o q hx=> ?_,un.tups,un.frzs,un.tbls⟩,λb u e=> ?_⟩
 .obtain⟨sl,q1⟩:=un.slot b o q n hb hx;obtain⟨sl2,q2⟩:=atf b _ hb q1;exact⟨sl2,q2⟩
 .obtain⟨o1,q1⟩:=un.there b o q hx
  by_cases hb:b∈fs
  .obtain⟨sl,q2⟩:=atf b o1 hb q1;exact⟨_,q2⟩
  .exact⟨o1,same b o1 (.inr ⟨o,q⟩) hb q1⟩
 .refine(hok b u e).stay (λc v hc q=> ?_) (λ_ q=>q) λ_ _ q=>q;have hn:H' c≠none:=by
   rcases hc with z|z
   .rw[z,e];simp
   .rw[z];simp
  exact same c v (.inl hn) (λz=>hn (hf c z).1) q
def ExcDAt (a C dx:Addr)(h:Heap):Prop:=∃o vs,h.get? a=some o/\o.cls= .ref C/\o.dict=some dx/\o.data= .fields vs/\vs[2]? =some .none
def ExcU (a C:Addr)(h:Heap):Prop:=∃o vs,h.get? a=some o/\o.cls= .ref C/\o.data= .fields vs/\vs[2]? =some .none
def II (a C:Addr):Option Addr->HO
 | none=> .ext (ExcU a C)
 | some dx=> .ext (ExcDAt a C dx)
theorem CQ {fs:List Addr}{C:Addr}{φ:Heap->Prop}(un:Un fs [] H1 H' h1 h6)(hok:HOk P w H' h6)(new:h1.get? ea=none)(hn:H' ea=none)(x:φ h6)(tx:∃o,h6.get? ea=some o)
  (kx:∀g1 g2,φ g1->(∀o,g1.get? ea=some o->g2.get? ea=some o)->φ g2):Un fs [] H1 (upd H' ea (.ext φ)) h1 h6/\HOk P w (upd H' ea (.ext φ)) h6:=by
 have ne1:∀b o,h1.get? b=some o->b≠ea:=λb o q z=>by rw[z,new]at q;cases q
 refine⟨⟨un.keep,un.slot,λb o q n hx=>by rw[aJ (ne1 b o q)];exact un.free b o q n hx,un.there,λb xs q=> ?_,λb o u q=> ?_,λb ps q=> ?_⟩,λb u e=> ?_⟩
 .have z:=un.tups b xs q;rw[aJ (aO z hn)];exact z
 .have z:=un.frzs b o u q;rw[aJ (aO z hn)];exact z
 .obtain⟨m,z⟩:=un.tbls b ps q;exact⟨m,by rw[aJ (aO z hn)];exact z⟩
 .by_cases hb:b=ea
  .subst hb;rw[aU]at e;cases e;exact⟨x,tx,kx⟩
  .rw[aJ hb]at e;exact(hok b u e).stay (λ_ _ _ q=>q) (λc q=>by rw[aJ (aO q hn)];exact q) λc xs q=>by rw[aJ (aO q hn)];exact q
theorem aBP {fs:List Addr}{vs:Array af}(un:Un fs [] H1 H' h1 h6)(hok:HOk P w H' h6)(new:h1.get? ea=none)(hn:H' ea=none)(go:h6.get? ea=some ob)(hc:ob.cls= .ref C)(hd:ob.dict=dd)(hf:ob.data= .fields vs)(h2:vs[2]? =some .none):
  Un fs [] H1 (upd H' ea (II ea C dd)) h1 h6/\HOk P w (upd H' ea (II ea C dd)) h6:=by
 cases dd with
 | none=>exact CQ (C:=C) un hok new hn ⟨ob,vs,go,hc,hf,h2⟩ ⟨_,go⟩ λg1 g2 ⟨o',vs',q1,q2,q3⟩ k=>⟨o',vs',k _ q1,q2,q3⟩
 | some dx=>exact CQ (C:=C) un hok new hn ⟨ob,vs,go,hc,hd,hf,h2⟩ ⟨_,go⟩ λg1 g2 ⟨o',vs',q1,q2,q3⟩ k=>⟨o',vs',k _ q1,q2,q3⟩
def XW (X:Cx)(pins:List (Addr×Obj))(σ:St)(R:XK)(e:af)(s':aj):Prop:=∃H1 s1,Inv X pins σ H1 s1/\CXE X.prog X.w X.stack H1 s1 R e s'
def PEx (X:Cx)(e:Expr)(t:XK->TE):Prop :=
 ∀(R:XK) (pins:List (Addr×Obj)) (s:aj) (σ:St) (H:Hp) (Q:VK),Inv X pins σ H s->t R σ H Q->ax (be X.prog X.w) X.A (eval e X.env) (EP X pins σ Q) (XW X pins σ R) s
theorem PA.noxx {t:TA}(h:PA X.nox es t):∀(pos:Pos) (pins:List (Addr×Obj)) (s:aj) (σ:St) (H:Hp) (Q:List V->Hp->Prop),Inv X pins σ H s->t σ H Q->ax (be X.prog X.w) X.A (spliced (fh pos (az es X.env))) (AP X pins σ Q) E s :=
 λpos pins s σ H Q I q=>bu (h pos pins s σ H Q (I.wish _) q) (λ_ _ ⟨vs,H',I',r,z⟩=>⟨vs,H',I'.unwish,r,z⟩) λ_ _ z=>dh z
section
variable {k:Nat}{p:Pos}{o:Expr}{t:TA}{f:Addr}{ds:List af}{R:XK}{ps:List Str}
theorem aCb {Q:VK}(F:aP X.prog X.w X.K X.mg X.base (CXE X.prog X.w) k f fd ps sp)(hr:Room k X.A)(hb:Binds X.K fd ps ds)(hd:Vals dvs ds)
  (I:Inv X pins σ H s)(r:Vals vs us)(h:sp (vs++dvs) H Q R):ax (be X.prog X.w) X.A (call (.ref f) us) (EP X pins σ Q) (XW X pins σ R) s:=by
 have r2:Vals (vs++dvs) (us++ds):=r.append hd;have hl:(us++ds).length=ps.length:=by rw[←r2.length];exact F.len _ _ _ _ h
 refine qm (jj (F.run X.A X.stack s H ⟨us,[]⟩ (us++ds) (vs++dvs) Q R hr I.env0 (hb s us I.kIn hl) r2 h) λr s' hq=> ?_);cases r with
 | error e=>exact⟨H,s,I,hq⟩
 | ok fl =>
  cases fl with
  | ret u=>exact I.after hq
  | next=>exact dh hq
  | brk=>exact dh hq
  | cont=>exact dh hq
theorem ZV (F:FcE X.prog X.w X.K X.mg X.base x k ps sp)(hr:Room k' X.A)(ha:PA X.nox (e::es) t)(hk:k<=k':=by decide)(hg:Gl X x:=by rfl)
  (hdb:(x==("__debug__" :Str))=false:=by decide)(he:az (e::es) X.env=(false,eval e X.env)::az es X.env:=by rfl)(hpl:(fh pos (az es X.env)).any (·.1)=false:=by rfl) :
  PEx X (.Call (.Name x p) (e::es) [] pos) (λR=>jZ sp [] R t):=by
 intro R pins s σ H Q I h;obtain⟨f,fd,hm,kp,b,G⟩:=F.ex;refine gz (dH I hg hm ?_ hdb);refine W.callWith_K (h₀:=X.base) I.ok.mod.kin kp (thn (ha.noxx pos pins s σ H _ I h) λus s1 ⟨vs,H1,I1,r,q⟩=>⟨I1.kIn,?_⟩) he hpl;exact aCb G (hr.mono hk) b .nil I1 r q
end
section
variable {k:Nat}{p:Pos}{o:Expr}{t:TA}{R:XK}
theorem aDq {f:Addr}{ps:List Str}{ds:List af}{Q:VK}(M:Mk X.K C f)(G:aP X.prog X.w X.K X.mg X.base (CXE X.prog X.w) k f fd ps sp)(hr:Room (k+1) X.A)(hb:Binds X.K fd ps ds)(hd:Vals dvs ds)(I:Inv X pins σ H s)(rv:Vals vs us)
  (h:∀a dx,H a=none->H dx=none->dx≠a->sp (.ref a::(vs++dvs)) (upd (upd H dx (.own a)) a (.ins C dx [])) (λv H2=>v= .non/\Q (.ref a) H2) R):ax (be X.prog X.w) X.A (call (.ref C) us) (EP X pins σ Q) (XW X pins σ R) s:=by
 have n0:H (s.heap.objs.size+1)=none:=I.hok.fresh (jk _);have n1:H s.heap.objs.size=none:=I.hok.fresh (ar _);have want:=h _ _ n0 n1 (bp (mo _));have J:=Inv.made (C:=C) I;have rr:Vals (V.ref (s.heap.objs.size+1)::(vs++dvs)) (av (s.heap.objs.size+1)::(us++ds)):= .cons rfl (rv.append hd);have ln:(av (s.heap.objs.size+1)::us++ds).length=ps.length:=rr.length.symm.trans (G.len _ _ _ _ want);have go:=G.run _ X.stack _ _ ⟨av (s.heap.objs.size+1)::us,[]⟩ _ _ _ R (hr.make C us []) (J.env0.make C us []) (hb _ (av (s.heap.objs.size+1)::us) J.kIn ln) rr want;refine qm (KG (f:=f) I.kIn M.makes M.init (beq_iff_eq.mp M.fn) (jj go λres s' hq=> ?_))
 match res,hq with
 | .error e,hq=>exact⟨_,_,J,hq⟩
 | .ok (.ret u),hq =>
  obtain⟨v,H',I3,rv',ev,q3⟩:=J.after hq;subst ev;exact⟨rv',⟨V.ref (s.heap.objs.size+1),H',I3,rfl,q3⟩⟩
 | .ok .next,hq=>exact dh hq
 | .ok .brk,hq=>exact dh hq
 | .ok .cont,hq=>exact dh hq
theorem aCF (F:KcE X.prog X.w X.K X.mg X.base x C k dvs sp)(hr:Room k' X.A)(ha:PA X.nox (e::es) t)(hk:k+1<=k':=by decide)(hg:Gl X x:=by rfl)
  (hdb:(x==("__debug__" :Str))=false:=by decide)(he:az (e::es) X.env=(false,eval e X.env)::az es X.env:=by rfl)(hpl:(fh pos (az es X.env)).any (·.1)=false:=by rfl) :
  PEx X (.Call (.Name x p) (e::es) [] pos) (λR=>tN C sp dvs R t):=by
 intro R pins s σ H Q I h;obtain⟨f,fd,ps,ds,hm,M,hd,hb,G⟩:=F.ex;refine gz (dH I hg hm ?_ hdb);refine W.callWith_K (h₀:=X.base) I.ok.mod.kin M.kp (thn (ha.noxx pos pins s σ H _ I h) λus s1 ⟨vs,H1,I1,r,q⟩=>⟨I1.kIn,?_⟩) he hpl;exact aDq M G (hr.mono hk) hb hd I1 r q
end
theorem rH {M:vz}{n:Str}{Q:Unit->aj->Prop}(I:Inv X pins σ H s)(hN:X.N.Nodup)(hi:X.N[i]? =some n)(hk:X.env.scope.names.lookup n=some .local)
  (h:∀s',Inv X pins (σ.set i none) H s'->Q () s'):ax M A (do bindName X.env n .none;unbindBehindTheSuite X.env n pos) Q E s:=by
 obtain⟨m,hn,hl⟩:=id I.loc;have hcls:(X.env.scope.kind== .class||(X.env.scope.kind== .module&&X.env.locals !=X.env.globals))=false:=by rw[I.ok.kind];rfl
 have cne:=I.cne;have tracked:∀{a:Addr}{h':Heap},(∃o,s.heap.get? a=some o/\H a=none)->ie a s.heap h'->HOk X.prog X.w H h':=λ{a h'} ha hs b ob e=>by
  obtain⟨_,_,hfree⟩:=ha;refine(I.hok b ob e).stay (λc w' hc q=>(hs.2 c ?_).trans q) (λ_ q=>q) λ_ _ q=>q;rintro rfl;rcases hc with rfl|hc
  .rw[hfree]at e;cases e
  .rw[hfree]at hc;cases hc
 refine wpAny_nameGoes_keeps hk hn hcls λh' v hn' hs=> ?_;obtain⟨oL,_,_,hoL,_⟩:=id hn;refine h _ ⟨I.ok,I.os,I.bare,⟨λb o e n hb hx=> ?_,λb o e n hb hx=> ?_,I.base.free,λb o e hx=> ?_,I.base.tups,I.base.frzs,I.base.tbls⟩,⟨_,hn',λj y v' e1 e2 e3=> ?_⟩,λy c e=> ?_,I.free,I.freeC,λp hp=> ?_,tracked ⟨oL,hoL,I.free⟩ hs,by simpa using I.len⟩
 .exact(hs.2 b (bp (au (ag e) I.ok.above))).trans (I.base.keep b o e n hb hx)
 .obtain⟨sl,e1⟩:=I.base.slot b o e n hb hx;exact⟨sl,(hs.2 b (bp (au (ag e) I.ok.above))).trans e1⟩
 .obtain⟨o',e1⟩:=I.base.there b o e hx;exact⟨o',(hs.2 b (bp (au (ag e) I.ok.above))).trans e1⟩
 .by_cases hj:j=i
  .subst hj;rw[List.getElem?_set]at e2;simp at e2
  .rw[mf (dg hj)]at e2;obtain⟨u',r',q⟩:=hl j y v' e1 e2 e3;refine⟨u',r',?_⟩;rcases q with⟨k,e⟩|⟨k,c,e,z⟩
   .refine .inl ⟨k,?_⟩;have:y≠n:=λe=>hj (A4 hN e1 (e▸hi));simp[this,e]
   .exact .inr ⟨k,c,e,z.sameBut hs (cne y c e)⟩
 .obtain⟨w',z⟩:=I.cell y c e;exact⟨w',z.sameBut hs (cne y c e)⟩
 .obtain⟨e,n,ne,nf,d⟩:=I.pin p hp;exact⟨(hs.2 p.1 ne).trans e,n,ne,nf,d⟩
section
variable {n:Str}{hpos epos:Pos}{tc:XK->TE}{b₀:Stmt}{suite:List Stmt}{ts:TS}
def PXs (X:Cx)(st:List Stmt)(t:XK->TS):Prop :=
 ∀(R:XK) (pins:List (Addr×Obj)) (s:aj) (σ:St) (H:Hp) (D:d6),Inv X pins σ H s->t R D σ H->ax (be X.prog X.w) X.A (execs st X.env) (SP X pins D) (XW X pins σ R) s
end
def IsX (H:Hp)(a C:Addr):Prop:=∃φ,H a=some (.ext φ)/\∀h,φ h->rN a C h
def W3 (K:W.Frag):List V->Hp->VK->Prop:=λxs H Q=>∃a C c u b,xs=[.ref a,c]/\IsX H a C/\ExcK K C/\(c= .ref u/\W.kitOne K (.ref C) (.ref u)=some b)/\Q (.bl b) H
def ON (K:W.Frag):List V->Hp->VK->Prop:=λxs H Q=>∃a C n b,xs=[.ref a,.ty n]/\IsX H a C/\ExcK K C/\W.kitOne K (.ref C) (.type n)=some b/\Q (.bl b) H
theorem WT:cQ X (.builtin "isinstance") (W3 X.K):=by
 intro pins s σ H xs us Q I r h;obtain⟨a,C,c,u,b,rfl,hs,k,⟨rfl,e⟩,q⟩:=h;obtain⟨v1,v2,rfl,r1,r2⟩:=IA r;obtain rfl:v1= .ref a:=r1;obtain rfl:v2= .ref u:=r2;obtain⟨φ,hs,hφ⟩:=hs;obtain⟨z,_⟩:=I.hok a _ hs;exact kia_one (AJ k) I.kIn (hφ _ z) e (λz=>by cases z) λtk=>⟨.bl b,H,I.tok tk,rfl,q⟩
theorem TM:cQ X (.builtin "isinstance") (ON X.K):=by
 intro pins s σ H xs us Q I r h;obtain⟨a,C,n,b,rfl,hs,k,e,q⟩:=h;obtain⟨v1,v2,rfl,r1,r2⟩:=IA r;obtain rfl:v1= .ref a:=r1;obtain rfl:v2= .type n:=r2;obtain⟨φ,hs,hφ⟩:=hs;obtain⟨z,_⟩:=I.hok a _ hs;exact kia_one (AJ k) I.kIn (hφ _ z) e (λz=>by cases z) λtk=>⟨.bl b,H,I.tok tk,rfl,q⟩
theorem aDY:c7 (CXE P w) X E0:=λ_ _ _ _ _ _ _ h=>by
 obtain⟨_,_,_,_,_,_,_,_,_,_,_,_,_,_,_,q⟩:=h;exact q.elim
abbrev TJ:=Str->St->Hp->(Str->Hp->Prop)->Prop
def PJ (X:Cx)(es:List Expr)(t:TJ):Prop:=∀(pins:List (Addr×Obj)) (s:aj) (σ:St) (H:Hp) (acc:Str) (Q:Str->Hp->Prop),Inv X pins σ H s->t acc σ H Q →
 Joins (be X.prog X.w) X.A X.xe (evalEach es X.env) acc (λout s1=>∃H1,Inv X pins σ H1 s1/\Q out H1) s
def OY:TJ:=λacc _ H Q=>Q acc H
def tjC (x:Str)(r:TJ):TJ:=λacc σ H Q=>(acc++x).length<=sizeLine/\r (acc++x) σ H Q
def aE9 (v:V)(y:Str):Prop:=(v= .str y/\y.length<=sizeLine)∨∃i,v= .int i/\i.natAbs.log2<1920/\y=toString i
def tjF (te:TE)(r:TJ):TJ:=λacc σ H Q=>te σ H λv H1=>∃y,aE9 v y/\(acc++y).length<=sizeLine/\r (acc++y) σ H1 Q
def tJs (t:TJ):TE:=λσ H Q=>t xt σ H λout H1=>out.length<=sizeLine/\Q (.str out) H1
section
variable {j:Nat}{p:Pos}{v1 v2:Expr}{t:TJ}
theorem R8:PJ X [] OY:=λ_ _ _ H _ _ I h=>⟨H,I,h⟩
theorem V7 (hr:PJ X es t):PJ X (.Constant (.str x) j p::es) (tjC x t):=by
 intro pins s σ H acc Q I h;show ax _ _ (eval (.Constant (.str x) j p) X.env) _ _ s;exact ye ⟨x,_,rfl,h.1,hr pins _ σ H (acc++x) Q (I.tok _) h.2⟩
theorem Y1 (he:PE X e te)(hr:PJ X es t):PJ X (.FormattedValue e (-1) none p::es) (tjF te t):=by
 intro pins s σ H acc Q I h;show ax _ _ (eval (.FormattedValue e (-1) none p) X.env) _ _ s;refine FormattedValue_plain (thn (he pins s σ H _ I h) λu s1 ⟨v,H1,I1,r,y,f,z,q⟩=> ?_);rcases f with⟨rfl,hz⟩|⟨i,rfl,hi,rfl⟩
 .obtain⟨tk,rfl⟩:=(show ∃t,u= .str y t from r)
  exact formatField_str (λt' tk'=>⟨y,t',rfl,z,hr pins _ σ H1 _ Q (I1.tok _) q⟩) hz
 .obtain⟨tk,rfl⟩:=(show ∃t,u= .int i t from r)
  exact formatField_int_small hi ⟨_,_,rfl,z,hr pins _ σ H1 _ Q (I1.tok _) q⟩
theorem ZS (h:PJ X (v1::v2::es) t):PE X (.JoinedStr (v1::v2::es) pos) (tJs t):=by
 intro pins s σ H Q I hq;have key:∀(l:List (Sem af)) (acc:Str) (s:aj) (A B:Str->aj->Prop),(∀o s,A o s->B o s)->Joins (be X.prog X.w) X.A X.xe l acc A s->Joins (be X.prog X.w) X.A X.xe l acc B s:=by
  intro l
  induction l with
  | nil=>intro acc s A B f q;exact f _ _ q
  | cons a l ih =>
   intro acc s A B f q;exact bu q (λv s1 ⟨y,t,e1,e2,e3⟩=>⟨y,t,e1,e2,ih _ _ A B f e3⟩) λ_ _ z=>z
 refine wpAny_JoinedStr (key _ _ _ _ _ ?_ (h pins s σ H xt _ I hq));rintro out s1 ⟨H1,I1,z,q⟩;exact⟨z,.str out,H1,I1.tok _,⟨_,rfl⟩,q⟩
end
theorem fA (a b:Str):(a++b).length=a.length+b.length:=strLen_append a b
theorem aDT {c p:Str}{Q:VK}(e:σ[i]? =some (some (.str p)))(hp:p.length<=1000)(hc:c.length<=1000)(h:∀out,Q (.str out) H):tJs (tjF (gY i) (tjC c OY)) σ H Q:=by
 have l0:xt.length=0:=rfl;refine⟨_,e,p,.inl ⟨rfl,kj (mY hp)⟩,?_,?_,?_,h _⟩
 .rw[fA,l0];exact bo (by lia) (kj (mY hp))
 .rw[fA,fA,l0];exact bo (by lia:_<=2000) (by decide)
 .rw[fA,fA,l0];exact bo (by lia:_<=2000) (by decide)
theorem aD4 {j:Nat}{c d p:Str}{l:Int}{Q:VK}(e:σ[i]? =some (some (.str p)))(hp:p.length<=1000)(hc:c.length<=1000)(e2:σ[j]? =some (some (.int l)))(hl:l.natAbs.log2<1920)(ht:(toString l:Str).length<=1000)(hd:d.length<=1000)(h:∀out,Q (.str out) H):
  tJs (tjF (gY i) (tjC c (tjF (gY j) (tjC d OY)))) σ H Q:=by
 have l0:xt.length=0:=rfl;refine⟨_,e,p,.inl ⟨rfl,kj (mY hp)⟩,?_,?_,_,e2,_,.inr ⟨l,rfl,hl,rfl⟩,?_,?_,?_,h _⟩
 .rw[fA,l0];exact bo (by lia) (kj (mY hp))
 .rw[fA,fA,l0];exact bo (by lia:_<=2000) (by decide)
 .rw[fA,fA,fA,l0];exact bo (by lia:_<=3000) (by decide)
 .rw[fA,fA,fA,fA,l0];exact bo (by lia:_<=4000) (by decide)
 .rw[fA,fA,fA,fA,l0];exact bo (by lia:_<=4000) (by decide)
theorem YB {E:XK}{t:TA}{D:d6}(h:t σ H λvs H1=>vs.length<=sizeLine/\E (.ref C) none H1):SN C E t D σ H:=h
theorem HK:dv "ValueError" =some (.type "ValueError"):=PyProof.Rows.Boot.«ValueError»
section
variable {K:Frag}{D:Addr}{cd:ClassData}{b:Bool}
theorem exm_mk (c:clsIn K D=some cd)(t:typeIn K (.ref D)=some (.type "type"))(sb:subIn K (.ref D) (.type "BaseException")=some true)(s:subIn K (.ref C) (.ref D)=some b):exmOne K (.ref C) (.ref D)=some b:=by
 unfold exmOne;rw[if_pos (by rw[sb];rfl)];show (if ((clsIn K D).isSome&&typeIn K (.ref D)==some (.type "type"))=true then subIn K (.ref C) (.ref D) else none)=_;rw[c,t,if_pos (by rfl)];exact s
end
variable {K:Frag}{H:Hp}{Q:VK}
theorem cW (K:Frag)(h:X.K=K):cQ X (.builtin "isinstance") (W3 K):=by
 subst h;exact WT
theorem OU (K:Frag)(h:X.K=K):cQ X (.builtin "isinstance") (ON K):=by
 subst h;exact TM
end L2
set_option maxHeartbeats 0
namespace L2
open PySem PySem.Spec PyProof.Rows
variable {σ:St}{H H' H₀:Hp}{s s₀:aj}{X:Cx}{pins:List (Addr×Obj)}
variable {m nm p1 p2 p3 qual x y z:Str}{C PL a b cL d dx fi it p q:Addr}{sp:Sp}{ep i k' n t':Nat}{e tg value:Expr}{apos cpos np pos pos' tpos:Pos}{elts es:List Expr}
section
variable {CX:CXT}{k:Nat}{E:XK}{p:Pos}{t:TA}{c:Addr}
end
variable {P prog:ef}{w:gd}{base h h':Heap}{K:W.Frag}{mN mg:Str->Option af}
section
variable {k:Nat}{p:Pos}{t:TA}
end
variable {lsc scope:ud}{args:Arguments}
section
variable {body:Expr}{c:Addr}
end
variable {ta td te tv tx:TE}
section
variable {o:Expr}{to:TE}{ap:Pos}
theorem J2:∀{xs:List V}{us:List af},xs.length=us.length->(∀(i:Nat) x u,xs[i]? =some x->us[i]? =some u->RelV x u)->Vals xs us
 | [],[],_,_=> .nil
 | [],_::_,h,_=>by simp at h
 | _::_,[],h,_=>by simp at h
 | x::xs,u::us,h,k=> .cons (k 0 x u rfl rfl) (J2 (by simpa using h) λi y w e1 e2=>k (i+1) y w (by simpa using e1) (by simpa using e2))
end
structure DcD (P:ef)(w:gd)(K:W.Frag)(mg:Str->Option af)(base:Heap)(x m:Str)(k:Nat)(dvs:List V)(sp:Sp):Prop where
 ex:∃C f fd ps ds,mg x=some (.ref C)/\W.specialIn K (.ref C) "__getattribute__" =some (some (.builtin "type.__getattribute__"))/\W.readsIn K C (.type "type")=true/\W.findCls K (.ref C) (.type "type") m=some (.val (.ref f)) ∧
  W.keepIn K (.ref f)=true/\Vals dvs ds/\Binds K fd ps ds/\aP P w K mg base CX0 k f fd ps sp
variable {pl:Sem Bool}{vs xs:List V}{rt:VK}
section
variable {k:Nat}{p:Pos}{t:TA}{dvs:List V}
theorem U8 {pl:Sem Bool}(F:DcD X.prog X.w X.K X.mg X.base x m k dvs sp)(hr:Room k' X.A)(ha:PA X (e::es) t)(hk:k<=k':=by decide)(hg:Gl X x:=by rfl)(hdb:(x==("__debug__" :Str))=false:=by decide)
  (hst:az (e::es) X.env=(false,eval e X.env)::az es X.env:=by rfl)(hpl:(fh pos (az es X.env)).any (·.1)=false:=by rfl)
  (ht:eval (.Call (.Attribute (.Name x p) m apos) (e::es) [] pos) X.env=(do
   let ov ←eval (.Name x p) X.env
   xr apos.atName
   let (f,first) ←vt [ov] (ql ov m pl)
   tj pos f first (fh pos (az (e::es) X.env)) (ri pos (kh [] X.env))):=by rfl) :
  PE X (.Call (.Attribute (.Name x p) m apos) (e::es) [] pos) (jZ sp dvs E0 t):=by
 intro pins s σ H Q I h;obtain⟨C,f,fd,ps,ds,hm,hga,hrd,hfc,kp,hd,hb,G⟩:=F.ex;refine W.methodCall_KW (pl:=pl) (dH I hg hm ?_ hdb) ht;refine W.method_cls I.kIn hga (W.cls_value I.kIn hrd hfc (GC (v:= .ref f) rfl) ?_);have I1:=I.tok (s.toks+1);refine W.callWith_K (first:=[]) (h₀:=X.base) I.ok.mod.kin kp (thn (ha pos pins _ σ H _ I1 h) λus s2 ⟨vs,H2,I2,r,q2⟩=>⟨I2.kIn,?_⟩) hst hpl;exact tL G (hr.mono hk) hb hd yQ I2 r q2
theorem AG {E:XK}{Q:VK}(h:t σ H λvs H1=>sp (vs++dvs) H1 Q E):jZ sp dvs E t σ H Q:=h
end
variable {ts:TS}
section
variable {st:Stmt}{rest:List Stmt}{t:TS}{u:d6->(St->V->Hp->Prop)->St->Hp->Prop}
end
def aCR (M:Addr->Sp->Prop)(m:Str)(E:XK)(t:TA)(σ:St)(Q:VK):VK:=λx H=>∃a C dx fs sp,x= .ref a/\H a=some (.ins C dx fs)/\fs.lookup m=none/\M C sp/\t σ H λvs H2=>sp (x::vs) H2 Q E
theorem aDc {M:Addr->Sp->Prop}{E:XK}{t:TA}{Q:VK}(h:ta σ H (aCR M m E t σ Q)):aB8 M m E ta t σ H Q:=h
theorem aAJ {M:Addr->Sp->Prop}{E:XK}{t:TA}{Q:VK}{fs:List (Str×V)}(e:H a=some (.ins C dx fs))(l:fs.lookup m=none)(F:M C sp)(h:t σ H λvs H2=>sp (.ref a::vs) H2 Q E):aCR M m E t σ Q (.ref a) H :=
 ⟨a,C,dx,fs,sp,rfl,e,l,F,h⟩
section
open PySem.W
variable {j:Nat}{n:Str}{T:Addr}{yp hpos epos:Pos}{tc:XK->TE}{b₀:Stmt}{suite:List Stmt}
end
variable {cd u:af}{v:V}{α β κ:Type}{k0 k1 k2 k3 k5:Option af}
section
variable [DecidableEq κ]
def aZ (kvs:List (κ×V))(k:κ):Option V:=(kvs.find? λkv=>decide (kv.1=k)).map (·.2)
def cF (kvs:List (κ×V))(k:κ)(v:V):List (κ×V) :=
 if (kvs.any λkv=>decide (kv.1=k))=true then kvs.map (λkv=>if kv.1=k then (kv.1,v) else kv) else kvs++[(k,v)]
theorem dE {p:κ×V}{r:List (κ×V)}{k:κ}(e:p.1=k):aZ (p::r) k=some p.2:=by simp[aZ,lb,e]
theorem cR {p:κ×V}{r:List (κ×V)}{k:κ}(e:¬p.1=k):aZ (p::r) k=aZ r k:=by simp[aZ,lb,e]
theorem iU (k:κ):∀kvs:List (κ×V),(kvs.any λkv=>decide (kv.1=k))=(aZ kvs k).isSome
 | []=>rfl
 | p::r=>by
  rw[jf]
  by_cases e:p.1=k
  .simp only[dE e,decide_eq_true e,Bool.true_or,Option.isSome_some]
  .rw[cR e,decide_eq_false e,Bool.false_or];exact iU k r
theorem JB (k j:κ)(y:V):∀kvs:List (κ×V),aZ (kvs.map λkv=>if kv.1=k then (kv.1,y) else kv) j=(aZ kvs j).map λx=>if j=k then y else x
 | []=>rfl
 | p::r=>by
  have ih:=JB k j y r;rw[dm]
  by_cases h:p.1=k
  .rw[if_pos h]
   by_cases e:p.1=j
   .rw[dE (p:=(p.1,y)) e,dE e,rp,if_pos (e.symm.trans h)]
   .rw[cR (p:=(p.1,y)) e,cR e,ih]
  .rw[if_neg h]
   by_cases e:p.1=j
   .rw[dE (p:=p) e,dE e,rp,if_neg (λz=>h (e.trans z))]
   .rw[cR (p:=p) e,cR e,ih]
theorem F7 (k j:κ)(y:V):∀kvs:List (κ×V),aZ kvs k=none->aZ (kvs++[(k,y)]) j=if j=k then some y else aZ kvs j
 | [],_=>by
  by_cases e:k=j
  .rw[if_pos e.symm];exact dE (p:=(k,y)) e
  .rw[if_neg (λz=>e z.symm)];exact cR (p:=(k,y)) e
 | p::r,hn=>by
  rw[List.cons_append];have hk:¬p.1=k:=λz=>by rw[dE z]at hn;cases hn
  rw[cR hk]at hn;have ih:=F7 k j y r hn
  by_cases e:p.1=j
  .rw[dE e,dE e,if_neg (λz=>hk (e.trans z))]
  .rw[cR e,cR e,ih]
theorem lM (kvs:List (κ×V))(k j:κ)(y:V):aZ (cF kvs k y) j=if j=k then some y else aZ kvs j:=by
 unfold cF
 by_cases a:(kvs.any λkv=>decide (kv.1=k))=true
 .rw[if_pos a,JB];rw[iU]at a
  by_cases e:j=k
  .obtain⟨x,hx⟩:=nc.mp a;rw[if_pos e,e,hx,rp,if_pos rfl]
  .rw[if_neg e];cases aZ kvs j with
   | none=>rfl
   | some x=>rw[rp,if_neg e]
 .rw[if_neg a];refine F7 k j y kvs ?_;rw[iU]at a;cases q:aZ kvs k with
  | none=>rfl
  | some x=>rw[q]at a;exact(a rfl).elim
theorem fI (kvs:List (κ×V))(k:κ)(v:V):(cF kvs k v).length<=kvs.length+1:=by
 unfold cF
 split
 .rw[ao];lia
 .rw[cb,cv,ip];lia
theorem pY {kvs:List (κ×V)}{k:κ}(v:V)(h:aZ kvs k=none):cF kvs k v=kvs++[(k,v)]:=by
 unfold cF;rw[iU,h];exact if_neg (by decide)
theorem RelO.isSome_eq {o:Option V}{u:Option af}(r:RelO o u):o.isSome=u.isSome:=by
 cases o with
 | none=>cases u with
  | none=>rfl
  | some _=>exact(show False from r).elim
 | some _=>cases u with
  | none=>exact(show False from r).elim
  | some _=>rfl
theorem RelO.getD {o:Option V}{u:Option af}{d:V}{d':af}(r:RelO o u)(rd:RelV d d'):RelV (o.getD d) (u.getD d'):=by
 cases o with
 | none=>cases u with
  | none=>exact rd
  | some _=>exact(show False from r).elim
 | some _=>cases u with
  | none=>exact(show False from r).elim
  | some _=>exact r
theorem KV.val {kvs:List (κ×V)}{vs:List (κ×af)}(r:KV kvs vs)(k:κ):RelO (aZ kvs k) (xx vs k):=by
 unfold KV at r
 induction r with
 | nil=>exact jg
 | @cons p q ps qs h t ih =>
  obtain⟨h1,h2⟩:=h
  by_cases e:p.1=k
  .have e':q.1=k:=h1.symm.trans e;have b:xx (q::qs) k=some q.2:=by simp[xx,lb,e']
   rw[dE e,b];exact h2
  .have e':¬q.1=k:=λz=>e (h1.trans z);have b:xx (q::qs) k=xx qs k:=by simp[xx,lb,e']
   rw[cR e,b];exact ih
theorem KV.any {kvs:List (κ×V)}{vs:List (κ×af)}(r:KV kvs vs)(k:κ):(kvs.any λkv=>decide (kv.1=k))=vs.any λkv=>decide (kv.1=k):=by
 unfold KV at r
 induction r with
 | nil=>rfl
 | cons h t ih=>rw[jf,jf,ih,h.1]
theorem KV.repl {kvs:List (κ×V)}{vs:List (κ×af)}(r:KV kvs vs)(k:κ){y:V}(ry:RelV y u):
  KV (kvs.map λkv=>if kv.1=k then (kv.1,y) else kv) (vs.map λkv=>if kv.1=k then (kv.1,u) else kv):=by
 unfold KV at r ⊢
 induction r with
 | nil=>exact .nil
 | @cons p q ps qs h t ih =>
  rw[dm,dm];refine .cons ?_ ih;obtain⟨h1,h2⟩:=h
  by_cases e:p.1=k
  .rw[if_pos e,if_pos (h1.symm.trans e)];exact⟨h1,ry⟩
  .rw[if_neg e,if_neg (λz=>e (h1.trans z))];exact⟨h1,h2⟩
theorem KV.put {kvs:List (κ×V)}{vs:List (κ×af)}(r:KV kvs vs)(k:κ){y:V}(ry:RelV y u):KV (cF kvs k y) (stored vs k u):=by
 unfold cF stored;rw[r.any k]
 by_cases e:(vs.any λkv=>decide (kv.1=k))=true
 .rw[if_pos e,if_pos e];exact r.repl k ry
 .rw[if_neg e,if_neg e];exact Paired.snoc r ⟨rfl,ry⟩
theorem KV.length {kvs:List (κ×V)}{vs:List (κ×af)}(r:KV kvs vs):kvs.length=vs.length:=cj r
end
theorem q9 {k:Key}(r:RelV (kV k) u):(bT P w).is k u=true:=by
 cases k with
 | inl i=>obtain⟨t,e⟩:=(show ∃t,u=sq i t from r);subst e;exact LX P w i t
 | inr x=>obtain⟨t,e⟩:=(show ∃t,u=sr x t from r);subst e;exact MF P w x t
theorem FQ:∀{ks:List Key}{us:List af},Vals (ks.map kV) us->ItemsAre (bT P w) ks us
 | [],_,r=>by rw[yn]at r;cases r;exact .nil
 | k::ks,_,r=>by
  rw[dm]at r;cases r with
  | cons h t=>exact .cons (q9 h) (FQ t)
abbrev KT (H:Hp):List (List Key×V)->List (List Key×Addr×af)->Prop:=cg λp q=>p.1=q.1/\H q.2.1=some (.tup (p.1.map kV))/\RelV p.2 q.2.2
theorem KT.val {kvs:List (List Key×V)}{xs:List (List Key×Addr×af)}(r:KT H kvs xs)(k:List Key):RelO (aZ kvs k) ((atKey xs k).map (·.2)):=by
 induction r with
 | nil=>exact jg
 | @cons p q ps qs h t ih =>
  obtain⟨h1,_,h2⟩:=h
  by_cases e:p.1=k
  .have e':q.1=k:=h1.symm.trans e;have b:atKey (q::qs) k=some q.2:=by simp[atKey,lb,e']
   rw[dE e,b];exact h2
  .have e':¬q.1=k:=λz=>e (h1.trans z);have b:atKey (q::qs) k=atKey qs k:=by simp[atKey,lb,e']
   rw[cR e,b];exact ih
theorem KT.repl {kvs:List (List Key×V)}{xs:List (List Key×Addr×af)}(r:KT H kvs xs)(k:List Key){y:V}(ry:RelV y u):
  KT H (kvs.map λkv=>if kv.1=k then (kv.1,y) else kv) (xs.map (putAt k u)):=by
 induction r with
 | nil=>exact .nil
 | @cons p q ps qs h t ih =>
  rw[dm,dm];refine .cons ?_ ih;obtain⟨h1,h2,h3⟩:=h;unfold putAt
  by_cases e:p.1=k
  .rw[if_pos e,if_pos (h1.symm.trans e)];exact⟨h1,h2,ry⟩
  .rw[if_neg e,if_neg (λz=>e (h1.trans z))];exact⟨h1,h2,h3⟩
theorem KT.put {kvs:List (List Key×V)}{xs:List (List Key×Addr×af)}(r:KT H kvs xs)(k:List Key){y:V}(hb:H b=some (.tup (k.map kV)))(ry:RelV y u):
  KT H (cF kvs k y) (storedH xs k b u):=by
 have e:(kvs.any λkv=>decide (kv.1=k))=(atKey xs k).isSome:=by
  rw[iU,(r.val k).isSome_eq,ui]
 unfold cF storedH;rw[e]
 by_cases q:(atKey xs k).isSome=true
 .rw[if_pos q,if_pos q];exact r.repl k ry
 .rw[if_neg q,if_neg q];exact Paired.snoc r ⟨rfl,hb,ry⟩
theorem KT.keeps {kvs:List (List Key×V)}{xs:List (List Key×Addr×af)}(r:KT H kvs xs)(ht:∀b ys,H b=some (.tup ys)->H' b=some (.tup ys)):KT H' kvs xs :=
 Paired.mapP r λ_ _ z=>⟨z.1,ht _ _ z.2.1,z.2.2⟩
variable {kvs:List (Key×V)}
theorem ZN {u:HO}(ok:HOk P w H h)(e:Rd H a u):ObjOk P w H h a u:=e.ok ok
theorem rB (ok:HOk P w H h)(e:Rd H a (.dK kvs)):kvs.length<=sizeLine/\(a==gq)=false/\∃vs,KV kvs vs/\h.DictOf (bT P w) a vs :=
 show ObjOk P w H h a (.dK kvs) from ZN ok e
theorem aEL (ok:HOk P w H h)(e:H a=some (.dK kvs)):kvs.length<=sizeLine/\(a==gq)=false/\∃vs,KV kvs vs/\h.DictOf (bT P w) a vs:=rB ok (.inl e)
theorem sU {ks:List Key}(ok:HOk P w H h)(e:H a=some (.tup (ks.map kV))):(uy (bT P w)).is h ks a:=by
 obtain⟨_,its,r,o,h1,h2,n,h3⟩:=(show ObjOk P w H h a (.tup (ks.map kV)) from ok a _ e)
 exact⟨o,its.toArray,n,h1,h2,h3,by simpa using FQ r⟩
theorem uV {kvs:List (List Key×V)}(ok:HOk P w H h)(e:Rd H a (.dT kvs)):kvs.length<=sizeLine/\(a==gq)=false ∧
  ∃xs,KT H kvs xs/\h.DictOfH (uy (bT P w)) a xs:=by
 obtain⟨z,y,xs,r,o,es,ep,h1,h2,h3,h4,h5⟩:=(show ObjOk P w H h a (.dT kvs) from ZN ok e)
 refine⟨z,y,xs,r,o,es,ep,h1,h2,h3,h4,λx hx=> ?_,h5⟩;have all:∀{l:List (List Key×V)}{m:List (List Key×Addr×af)},KT H l m->∀x∈m,(uy (bT P w)).is h x.1 x.2.1:=by
  intro l m q
  induction q with
  | nil=>intro x hx;exact nomatch hx
  | @cons p q ps qs hq t ih =>
   intro x hx;rcases ba.mp hx with e|hx
   .subst e;exact sU ok (by rw[←hq.1];exact hq.2.1)
   .exact ih x hx
 exact all r x hx
theorem aEg {kvs:List (List Key×V)}(ok:HOk P w H h)(e:H a=some (.dT kvs)):kvs.length<=sizeLine/\(a==gq)=false ∧
  ∃xs,KT H kvs xs/\h.DictOfH (uy (bT P w)) a xs:=uV ok (.inl e)
def DGet (H:Hp)(a:Addr)(y:V)(r:Option V):Prop :=
 (∃kvs k,Rd H a (.dK kvs)/\y=kV k/\r=aZ kvs k)∨∃kvs k b,Rd H a (.dT kvs)/\y= .ref b/\H b=some (.tup (k.map kV))/\r=aZ kvs k
def DPut (H:Hp)(a:Addr)(y v:V)(H':Hp):Prop :=
 (∃kvs k,H a=some (.dK kvs)/\y=kV k/\kvs.length<sizeLine/\H'=upd H a (.dK (cF kvs k v))) ∨
 ∃kvs k b,H a=some (.dT kvs)/\y= .ref b/\H b=some (.tup (k.map kV))/\kvs.length<sizeLine/\H'=upd H a (.dT (cF kvs k v))
theorem DGet.t {kvs:List (List Key×V)}{k:List Key}(e:H a=some (.dT kvs))(eb:H b=some (.tup (k.map kV))):DGet H a (.ref b) (aZ kvs k):= .inr ⟨kvs,k,b,.inl e,rfl,eb,rfl⟩
theorem DPut.k {k:Key}(e:H a=some (.dK kvs))(hl:kvs.length<sizeLine):DPut H a (kV k) v (upd H a (.dK (cF kvs k v))):= .inl ⟨kvs,k,e,rfl,hl,rfl⟩
theorem DPut.t {kvs:List (List Key×V)}{k:List Key}(e:H a=some (.dT kvs))(eb:H b=some (.tup (k.map kV)))(hl:kvs.length<sizeLine):
  DPut H a (.ref b) v (upd H a (.dT (cF kvs k v))):= .inr ⟨kvs,k,b,e,rfl,eb,hl,rfl⟩
variable {E Q:af->aj->Prop}{A:jx}
section
variable {y:V}{r:af}{o:Option V}
theorem Inv.big (I:Inv X pins σ H s):gq<s.heap.objs.size:=by
 have h:ah<s.heap.objs.size:=(I.mod.glob.keeps I.bk).lt;exact Nat.lt_trans (by decide) h
theorem FH (hu:A.units+1<nz)(I:Inv X pins σ H s)(g:DGet H a y (some v))(ry:RelV y u)(h:∀w' s',Inv X pins σ H s'->RelV v w'->Q w' s'):
  ax (be X.prog X.w) A (getItem (.ref a) u) Q E s:=by
 rcases g with⟨kvs,k,e,ey,l⟩|⟨kvs,k,b,e,ey,eb,l⟩
 .subst ey;obtain⟨z,hd,vs,rel,dd⟩:=rB I.hok e;obtain⟨w',hw,rw'⟩:=RelO.some_of (v:=v) (o:=xx vs k) (by rw[l];exact rel.val k);exact wpAny_getItem_of (q9 ry) dd.mapOf hw (h w' _ (I.tok _) rw')
 .subst ey;cases (show u=av b from ry);obtain⟨z,hd,xs,rel,dd⟩:=uV I.hok e;obtain⟨w',hw,rw'⟩:=RelO.some_of (v:=v) (o:=(atKey xs k).map (·.2)) (by rw[l];exact rel.val k);obtain⟨p,hp,hp2⟩:=gb.mp hw;refine wpAny_getItem_heap (kq hu) (sU I.hok eb) dd hp ?_;rw[hp2];exact h w' _ (I.tok _) rw'
theorem aE3 (hu:A.units+1<nz)(I:Inv X pins σ H s)(g:DGet H a y o)(ry:RelV y u)(h:∀s',Inv X pins σ H s'->Q (.bool o.isSome) s'):
  ax (be X.prog X.w) A (fe .In u (.ref a)) Q E s:=by
 rcases g with⟨kvs,k,e,ey,l⟩|⟨kvs,k,b,e,ey,eb,l⟩
 .subst ey;obtain⟨z,hd,vs,rel,dd⟩:=rB I.hok e;refine wpAny_in_of (q9 ry) hd dd.mapOf ?_;rw[←(rel.val k).isSome_eq,←l];exact h _ (I.tok _)
 .subst ey;cases (show u=av b from ry);obtain⟨z,hd,xs,rel,dd⟩:=uV I.hok e;refine wpAny_in_heap (kq hu) (sU I.hok eb) hd dd ?_;have q:=(rel.val k).isSome_eq;rw[ui]at q;rw[←q,←l];exact h _ (I.tok _)
theorem aBs (hu:A.units+1<nz)(I:Inv X pins σ H s)(g:DGet H a y o)(ry:RelV y u)(h:∀s',Inv X pins σ H s'->Q (.bool (!o.isSome)) s'):
  ax (be X.prog X.w) A (fe .NotIn u (.ref a)) Q E s:=by
 rcases g with⟨kvs,k,e,ey,l⟩|⟨kvs,k,b,e,ey,eb,l⟩
 .subst ey;obtain⟨z,hd,vs,rel,dd⟩:=rB I.hok e;refine wpAny_notIn_of (q9 ry) hd dd.mapOf ?_;rw[←(rel.val k).isSome_eq,←l];exact h _ (I.tok _)
 .subst ey;cases (show u=av b from ry);obtain⟨z,hd,xs,rel,dd⟩:=uV I.hok e;refine wpAny_notIn_heap (kq hu) (sU I.hok eb) hd dd ?_;have q:=(rel.val k).isSome_eq;rw[ui]at q;rw[←q,←l];exact h _ (I.tok _)
theorem N3 {ob:HO}(I:Inv X pins σ H s)(mu:Mut (H a))(hs:ie a s.heap h')(he:∃q,h'.get? a=some q)(new:ObjOk X.prog X.w (upd H a ob) h' a ob):
  Inv X pins σ (upd H a ob) { s with heap:=h',toks:=t' } :=
 I.write (x:=a) (e:=a) mu (.inl rfl) (λb q hb z=>(hs.2 b hb).trans z) he new
theorem T0 {vs:List (Key×af)}(z:kvs.length<=sizeLine)(hd:(a==gq)=false)(rel:KV kvs vs)(dd:h'.DictOf (bT P w) a vs):
  ObjOk P w H' h' a (.dK kvs):=⟨z,hd,vs,rel,dd⟩
theorem FK {Q:Unit->aj->Prop}(hu:A.units+1<nz)(I:Inv X pins σ H s)(g:DPut H a y v H')(ry:RelV y u)(rv:RelV v r)(h:∀s',Inv X pins σ H' s'->Q () s'):
  ax (be X.prog X.w) A (setItem (.ref a) u r) Q E s:=by
 rcases g with⟨kvs,k,e,ey,l,eH⟩|⟨kvs,k,b,e,ey,eb,l,eH⟩
 .subst ey eH;obtain⟨z,hd,vs,rel,dd⟩:=aEL I.hok e;have hz:vs.length<=sizeLine:=by rw[←rel.length];exact z
  have hl:(cF kvs k v).length<=sizeLine:=by have:=fI kvs k v;lia
  refine wpAny_setItem_pairs (hsz:=hz) (q9 ry) dd λh' dd' hs=>h _ ?_;have he:∃q,h'.get? a=some q:=let ⟨q,_,_,hq,_⟩:=dd';⟨q,hq⟩;exact N3 I (by rw[e];exact jg) hs he (T0 hl hd (rel.put k rv) dd')
 .subst ey eH;cases (show u=av b from ry);obtain⟨z,hd,xs,rel,dd⟩:=aEg I.hok e;have hz:xs.length<=sizeLine:=by rw[←cj rel];exact z
  have hl:(cF kvs k v).length<=sizeLine:=by have:=fI kvs k v;lia
  refine wpAny_setItem_heap (hsz:=hz) (kq hu) (sU I.hok eb) dd λh' dd' hs=>h _ ?_;obtain⟨q,es,ep,hq,h2,h3,h4,_,h5⟩:=dd';refine N3 I (by rw[e];exact jg) hs ⟨q,hq⟩ ⟨hl,hd,_,(rel.put k eb rv).keeps λc ys ec=> ?_,q,es,ep,hq,h2,h3,h4,h5⟩;rw[aJ (aEP ec e (λz=>nomatch z))];exact ec
end
section
variable {k:Key}
end
def aCY (i:Expr):Prop:=∀ov iv,xc i false ov iv=operate [ov,iv] (getItem ov iv)
variable {env:Env}{newId:String}
theorem aAs {slice:Expr}{T id:String}
  (hl:qo (.type T) "__getitem__" =pure (some (.builtin id)))(hs:aCY slice)
  (h:ax (be prog w) A (eval value env) (λo s₁=>ax (be prog w) A (eval slice env) (λi s₂=>s₂.TypeIs o T/\ax (be prog w) A (getItem o i) Q E s₂) E s₁) E s) :
  ax (be prog w) A (eval (.Subscript value slice pos) env) Q E s:=by
 refine Subscript_ (bu h (λo s₁ h₁=>bu h₁ (λi s₂ h₂=> ?_) λ_ _ x=>x) λ_ _ x=>x);obtain⟨hT,h₂⟩:=h₂;unfold subscriptTail;refine aa ?_;rw[getitemInPython_of_ne hT.not_modules];refine aa (wpAny_specialOf hT hl ?_);have fin:ax (be prog w) A (xc slice false o i) (λr s₃=>ax (be prog w) A (letTemporaryGo value o r >>= λ_=>pure r) Q E s₃) E s₂:=by
  rw[hs o i];exact wpAny_operating (bu h₂ (λr s₃ h₃=>aa (wpAny_letTemporaryGo (ai h₃))) λ_ _ x=>x)
 first
  | exact ai (aa fin)
  | exact aa (ai (aa fin))
  | exact aa fin
theorem L9 {y:V}{o:Option V}(I:Inv X pins σ H s)(g:DGet H a y o):s.TypeIs (.ref a) "dict" :=by
 rcases g with⟨kvs,k,e,_,_⟩|⟨kvs,k,b,e,_,_,_⟩
 .obtain⟨_,_,vs,_,dd⟩:=rB I.hok e;exact dd.typeIs
 .obtain⟨_,_,xs,_,dd⟩:=uV I.hok e;exact dd.typeIs
def ZF (td ty:TE):TE:=λσ H Q=>td σ H λx H1=>ty σ H1 λy H2=>∃a v,x= .ref a/\DGet H2 a y (some v)/\Q v H2
def aDN (ty td:TE):TE:=λσ H Q=>ty σ H λy H1=>td σ H1 λx H2=>∃a o,x= .ref a/\DGet H2 a y o/\Q (.bl o.isSome) H2
def NB (ty td:TE):TE:=λσ H Q=>ty σ H λy H1=>td σ H1 λx H2=>∃a o,x= .ref a/\DGet H2 a y o/\Q (.bl (!o.isSome)) H2
def aAd (td ty tv:TE):TS:=λD σ H=>tv σ H λv H1=>td σ H1 λx H2=>ty σ H2 λy H3=>∃a H4,x= .ref a/\DPut H3 a y v H4/\D.nx σ H4
def ZG (td ty tv:TE)(rd:V->V->Hp->VK->Prop):TS:=λD σ H=>td σ H λx H1=>ty σ H1 λy H2=>∃a v,x= .ref a/\DGet H2 a y (some v) ∧
 tv σ H2 λy2 H3=>rd v y2 H3 λz H4=>∃H5,DPut H4 a y z H5/\D.nx σ H5
variable {rd:V->V->Hp->VK->Prop}
section
variable {o i:Expr}{ty:TE}
theorem fJ (hu:X.A.units+1<nz)(ho:PE X o td)(hi:PE X i ty)(hs:aCY i):PE X (.Subscript o i pos) (ZF td ty):=by
 intro pins s σ H Q I h;refine aAs PySem.F.slot_dict_getitem.lookup hs (thn (ho pins s σ H _ I h) λu s1 ⟨x,H1,I1,rx,q1⟩=>thn (hi pins s1 σ H1 _ I1 q1) λiv s2 ⟨y,H2,I2,ry,a,v,ex,g,q2⟩=> ?_);subst ex;obtain rfl:u=av a:=rx;exact⟨L9 I2 g,FH hu I2 g ry λw' s3 I3 rw'=>⟨v,H2,I3,rw',q2⟩⟩
theorem aCh (hu:X.A.units+1<nz)(hi:PE X i ty)(ho:PE X o td):PC X .In i o (aDN ty td):=by
 intro pins s σ H Q I h;refine thn (hi pins s σ H _ I h) λiv s1 ⟨y,H1,I1,ry,q1⟩=>thn (ho pins s1 σ H1 _ I1 q1) λu s2 ⟨x,H2,I2,rx,a,ov,ex,g,q2⟩=> ?_;subst ex;obtain rfl:u=av a:=rx;exact aE3 hu I2 g ry λs3 I3=>⟨.bl ov.isSome,H2,I3,rfl,q2⟩
theorem qZ (hu:X.A.units+1<nz)(hi:PE X i ty)(ho:PE X o td):PC X .NotIn i o (NB ty td):=by
 intro pins s σ H Q I h;refine thn (hi pins s σ H _ I h) λiv s1 ⟨y,H1,I1,ry,q1⟩=>thn (ho pins s1 σ H1 _ I1 q1) λu s2 ⟨x,H2,I2,rx,a,ov,ex,g,q2⟩=> ?_;subst ex;obtain rfl:u=av a:=rx;exact aBs hu I2 g ry λs3 I3=>⟨.bl (!ov.isSome),H2,I3,rfl,q2⟩
theorem jR (hu:X.A.units+1<nz)(ho:PE X o td)(hi:PE X i ty)(hv:PE X value tv)(hs:mn value (some (.Subscript o i pos')) pos.line X.env=pure false):
  PS X (.Assign [.Subscript o i pos'] value pos) (aAd td ty tv):=by
 intro pins s σ H D I h;refine wpAny_Assign_Subscript (thn (hv pins s σ H _ I h) λr s1 ⟨v,H1,I1,rv,q1⟩=>thn (ho pins s1 σ H1 _ I1 q1) λu s2 ⟨x,H2,I2,rx,q2⟩=>thn (hi pins s2 σ H2 _ I2 q2) λiv s3 ⟨y,H3,I3,ry,a,H4,ex,g,q3⟩=> ?_) hs;subst ex;obtain rfl:u=av a:=rx;exact FK hu I3 g ry rv λs4 I4=>⟨σ,H4,I4,q3⟩
theorem aBj {op:Operator}(hu:X.A.units+1<nz)(ho:PE X o td)(hi:PE X i ty)(hv:PE X value tv)(hop:aDV X op rd)
  (ha:∀ov iv new,augStore i ov iv new=(do vt [new,ov,iv] (setItem ov iv new);release [new,ov,iv] [];pure .next)):PS X (.AugAssign (.Subscript o i tpos) op value pos) (ZG td ty tv rd):=by
 intro pins s σ H D I h;refine wpAny_AugAssign_SubscriptAny (thn (ho pins s σ H _ I h) λu s1 ⟨x,H1,I1,rx,q1⟩=>thn (hi pins s1 σ H1 _ I1 q1) λiv s2 ⟨y,H2,I2,ry,a,v,ex,g,q2⟩=> ?_) ha;subst ex;obtain rfl:u=av a:=rx;refine FH hu I2 g ry λw' s3 I3 rw'=>thn (hv pins s3 σ H2 _ I3 q2) λw2 s4 ⟨y2,H3,I4,ry2,q3⟩=>thn (hop pins s4 σ H3 v y2 w' w2 _ I4 rw' ry2 q3) λw3 s5 ⟨z,H4,I5,rz,H5,g5,q4⟩=> ?_;exact FK hu I5 g5 ry rz λs6 I6=>⟨σ,H5,I6,q4⟩
end
theorem YX (h:Heap)(hb:gq<h.objs.size):ObjOk P w H (h.push { cls:= .type "dict",data:= .dict #[] }) h.objs.size (.dK []) :=
 ⟨gi _,beq_eq_false_iff_ne.mpr (dg (bp hb)),[],.nil,yt h⟩
theorem X7 (h:Heap)(hb:gq<h.objs.size):ObjOk P w H (h.push { cls:= .type "dict",data:= .dict #[] }) h.objs.size (.dT []) :=
 ⟨gi _,beq_eq_false_iff_ne.mpr (dg (bp hb)),[],.nil,_,#[],0,aw _ rfl,⟨rfl,rfl,rfl⟩,rfl,rfl,ij⟩
def TZ:TE:=λ_ H Q=>∀p,H p=none->Q (.ref p) (upd H p (.dK []))
def TQ:TE:=λ_ H Q=>∀p,H p=none->Q (.ref p) (upd H p (.dT []))
theorem AL:PE X (.Dict [] [] pos) TZ:=λpins s σ H Q I h =>
 wpAny_Dict_empty ⟨.ref s.heap.objs.size,_,I.laid (a:=s.heap.objs.size) (o:= .dK []) (t':=s.toks) (λ_ _ q=>ae _ q) (ar _) (YX s.heap I.big),rfl,h _ (I.hok.fresh (ar _))⟩
theorem uB:PE X (.Dict [] [] pos) TQ:=λpins s σ H Q I h =>
 wpAny_Dict_empty ⟨.ref s.heap.objs.size,_,I.laid (a:=s.heap.objs.size) (o:= .dT []) (t':=s.toks) (λ_ _ q=>ae _ q) (ar _) (X7 s.heap I.big),rfl,h _ (I.hok.fresh (ar _))⟩
def j5 (kvs more:List (Key×V)):List (Key×V):=more.foldl (λacc kv=>cF acc kv.1 kv.2) kvs
theorem KV.merge:∀{more:List (Key×V)}{rs:List (Key×af)}{kvs:List (Key×V)}{vs:List (Key×af)},KV more rs->KV kvs vs->KV (j5 kvs more) (merged vs rs):=by
 intro more rs kvs vs r;unfold KV at r
 induction r generalizing kvs vs with
 | nil=>intro q;exact q
 | @cons p q ps qs h t ih =>
  intro r0;have e:KV (cF kvs p.1 p.2) (stored vs q.1 q.2):=by
   have:=r0.put p.1 h.2;rw[←h.1];exact this
  exact ih e
theorem vE:∀(more kvs:List (Key×V)),(j5 kvs more).length<=kvs.length+more.length
 | [],kvs=>by show kvs.length<=kvs.length+0;lia
 | p::r,kvs=>by
  have h1:=vE r (cF kvs p.1 p.2);have h2:=fI kvs p.1 p.2;show (j5 (cF kvs p.1 p.2) r).length<=_;rw[cv];lia
structure M2 (X:Cx)(o:Expr)(m:Str)(apos:Pos)(e f:Expr)(cpos:Pos):Prop where
 base:jt o m X.env (eval o X.env)=eval o X.env
 few:((fh cpos (az [e,f] X.env)).all (λx=> !x.1)&&(ri cpos (kh [] X.env)).all (λx=>x.1.isSome)
  && decide (([e,f]:List Expr).length+([]:List xu).length+(if ([]:List xu).isEmpty then 0 else 1)<30))=true
 line:(apos.endLine==cpos.line)=true
 trees:fh cpos (az [e,f] X.env)=[(false,eval e X.env),(false,eval f X.env)]
def IsD (H:Hp)(a:Addr):Prop:=(∃kvs,Rd H a (.dK kvs))∨∃kvs,Rd H a (.dT kvs)
theorem UB (I:Inv X pins σ H s)(d:IsD H a):
  s.TypeIs (.ref a) "dict" /\(∀b,av a= .ref b->∃ob,s.heap.get? b=some ob/\ob.dict=none)/\(a==gq)=false:=by
 rcases d with⟨kvs,e⟩|⟨kvs,e⟩
 .obtain⟨_,hd,vs,_,dd⟩:=rB I.hok e;refine⟨dd.typeIs,λb q=> ?_,hd⟩;cases q;obtain⟨ob,_,_,h1,h2,_⟩:=dd;exact⟨ob,h1,h2.2.1⟩
 .obtain⟨_,hd,xs,_,dd⟩:=uV I.hok e;refine⟨dd.typeIs,λb q=> ?_,hd⟩;cases q;obtain⟨ob,_,_,h1,h2,_⟩:=dd;exact⟨ob,h1,h2.2.1⟩
section
variable {y d:V}{r:af}{o:Option V}
theorem aDf (hu:A.units+1<nz)(I:Inv X pins σ H s)(g:DGet H a y o)(ry:RelV y u)(rd:RelV d r)(h:∀w' s',Inv X pins σ H s'->RelV (o.getD d) w'->Q w' s'):
  ax (be X.prog X.w) A (call (.builtin "dict.get") [.ref a,u,r]) Q E s:=by
 rcases g with⟨kvs,k,e,ey,l⟩|⟨kvs,k,b,e,ey,eb,l⟩
 .subst ey;obtain⟨z,hd,vs,rel,dd⟩:=rB I.hok e;refine pq qg dd.typeIs vv (vf _ _ _) (meets_dict_get_default (bT X.prog X.w) a (q9 ry) hd r) ⟨_,dd.mapOf,h _ _ (I.tok _) ?_⟩;rw[l];exact(rel.val k).getD rd
 .subst ey;cases (show u=av b from ry);obtain⟨z,hd,xs,rel,dd⟩:=uV I.hok e;refine pq qg dd.typeIs vv (vf _ _ _) (meetsH_dict_get_default (uy (bT X.prog X.w)) a b hd r) ⟨kq hu,k,xs,sU I.hok eb,dd,h _ _ (I.tok _) ?_⟩;rw[l];exact(rel.val k).getD rd
end
def UT (td ty tx:TE):TE:=λσ H Q=>td σ H λx H1=>∃a,x= .ref a/\IsD H1 a/\ty σ H1 λy H2=>tx σ H2 λz H3=>∃o,DGet H3 a y o/\Q (o.getD z) H3
section
variable {o f:Expr}{ty:TE}
theorem lH (hu:X.A.units+1<nz)(ho:PE X o td)(he:PE X e ty)(hf:PE X f tx)(m:M2 X o "get" apos e f cpos):PE X (.Call (.Attribute o "get" apos) [e,f] [] cpos) (UT td ty tx):=by
 intro pins s σ H Q I h;refine wpAny_Call_method m.base m.few m.line PySem.F.plainAttrs_dict qg PySem.F.type_dict_get (thn (ho pins s σ H _ I h) λu s1 ⟨x,H1,I1,rx,a,ex,d,q1⟩=> ?_);subst ex;obtain rfl:u=av a:=rx;obtain⟨t1,t2,_⟩:=UB I1 d;refine⟨t1,t2,?_⟩;rw[m.trees];refine oz rfl (jm (nv (thn (he pins s1 σ H1 _ I1 q1) λiv s2 ⟨y,H2,I2,ry,q2⟩ =>
  nv (thn (hf pins s2 σ H2 _ I2 q2) λfv s3 ⟨z,H3,I3,rz,ov,g,q3⟩=>uf ?_))))
 exact aDf hu I3 g ry rz λw' s4 I4 rw'=>⟨_,H3,I4,rw',q3⟩
end
section
variable {y:V}
end
section
variable [DecidableEq κ]
theorem aBm {kvs:List (κ×V)}{k:κ}(h:aZ kvs k=some v):k∈kvs.map (·.1):=by
 have q:(kvs.any λkv=>decide (kv.1=k))=true:=by
  rw[iU,h]
  all_goals rfl
 obtain⟨p,hp,e⟩:=mw.mp q;exact bg.mpr ⟨p,hp,of_decide_eq_true e⟩
theorem MV:∀{l:List κ}{k:κ},l.Nodup->¬k∈l->(l++[k]).Nodup
 | [],k,_,_=>by simp
 | a::r,k,h,hk=>by
  obtain⟨h1,h2⟩:=eg.mp h;show (a::(r++[k])).Nodup;refine eg.mpr ⟨λm=> ?_,MV h2 λm=>hk (ba.mpr (Or.inr m))⟩;rcases fc.mp m with q|q
  .exact h1 q
  .exact hk (ba.mpr (Or.inl (bj.mp q).symm))
end
open PySem.W
def fS (c:Nat->Nat->Bool):KasT α->α
 | .ret a=>a
 | .ask i j k=>fS c (k (c i j))
def KasIn (n:Nat)(R:α->Prop):KasT α->Prop
 | .ret a=>R a
 | .ask i j k=>i<n/\j<n/\∀b,KasIn n R (k b)
theorem KasIn.bind {β:Type}{R:α->Prop}{S:β->Prop}{f:α->KasT β}(hf:∀a,R a->KasIn n S (f a)):∀{t:KasT α},KasIn n R t->KasIn n S (t.bind f)
 | .ret _,h=>hf _ h
 | .ask _ _ _,h=>⟨h.1,h.2.1,λb=>KasIn.bind hf (h.2.2 b)⟩
theorem KasIn.val {R:α->Prop}(c:Nat->Nat->Bool):∀{t:KasT α},KasIn n R t->R (fS c t)
 | .ret _,h=>h
 | .ask i j k,h=>KasIn.val c (t:=k (c i j)) (h.2.2 (c i j))
theorem KasIn.wp {R:α->Prop}{c:Nat->Nat->Bool}{cmp:Nat->Nat->(Bool->aj->Prop)->aj->Prop}(hc:∀i j,i<n->j<n->∀C,C (c i j) s->cmp i j C s){Q:α->aj->Prop}:
  ∀{t:KasT α},KasIn n R t->Q (fS c t) s->t.kasWp cmp Q s
 | .ret _,_,q=>q
 | .ask i j k,h,q=>hc i j h.1 h.2.1 _ (KasIn.wp hc (t:=k (c i j)) (h.2.2 (c i j)) q)
abbrev Places (n:Nat)(p:Array Nat):Prop:=p.Perm (fz n).toArray
theorem Places.lt {p:Array Nat}(h:Places n p)(h0:0<n)(i:Nat):p.getD i 0<n:=by
 by_cases hi:i<p.size
 .have e:p.getD i 0=p[i]:=by simp[Array.getD,hi]
  rw[e];have:=h.mem_iff.mp (Array.getElem_mem hi)
  simpa using this
 .have e:p.getD i 0=0:=by simp[Array.getD,hi]
  rw[e];exact h0
theorem jS {p:Array Nat}(h:Places n p)(i j:Nat):Places n (kas_rev p i j):=(mirror_perm _ _ _ _).trans h
theorem J5 {p:Array Nat}(h0:0<n)(hp:Places n p):∀(f k:Nat),KasIn n (λ_=>True) (kas_asc p f k)
 | 0,_=>trivial
 | f+1,k=>⟨hp.lt h0 _,hp.lt h0 _,λb=>by cases b with|true=>exact trivial|false=>exact J5 h0 hp f (k+1)⟩
theorem yA (h0:0<n):∀(f:Nat) {p:Array Nat},Places n p->∀k q,KasIn n (λr:Array Nat×Nat×Nat=>Places n r.1) (kas_desc f p k q)
 | 0,_,hp,_,_=>hp
 | f+1,p,hp,k,q=>by
  refine⟨hp.lt h0 _,hp.lt h0 _,λb=> ?_⟩;cases b with
  | true =>
   show KasIn n _ (if q>0 then _ else _)
   split
   .exact yA h0 f (jS hp _ _) _ _
   .exact yA h0 f hp _ _
  | false =>
   refine⟨hp.lt h0 _,hp.lt h0 _,λb=> ?_⟩;cases b with
   | true=>exact hp
   | false=>exact yA h0 f hp _ _
theorem K3 {k m:Nat}{p:Array Nat}(h0:0<n)(hp:Places n p):KasIn n (λr:Nat×Array Nat=>Places n r.2) (kas_tail3 k m p) :=
 KasIn.bind (R:=λ_=>True) (S:=λr:Nat×Array Nat=>Places n r.2) (f:=λj=> .ret (j,kas_rev p 0 k)) (λ_ _=>jS hp 0 k) (J5 h0 (jS hp 0 k) (m - k) k)
theorem zF {k m:Nat}{p:Array Nat}(h0:0<n)(hp:Places n p):KasIn n (λr:Nat×Array Nat=>Places n r.2) (kas_descPart k m p) :=
 KasIn.bind (λr hr=>by
  split
  .exact K3 h0 (jS hr _ _)
  .exact K3 h0 hr) (yA h0 _ hp _ _)
theorem XM {m:Nat}{p:Array Nat}(h0:0<n)(hp:Places n p):KasIn n (λr:Nat×Array Nat=>Places n r.2) (kas_count m p) :=
 KasIn.bind (λk _=>by
  split
  .exact hp
  .split
   .refine⟨hp.lt h0 _,hp.lt h0 _,λb=> ?_⟩;cases b with
    | true=>exact hp
    | false=>exact zF h0 (jS hp _ _)
   .exact zF h0 hp) (J5 h0 hp _ _)
theorem A2 {k:Nat}{p:Array Nat}(h0:0<n)(hp:Places n p):∀(f l r:Nat),KasIn n (λ_=>True) (kas_place p k f l r)
 | 0,_,_=>trivial
 | f+1,l,r=>by
  unfold kas_place
  split
  .exact trivial
  .refine⟨hp.lt h0 _,hp.lt h0 _,λb=> ?_⟩;cases b with
   | true=>exact A2 h0 hp f _ _
   | false=>exact A2 h0 hp f _ _
theorem R7 (h0:0<n):∀(f:Nat) {p:Array Nat} (k:Nat),Places n p->KasIn n (Places n) (kas_bin f p k)
 | 0,_,_,hp=>hp
 | f+1,_,k,hp=>KasIn.bind (λ_ _=>R7 h0 f (k+1) ((bubble_perm _ _ _).trans hp)) (A2 h0 hp _ _ _)
theorem N5 (h0:0<n):KasIn n (Places n) (kas_sort n) :=
 KasIn.bind (λr hr=>by
  split
  .exact R7 h0 _ _ hr
  .exact hr) (XM h0 (Array.Perm.refl _))
def c5 (d:α)(c:Nat->Nat->Bool)(l:List α):List α:=if l.length<2 then l else (fS c (kas_sort l.length)).toList.map λi=>l.getD i d
theorem iG (c:Nat->Nat->Bool)(h:0<n):Places n (fS c (kas_sort n)):=(N5 h).val c
theorem DX (d:α)(c:Nat->Nat->Bool)(l:List α):(c5 d c l).length=l.length:=by
 unfold c5
 split
 .rfl
 .have h:=(iG (n:=l.length) c (by lia)).size_eq;rw[ao,fj,h];simp
open PySem.Calls
variable {bm sub us:List af}
abbrev tE (a:Addr)(h h':Heap):Prop:=∀b o,b≠a->h.get? b=some o->h'.get? b=some o
theorem aBt {vs:List af}{P:PySem.Fin->aj->Prop}(c:Nat->Nat->Bool)(κ:mi)(ho:s.heap.get? a=some (lq "list" vs.toArray n))(h64:vs.length<64)
  (hk:2<=vs.length->∀h',tE a s.heap h'->∀R:mi->aj->Prop,R κ { s with heap:=h' }->ax (be prog w) A (keyKind' vs.toArray) R (λ_ _=>False) { s with heap:=h' })
  (hc:2<=vs.length->∀h',tE a s.heap h'->∀i j,i<vs.length->j<vs.length->∀C,C (c i j) { s with heap:=h' }->kas_ask prog w A κ vs i j C { s with heap:=h' })
  (h:∀h' e,tE a s.heap h'->h'.get? a=some (lq "list" (c5 bw c vs).toArray e)->P (.done (.ret .none)) { s with heap:=h' }) :
  ax (be prog w) A (nq.«list.sort» ⟨[.ref a],[]⟩) P E s:=by
 have lt:a<s.heap.objs.size:=ag ho;generalize hg1:s.heap.update a (ju λ_=>(#[]:Array af))=g1;have sb1:ie a s.heap g1:=hg1▸jb s.heap a (ju λ_=>(#[]:Array af));obtain⟨e1,o1⟩:∃e1,g1.get? a=some (lq "list" #[] e1):=hg1▸⟨_,get?_update_seq ho λ_=> #[]⟩;have lt1:a<g1.objs.size:=ag o1;have kp:tE a s.heap ((g1.push (lq "tuple" vs.toArray 0)).push (lq "list" #[] 0)):=λb o hb q =>
  ae _ (ae _ ((sb1.2 b hb).trans q))
 have o3:((g1.push (lq "tuple" vs.toArray 0)).push (lq "list" #[] 0)).get? a=some (lq "list" #[] e1):=ae _ (ae _ o1);generalize hg3:(g1.push (lq "tuple" vs.toArray 0)).push (lq "list" #[] 0)=g3 at kp o3;have fin:∀out:List af,out.length=vs.length->out=c5 bw c vs->ax (be prog w) A (do
   let touched:=(←seqEpoch a) !=e1
   vg (.ref a) λ_=>out.toArray
   if let some e:=(none:Option af) then rule "list.sort.comparison-raised";throw e
   if touched then rule "list.sort.modified";raiseError "ValueError" "list modified during sort"
   ret .none) P E { s with heap:=g3 }:=by
  intro out hl ho';obtain⟨e2,o4⟩:∃e2,(g3.update a (ju λ_=>out.toArray)).get? a=some (lq "list" out.toArray e2):=⟨_,get?_update_seq o3 λ_=>out.toArray⟩
  refine aa (seqEpoch_at (s:={ s with heap:=g3 }) o3 rfl ?_);refine aa (listUpdate_at (s:={ s with heap:=g3 }) o3 rfl ?_ (gi _) (by rw[br,bq];lia));simp only[bne_self_eq_false,gm,if_false];refine ai (h _ e2 (λb o hb q=> ?_) (ho'▸o4));exact((jb g3 a (ju λ_=>out.toArray)).2 b hb).trans (kp b o hb q)
 rw[list_sort_plain];refine aa (listItems_at ho rfl (aa (listUpdate_at ho rfl ?_ (by rw[br,bq];lia) (gi _))));rw[hg1];refine aa (seqEpoch_at (s:={ s with heap:=g1 }) o1 rfl ?_);refine aa (wpAny_newTuple ?_ (by show vs.length<=_;rw[bq];lia));refine aa (wpAny_newList ?_ (gi _));refine dy ?_;show ax (be prog w) A _ P E { s with heap:=(g1.push (lq "tuple" vs.toArray 0)).push (lq "list" #[] 0) };rw[hg3]
 dsimp only
 by_cases h2:vs.toArray.size<2
 .rw[if_pos h2,if_pos h2];have h2':vs.length<2:=by rwa [br]at h2
  refine aa (ai ?_);rw[StateT.run_pure];refine aa (ai ?_)
  dsimp only
  have ez:(arrOf (SortSt.mk' general' (vs.toArray.zip vs.toArray) #[] 7 none)).map (·.2)=vs.toArray:=by
   show (vs.toArray.zip vs.toArray).map (·.2)=_
   apply Array.toList_inj.mp
   rw[Array.toList_map,Array.toList_zip,List.map_snd_zip];exact ar _
  rw[ez];exact fin vs rfl (by unfold c5;rw[if_pos h2'])
 .rw[if_neg h2,if_neg h2];have h2':2<=vs.length:=by rw[br]at h2;lia
  refine aa (bu (hk h2' _ kp (λκ' s'=>κ'=κ/\s'={ s with heap:=g3 }) ⟨rfl,rfl⟩) ?_ λ_ _ x=>x.elim);rintro _ _ ⟨rfl,rfl⟩;refine aa (bu (kat_run (Q:=λst' s'=>∃p:Array Nat,p=fS c (kas_sort vs.length)/\arrOf st'=p.map (kas_item (vs.toArray.zip vs.toArray))/\failedOf st'=none/\s'={ s with heap:=g3 }) (G:=λp s'=>p=fS c (kas_sort vs.length)/\s'={ s with heap:=g3 })
   rfl h2' h64 (λp st' s' _ a2 a3 a4=>⟨p,a4.1,a2,a3,a4.2⟩) ((N5 (by lia)).wp (hc h2' _ kp) ⟨rfl,rfl⟩)) ?_ λ_ _ e=>e)
  rintro ⟨⟨⟩,st'⟩ _ ⟨p,rfl,har,hf,rfl⟩
  dsimp only
  rw[kat_snds rfl har,hf];have hz:=(iG (n:=vs.length) c (by lia)).size_eq;exact fin _ (by rw[ao,fj,hz];simp) (by unfold c5;rw[if_neg (by lia)])
theorem SO {l:Addr}{vs:List af}(c:Nat->Nat->Bool)(κ:mi)(hl:s.heap.IsList l vs.toArray)(h64:vs.length<64)
  (hk:2<=vs.length->∀h',(∀b o,s.heap.get? b=some o->h'.get? b=some o)->∀R:mi->aj->Prop,R κ { s with heap:=h' }->ax (be prog w) A.in1.in1 (keyKind' vs.toArray) R (λ_ _=>False) { s with heap:=h' })
  (hc:2<=vs.length->∀h',(∀b o,s.heap.get? b=some o->h'.get? b=some o)->∀i j,i<vs.length->j<vs.length->∀C,C (c i j) { s with heap:=h' }->kas_ask prog w A.in1.in1 κ vs i j C { s with heap:=h' })
  (h:∀D h' e,s.heap.objs.size<=D->(∀b o,s.heap.get? b=some o->h'.get? b=some o)->h'.get? D=some (lq "list" (c5 bw c vs).toArray e)->Q (.ref D) { s with heap:=h' }) :
  ax (be prog w) A (call (.builtin "sorted") [.ref l]) Q E s:=by
 have hz64:vs.length<=sizeLine:=by rw[bq];lia
 refine Calls.call_function_entry kind_sorted plain_sorted entry_sorted (args_sorted1 _) ?_;unfold nq.«sorted»;refine aa (m:=checkCount "sorted" 1 1 _) (ai (aa (collect_list hl ?_ hz64)));refine aa (wpAny_newList ?_ hz64);generalize hq:(s.heap.push (lq "list" #[] 0)).update s.heap.objs.size (ju (·++vs.toArray))=q;have qs:q.objs.size=s.heap.objs.size+1:=by rw[←hq,Heap.size_update,size_push']
 have qk:∀b o,s.heap.get? b=some o->q.get? b=some o:=λb o e=>by
  have bl:b<s.heap.objs.size:=ag e;rw[←hq,Heap.get?_update_ne _ _ _ _ (bp bl),Heap.get?_push_ne _ _ _ (bp bl)];exact e
 have oD:(q.push (lq "list" vs.toArray 0)).get? q.objs.size=some (lq "list" vs.toArray 0):=aw _ rfl;have kD:∀h',tE q.objs.size (q.push (lq "list" vs.toArray 0)) h'->∀b o,s.heap.get? b=some o->h'.get? b=some o:=λh' k b o e =>
  k b o (bp (by rw[qs];exact uh (ag e))) (ae _ (qk b o e))
 refine aa (dy (ia slot_list_sort ⟨_,oD,rfl⟩ entry_list_sort ?body (args_list_sort _)))
 case body =>
  refine aBt (s:={ s with heap:=q.push (lq "list" vs.toArray 0) }) c κ oD h64 (λh2 h' k=>hk h2 h' (kD h' k)) (λh2 h' k=>hc h2 h' (kD h' k)) λh' e k o'=> ?_;exact⟨_,rfl,ai ⟨_,rfl,h _ h' e (by show s.heap.objs.size<=q.objs.size;rw[qs];exact jk _) (kD h' k) o'⟩⟩
def eZ:Key->Bool
 | .inl _=>true
 | .inr _=>false
def QX:Key->Key->Bool
 | .inl i,.inl j=>decide (i<j)
 | .inr x,.inr y=>decide (x.cps.toList<y.cps.toList)
 | _,_=>false
def JY:List Key->List Key->Bool
 | a::as,b::bs=>if a=b then JY as bs else QX a b
 | _,_=>false
theorem aCe {a b:Key}{v:af}{Q:Bool->aj->Prop}(k:eZ a=eZ b)(ru:RelV (kV a) u)(rv:RelV (kV b) v)(q:Q (decide (a=b)) s):ax (be prog w) A (eqBool u v) Q E s:=by
 cases a<;>cases b<;>first|(cases k;done)|skip
 .obtain⟨t,rfl⟩:=ru;obtain⟨t',rfl⟩:=rv;refine wpAny_eqBool_int ?_;rename_i i j;have e:(i==j)=decide ((uc i:Key)=uc j):=by
   by_cases z:i=j
   .subst z;simp
   .rw[beq_false_of_ne z,decide_eq_false (λy=>z (wx y))]
  rw[e];exact q
 .obtain⟨t,rfl⟩:=ru;obtain⟨t',rfl⟩:=rv;refine wpAny_eqBool_str ?_;rename_i i j;have e:decide (i=j)=decide ((mm i:Key)=mm j):=by
   by_cases z:i=j
   .subst z;simp
   .rw[decide_eq_false z,decide_eq_false (λy=>z (kg y))]
  rw[e];exact q
theorem aCX {a b:Key}{v:af}{Q:Bool->aj->Prop}(k:eZ a=eZ b)(ru:RelV (kV a) u)(rv:RelV (kV b) v)(q:Q (QX a b) s)(t:Bool):ax (be prog w) A (oneLt' t u v) Q E s:=by
 cases a<;>cases b<;>first|(cases k;done)|skip
 .obtain⟨t1,rfl⟩:=ru;obtain⟨t2,rfl⟩:=rv;cases t with
  | true=>exact oneLt_int q
  | false=>exact kat_one _ _ (lt_int q)
 .obtain⟨t1,rfl⟩:=ru;obtain⟨t2,rfl⟩:=rv;cases t with
  | true=>exact oneLt_str q
  | false=>exact kat_one _ _ (lt_str q)
theorem U3 {Q:Bool->aj->Prop}:∀{as bs:List Key}{us vs:List af} (i:Nat),as.map eZ=bs.map eZ->Vals (as.map kV) us->Vals (bs.map kV) vs->Q (JY as bs) s->KatLex prog w A true false Q (us.zip vs) i s
 | [],[],_,_,_,_,.nil,.nil,q=>kat_nil q
 | [],_::_,_,_,_,k,_,_,_=>by cases k
 | _::_,[],_,_,_,k,_,_,_=>by cases k
 | a::as,b::bs,_,_,i,k,.cons ra rs,.cons rb rt,q=>by
  have k1:eZ a=eZ b:=(jv k).1;refine kat_cons (aCe k1 ra rb ?_);have q':Q (if a=b then JY as bs else QX a b) s:=q
  by_cases z:a=b
  .rw[if_pos z]at q';rw[decide_eq_true z];exact kat_yes (U3 (i+1) (jv k).2 rs rt q')
  .rw[if_neg z]at q';rw[decide_eq_false z];exact kat_no (aCX k1 ra rb q' _)
abbrev KRows (H:Hp):List V->List (List Key)->Prop:=cg λv r=>∃p,v= .ref p/\H p=some (.tup (r.map kV))
theorem KRows.map (f:∀p xs,H p=some (.tup xs)->H' p=some (.tup xs)):∀{vs:List V}{rs:List (List Key)},KRows H vs rs->KRows H' vs rs
 | _,_,.nil=> .nil
 | _,_,.cons ⟨p,e,h⟩ r=> .cons ⟨p,e,f _ _ h⟩ (KRows.map f r)
variable {rs:List (List Key)}
theorem KRows.same (x:KRows H vs rs)(s:Same H H'):KRows H' vs rs:=x.map λp xs h=>s _ _ h
theorem KRows.get:∀{vs:List V}{rs:List (List Key)}{i:Nat}{v:V},KRows H vs rs->vs[i]? =some v->∃p r,v= .ref p/\rs[i]? =some r/\H p=some (.tup (r.map kV))
 | _,_,0,_,.cons ⟨p,e,h⟩ _,z=>by cases z;exact⟨p,_,e,rfl,h⟩
 | _,_,i+1,_,.cons _ t,z=>KRows.get (i:=i) t (by simpa using z)
 | _,_,_,_,.nil,z=>by simp at z
def qY (rs:List (List Key))(i j:Nat):Bool:=JY (rs.getD i []) (rs.getD j [])
def QU (rs:List (List Key))(vs:List V):List V:=c5 .non (qY rs) vs
variable {sh:List Bool}
theorem ED (I:Inv X pins σ H s){r:List Key}(e:H p=some (.tup (r.map kV))):∃(o:Obj) (us:List af) (n:Nat),s.heap.get? p=some o/\o.cls= .type "tuple" /\o.data= .seq us.toArray n/\Vals (r.map kV) us:=by
 obtain⟨_,its,r',o,h1,h2,n,h3⟩:=(show ObjOk X.prog X.w H s.heap p (.tup (r.map kV)) from I.hok p _ e)
 exact⟨o,its,n,h1,h2,h3,r'⟩
theorem FI (I:Inv X pins σ H s){T:af}(kp:∀b o,s.heap.get? b=some o->h'.get? b=some o)(hT:∀(k:Key) (u:af),sh.head? =some (eZ k)->RelV (kV k) u->Looks (be X.prog X.w) h' (xg u) T):
  ∀{vs:List V}{rs:List (List Key)}{us:List af},KRows H vs rs->Vals vs us->(∀r∈rs,r.map eZ=sh)->sh≠[]->∃fs,KatTups h' us fs/\fs.length=us.length/\∀v∈fs,Looks (be X.prog X.w) h' (xg v) T
 | _,_,_,.nil,.nil,_,_=>⟨[],trivial,rfl,λ_ z=>nomatch z⟩
 | _::_,r::_,_::_,.cons ⟨p,hv,e⟩ q,.cons rv rt,hs,hn=>by
  obtain⟨fs,f1,f2,f3⟩:=FI I kp hT q rt (λr hr=>hs r (bx _ hr)) hn;subst hv;cases rv;have hr:=hs r (.head _);cases r with
  | nil=>exact absurd hr.symm hn
  | cons k ks =>
   obtain⟨o,us,n,o1,o2,o3,o4⟩:=ED I e;cases o4 with
   | cons r1 r2 =>
    rename_i u us;refine⟨u::fs,KatTups.cons (kp _ _ o1) o2 o3 (by simp) f1,by simp[f2],λv hv=> ?_⟩;rcases ba.mp hv with rfl|hv
    .exact hT k _ (by rw[←hr];rfl) r1
    .exact f3 v hv
def MQ (K:W.Frag):List V->Hp->VK->Prop:=λxs H Q=>∃p vs rs sh,xs=[.ref p]/\SqL K H p vs/\KRows H vs rs/\vs.length<64/\(∀r∈rs,r.map eZ=sh)/\sh≠[]/\∀l,H l=none->Q (.ref l) (upd H l (.lst (QU rs vs)))
theorem IT (c:Nat->Nat->Bool)(r:Vals xs us):Vals (c5 .non c xs) (c5 bw c us):=by
 have hl:=r.length;unfold c5;rw[hl]
 split
 .exact r
 .have hp:=iG (n:=us.length) c (by lia);have hm:∀i∈(fS c (kas_sort us.length)).toList,i<us.length:=λi hi=>by
   have h:=hp.mem_iff.mp (rh.mp hi)
   simpa using h
  revert hm;generalize (fS c (kas_sort us.length)).toList=l;intro hm
  induction l with
  | nil=>exact .nil
  | cons i l ih =>
   refine .cons ?_ (ih λj hj=>hm j (bx _ hj));have hi:=hm i (.head _);have hx:xs[i]? =some (xs[i]'(by lia)):=aq _;obtain⟨u,hu,ru⟩:=r.get hx;show RelV (xs.getD i .non) (us.getD i bw);rw[cf,cf,hx,hu];exact ru
theorem KN:cQ X (.builtin "sorted") (MQ X.K):=by
 intro pins s σ H xs us Q I r h;obtain⟨p,vs,rs,sh,rfl,hq,kr,h64,hs,hn,q⟩:=h;obtain⟨u,rfl,rx⟩:=gG r;cases rx;obtain⟨its,rv,pl,hz⟩:=I.list hq;have hl:=rv.length;have hT:∃T:af,(T==T)=true/\(T !=ki "tuple")=true/\∀(h':Heap) (k:Key) (u:af),sh.head? =some (eZ k)->RelV (kV k) u->Looks (be X.prog X.w) h' (xg u) T:=by
  cases sh with
  | nil=>exact absurd rfl hn
  | cons b sh =>
   cases b with
   | true =>
    refine⟨.type "int",rfl,by decide,λh' k u hk ru=> ?_⟩;cases k with
    | inl i=>obtain⟨t,rfl⟩:=ru;exact Looks.of_pure rfl
    | inr x=>cases hk
   | false =>
    refine⟨.type "str",rfl,by decide,λh' k u hk ru=> ?_⟩;cases k with
    | inl i=>cases hk
    | inr x=>obtain⟨t,rfl⟩:=ru;exact Looks.of_pure rfl
 obtain⟨T,t1,t2,t3⟩:=hT;refine SO (qY rs) (tuples' true) pl.isList (by lia) (λh2 h' kp R hR=> ?_) (λh2 h' kp i j hi hj C hC=> ?_) λD h' e hD kp o'=> ?_
 .obtain⟨fs,f1,f2,f3⟩:=FI I kp (λk u=>t3 h' k u) kr rv hs hn;refine kat_kind (s:={ s with heap:=h' }) f1 (by lia) f3 t1 ?_;rw[t2];exact hR
 .obtain⟨p1,r1,x1,y1,z1⟩:=kr.get (i:=i) (aq (by lia));obtain⟨p2,r2,x2,y2,z2⟩:=kr.get (i:=j) (aq (by lia));obtain⟨u1,v1,w1⟩:=rv.get (aq (show i<vs.length by lia));obtain⟨u2,v2,w2⟩:=rv.get (aq (show j<vs.length by lia));rw[x1]at w1;rw[x2]at w2;cases w1;cases w2;obtain⟨o1,us1,n1,g1,c1,d1,l1⟩:=ED I z1;obtain⟨o2,us2,n2,g2,c2,d2,l2⟩:=ED I z2;have s1:=hs r1 (bz y1);have s2:=hs r2 (bz y2);have e1:=l1.length;have e2:=l2.length;rw[ao]at e1 e2;have e3:r1.length=r2.length:=by rw[←ao (f:=eZ),s1,←s2,ao]
  unfold kas_ask;rw[cf,cf,v1,v2];refine kat_lt (s:={ s with heap:=h' }) (kp _ _ g1) d1 (kp _ _ g2) d2 ?_;rw[show decide (us1.toArray.size<us2.toArray.size)=false from decide_eq_false (by rw[br,br];lia)];refine U3 0 (s1.trans s2.symm) l1 l2 ?_;have ec:qY rs i j=JY r1 r2:=by
   unfold qY;rw[cf,cf,y1,y2];rfl
  rw[ec]at hC;exact hC
 .exact⟨.ref D,_,I.laid (t':=s.toks) kp hD (show ObjOk X.prog X.w _ h' _ (.lst _) from⟨by rw[DX];exact hz,_,e,IT _ rv,o'⟩),rfl,q _ (I.hok.fresh hD)⟩
variable {o ob:Obj}
section
variable {es:Array lj}
theorem AQ (hd:(d==gq)=false)(ho:s.heap.get? d=some o)(hc:o.ExactDict)(hq:o.data= .dict es ep)
  (k:Q (.ref s.heap.objs.size) { s with heap:=s.heap.push { cls:= .type "dict_keyiterator",data:= .fields #[.ref d,.int 0 0,.int es.size 0,.int ep 0] } }):ax (be prog w) A (pyIter (.ref d)) Q E s:=by
 have T:s.TypeIs (.ref d) "dict" :=⟨o,ho,hc.1⟩
 refine wpAny_pyIter_slot T F.slot_dict_iter (ia F.slot_dict_iter T F.entry_dict_iter ?_ (F.args_dict_iter_1 _));unfold nq.«dict.__iter__» nq.Dict.dictSlotNone;refine aa (aa (wpAny_notOrdered_dict T (ai ?_)));show ax _ A.in1 (wq d >>= _) _ _ s;unfold wq;rw[if_neg (λz=>by rw[hd]at z;cases z)];refine aa (ai (aa (uj ho hq (aa (we ho hq ?_)))));exact aa (fu (ai ⟨_,rfl,"dict_keyiterator",_,⟨_,aw _ rfl,rfl⟩,F.slot_dict_keyiterator_next.lookup,k⟩))
theorem JA {Q:Option af->aj->Prop}{e:lj}(hit:s.heap.IsKeyIter it d i es.size ep)(ho:s.heap.get? d=some o)(hq:o.data= .dict es ep)(hx:es[i]? =some e)
  (k:∀h',h'.IsKeyIter it d (i+1) es.size ep->ie it s.heap h'->Q (some e.key) { s with heap:=h' }):ax (be prog w) A (rl (.ref it)) Q E s:=by
 obtain⟨oi,hi,ci,di⟩:=id hit;have T:=hit.typeIs;unfold rl;refine aa (qz (ib (name:=jq "__next__") T F.slot_dict_keyiterator_next (ia F.slot_dict_keyiterator_next T F.entry_dict_keyiterator_next ?_ (F.args_dict_keyiterator_next_1 _))));refine aa (ai (aa (aa ?_)))
 first|refine aa (ix T (ai (aa (tu hi di ?_))))|refine aa (jw T (ai (aa (tu hi di ?_))))
 simp only[show rq "dict_keyiterator" =false by decide,gm,if_false];show ax _ A.in1 (if (av d==bw)=true then _ else _) _ _ s;rw[if_neg (show ¬(av d==bw)=true from bh)];refine aa (ai (aa (uj ho hq ?_)));rw[if_neg (by simp)];refine aa (ai (aa (we ho hq ?_)));rw[if_neg (by simp)];refine ai ?_;simp only[show ¬((i:Int)<0) from by lia,if_false,ly,hx];refine aa ?_
 first|refine aa (ix T (ai (aa (qh T ?_))))|refine aa (jw T (ai (aa (qh T ?_))))
 show ax _ A.in1 (tq (.ref it) 1 (rawInt ((i:Int)+1)) >>= _) _ _ s;refine aa (fq hi di (by simp) ?_);have H2:(s.heap.update it (cc (·.setIfInBounds 1 (rawInt ((i:Int)+1))))).IsKeyIter it d (i+1) es.size ep :=
  ⟨_,ck _ hi (df (cu di _)),(js ..).trans ci,(cu di _).trans (by simp[rawInt])⟩
 refine aa (dy (aa (qh (s:={ s with heap:=s.heap.update it (cc (·.setIfInBounds 1 (rawInt ((i:Int)+1)))) }) H2.typeIs ?_)));show ax _ A.in1 (pure e.key) _ _ _;exact ai (ai ⟨_,rfl,ai (k _ H2 (jb ..))⟩)
theorem NK {Q:Option af->aj->Prop}(hh:A.handled=none)(hit:s.heap.IsKeyIter it d i es.size ep)(ho:s.heap.get? d=some o)(hq:o.data= .dict es ep)(hx:es.size<=i)
  (k:∀h',Heap.ExtBut it s.heap h'->Q none { s with heap:=h' }):ax (be prog w) A (rl (.ref it)) Q E s:=by
 obtain⟨oi,hi,ci,di⟩:=id hit;have T:=hit.typeIs;unfold rl;refine aa (qz (ib (name:=jq "__next__") T F.slot_dict_keyiterator_next (ia F.slot_dict_keyiterator_next T F.entry_dict_keyiterator_next ?_ (F.args_dict_keyiterator_next_1 _))));refine aa (ai (aa (aa ?_)))
 first|refine aa (ix T (ai (aa (tu hi di ?_))))|refine aa (jw T (ai (aa (tu hi di ?_))))
 simp only[show rq "dict_keyiterator" =false by decide,gm,if_false];show ax _ A.in1 (if (av d==bw)=true then _ else _) _ _ s;rw[if_neg (show ¬(av d==bw)=true from bh)];refine aa (ai (aa (uj ho hq ?_)));rw[if_neg (by simp)];refine aa (ai (aa (we ho hq ?_)));rw[if_neg (by simp)];refine ai ?_;simp only[show ¬((i:Int)<0) from by lia,if_false,ly,Array.getElem?_eq_none hx];refine aa ?_
 first|refine aa (ix T (ai ?_))|refine aa (jw T (ai ?_))
 show ax _ A.in1 (tq (.ref it) 0 .none >>= _) _ _ s;refine aa (fq hi di (by simp) ?_);show ax _ A.in1 (newExc (.type "StopIteration") [] >>= _) _ _ _;refine aa ?_;simp only[newExc,newTuple];refine aa (fu (aa (m:=mj _ _) (xk (a:=bw) (by first|rfl|(simp only[mj];rfl)) (fu ?_ (by size_fits)))) (by size_fits));simp only[xl];refine aa (ur ?_);rw[show A.in1.handled=none from hh];refine aa (ai (oj ?_));refine aa (kc (b:=true) (T:= "StopIteration") ⟨_,aw _ rfl,rfl⟩ isSubtype_stop ?_);exact ai (k _ (((jb ..).extBut.push _).push _))
end
def Itk (a:Addr)(o:Obj)(kvs:List (Key×V)):It :=
 ⟨λi H=>H a=some (.frz o (.dK kvs))/\i<kvs.length,λi H x H'=>H'=H/\∃k v,kvs[i]? =some (k,v)/\x=kV k,λi H=>H a=some (.frz o (.dK kvs))/\kvs.length<=i⟩
def Itq (a:Addr)(o:Obj)(kvs:List (List Key×V)):It :=
 ⟨λi H=>H a=some (.frz o (.dT kvs))/\i<kvs.length,λi H x H'=>H'=H/\∃k v q,kvs[i]? =some (k,v)/\x= .ref q/\H q=some (.tup (k.map kV)),λi H=>H a=some (.frz o (.dT kvs))/\kvs.length<=i⟩
theorem KT.get:∀{kvs:List (List Key×V)}{xs:List (List Key×Addr×af)}{i:Nat},KT H kvs xs->i<kvs.length->∃k v b u,kvs[i]? =some (k,v)/\xs[i]? =some (k,b,u)/\H b=some (.tup (k.map kV))
 | _,_,0,.cons h _,_=>⟨_,_,_,_,rfl,by rw[h.1];rfl,h.2.1⟩
 | _,_,i+1,.cons _ t,hi=>by
  obtain⟨k,v,b,u,e1,e2,e3⟩:=KT.get (i:=i) t (by simpa using hi);exact⟨k,v,b,u,by simpa using e1,by simpa using e2,e3⟩
 | _,_,_,.nil,hi=>by simp at hi
theorem KT.len {kvs:List (List Key×V)}{xs:List (List Key×Addr×af)}(r:KT H kvs xs):kvs.length=xs.length:=cj r
theorem PY (a it:Addr){es:Array lj}(kvs:List (List Key×V))(hd:o.data= .dict es ep)(hz:es.size=kvs.length):
  sF P w K tg (Itq a o kvs) [it] it (λi h=>h.IsKeyIter it a i es.size ep) where
 mem:=by simp
 obj:=λi h st b hb=>by
  have e:b=it:=by simpa using hb
  subst e;obtain⟨ob,e,c,d⟩:=st;exact⟨ob,e,λv z=>by rw[d]at z;cases z⟩
 keep:=λi h h' st k=>st.at λob e=>k it (by simp) ob e
 item:=by
  intro X hP hw hK hc i pins s σ H E I hf st hg;subst hP hw hK;obtain⟨ha,hi⟩:=hg;obtain⟨ho,hok⟩:=(show ObjOk X.prog X.w H s.heap a (.frz o (.dT kvs)) from I.hok a _ ha)
  obtain⟨z,y,xs,r,o',es',ep',h1,h2,h3,h4,h5⟩:=hok;rw[ho]at h1;cases h1;rw[hd]at h3;cases h3;obtain⟨k,v,b,u,e1,e2,e3⟩:=KT.get r hi;have e4:=entry_at h4 i;rw[e2]at e4;obtain⟨f0,f1,f2,f3,f4,f5⟩:=hf it (by simp);refine JA st ho hd e4 λh' st' sb=> ?_;have I1:Inv X pins σ H { s with heap:=h' }:=I.turned (t':=s.toks) (λb o hb e=>(sb.2 b hb).trans e) f0 f1 f3 f4 f5;exact⟨_,rfl,letGo_keyiter (s':={ s with heap:=h' }) st' ⟨.ref b,H,I1,rfl,⟨rfl,k,v,b,e1,rfl,e3⟩,st',λb hb=>(hf b hb).1⟩⟩
 done:=by
  intro X hP hw hK hc i pins s σ H E I hf st hg;subst hP hw hK;obtain⟨ha,hi⟩:=hg;obtain⟨ho,hok⟩:=(show ObjOk X.prog X.w H s.heap a (.frz o (.dT kvs)) from I.hok a _ ha)
  obtain⟨f0,f1,f2,f3,f4,f5⟩:=hf it (by simp);exact NK (I.ok.hd hc) st ho hd (by lia) λh' eb=>⟨rfl,I.turned (t':=s.toks) (λb o hb e=>eb b o hb e) f0 f1 f3 f4 f5⟩
 self:=λ_ _ _ _ _ st h=>wpAny_pyIter_keyiter st h
def UK (td:TE):TI:=λσ H R=>td σ H λx H1=>∃a kvs,x= .ref a/\H1 a=some (.dT kvs)/\∀o,R (Itq a o kvs) (upd H1 a (.frz o (.dT kvs)))
theorem Inv.freeze {u:HO}(I:Inv X pins σ H s)(mu:Mut (some u))(e:H a=some u)(ho:s.heap.get? a=some o)(new:ObjOk X.prog X.w (upd H a (.frz o u)) s.heap a (.frz o u)):Inv X pins σ (upd H a (.frz o u)) s :=
 I.write (t':=s.toks) (h':=s.heap) (by rw[e];exact mu) (.inl rfl) (λb u _ z=>z) ⟨_,ho⟩ new
theorem XV {l:Expr}(hl:PE X l td):PI X tg l (UK td):=by
 intro pins s σ H R I h;refine thn (hl pins s σ H _ I h) λv s1 ⟨x,H1,I1,r1,q1⟩=> ?_;obtain⟨a,kvs,rfl,hq,q⟩:=q1;cases r1;obtain⟨z,y,xs,r,o,es,ep,h1,h2,h3,h4,h5⟩:=(show ObjOk X.prog X.w H1 s1.heap a (.dT kvs) from I1.hok a _ hq)
 have hz:es.size=kvs.length:=by rw[size_of_entries h4,KT.len r]
 have hne:∀b ys,H1 b=some (.tup ys)->upd H1 a (.frz o (.dT kvs)) b=some (.tup ys):=λb ys e=>by
  have hb:b≠a:=λz=>by rw[z,hq]at e;cases e
  rw[aJ hb];exact e
 have new:ObjOk X.prog X.w (upd H1 a (.frz o (.dT kvs))) s1.heap a (.frz o (.dT kvs)):=⟨h1,z,y,xs,KT.keeps r hne,o,es,ep,h1,h2,h3,h4,h5⟩
 have I2:Inv X pins σ (upd H1 a (.frz o (.dT kvs))) s1:=I1.freeze trivial hq h1 new;refine AQ y h1 h2 h3 ?_;refine⟨s1.heap.objs.size,[s1.heap.objs.size],_,_,upd H1 a (.frz o (.dT kvs)),rfl,I2.kept (t':=s1.toks) λb o e=>ae _ e,PY a _ kvs h3 hz,⟨_,aw _ rfl,rfl,rfl⟩,λb hb=> ?_,q o⟩;have e:b=s1.heap.objs.size:=by simpa using hb
 subst e;exact I2.fpOk (ar _) (I2.hok.fresh (ar _))
section
variable {c:Expr}{lo hi:Option Expr}{tl th ts:TO}{p2:Pos}
end
def yJ:V->Bool
 | .ref _=>true
 | x=>gI x
variable {ti:TT}{fin:List V->Hp->Prop}{ci:List Nat}
section
variable {rest:St}
end
theorem VP:dv "sorted" =some (.builtin "sorted"):=by decide +kernel
theorem Room.units1 {k:Nat}(r:Room k A):A.units+1<nz:=by have:=r.un;lia
section
variable {Q:VK}
end
section
variable {Q:VK}
theorem V8 (h:∀p H',H p=none->Same H H'->H' p=some (.dT [])->Q (.ref p) H'):TQ σ H Q:=eO h
theorem AA [DecidableEq κ]{kvs:List (κ×V)}{k:κ}{e:κ×V}(h:e∈cF kvs k v):e∈kvs∨e.1=k/\e.2=v:=by
 unfold cF at h
 split at h
 .obtain⟨p,hp,e1⟩:=bg.mp h
  by_cases z:p.1=k
  .rw[if_pos z]at e1;subst e1;exact .inr ⟨z,rfl⟩
  .rw[if_neg z]at e1;subst e1;exact .inl hp
 .rcases fc.mp h with h|h
  .exact .inl h
  .cases bj.mp h;exact .inr ⟨rfl,rfl⟩
end
theorem jK {k:Nat}{t:TGs}{n:Nat}{pos:Pos}(hc:X.calm=true)(h:PGs X es t)(hK:X.K=K:=by rfl)
  (hn:(qj es X.env).length=n:=by rfl)(hst:(qj es X.env).findIdx? (·.1)=none:=by rfl):PG X (.Tuple es k pos) (DO K n t):=by
 subst hK;exact tF hc h hn hst
theorem EW (hK:X.K=K:=by rfl):IxR X (XF K):=by
 subst hK;exact kH
def Q5 (nx:St->Hp->Prop)(σ:St)(x v:V):VK:=λy H3=>∃a H4,x= .ref a/\DPut H3 a y v H4/\nx σ H4
def P4 (Q:VK)(x:V):VK:=λy H2=>∃a v,x= .ref a/\DGet H2 a y (some v)/\Q v H2
def ZP (R:It->Hp->Prop):VK:=λx H1=>∃a kvs,x= .ref a/\H1 a=some (.dT kvs)/\∀o,R (Itq a o kvs) (upd H1 a (.frz o (.dT kvs)))
variable {ct nx:St->Hp->Prop}
section
variable {Q:VK}{rt bk:St->Hp->Prop}
theorem aAz {ty:TE}{rt:VK}{bk:St->Hp->Prop}(h:tv σ H λv H1=>td σ H1 λx H2=>ty σ H2 (Q5 nx σ x v)):aAd td ty tv ⟨nx,rt,bk,ct⟩ σ H:=h
theorem pF {kvs:List (List Key×V)}(k:List Key)(e:H p=some (.dT kvs))(eb:H b=some (.tup (k.map kV)))(hl:kvs.length<sizeLine)
  (h:∀H',SameBut p H H'->H' p=some (.dT (cF kvs k v))->nx σ H'):Q5 nx σ (.ref p) v (.ref b) H :=
 ⟨p,_,rfl,DPut.t e eb hl,h _ SameBut.upd aU⟩
theorem aAv {ty:TE}(h:td σ H λx H1=>ty σ H1 (P4 Q x)):ZF td ty σ H Q:=h
theorem uR {kvs:List (List Key×V)}(k:List Key)(e:Rd H p (.dT kvs))(eb:H b=some (.tup (k.map kV)))(hv:aZ kvs k=some v)(h:Q v H):P4 Q (.ref p) (.ref b) H :=
 ⟨p,v,rfl,.inr ⟨kvs,k,b,e,rfl,eb,hv.symm⟩,h⟩
theorem V4 {R:It->Hp->Prop}(h:td σ H (ZP R)):UK td σ H R:=h
theorem W0 {kvs:List (List Key×V)}{R:It->Hp->Prop}(e:H p=some (.dT kvs))(h:∀o H',SameBut p H H'->H' p=some (.frz o (.dT kvs))->R (Itq p o kvs) H'):ZP R (.ref p) H :=
 ⟨p,kvs,rfl,e,λo=>h o _ SameBut.upd aU⟩
end
theorem vV:entryFor table "dict_itemiterator.__iter__" =some nq.«dict_keyiterator.__iter__»:=entryFor_alias (id':= "dict_keyiterator.__iter__") (by kernel_rfl) rfl (by decide +kernel) (by kernel_rfl)
theorem EZ {k:Key}(h:(bT P w).is k u=true):RelV (kV k) u:=by
 rcases cP h with⟨i,t,rfl,rfl⟩|⟨x,t,rfl,rfl⟩
 .exact⟨t,rfl⟩
 .exact⟨t,rfl⟩
theorem IZ {kvs:List (κ×V)}{vs:List (κ×af)}(h:KV kvs vs)(hi:i<kvs.length):∃k v u,kvs[i]? =some (k,v)/\vs[i]? =some (k,u)/\RelV v u:=by
 induction h generalizing i with
 | nil=>exact absurd hi (wg _)
 | @cons x y l m h t ih =>
  cases i with
  | zero=>exact⟨x.1,x.2,y.2,rfl,by rw[h.1];rfl,h.2⟩
  | succ i=>exact ih (pw hi)
theorem F8 [DecidableEq κ]{knd:KeyKind P w κ}:∀{es:List lj}{kvs:List (κ×af)}{i:Nat}{k:κ}{u:af},Pairs knd es kvs->kvs[i]? =some (k,u)->∃e,es[i]? =some e/\knd.is k e.key=true/\e.val=u
 | _,_,0,_,_,.cons h1 h2 _,z=>by cases z;exact⟨_,rfl,h1,h2⟩
 | _,_,i+1,_,_,.cons _ _ t,z=>by
  obtain⟨e,e1,e2⟩:=F8 (i:=i) t (by simpa using z);exact⟨e,by simpa using e1,e2⟩
 | _,_,_,_,_,.nil,z=>by simp at z
theorem PZ (a it:Addr){es:Array lj}(kvs:List (Key×V))(hd:o.data= .dict es ep)(hz:es.size=kvs.length):
  sF P w K tg (Itk a o kvs) [it] it (λi h=>h.IsKeyIter it a i es.size ep) where
 mem:=by simp
 obj:=λi h st b hb=>by
  have e:b=it:=by simpa using hb
  subst e;obtain⟨ob,e,c,d⟩:=st;exact⟨ob,e,λv z=>by rw[d]at z;cases z⟩
 keep:=λi h h' st k=>st.at λob e=>k it (by simp) ob e
 item:=by
  intro X hP hw hK hc i pins s σ H E I hf st hg;subst hP hw hK;obtain⟨ha,hi⟩:=hg;obtain⟨ho,z,y,vs,r,o',es',ep',h1,h2,h3,h4,h5,h6⟩:=(show ObjOk X.prog X.w H s.heap a (.frz o (.dK kvs)) from I.hok a _ ha)
  rw[ho]at h1;cases h1;rw[hd]at h3;cases h3;obtain⟨k,v,u,e1,e2,e3⟩:=IZ r hi;obtain⟨e,f6,f7,f8⟩:=F8 h5 e2;obtain⟨f0,f1,f2,f3,f4,f5⟩:=hf it (by simp);refine JA st ho hd (e:=e) (by simpa using f6) λh' st' sb=> ?_;have I1:Inv X pins σ H { s with heap:=h' }:=I.turned (t':=s.toks) (λb o hb e=>(sb.2 b hb).trans e) f0 f1 f3 f4 f5;exact⟨_,rfl,letGo_keyiter (s':={ s with heap:=h' }) st' ⟨kV k,H,I1,EZ f7,⟨rfl,k,v,e1,rfl⟩,st',λb hb=>(hf b hb).1⟩⟩
 done:=by
  intro X hP hw hK hc i pins s σ H E I hf st hg;subst hP hw hK;obtain⟨ha,hi⟩:=hg;obtain⟨ho,hok⟩:=(show ObjOk X.prog X.w H s.heap a (.frz o (.dK kvs)) from I.hok a _ ha)
  obtain⟨f0,f1,f2,f3,f4,f5⟩:=hf it (by simp);exact NK (I.ok.hd hc) st ho hd (by lia) λh' eb=>⟨rfl,I.turned (t':=s.toks) (λb o hb e=>eb b o hb e) f0 f1 f3 f4 f5⟩
 self:=λ_ _ _ _ _ st h=>wpAny_pyIter_keyiter st h
def SS (td:TE):TI:=λσ H R=>td σ H λx H1=>∃a kvs,x= .ref a/\H1 a=some (.dK kvs)/\∀o,R (Itk a o kvs) (upd H1 a (.frz o (.dK kvs)))
theorem AN {l:Expr}(hl:PE X l td):PI X tg l (SS td):=by
 intro pins s σ H R I h;refine thn (hl pins s σ H _ I h) λv s1 ⟨x,H1,I1,r1,q1⟩=> ?_;obtain⟨a,kvs,rfl,hq,q⟩:=q1;cases r1;obtain⟨z,y,vs,r,o,es,ep,h1,h2,h3,h4,h5,h6⟩:=(show ObjOk X.prog X.w H1 s1.heap a (.dK kvs) from I1.hok a _ hq)
 have hz:es.size=kvs.length:=by rw[r.length,←h5.length];simp
 have new:ObjOk X.prog X.w (upd H1 a (.frz o (.dK kvs))) s1.heap a (.frz o (.dK kvs)):=⟨h1,z,y,vs,r,o,es,ep,h1,h2,h3,h4,h5,h6⟩
 have I2:Inv X pins σ (upd H1 a (.frz o (.dK kvs))) s1:=I1.freeze trivial hq h1 new;refine AQ y h1 h2 h3 ?_;refine⟨s1.heap.objs.size,[s1.heap.objs.size],_,_,upd H1 a (.frz o (.dK kvs)),rfl,I2.kept (t':=s1.toks) λb o e=>ae _ e,PZ a _ kvs h3 hz,⟨_,aw _ rfl,rfl,rfl⟩,λb hb=> ?_,q o⟩;have e:b=s1.heap.objs.size:=by simpa using hb
 subst e;exact I2.fpOk (ar _) (I2.hok.fresh (ar _))
def Iti (a:Addr)(o:Obj)(kvs:List (Key×V)):It :=
 ⟨λi H=>H a=some (.frz o (.dK kvs))/\i<kvs.length,λi H x H'=>∃k v q,kvs[i]? =some (k,v)/\x= .ref q/\H q=none/\H'=upd H q (.tup [kV k,v]),λi H=>H a=some (.frz o (.dK kvs))/\kvs.length<=i⟩
theorem MH {x1:Nat}(a it:Addr){es:Array lj}(kvs:List (Key×V))(hd:o.data= .dict es ep):
  sF P w K (.Tuple elts x1 tpos) (Iti a o kvs) [it] it (λi h=>∃ok ov,IsItemIter h it a i kvs.length ep ok ov) where
 mem:=by simp
 obj:=λi h st b hb=>by
  have e:b=it:=by simpa using hb
  subst e;obtain⟨ok,ov,e⟩:=st;exact⟨_,e,λv z=>by cases z⟩
 keep:=λi h h' st k=>let ⟨ok,ov,e⟩:=st;⟨ok,ov,k it (by simp) _ e⟩
 item:=by
  intro X hP hw hK hc i pins s σ H E I hf st hg;subst hP hw hK;obtain⟨ha,hi⟩:=hg;obtain⟨ok,ov,st⟩:=st;obtain⟨ho,z,y,vs,r,o',es',ep',h1,h2,h3,h4,h5,h6⟩:=(show ObjOk X.prog X.w H s.heap a (.frz o (.dK kvs)) from I.hok a _ ha)
  rw[ho]at h1;cases h1;rw[hd]at h3;cases h3;obtain⟨k,v,u,e1,e2,e3⟩:=IZ r hi;obtain⟨f0,f1,f2,f3,f4,f5⟩:=hf it (by simp);have hl:=r.length;refine wpAny_pyNext_items_item (knd:=bT X.prog X.w) (kvs:=vs) (by rw[←hl];exact st) ⟨o,es,ho,h2,hd,h4,h5,h6⟩ e2 λkey h' kk st' ht hs kp=> ?_;refine⟨_,rfl,?_⟩;refine wpAny_letOwnedTupleGo_items (s:={ s with heap:=h' }) st' λh'' st'' sb=> ?_;have hq:H s.heap.objs.size=none:=I.hok.fresh (ar _);have hne:s.heap.objs.size≠it:=λz=>by
   have:=ag (show s.heap.get? it=some _ from st);rw[z]at this;exact bt _ this
  have tup:Vals [kV k,v] [key,u]:= .cons (EZ kk) (.cons e3 .nil);have I1:Inv X pins σ (upd H s.heap.objs.size (.tup [kV k,v])) { s with heap:=s.heap.push { cls:= .type "tuple",data:= .seq #[key,u] } } :=
   I.laid (t':=s.toks) (λb u e=>ae _ e) (ar _) ⟨(show 2<=sizeLine by rw[bq];decide),[key,u],tup,⟨_,aw _ rfl,rfl,0,rfl⟩⟩
  have n0:upd H s.heap.objs.size (.tup [kV k,v]) it=none:=by rw[aJ (dg hne)];exact f0
  have I2:Inv X pins σ (upd H s.heap.objs.size (.tup [kV k,v])) { s with heap:=h'' }:=Inv.turned (s:={ s with heap:=s.heap.push { cls:= .type "tuple",data:= .seq #[key,u] } }) (h':=h'') (t':=s.toks) (it:=it) I1 (λb o hb e=>by
   rcases xm e with⟨rfl,rfl⟩|e
   .exact(sb.2 _ hb).trans ht
   .exact(sb.2 b hb).trans (kp b o hb e)) n0 f1 f3 f4 f5
  exact⟨.ref s.heap.objs.size,_,I2,rfl,⟨k,v,_,e1,rfl,hq,rfl⟩,⟨key,u,by rw[hl];exact st''⟩,λb hb=>by
   have e:b=it:=by simpa using hb
   rw[e];exact n0⟩
 done:=by
  intro X hP hw hK hc i pins s σ H E I hf st hg;subst hP hw hK;obtain⟨ha,hi⟩:=hg;obtain⟨ok,ov,st⟩:=st;obtain⟨ho,z,y,vs,r,o',es',ep',h1,h2,h3,h4,h5,h6⟩:=(show ObjOk X.prog X.w H s.heap a (.frz o (.dK kvs)) from I.hok a _ ha)
  rw[ho]at h1;cases h1;rw[hd]at h3;cases h3;have hl:=r.length;obtain⟨f0,f1,f2,f3,f4,f5⟩:=hf it (by simp);exact wpAny_pyNext_items_end (knd:=bT X.prog X.w) (kvs:=vs) (I.ok.hd hc) (by rw[←hl];exact st) ⟨o,es,ho,h2,hd,h4,h5,h6⟩ (wt (by lia)) λh' eb=>⟨rfl,I.turned (t':=s.toks) (λb o hb e=>eb b o hb e) f0 f1 f3 f4 f5⟩
 self:=λA i s Q E st h=>by
  obtain⟨ok,ov,st⟩:=st;have T:s.TypeIs (.ref it) "dict_itemiterator" :=⟨_,st,rfl⟩
  refine wpAny_pyIter_slot T F.slot_dict_itemiterator_iter (ia F.slot_dict_itemiterator_iter T vV ?_ (F.args_dict_itemiterator_iter_1 _));show ax _ _ (ret (.ref it)) _ _ s;exact ai ⟨_,rfl,"dict_itemiterator",_,T,F.slot_dict_itemiterator_next.lookup,h⟩
def aBS (td:TE):TI:=λσ H R=>td σ H λx H1=>∃a kvs,x= .ref a/\H1 a=some (.dK kvs)/\∀o,R (Iti a o kvs) (upd H1 a (.frz o (.dK kvs)))
theorem T8 {l:Expr}{elts:List Expr}{x1:Nat}{tpos:Pos}(hl:PE X l td)(hbase:jt l "items" X.env (eval l X.env)=eval l X.env:=by rfl)(hline:(apos.endLine==cpos.line)=true:=by rfl):
  PI X (.Tuple elts x1 tpos) (.Call (.Attribute l "items" apos) [] [] cpos) (aBS td):=by
 intro pins s σ H R I h;refine wpAny_Call_method0_late hbase hline (thn (hl pins s σ H _ I h) λv s1 ⟨x,H1,I1,r1,q1⟩=> ?_);obtain⟨a,kvs,rfl,hq,q⟩:=q1;cases r1;obtain⟨t1,t2,_⟩:=UB I1 (.inl ⟨kvs,.inl hq⟩);refine⟨"dict","dict.items",F.plainAttrs_dict,F.slot_dict_items,F.type_dict_items,t1,t2,oz rfl (PySem.evalArgs_none ?_)⟩;obtain⟨z,y,vs,r,o,es,ep,h1,h2,h3,h4,h5,h6⟩:=(show ObjOk X.prog X.w H1 s1.heap a (.dK kvs) from I1.hok a _ hq)
 have hL:=r.length;refine pq F.slot_dict_items t1 F.entry_dict_items (F.args_dict_items_1 _) (meets_dict_items (bT X.prog X.w) a y) ⟨⟨vs,o,es,ep,h1,h2,h3,h4,h5,h6⟩,?_⟩;have new:ObjOk X.prog X.w (upd H1 a (.frz o (.dK kvs))) s1.heap a (.frz o (.dK kvs)):=⟨h1,z,y,vs,r,o,es,ep,h1,h2,h3,h4,h5,h6⟩
 have I2:Inv X pins σ (upd H1 a (.frz o (.dK kvs))) s1:=I1.freeze trivial hq h1 new;have I3:Inv X pins σ (upd H1 a (.frz o (.dK kvs))) { s1 with heap:=s1.heap.push { cls:= .type "dict_items",data:= .fields #[.ref a] } }:=I2.kept (t':=s1.toks) λb o e=>ae _ e;refine wpAny_pyIter_items (knd:=bT X.prog X.w) (kvs:=vs) (ep:=ep) ⟨_,aw _ rfl,rfl,rfl⟩ ⟨o,es,ae _ h1,h2,h3,h4,h5,h6⟩ ?_;refine⟨_,[_],_,_,upd H1 a (.frz o (.dK kvs)),rfl,I3.kept (t':=s1.toks) λb o e=>ae _ e,MH a _ kvs h3,⟨.none,.none,by rw[hL];exact aw _ rfl⟩,λb hb=> ?_,q o⟩;obtain rfl:=bj.mp hb;exact I3.fpOk (ar _) (I3.hok.fresh (ar _))
section
variable {u:HO}
theorem Inv.thaw (I:Inv X pins σ H s)(h0:∀o u,X.H₀ a≠some (.frz o u))(e:H a=some (.frz o u)):Inv X pins σ (upd H a u) s:=by
 have nn:∀b,H b=none->b≠a:=λb n z=>by rw[z,e]at n;cases n
 have no:∀b c,H b=some (.own c)->b≠a:=λb c n z=>by rw[z,e]at n;cases n
 have nt:∀b xs,H b=some (.tup xs)->b≠a:=λb c n z=>by rw[z,e]at n;cases n
 refine⟨I.ok,I.os,I.bare,⟨I.base.keep,I.base.slot,λb ob q n hx=> ?_,I.base.there,λb xs q=> ?_,λb ob xs q=> ?_,λb ps q=> ?_⟩,I.loc,I.cell,?_,λx c ec=> ?_,λp hp=> ?_,λb v q=> ?_,I.len⟩
 .have z:=I.base.free b ob q n hx;rw[aJ (nn b z)];exact z
 .have z:=I.base.tups b xs q;rw[aJ (nt b xs z)];exact z
 .have z:=I.base.frzs b ob xs q;have hb:b≠a:=λy=>h0 ob xs (by rw[←y];exact q);rw[aJ hb];exact z
 .obtain⟨more,z⟩:=I.base.tbls b ps q;refine⟨more,?_⟩;rw[aJ (λy=>by rw[y,e]at z;cases z)];exact z
 .rw[aJ (nn _ I.free)];exact I.free
 .rw[aJ (nn _ (I.freeC x c ec))];exact I.freeC x c ec
 .obtain⟨p1,p2,p3⟩:=I.pin p hp;exact⟨p1,by rw[aJ (nn _ p2)];exact p2,p3⟩
 .have so:∀b c,H b=some (.own c)->upd H a u b=some (.own c):=λb c z=>by rw[aJ (no b c z)];exact z
  have st:∀b xs,H b=some (.tup xs)->upd H a u b=some (.tup xs):=λb c z=>by rw[aJ (nt b c z)];exact z
  by_cases hb:b=a
  .subst hb;rw[aU]at q;cases q;obtain⟨_,z⟩:=(show ObjOk X.prog X.w H s.heap b (.frz o u) from I.hok b _ e)
   exact z.stay (λ_ _ _ q=>q) (λc z=>so c b z) st
  .rw[aJ hb]at q;exact(I.hok b v q).stay (λ_ _ _ q=>q) (λc z=>so c b z) st
theorem Inv.wasFree (I:Inv X pins σ H s)(h:∀o u,H a≠some (.frz o u)):∀o u,X.H₀ a≠some (.frz o u):=λo u z=>h o u (I.base.frzs a o u z)
end
def fR (a:Addr)(R:Hp->Prop):Hp->Prop:=λH=>∃o u,H a=some (.frz o u)/\R (upd H a u)
def Z8 (te:TE):TE:=λσ H Q=>∃a,(∀o u,H a≠some (.frz o u))/\te σ H λx=>fR a (Q x)
def ZL (ts:TS):TS:=λD σ H=>∃a,(∀o u,H a≠some (.frz o u))/\ts ⟨λσ'=>fR a (D.nx σ'),λv=>fR a (D.rt v),λσ'=>fR a (D.bk σ'),λσ'=>fR a (D.ct σ')⟩ σ H
theorem yG (he:PE X e te):PE X e (Z8 te):=by
 intro pins s σ H Q I h;obtain⟨a,h0,h⟩:=h;refine thn (he pins s σ H _ I h) λv s1 ⟨x,H1,I1,r1,o,u,e,q⟩=> ?_;exact⟨x,_,I1.thaw (I.wasFree h0) e,r1,q⟩
theorem aAA {st:Stmt}(he:PS X st ts):PS X st (ZL ts):=by
 intro pins s σ H D I h;obtain⟨a,h0,h⟩:=h;refine thn (he pins s σ H _ I h) λf s1 z=> ?_;cases f with
 | next=>obtain⟨σ1,H1,I1,o,u,e,q⟩:=z;exact⟨σ1,_,I1.thaw (I.wasFree h0) e,q⟩
 | brk=>obtain⟨σ1,H1,I1,o,u,e,q⟩:=z;exact⟨σ1,_,I1.thaw (I.wasFree h0) e,q⟩
 | cont=>obtain⟨σ1,H1,I1,o,u,e,q⟩:=z;exact⟨σ1,_,I1.thaw (I.wasFree h0) e,q⟩
 | ret v=>obtain⟨x,σ1,H1,I1,r,o,u,e,q⟩:=z;exact⟨x,σ1,_,I1.thaw (I.wasFree h0) e,r,q⟩
theorem KH:∀bs:List Bool,((fz bs.length).any λi=>bs.getD i false)=bs.any id
 | []=>rfl
 | b::bs=>by
  rw[cv,pe,jf,List.any_map,jf,←KH bs];rfl
def aDH (K:W.Frag):List V->Hp->VK->Prop:=λxs H Q=>∃(p:Addr) (bs:List Bool),xs=[.ref p]/\SqL K H p (bs.map V.bl)/\Q (.bl (bs.any id)) H
theorem F5 (hc:X.calm=true):cQ X (.builtin "any") (aDH X.K):=by
 intro pins s σ H xs us Q I r h;obtain⟨p,bs,rfl,hq,q⟩:=h;obtain⟨u,rfl,rx⟩:=gG r;cases rx;obtain⟨its,r',pl,hz⟩:=I.list hq;have hl:=pl.isList;have hlt:p<s.heap.objs.size:=by obtain⟨_,e,_⟩:=hl;exact ag e
 have hlen:bs.length=its.length:=by have:=r'.length;rw[ao]at this;exact this
 refine call_any_walk (lu hl ?_);refine⟨s.heap.objs.size,_,_,its.toArray.size,_,_,λi=>bs.getD i false,rfl,Walks.list (show X.A.in1.handled=none from I.ok.hd hc) s.heap.objs.size p (bp hlt) its.toArray,⟨⟨_,aw _ rfl,rfl,rfl⟩,hl.push _⟩,?_,?_⟩
 .intro i v s' Q' E' hi hQ;have hi':its[i]? =some v:=by simpa using hi
  have hib:i<bs.length:=by rw[hlen];exact(ay.mp hi').1
  obtain⟨u,hu,ru⟩:=r'.get (i:=i) (x:=V.bl bs[i]) (by rw[dk,aq hib];rfl);rw[hi']at hu;cases hu;have:v=sy bs[i]:=ru;subst this;refine ft ?_;have eb:bs.getD i false=bs[i]:=by rw[cf,aq hib];rfl
  have hQ':Q' (bs.getD i false) s':=hQ;rw[eb]at hQ';exact hQ'
 .intro h' tk hk;have eany:(fz its.toArray.size).any (λi=>bs.getD i false)=bs.any id:=by
   rw[br,←hlen];exact KH bs
  rw[eany];refine⟨.bl (bs.any id),H,?_,rfl,q⟩;have I1:Inv X pins σ H { s with heap:=s.heap.push { cls:= .type "list_iterator",data:= .fields #[.ref p,.int 0 0] },toks:=s.toks }:=I.kept λb u e=>ae _ e;obtain⟨f0,f1,f2,f3,f4,f5⟩:=I.fpOk (ar _) (I.hok.fresh (ar _));exact I1.turned (λb o hb e=>hk b o (by simpa using hb) e) f0 f1 f3 f4 f5
section
variable {Q:VK}
theorem UV {bs:List Bool}(e:SqL K H p (bs.map V.bl))(h:Q (.bl (bs.any id)) H):aDH K [.ref p] H Q:=⟨p,bs,rfl,e,h⟩
end
theorem SL:dv "any" =some (.builtin "any"):=by decide +kernel
theorem aAx:qo (.type "list") "keys" =pure none:=by rw[wj,qi];kernel_rfl
theorem aA2:qo (.type "list") "__getattr__" =pure none:=by rw[wj,qi];kernel_rfl
theorem KP:isSubtype (.type "AttributeError") (.type "AttributeError")=pure true:=by rw[isSubtype_type];kernel_rfl
theorem X1:((Manifest.find? "AttributeError").elim false λt=>t.mro.contains "StopIteration" ||t.mro.contains "SystemExit")=false:=by decide +kernel
variable {its:Array af}{tk:Tok}{R:yg->aj->Prop}
theorem XC {α:Type}{v:af}{Q:α->aj->Prop}(hh:A.handled=none)
  (k:∀e h' tk' o,h'.get? e=some o->o.cls= .type "AttributeError" ->(∀b o,s.heap.get? b=some o->h'.get? b=some o)->E (.ref e) { s with heap:=h',toks:=tk' }) :
  ax (be prog w) A (do
   let e ←newExc (.type "AttributeError") [v];let l ←mkText "keys"
   noteAttr e (.ref a) l
   xl e) Q E s:=by
 unfold newExc newTuple;refine aa (aa (fu (aa (m:=mj _ _) (xk (a:=bw) (by simp only[mj,X1];rfl) (fu ?_ (by size_fits)))) (by size_fits)));refine aa (wpAny_mkText ?_);refine aa ?_;unfold noteAttr;refine aa ?_;unfold lacksNameAndObj;have e1:(#[av s.heap.objs.size,.none,.none,.none,.bool false,.none]++ownMembersOf (.type "AttributeError") [v]:Array af)= #[av s.heap.objs.size,.none,.none,.none,.bool false,.none,rk,rk]:=rfl;rw[e1];generalize hs:s.heap.push { cls:=ki "tuple",data:=Data.seq #[v] }=h1;have ho:(h1.push { cls:= .type "AttributeError",data:= .fields #[av s.heap.objs.size,.none,.none,.none,.bool false,.none,rk,rk] }).get? h1.objs.size=some { cls:= .type "AttributeError",data:= .fields #[av s.heap.objs.size,.none,.none,.none,.bool false,.none,rk,rk] }:=aw _ rfl;refine aa (kc (b:=true) (T:= "AttributeError") ⟨_,ho,rfl⟩ KP ?_);refine aa (wpAny_load ho ?_);refine ai ?_;refine aa (qu ?_);refine aa (px (T:= "AttributeError") ⟨_,ho,rfl⟩ ?_);unfold layMembers;refine aa (wpAny_load ho ?_);refine wpAny_update ho ?_;simp only[xl];refine aa (ur ?_);rw[hh];refine aa (ai (oj ?_));refine k h1.objs.size _ _ _ (ck _ ho (df (cu rfl _))) (js ..) λb o e=> ?_;have hb:b≠h1.objs.size:=λz=>by
  have h2:h1.objs.size=s.heap.objs.size+1:=by rw[←hs];simp[Heap.push]
  have h3:=ag e;rw[z,h2]at h3;exact absurd h3 (Nat.not_lt.mpr (jk _))
 exact(bf _ _ (dg hb)).trans (ae _ (by rw[←hs];exact ae _ e))
theorem RG {Q:Fin->aj->Prop}(hh:A.handled=none)(hx:s.heap.get? a=some { cls:= .type "list",data:= .seq its n })
  (k:∀e h' tk' o,h'.get? e=some o->o.cls= .type "AttributeError" ->(∀b o,s.heap.get? b=some o->h'.get? b=some o)->E (.ref e) { s with heap:=h',toks:=tk' }) :
  ax (be prog w) A (nq.«object.__getattribute__» ⟨[.ref a,.str "keys" tk],[]⟩) Q E s:=by
 obtain⟨h,g,d,t,os⟩:=s;have hT:(⟨h,g,d,t,os⟩:aj).TypeIs (.ref a) "list" :=⟨_,hx,rfl⟩
 have f4:=aAx
 repeat (any_goals (first|assumption|wp_step))
 refine aa (wpAny_mkStr ?_ (by rw[bq];decide +kernel));exact XC hh λe h' tk' o e1 e2 e3=>k e h' tk' o e1 e2 e3
theorem U2 (hh:A.handled=none)(hx:s.heap.get? a=some { cls:= .type "list",data:= .seq its n })
  (k:∀e h' tk' o,h'.get? e=some o->o.cls= .type "AttributeError" ->(∀b o,s.heap.get? b=some o->h'.get? b=some o)->R (.error (.ref e)) { s with heap:=h',toks:=tk' }) :
  iu (be prog w) A (.call (.builtin "list.__getattribute__") ⟨[.ref a,.str "keys" tk],[]⟩) R s:=by
 obtain⟨h,g,d,t,os⟩:=s;exact jr F.slot_list_getattribute.plain F.entry_list_ga (F.slot_list_getattribute.check _ _ _ _ _ _ _ _ (show (⟨h,g,d,t,os⟩:aj).TypeIs (.ref a) "list" from⟨_,hx,rfl⟩) (F.args_list_getattribute_2 _ _) (RG hh hx k))
theorem aBL {Q:Option af->aj->Prop}(hh:A.handled=none)(hx:s.heap.get? a=some { cls:= .type "list",data:= .seq its n })
  (k:∀h' tk',(∀b o,s.heap.get? b=some o->h'.get? b=some o)->Q none { s with heap:=h',toks:=tk' }):ax (be prog w) A (getAttr? (.ref a) "keys") Q E s:=by
 obtain⟨h,g,d,t,os⟩:=s;have hT:(⟨h,g,d,t,os⟩:aj).TypeIs (.ref a) "list" :=⟨_,hx,rfl⟩
 have f2:=F.slot_list_getattribute.lookup;have f3:=F.slot_list_getattribute.bind (.ref a);unfold getAttr? getAttrBy?
 repeat (any_goals (first|assumption|wp_step))
 refine U2 hh hx λe h' tk' o e1 e2 e3=> ?_;have hE:(⟨h',g,d,tk',os⟩:aj).TypeIs (.ref e) "AttributeError" :=⟨_,e1,e2⟩
 show ax (be prog w) A (getattributeRaised (av a) (sr (jq "keys") t) (.type "list") (.ref e) none false false) _ _ (⟨h',g,d,tk',os⟩:aj);unfold getattributeRaised;refine aa (kc (b:=true) hE KP ?_);show ax (be prog w) A (qo (.type "list") "__getattr__" >>= λx=>hookOrError (av a) (sr (jq "keys") t) (.ref e) false false x) _ _ (⟨h',g,d,tk',os⟩:aj);rw[aA2];refine aa (ai ?_);refine oj ?_;refine aa (kc (b:=true) hE KP ?_);exact ai (k h' tk' e3)
theorem tM:entryFor table "dict.update.loop" =some nq.«dict.update.loop»:=entryFor_of_tree (by kernel_rfl)
theorem gJ:plainId "dict.update.loop" =true:=by decide +kernel
def UC [DecidableEq κ](kvs ps:List (κ×af)):List (κ×af):=ps.foldl (λacc p=>stored acc p.1 p.2) kvs
theorem Q6 [DecidableEq κ](kvs:List (κ×af))(k:κ)(v:af):(stored kvs k v).length<=kvs.length+1:=by
 unfold stored
 split
 .rw[ao];exact jk _
 .rw[cb];exact ar _
section
variable [DecidableEq κ]{knd:KeyKind prog w κ}{I:Addr}{fp wr:List Addr}{P:Nat->af->Prop}{St:Nat->Heap->Prop}
def aET (knd:KeyKind prog w κ)(d:Addr)(wr:List Addr)(P:Nat->af->Prop)(ps:List (κ×af))(h:Heap):Prop :=
 ∀i v,P i v->∃(q:Addr) (o:Obj) (key:af) (k:κ) (u:af) (c:Nat),v= .ref q/\q∉wr/\q≠d/\h.get? q=some o/\o.cls= .type "tuple" /\o.data= .seq #[key,u] c/\knd.is k key=true/\ps[i]? =some (k,u)
theorem YA (W:Walks prog w A.in1 I fp wr n P St)(hdf:d∉fp)(ps:List (κ×af))(hn:ps.length=n)(hsz:n<=sizeLine):
  ∀(k i:Nat) (s:aj) (kvs:List (κ×af)),n - i=k->i<=n->St i s.heap->kvs.length<=i->s.heap.DictOf knd d kvs->aET knd d wr P ps s.heap →
  (∀h' tk,h'.DictOf knd d (UC kvs (ps.drop i))->(∀b o,b∉wr->b≠d->s.heap.get? b=some o->h'.get? b=some o)->R (.ok (.ret .none)) { s with heap:=h',toks:=tk }) →
  iu (be prog w) A (.builtin "dict.update.loop" ⟨[.ref d,.ref I,rawInt i,.none],[]⟩) R s:=by
 have hdw:d∉wr:=λh=>hdf (W.sub _ h);intro k
 induction k with
 | zero =>
  intro i s kvs hk hi hst hl hd hrow hR;have hin:i=n:=by lia
  subst hin;refine wc tM ?_;rw[xo gJ _];show ax _ A.in1 (rl (.ref I) >>= _) _ _ s;refine aa (W.done s _ _ hst λh' tk hk'=> ?_);show ax _ _ (nq.Dict.addKeywords d [] >>= _) _ _ _;refine aa (ai (ai (hR h' tk ?_ λb o hb _ e=>hk' b o hb e)));rw[pz (by lia)];exact hd.at λo e=>hk' d o hdw e
 | succ k ih =>
  intro i s kvs hk hi hst hl hd hrow hR;have hlt:i<n:=by lia
  refine wc tM ?_;rw[xo gJ _];show ax _ A.in1 (rl (.ref I) >>= _) _ _ s;refine aa (W.item i s _ _ hlt hst λv h' tk hP hst' hk'=> ?_);obtain⟨q,o,key,kk,u,c,rfl,hqw,hqd,ho,hc,hdt,his,hps⟩:=hrow i v hP;have ho':=hk' q o hqw ho;refine aa (dy (aa (wpAny_tryCatch ?_)));unfold nq.Dict.pairItems;refine aa (px (T:= "tuple") ⟨o,ho',hc⟩ ?_);rw[if_pos (by rfl)];refine aa (iy ho' hdt (ai ?_));have hd':h'.DictOf knd d kvs:=hd.at λo e=>hk' d o hdw e;refine dy (wpAny_dictSet_pairs his hd' (λh2 hd2 sb=> ?_) (by lia));have keep:∀b o,b∉wr->b≠d->s.heap.get? b=some o->h2.get? b=some o:=λb o hb hbd e=>(sb.2 b hbd).trans (hk' b o hb e);refine ai ⟨uu gJ _,ih (i+1) _ (stored kvs kk u) (by lia) hlt (W.frame _ _ _ hst' λb hb o e=>(sb.2 b (λz=>hdf (z▸hb))).trans e) (bo (Q6 ..) (by lia)) hd2 (λj v hj=> ?_) λh3 tk3 hd3 hk3=> ?_⟩
  .obtain⟨q,o,key,kk,u,c,e1,e2,e3,e4,e5⟩:=hrow j v hj;exact⟨q,o,key,kk,u,c,e1,e2,e3,keep q o e2 e3 e4,e5⟩
  .refine hR h3 tk3 ?_ λb o hb hbd e=>hk3 b o hb hbd (keep b o hb hbd e);have ed:ps.drop i=(kk,u)::ps.drop (i+1):=by
    have hi2:i<ps.length:=by lia
    rw[ua hi2];have:=(ay.mp hps).2;rw[this]
   rw[ed];exact hd3
end
section
variable [DecidableEq κ]{knd:KeyKind prog w κ}{l:Addr}{c:Nat}
theorem UG {ps:List (κ×af)}(hh:A.handled=none)(hl:s.heap.get? l=some { cls:= .type "list",data:= .seq its c })(hsz:its.size<=sizeLine)(hlen:ps.length=its.size)
  (hrow:∀(i:Nat) (v:af),its[i]? =some v->∃(q:Addr) (o:Obj) (key:af) (k:κ) (u:af) (c:Nat),v= .ref q/\s.heap.get? q=some o/\o.cls= .type "tuple" /\o.data= .seq #[key,u] c/\knd.is k key=true/\ps[i]? =some (k,u))
  (h:∀h' tk,h'.DictOf knd s.heap.objs.size (UC [] ps)->(∀b o,s.heap.get? b=some o->h'.get? b=some o)->Q (.ref s.heap.objs.size) { s with heap:=h',toks:=tk }) :
  ax (be prog w) A (call (.type "dict") [.ref l]) Q E s:=by
 refine callType_codes (Q₁:=λobj s₁=>obj= .ref s.heap.objs.size/\s₁={ s with heap:=s.heap.push { cls:= .type "dict",data:= .dict #[] } }) F.kt_called_dict (F.kt_typeCall_dict_1 _) F.entry_dict_init (kt_code_dict_new _ ⟨rfl,rfl⟩) ?_;rintro obj s₁ ⟨rfl,rfl⟩;have hnew:(s.heap.push { cls:= .type "dict",data:= .dict #[] }).DictOf knd s.heap.objs.size []:=yt s.heap;have hl':(s.heap.push { cls:= .type "dict",data:= .dict #[] }).get? l=some { cls:= .type "list",data:= .seq its c }:=ae _ hl;refine⟨hnew.typeIs,F.args_dict_init_2 _ _,?_⟩;unfold nq.«dict.__init__»;refine aa ?_;unfold nq.Dict.selfAndRest;refine aa (wpAny_notOrdered_dict hnew.typeIs ?_);show ax _ _ (pure (s.heap.objs.size,[av l])) _ _ _;refine ai ?_;show ax _ _ (vi "dict.__init__" s.heap.objs.size (.ref l) [] .none) _ _ _;unfold vi;refine aa (px (T:= "list") ⟨_,hl',rfl⟩ ?_);rw[if_pos (by decide)];refine aa (aBL hh hl' λh1 t1 kp1=> ?_);rw[if_pos (show (none:Option af).isNone=true from rfl)];refine aa (qu ?_);have hl1:=kp1 _ _ hl';have isl:h1.IsList l its:=⟨_,hl1,rfl,_,rfl⟩
 have lt1:∀b o,s.heap.get? b=some o->b≠h1.objs.size:=λb o e z=>by
  have:=ag (kp1 b o (ae _ e));rw[z]at this;exact bt _ this
 have hdI:s.heap.objs.size≠h1.objs.size:=λz=>by
  have:=ag (kp1 _ _ (aw s.heap (o:={ cls:= .type "dict",data:= .dict #[] }) rfl));rw[z]at this;exact bt _ this
 have hdl:∀b o,s.heap.get? b=some o->b≠s.heap.objs.size:=λb o e z=>by
  have:=ag e;rw[z]at this;exact bt _ this
 refine aa (lu isl ?_);refine ai ⟨uu gJ _,?_⟩;have W:=Walks.list (prog:=prog) (w:=w) (A:=A.in1.in1) hh h1.objs.size l (lt1 _ _ hl) its;refine YA (knd:=knd) W (by simp only[ba,cz,or_false,not_or];exact⟨hdI,dg (hdl _ _ hl)⟩) ps hlen hsz its.size 0 _ [] (Nat.sub_zero _) (gi _) ⟨⟨_,aw _ rfl,rfl,rfl⟩,isl.push _⟩ (ar _) ((hnew.at λo e=>kp1 _ o e).push _) (λi v hi=> ?_) λh' tk hd hk=> ?_
 .obtain⟨q,o,key,k,u,c',e1,e2,e3,e4,e5,e6⟩:=hrow i v hi;refine⟨q,o,key,k,u,c',e1,?_,hdl _ _ e2,ae _ (kp1 _ _ (ae _ e2)),e3,e4,e5,e6⟩;simp only[ba,cz,or_false];exact lt1 _ _ e2
 .refine⟨rfl,h h' tk hd λb o e=>hk b o ?_ (hdl _ _ e) (ae _ (kp1 _ _ (ae _ e)))⟩;simp only[ba,cz,or_false];exact lt1 _ _ e
end
abbrev HY (H:Hp):List V->List (Key×V)->Prop:=cg λv p=>∃q,v= .ref q/\H q=some (.tup [kV p.1,p.2])
theorem XZ (I:Inv X pins σ H s){k:Key}{x:V}(e:H q=some (.tup [kV k,x])):∃(o:Obj) (key u:af) (n:Nat),s.heap.get? q=some o/\o.cls= .type "tuple" /\o.data= .seq #[key,u] n/\(bT X.prog X.w).is k key=true/\RelV x u:=by
 obtain⟨_,us,r,o,h1,h2,n,h3⟩:=(show ObjOk X.prog X.w H s.heap q (.tup [kV k,x]) from I.hok q _ e)
 cases r with
 | @cons _ key _ _ r1 r =>
  cases r with
  | @cons _ u _ _ r2 r =>
   cases r;exact⟨o,key,u,n,h1,h2,h3,q9 r1,r2⟩
theorem CM (I:Inv X pins σ H s):∀{vs:List V}{ps:List (Key×V)}{us:List af},HY H vs ps->Vals vs us →
  ∃rs:List (Key×af),KV ps rs/\rs.length=us.length/\∀(i:Nat) (v:af),us[i]? =some v->∃(q:Addr) (o:Obj) (key:af) (k:Key) (u:af) (c:Nat),v= .ref q/\s.heap.get? q=some o/\o.cls= .type "tuple" /\o.data= .seq #[key,u] c/\(bT X.prog X.w).is k key=true/\rs[i]? =some (k,u)
 | _,_,_,.nil,.nil=>⟨[],.nil,rfl,λi v z=>by simp at z⟩
 | _::_,(k,x)::_,_::us,.cons ⟨q,e,hq⟩ t,.cons r rt=>by
  obtain⟨rs,h1,h2,h3⟩:=CM I t rt;obtain⟨o,key,u,n,o1,o2,o3,o4,o5⟩:=XZ I hq;subst e;cases r;refine⟨(k,u)::rs,.cons ⟨rfl,o5⟩ h1,by simp[h2],λi v z=> ?_⟩;cases i with
  | zero=>cases z;exact⟨q,o,key,k,u,n,rfl,o1,o2,o3,o4,rfl⟩
  | succ i =>
   obtain⟨q,o,key,k,u,c,w1⟩:=h3 i v (by simpa using z);exact⟨q,o,key,k,u,c,by simpa using w1⟩
def UW:List V->Hp->VK->Prop:=λxs H Q=>∃p vs ps,xs=[.ref p]/\Rd H p (.lst vs)/\HY H vs ps/\∀l,H l=none->Q (.ref l) (upd H l (.dK (j5 [] ps)))
theorem RA (hc:X.calm=true):cQ X (.type "dict") UW:=by
 intro pins s σ H xs us Q I r h;obtain⟨p,vs,ps,rfl,hq,pr,q⟩:=h;obtain⟨u,rfl,rx⟩:=gG r;cases rx;obtain⟨z,its,n,rv,e⟩:=(show ObjOk X.prog X.w H s.heap p (.lst vs) from hq.ok I.hok)
 obtain⟨rs,h1,h2,h3⟩:=CM I pr rv;have hl:=rv.length;have hlp:=h1.length;refine UG (knd:=bT X.prog X.w) (ps:=rs) (I.ok.hd hc) e (by rw[br];lia) (by rw[br];exact h2) (λi v hv=>h3 i v (by simpa using hv)) λh' tk hd kp=> ?_;have lm:(j5 [] ps).length<=sizeLine:=bo (vE ps []) (by simp;lia);have nm:(s.heap.objs.size==gq)=false:=by
  have:=I.big;simp only[beq_eq_false_iff_ne];exact λz=>by rw[z]at this;exact bt _ this
 exact⟨.ref _,_,I.laid (t':=tk) kp (ar _) (T0 lm nm (KV.merge h1 .nil) hd),rfl,q _ (I.hok.fresh (ar _))⟩
section
variable {es:Array lj}{k0 v0:af}
end
section
variable {es:Array lj}
end
section
variable (r:Nat->Int)
variable {r}{p:Array Nat}
end
section
variable {r:Nat->Int}{p:Array Nat}
end
section
variable {lt:α->α->Bool}{l:List α}{d:α}
theorem J9 (c:Nat->Nat->Bool):(c5 d c l).Perm l:=by
 unfold c5
 split
 .exact List.Perm.refl _
 .have h:=Array.perm_iff_toList_perm.mp (iG (n:=l.length) c (by lia));refine(h.map λi=>l.getD i d).trans ?_;have e:((fz l.length).toArray.toList.map λi=>l.getD i d)=l:=by
   apply List.ext_getElem?
   intro i
   by_cases hi:i<l.length
   .simp[hi,cf]
   .simp[hi]
  rw[e]
end
def xX (rs:List (List Key)):List (List Key):=c5 [] (qY rs) rs
theorem PK (rs:List (List Key)):(xX rs).Perm rs:=J9 _
theorem QA (k:KRows H vs rs):KRows H (QU rs vs) (xX rs):=by
 have hl:vs.length=rs.length:=cj k;unfold QU xX c5;rw[hl]
 split
 .exact k
 .have hp:=iG (n:=rs.length) (qY rs) (by lia);have hm:∀i∈(fS (qY rs) (kas_sort rs.length)).toList,i<rs.length:=λi hi=>by
   have h:=hp.mem_iff.mp (rh.mp hi)
   simpa using h
  revert hm;generalize (fS (qY rs) (kas_sort rs.length)).toList=l;intro hm
  induction l with
  | nil=>exact .nil
  | cons i l ih =>
   refine .cons ?_ (ih λj hj=>hm j (bx _ hj));have hi:=hm i (.head _);obtain⟨p,r,e1,e2,e3⟩:=k.get (i:=i) (v:=vs.getD i .non) (by rw[cf,aq (by lia)];rfl);refine⟨p,e1,?_⟩;show H p=some (.tup ((rs.getD i []).map kV));rw[cf,e2];exact e3
theorem Paired.snoc {F:α->β->Prop}:∀{l:List α}{m:List β}{a:α}{b:β},cg F l m->F a b->cg F (l++[a]) (m++[b])
 | _,_,_,_,.nil,h=> .cons h .nil
 | _,_,_,_,.cons r t,h=> .cons r (Paired.snoc t h)
theorem Paired.at2 {F:α->β->Prop}:∀{l:List α}{m:List β}{i:Nat}{a:α}{b:β},cg F l m->l[i]? =some a->m[i]? =some b->F a b
 | _,_,0,_,_,.cons r _,h1,h2=>by cases h1;cases h2;exact r
 | _,_,i+1,_,_,.cons _ t,h1,h2=>Paired.at2 (i:=i) t (by simpa using h1) (by simpa using h2)
 | _,_,_,_,_,.nil,h1,_=>by simp at h1
variable {g:TG}
theorem uI {J:It}{σ0:St}(xs:List α)(c:α->Bool)(P:α->V->Hp->Prop)(hm:∀x y H1 H2,P x y H1->Same H1 H2->P x y H2)(hn:xs.length<=sizeLine)
  (hgo:∀i H1,Same H H1->i<xs.length->J.go i H1)(hst:∀H1,Same H H1->J.stop xs.length H1)
  (hb:∀i x H1,xs[i]? =some x->Same H H1->∀v H',J.yld i H1 v H'->Same H1 H'/\∃σ2:St,σ2.length=σ0.length/\(∀(j:Nat) v,σ0[j]? =some (some v)->σ2[j]? =some (some v))/\(∀R:St->Hp->Prop,R σ2 H'->g v σ0 H' R) ∧
   (∀R:Bool->Hp->Prop,(∀H2,Same H' H2->R (c x) H2)->ti σ2 H' R)/\(c x=true->∀H2,Same H' H2->∀R:VK,(∀y H3,P x y H3->Same H2 H3->R y H3)->te σ2 H2 R))
  (hf:∀ys H1,Same H H1->cg (λx y=>P x y H1) (xs.filter c) ys->fin ys H1):dN J g ti te σ0 fin H:=by
 refine⟨λi m ys H1=>i+m=xs.length/\Same H H1/\cg (λx y=>P x y H1) ((xs.take i).filter c) ys,⟨xs.length,by lia,Same.refl _,.nil⟩,?_⟩;rintro i m ys H1 ⟨e1,s1,pr⟩;cases m with
 | zero =>
  have ei:i=xs.length:=by lia
  subst ei;rw[fg]at pr;exact .inl ⟨hst H1 s1,hf ys H1 s1 pr⟩
 | succ m =>
  have hi:i<xs.length:=by lia
  refine .inr ⟨hgo i H1 s1 hi,λv H' y=> ?_⟩;have ex:xs[i]? =some xs[i]:=aq hi;have etake:xs.take (i+1)=xs.take i++[xs[i]]:=by rw[List.take_succ,ex];rfl
  have hlen:ys.length<=i:=by
   rw[←cj pr];exact bo (dq _ _) (by rw[fm];lia)
  obtain⟨s2,σ2,l2,c2,hg,ht,he⟩:=hb i xs[i] H1 ex s1 v H' y;refine hg _ ⟨⟨l2,c2⟩,ht _ λH2 s3=> ?_⟩;cases hc:c xs[i] with
  | true =>
   show te σ2 H2 _;refine he hc H2 s3 _ λy H3 py s4=>⟨by lia,m,by lia,by lia,((s1.trans s2).trans s3).trans s4,?_⟩
   rw[etake,ku,ke hc];exact Paired.snoc (Paired.imp' (λa b h=>hm a b _ _ h ((s2.trans s3).trans s4)) pr) py
  | false =>
   show ∃m',_;refine⟨m,by lia,by lia,(s1.trans s2).trans s3,?_⟩;rw[etake,ku,om (by rw[hc];exact bh),List.filter_nil,gw];exact Paired.imp' (λa b h=>hm a b _ _ h (s2.trans s3)) pr
section
variable {rest:St}
theorem WO (hr:ci.map (λi=>(σ[i]?).join)=rest):bX n ci σ=oy n none++rest:=by unfold bX;rw[hr]
theorem sY {xs:List α}(f1 f2:α->V)(c:α->Bool)(P:α->V->Hp->Prop)(hm:∀x y H1 H2,P x y H1->Same H1 H2->P x y H2)(hn:xs.length<=sizeLine)(hr:ci.map (λi=>(σ[i]?).join)=rest)(hl:SqL K H a vs)
  (hv:cg (λv x=>∃q,v= .ref q/\H q=some (.tup [f1 x,f2 x])) vs xs)
  (ht:∀x H1,x∈xs->Same H H1->∀R:Bool->Hp->Prop,(∀H2,Same H1 H2->R (c x) H2)->ti (some (f1 x)::some (f2 x)::rest) H1 R)
  (he:∀x H1,x∈xs->c x=true->Same H H1->∀R:VK,(∀y H2,P x y H2->Same H1 H2->R y H2)->te (some (f1 x)::some (f2 x)::rest) H1 R)
  (hf:∀ys H1,Same H H1->cg (λx y=>P x y H1) (xs.filter c) ys->fin ys H1):dN (Itl K a) (DO K 2 (qX (cT 0) (qX (cT 1) IO))) ti te (bX 2 ci σ) fin H:=by
 have e0:bX 2 ci σ=none::none::rest:=WO hr;rw[e0];have hlen:vs.length=xs.length:=cj hv;refine uI xs c P hm hn (λi H1 s hi=>⟨vs,vs[i],s.seq hl,aq (by lia)⟩) (λH1 s=>⟨vs,s.seq hl,by lia⟩) (λi x H1 hx s1 v H' y=> ?_) hf;obtain⟨rfl,e2⟩:=y;have ev:=e2 vs (s1.seq hl);obtain⟨q,rfl,hq⟩:∃q,v= .ref q/\H q=some (.tup [f1 x,f2 x]):=Paired.at2 hv ev hx;have hmem:=bz hx;refine⟨Same.refl _,some (f1 x)::some (f2 x)::rest,rfl,λj v hv=> ?_,λR h=>⟨q,[f1 x,f2 x],rfl,.inl (.inl (s1 _ _ hq)),rfl,f1 x,[f2 x],rfl,f2 x,[],rfl,rfl,h⟩,λR h=>ht x _ hmem s1 R h,λhc H2 s2 R h=>he x H2 hmem hc (s1.trans s2) R h⟩
 match j,hv with
 | 0,hv=>cases hv
 | 1,hv=>cases hv
 | j+2,hv=>exact hv
end
section
variable {rest:St}
theorem XU {o:HO}(h:H q=none):Same H (upd H q o):=λb u e=>by
 have:b≠q:=λz=>by rw[z,h]at e;cases e
 rw[aJ this];exact e
theorem VT (c:Key×V->Bool)(P:Key×V->V->Hp->Prop)(hm:∀x y H1 H2,P x y H1->Same H1 H2->P x y H2)(hn:kvs.length<=sizeLine)(hr:ci.map (λi=>(σ[i]?).join)=rest)(h0:H a=some (.frz o (.dK kvs)))
  (ht:∀x H1,x∈kvs->Same H H1->∀R:Bool->Hp->Prop,(∀H2,Same H1 H2->R (c x) H2)->ti (some (kV x.1)::rest) H1 R)
  (he:∀x H1,x∈kvs->c x=true->Same H H1->∀R:VK,(∀y H2,P x y H2->Same H1 H2->R y H2)->te (some (kV x.1)::rest) H1 R)
  (hf:∀ys H1,Same H H1->cg (λx y=>P x y H1) (kvs.filter c) ys->fin ys H1):dN (Itk a o kvs) (cT 0) ti te (bX 1 ci σ) fin H:=by
 rw[IY hr];refine uI kvs c P hm hn (λi H1 s hi=>⟨s _ _ h0,hi⟩) (λH1 s=>⟨s _ _ h0,ar _⟩) (λi x H1 hx s1 v H' y=> ?_) hf;obtain⟨rfl,k,u,e2,rfl⟩:=y;rw[hx]at e2;cases e2;have hmem:=bz hx;refine⟨Same.refl _,some (kV k)::rest,rfl,λj v hv=> ?_,λR h=>h,λR h=>ht _ _ hmem s1 R h,λhc H2 s2 R h=>he _ H2 hmem hc (s1.trans s2) R h⟩;cases j with
 | zero=>cases hv
 | succ j=>exact hv
end
section
variable {tb:TS}{bk:St->Hp->Prop}
theorem WV (kvs:List (Key×V))(Pv:Nat->St->Hp->Prop)(h0:Pv 0 σ H)(hl:∀i σ H,Pv i σ H->H p=some (.frz o (.dK kvs)))
  (hs:∀i k v σ H,kvs[i]? =some (k,v)->Pv i σ H->g (kV k) σ H λσ2 H2=>tb ⟨Pv (i+1),rt,nx,Pv (i+1)⟩ σ2 H2)(hd:∀σ H,Pv kvs.length σ H->nx σ H):RH (Itk p o kvs) g tb ⟨nx,rt,bk,ct⟩ σ H:=by
 refine⟨λi m σ H=>m=kvs.length - i/\i<=kvs.length/\Pv i σ H,⟨kvs.length,by simp,gi _,h0⟩,?_⟩;rintro i m σ H ⟨rfl,hi,q⟩
 by_cases hlt:i<kvs.length
 .refine .inr ⟨⟨hl i σ H q,hlt⟩,Pv (i+1),λσ' H' p'=>⟨kvs.length - (i+1),by lia,rfl,hlt,p'⟩,λx H' y=> ?_⟩;obtain⟨rfl,k,v,e,rfl⟩:=y;exact hs i k v σ _ e q
 .have e:i=kvs.length:=by lia
  subst e;exact .inl ⟨⟨hl _ σ H q,ar _⟩,hd σ H q⟩
end
def UP (R:It->Hp->Prop):VK:=λx H1=>∃a kvs,x= .ref a/\H1 a=some (.dK kvs)/\∀o,R (Itk a o kvs) (upd H1 a (.frz o (.dK kvs)))
def aC4 (Q:VK)(y:V):VK:=λx H2=>∃a o,x= .ref a/\DGet H2 a y o/\Q (.bl o.isSome) H2
def MW (Q:VK)(y:V):VK:=λx H2=>∃a o,x= .ref a/\DGet H2 a y o/\Q (.bl (!o.isSome)) H2
def VI (σ:St)(ty tx:TE)(Q:VK):VK:=λx H1=>∃a,x= .ref a/\IsD H1 a/\ty σ H1 λy H2=>tx σ H2 λz H3=>∃o,DGet H3 a y o/\Q (o.getD z) H3
def aDs (a:Addr)(Q:VK)(y:V):VK:=λz H3=>∃o,DGet H3 a y o/\Q (o.getD z) H3
section
variable {Q:VK}{R:It->Hp->Prop}{ty:TE}
theorem U6 (h:td σ H (UP R)):SS td σ H R:=h
theorem zV (e:H p=some (.dK kvs))(h:∀o H',SameBut p H H'->H' p=some (.frz o (.dK kvs))->R (Itk p o kvs) H'):UP R (.ref p) H:=⟨p,kvs,rfl,e,λo=>h o _ SameBut.upd aU⟩
theorem aDy (h:ty σ H λy H1=>td σ H1 (aC4 Q y)):aDN ty td σ H Q:=h
theorem VR (h:ty σ H λy H1=>td σ H1 (MW Q y)):NB ty td σ H Q:=h
theorem aBa (e:Rd H p (.dK kvs))(h:Q (.bl (aZ kvs (.inr z)).isSome) H):aC4 Q (.str z) (.ref p) H:=⟨p,_,rfl,.inl ⟨kvs,.inr z,e,rfl,rfl⟩,h⟩
theorem oS (e:Rd H p (.dK kvs))(h:Q (.bl (!(aZ kvs (.inr z)).isSome)) H):MW Q (.str z) (.ref p) H:=⟨p,_,rfl,.inl ⟨kvs,.inr z,e,rfl,rfl⟩,h⟩
theorem z8 (e:H p=some (.dK kvs))(hl:kvs.length<sizeLine)(h:∀H',SameBut p H H'->H' p=some (.dK (cF kvs (.inr z) v))->nx σ H'):Q5 nx σ (.ref p) v (.str z) H :=
 ⟨p,_,rfl,DPut.k (k:= .inr z) e hl,h _ SameBut.upd aU⟩
theorem qL (e:Rd H p (.dK kvs))(hv:aZ kvs (.inr z)=some v)(h:Q v H):P4 Q (.ref p) (.str z) H:=⟨p,v,rfl,.inl ⟨kvs,.inr z,e,rfl,hv.symm⟩,h⟩
theorem XI (h:∀p H',H p=none->Same H H'->H' p=some (.dK [])->Q (.ref p) H'):TZ σ H Q:=eO h
theorem WA (h:td σ H (VI σ ty tx Q)):UT td ty tx σ H Q:=h
theorem jP {kvs:List (List Key×V)}(e:H p=some (.dT kvs))(h:ty σ H λy H2=>tx σ H2 (aDs p Q y)):VI σ ty tx Q (.ref p) H:=⟨p,rfl,.inr ⟨kvs,.inl e⟩,h⟩
theorem lN {z:V}{kvs:List (List Key×V)}(k:List Key)(e:H p=some (.dT kvs))(eb:H b=some (.tup (k.map kV)))(h:Q ((aZ kvs k).getD z) H):aDs p Q (.ref b) z H:=⟨_,DGet.t e eb,h⟩
theorem Y2 {ps:List (Key×V)}(e:H p=some (.lst vs))(r:HY H vs ps)(h:∀l H',H l=none->Same H H'->H' l=some (.dK (j5 [] ps))->Q (.ref l) H'):UW [.ref p] H Q:=⟨p,vs,ps,rfl,.inl e,r,eO h⟩
theorem WU (e:SqL K H p vs)(kr:KRows H vs rs)(hl:vs.length<64)(hs:∀r∈rs,r.map eZ=sh)(hn:sh≠[])(h:∀l ws H',H l=none->Same H H'->H' l=some (.lst ws)->KRows H' ws (xX rs)->Q (.ref l) H'):MQ K [.ref p] H Q :=
 ⟨p,vs,rs,sh,rfl,e,kr,hl,hs,hn,eO λl H' n S e=>h l _ H' n S e ((QA kr).same S)⟩
theorem AX {u:HO}(e:H p=some u)(nf:∀o x,u≠ .frz o x)(h:te σ H λx=>fR p (Q x)):Z8 te σ H Q:=⟨p,λo x z=>nf o x (by rw[e]at z;exact cp z),h⟩
theorem WB {bk:St->Hp->Prop}{u:HO}(e:H p=some u)(nf:∀o x,u≠ .frz o x)(h:ts ⟨λσ'=>fR p (nx σ'),λv=>fR p (rt v),λσ'=>fR p (bk σ'),λσ'=>fR p (ct σ')⟩ σ H):ZL ts ⟨nx,rt,bk,ct⟩ σ H :=
 ⟨p,λo x z=>nf o x (by rw[e]at z;exact cp z),h⟩
theorem rL {u:HO}{R:Hp->Prop}(e:H p=some (.frz o u))(h:∀H',SameBut p H H'->H' p=some u->R H'):fR p R H:=⟨o,u,e,h _ SameBut.upd aU⟩
theorem FJ {Hf H1 H2:Hp}{u:HO}(e:H p=some u)(a:SameBut p H Hf)(b:SameBut p Hf H1)(c:SameBut p H1 H2)(e2:H2 p=some u):Same H H2:=λx o z=>by
 by_cases hx:x=p
 .subst hx;rw[e]at z;cases z;exact e2
 .exact c x o (b x o (a x o z hx) hx) hx
end
theorem o7 {f:Str}(he:PE X e ta)(hb:jt e f X.env (eval e X.env)=eval e X.env)(hK:X.K=K:=by rfl):PE X (.Attribute e f pos) (XJ K ta f):=by
 subst hK;exact bO he hb
theorem RD (hK:X.K=K:=by rfl):OpR X (fe .In) (rIn K false):=by
 subst hK;exact R3
section
variable {rest:St}
theorem gE {xs:List α}(F:V->α->Prop)(c:α->Bool)(P:α->V->Hp->Prop)(hm:∀x y H1 H2,P x y H1->Same H1 H2->P x y H2)(hn:xs.length<=sizeLine)(hr:ci.map (λi=>(σ[i]?).join)=rest)(hl:SqL K H a vs)(hv:cg F vs xs)
  (ht:∀v x H1,F v x->x∈xs->Same H H1->∀R:Bool->Hp->Prop,(∀H2,Same H1 H2->R (c x) H2)->ti (some v::rest) H1 R)
  (he:∀v x H1,F v x->x∈xs->c x=true->Same H H1->∀R:VK,(∀y H2,P x y H2->Same H1 H2->R y H2)->te (some v::rest) H1 R)
  (hf:∀ys H1,Same H H1->cg (λx y=>P x y H1) (xs.filter c) ys->fin ys H1):dN (Itl K a) (cT 0) ti te (bX 1 ci σ) fin H:=by
 rw[IY hr];have hlen:vs.length=xs.length:=cj hv;refine uI xs c P hm hn (λi H1 s hi=>⟨vs,vs[i],s.seq hl,aq (by lia)⟩) (λH1 s=>⟨vs,s.seq hl,by lia⟩) (λi x H1 hx s1 v H' y=> ?_) hf;obtain⟨rfl,e2⟩:=y;have ev:=e2 vs (s1.seq hl);have hF:=Paired.at2 hv ev hx;have hmem:=bz hx;refine⟨Same.refl _,some v::rest,rfl,λj v hv=> ?_,λR h=>h,λR h=>ht v x _ hF hmem s1 R h,λhc H2 s2 R h=>he v x H2 hF hmem hc (s1.trans s2) R h⟩;cases j with
 | zero=>cases hv
 | succ j=>exact hv
end
theorem nH {f:α->V}:∀{l:List α}{ys:List V},cg (λx y=>y=f x) l ys->ys=l.map f
 | _,_,.nil=>rfl
 | _,_,.cons h t=>by rw[h,nH t];rfl
theorem iY (l:List α):l.filter (λ_=>true)=l:=by simp
variable {N sn:List Str}
theorem SG {Q:VK}{ss:List Str}(e:SqL K H p (ss.map V.str))(h:Q (.bl (decide (z∈ss))) H):rIn K false (.str z) (.ref p) H Q:=by
 refine⟨p,_,rfl,.inl e,rfl,?_,?_⟩
 .rw[gh];intro x hx;obtain⟨y,_,rfl⟩:=bg.mp hx;rfl
 .have e2:inV (.str z) (ss.map V.str)=decide (z∈ss):=by
   rw[nj,decide_eq_true_eq];unfold inV;rw[mw]
   constructor
   .rintro ⟨x,hx,h⟩;obtain⟨y,hy,rfl⟩:=bg.mp hx;have:y=z:=by simpa [eqV] using h
    rw[←this];exact hy
   .intro h;exact⟨.str z,bg.mpr ⟨z,h,rfl⟩,by simp[eqV]⟩
  show Q (.bl (inV (.str z) (ss.map V.str))) H;rw[e2];exact h
abbrev bA:=Int×Str×Int
def dL (t:Int)(n:Str):List Key:=[.inl t,.inr n]
def rP:V->Int
 | .int i=>i
 | _=>0
def EB (kvs:List (List Key×V))(r:bA):List (List Key×V):=cF kvs (dL r.1 r.2.1) (.int (rP ((aZ kvs (dL r.1 r.2.1)).getD (.int 0))+r.2.2))
def fQ (rows:List bA):List (List Key×V):=rows.foldl EB []
theorem fX (rows:List bA)(r:bA):fQ (rows++[r])=EB (fQ rows) r:=by unfold fQ;rw[List.foldl_append];rfl
def tV (rows:List bA)(t:Int)(n:Str):Int:=((rows.filter λr=>decide (r.1=t)&&decide (r.2.1=n)).map (·.2.2)).sum
theorem OE (rows:List bA)(r:bA)(t:Int)(n:Str):tV (rows++[r]) t n=tV rows t n+if r.1=t/\r.2.1=n then r.2.2 else 0:=by
 unfold tV;rw[ku,du,wk]
 congr 1
 by_cases h:r.1=t/\r.2.1=n
 .rw[if_pos h,ke (by simp[h])];simp
 .rw[if_neg h,om (by simpa using h)];simp
theorem KW {t t':Int}{n n':Str}(h:dL t n=dL t' n'):t=t'/\n=n':=by
 unfold dL at h;injection h with h1 h2;injection h2 with h2;exact⟨wx h1,kg h2⟩
theorem jL {P:List α->Prop}(h0:P [])(hs:∀l a,P l->P (l++[a]))(l:List α):P l:=by
 have:∀m:List α,P m.reverse:=λm=>by
  induction m with
  | nil=>exact h0
  | cons a m ih=>rw[List.reverse_cons];exact hs _ _ ih
 rw[←List.reverse_reverse l];exact this _
theorem IV (t:Int)(n:Str)(rows:List bA):rP ((aZ (fQ rows) (dL t n)).getD (.int 0))=tV rows t n:=by
 induction rows using jL with
 | h0=>rfl
 | hs l r ih =>
  rw[fX,OE];unfold EB;rw[lM]
  by_cases e:dL t n=dL r.1 r.2.1
  .obtain⟨rfl,rfl⟩:=KW e;rw[if_pos rfl,if_pos ⟨rfl,rfl⟩,←ih];rfl
  .rw[if_neg e,if_neg (λh=>e (by rw[h.1,h.2])),ih];lia
theorem U5 [DecidableEq κ]{kvs:List (κ×V)}{k:κ}(nd:(kvs.map (·.1)).Nodup):((cF kvs k v).map (·.1)).Nodup:=by
 unfold cF
 split
 .have e:(kvs.map λkv=>if kv.1=k then (kv.1,v) else kv).map (·.1)=kvs.map (·.1):=by
   rw[fk]
   apply se
   intro x _;show (if x.1=k then (x.1,v) else x).1=x.1
   split<;>rfl
  rw[e];exact nd
 .rename_i h;rw[du];refine MV nd λhk=>h ?_;obtain⟨x,hx,e⟩:=bg.mp hk;rw[mw];exact⟨x,hx,decide_eq_true e⟩
theorem lW [DecidableEq κ]:∀{kvs:List (κ×V)}{e:κ×V},(kvs.map (·.1)).Nodup->e∈kvs->aZ kvs e.1=some e.2
 | a::l,e,nd,h=>by
  have nd':=List.pairwise_cons.mp nd;rcases ba.mp h with rfl|h
  .exact dE rfl
  .rw[cR (nd'.1 e.1 (bg.mpr ⟨e,h,rfl⟩))];exact lW nd'.2 h
theorem v5 [DecidableEq κ]{kvs:List (κ×V)}{k:κ}(h:aZ kvs k=some v):(k,v)∈kvs:=by
 unfold aZ at h;obtain⟨x,hx,e⟩:=gb.mp h;have h1:=List.find?_some hx;have h2:=mx hx;have h3:x.1=k:=of_decide_eq_true h1;rw[←h3,←e];exact h2
def aE4 (kvs:List (List Key×V)):Prop:=(kvs.map (·.1)).Nodup/\∀e∈kvs,∃t n i,e=(dL t n,.int i)
theorem mX (rows:List bA):aE4 (fQ rows):=by
 induction rows using jL with
 | h0=>exact⟨ij,λe h=>nomatch h⟩
 | hs l r ih =>
  rw[fX];refine⟨U5 ih.1,λe he=> ?_⟩;rcases AA he with h|⟨h1,h2⟩
  .exact ih.2 e h
  .exact⟨_,_,_,Prod.ext h1 h2⟩
theorem WJ (rows:List bA)(t:Int)(n:Str):∃i,(aZ (fQ rows) (dL t n)).getD (.int 0)= .int i:=by
 cases h:aZ (fQ rows) (dL t n) with
 | none=>exact⟨0,rfl⟩
 | some v =>
  obtain⟨t',n',i,e⟩:=(mX rows).2 _ (v5 h);cases e;exact⟨i,rfl⟩
theorem z6 (rows:List bA):(fQ rows).length<=rows.length:=by
 induction rows using jL with
 | h0=>exact ar _
 | hs l r ih =>
  rw[fX,cb];exact bo (fI _ _ _) (by simp;lia)
theorem aBp:qo (.type "dict") "__len__" =pure (some (.builtin "dict.__len__")):=by rw[wj,qi];kernel_rfl
section
variable [DecidableEq κ]{knd:KeyKind prog w κ}{ps:List (κ×af)}
theorem SM (T:s.TypeIs (.ref d) "dict"){Q:Bool->aj->Prop}(h:Q false s):ax (be prog w) A (sj (.ref d)) Q E s:=by
 unfold sj;refine aa (wpAny_specialOf T aBp ?_);generalize q:("dict.__len__" :String)=i0
 wp_delta
 rw[show splitId i0=some ("dict","__len__") from by subst q;decide +kernel];subst q;refine aa (kc (T:= "dict") (b:=true) T (by rw[isSubtype_type];kernel_rfl) (nu (λz=>absurd z (by decide)) (λ_=>nu (λ_=> ?_) (λz=>absurd (by decide +kernel) z))));exact aa (px T (ai h))
theorem LR (hh:A.handled=none)(hm:s.heap.DictAt knd d ps ep)(hd0:(d==gq)=false)(S:Addr)(hSd:S≠d)(c0:Nat)(hS:s.heap.get? S=some { cls:= .type "list",data:= .seq #[] c0 })(hn:ps.length<=sizeLine)
  (k:∀h' tk acc c,(∀b o,b≠S->s.heap.get? b=some o->h'.get? b=some o)->h'.get? S=some { cls:= .type "list",dict:=none,data:= .seq acc c,slots:= #[] }->ItemsOf (λi v=>∃k x,ps[i]? =some (k,x)/\knd.is k v=true) acc ps.length->R (.ok (.ret .none)) { s with heap:=h',toks:=tk }) :
  ax (be prog w) A.in1 (jd (.ref S) (.ref d) .none) (λfin s'=>match fin with| .done f=>R (.ok f) s'| .again c'=>c'.quiet=true/\iu (be prog w) A c' R s') (λe s'=>R (.error e) s') s:=by
 obtain⟨o,es,ho,hc,hq,hk,hp,hnd⟩:=id hm;have T:s.TypeIs (.ref d) "dict" :=⟨o,ho,hc.1⟩
 have lS:S<s.heap.objs.size:=ag hS;have ld:d<s.heap.objs.size:=ag ho;have hsz:es.size=ps.length:=by rw[←hp.length];simp
 have W:=(Walks.dictKeys (prog:=prog) (w:=w) (knd:=knd) (A:=A.in1) hh s.heap.objs.size d (bp ld) ps ep).toS;have run:∀(h:Heap) (c1 tk:Nat),h.IsKeyIter s.heap.objs.size d 0 ps.length ep->(∀b u,b≠S->s.heap.get? b=some u->h.get? b=some u)->h.get? S=some { cls:= .type "list",data:= .seq #[] c1 } →
   iu (be prog w) A (.builtin "list.extend.loop" ⟨[.ref S,.ref s.heap.objs.size,.none],[]⟩) R { s with heap:=h,toks:=tk }:=by
  intro h c1 tk hit kp hS1;refine codeAny_extend_loopS W hn S (by simp only[ba,cz,or_false,not_or];exact⟨bp lS,hSd⟩) .none ps.length 0 _ #[] c1 rfl (gi _) ⟨hit,o,es,kp d o (dg hSd) ho,hc,hq,hk,hp,hnd⟩ hS1 (ItemsOf.nil _) λs' acc c' mv hS2 hacc=> ?_;rw[Moved.eq_with mv];refine k s'.heap s'.toks acc c' (λb u hb e=>mv.heap b u (λz=> ?_) (kp b u hb e)) hS2 hacc;rcases ba.mp z with z|z
  .exact hb z
  .have:=ag e;rw[bj.mp z]at this;exact bt _ this
 unfold jd;refine aa (px (T:= "dict") T ?_);simp only[show uv (.ref S) (.ref d)=false by simp[uv,hSd],show (ki "dict" ==ki "list")=false by decide,show (ki "dict" ==ki "tuple")=false by decide,Bool.or_false,gm,if_false];refine aa (AQ hd0 ho hc hq ?_);have hS1:=ae { cls:= .type "dict_keyiterator",data:= .fields #[.ref d,.int 0 0,.int es.size 0,.int ep 0] } hS;refine aa (dy (SM ⟨o,ae _ ho,hc.1⟩ ?_));have hit:(s.heap.push { cls:= .type "dict_keyiterator",data:= .fields #[.ref d,.int 0 0,.int es.size 0,.int ep 0] }).IsKeyIter s.heap.objs.size d 0 ps.length ep:=⟨_,aw _ rfl,rfl,by rw[hsz];rfl⟩
 refine nu (λz=> ?_) (λ_=>ai ⟨uu F.plain_extend_loop _,run _ c0 _ hit (λb u _ e=>ae _ e) hS1⟩);refine aa (qu (aa ?_));show ax _ A.in1 (updateSeq S (·.push .none) >>= λ_=>updateSeq S (·.pop)) _ _ _;have u1:=ck (ju (·.push bw)) hS1 rfl;have u2:=ck (ju (·.pop)) u1 rfl;refine aa (wm hS1 rfl (wm (hz:=by seq_fits) u1 rfl (ai ⟨uu F.plain_extend_loop _,run _ _ _ ?_ (λb u hb e=> ?_) u2⟩)))
 .exact hit.at λu e=>(bf _ _ (bp lS)).trans ((bf _ _ (bp lS)).trans e)
 .exact(bf _ _ (dg hb)).trans ((bf _ _ (dg hb)).trans (ae _ e))
theorem VH (hh:A.handled=none)(hm:s.heap.DictAt knd d ps ep)(hd0:(d==gq)=false)(hn:ps.length<=sizeLine)
  (k:∀h' tk acc c,(∀b o,s.heap.get? b=some o->h'.get? b=some o)->h'.get? s.heap.objs.size=some { cls:= .type "list",dict:=none,data:= .seq acc c,slots:= #[] }->ItemsOf (λi v=>∃k x,ps[i]? =some (k,x)/\knd.is k v=true) acc ps.length->Q (.ref s.heap.objs.size) { s with heap:=h',toks:=tk }) :
  ax (be prog w) A (call (.type "list") [.ref d]) Q E s:=by
 refine callType_codes (Q₁:=λx s1=>x= .ref s.heap.objs.size/\s1={ s with heap:=s.heap.push { cls:= .type "list",data:= .seq #[] } }) F.called_list (F.typeCall_list_1 _) F.entry_list_init (code_list_new _ ⟨rfl,rfl⟩) ?_;rintro x s1 ⟨rfl,rfl⟩;have hS:(s.heap.push { cls:= .type "list",data:= .seq #[] }).get? s.heap.objs.size=some { cls:= .type "list",data:= .seq #[] }:=aw _ rfl;have hm1:(s.heap.push { cls:= .type "list",data:= .seq #[] }).DictAt knd d ps ep:=hm.at' λo e=>ae _ e;have hdS:s.heap.objs.size≠d:=λz=>by
  obtain⟨o,_,ho,_⟩:=hm;have:=ag ho;rw[←z]at this;exact bt _ this
 refine⟨⟨_,hS,rfl⟩,F.args_list_init_2 _ _,?_⟩;show ax _ A.in1.in1 (vw (.ref s.heap.objs.size) >>= λold=>vg (.ref s.heap.objs.size) (λ_=> #[]) >>= λ_=>letGo old.toList.reverse >>= λ_=>jd (.ref s.heap.objs.size) (.ref d) .none) _ _ _;refine aa ?_;unfold vw;refine aa (iy hS rfl (ai ?_));show ax _ A.in1.in1 (updateSeq s.heap.objs.size (λ_=> #[]) >>= λ_=>letGo (#[]:Array af).toList.reverse >>= λ_=>jd (.ref s.heap.objs.size) (.ref d) .none) _ _ _;have u1:=ck (ju (λ_=>(#[]:Array af))) hS rfl;have kp:∀b o,b≠s.heap.objs.size->(s.heap.push { cls:= .type "list",data:= .seq #[] }).get? b=some o->((s.heap.push { cls:= .type "list",data:= .seq #[] }).update s.heap.objs.size (ju (λ_=>(#[]:Array af)))).get? b=some o:=λb o hb e=>(bf _ _ (dg hb)).trans e;refine aa (wm hS rfl (aa (wpAny_letGo ?_)));refine LR (A:=A.in1) hh (hm1.at' λo e=>kp d o (dg hdS) e) hd0 _ hdS _ u1 hn λh' tk acc c kk hS' hacc=> ?_;exact⟨rfl,k h' tk acc c (λb o e=>kk b o (bp (ag e)) (kp b o (bp (ag e)) (ae _ e))) hS' hacc⟩
end
def VD:List V->Hp->VK->Prop:=λxs H Q=>∃p kvs,xs=[.ref p]/\Rd H p (.dK kvs)/\∀l,H l=none->Q (.ref l) (upd H l (.lst (kvs.map λe=>kV e.1)))
theorem GU {rs:List (Key×af)}(r:KV kvs rs){acc:Array af}(h:ItemsOf (λi v=>∃k x,rs[i]? =some (k,x)/\(bT P w).is k v=true) acc rs.length):Vals (kvs.map λe=>kV e.1) acc.toList:=by
 have e0:acc.toList.length=rs.length:=by rw[fj];exact h.1
 refine J2 (by rw[ao,e0];exact r.length) λi x u h1 h2=> ?_;obtain⟨k,y,e1,e2⟩:=h.2 i u (by simpa using h2);rw[dk]at h1;obtain⟨e,he,rfl⟩:=gb.mp h1;have hi:i<kvs.length:=(ay.mp he).1;obtain⟨k',v',u',f1,f2,f3⟩:=IZ r hi;rw[he]at f1;cases f1;rw[e1]at f2;cases f2;exact EZ e2
theorem OC (hc:X.calm=true):cQ X (.type "list") VD:=by
 intro pins s σ H xs us Q I r h;obtain⟨p,kvs,rfl,hq,q⟩:=h;obtain⟨u,rfl,rx⟩:=gG r;cases rx;obtain⟨z,y,rs,kv,o,es,ep,h1,h2,h3,h4,h5,h6⟩:=rB I.hok hq;have hl:=kv.length;refine VH (knd:=bT X.prog X.w) (ps:=rs) (ep:=ep) (I.ok.hd hc) ⟨o,es,h1,h2,h3,h4,h5,h6⟩ y (by lia) λh' tk acc c kp hS hacc=> ?_;exact⟨.ref _,_,I.laid (t':=tk) kp (ar _) (show ObjOk X.prog X.w _ h' _ (.lst (kvs.map λe=>kV e.1)) from⟨by rw[ao];exact z,acc.toList,c,GU kv hacc,by rw[Array.toArray_toList];exact hS⟩),rfl,q _ (I.hok.fresh (ar _))⟩
theorem Inv.turns {ch:List Addr}(I:Inv X pins σ H s)(k:∀b o,b∉ch->s.heap.get? b=some o->h'.get? b=some o)(hf:∀b∈ch,fK X pins H b):Inv X pins σ H { s with heap:=h',toks:=t' }:=by
 have nit:∀b u,H b=some u->b∉ch:=λb u e z=>by have:=(hf b z).1;rw[e]at this;cases this
 refine I.step (g':=s.gens) (d':=s.drawn) (ch:=ch) (λb hb=> ?_) (λb o _ _ hc e _=>k b o hc e) (λb o _ _ hc e _=>⟨o.slots,k b o hc e⟩) (λ_ _ _ _ n=>n) (λb o hc e=>⟨o,k b o hc e⟩) (λ_ _ e=>e) (λ_ _ _ e=>e) (λb ps e=>⟨#[],by rw[e];simp⟩) (λm hm=> ?_) (λb u e=> ?_) I.bare
 .obtain⟨f0,f1,f2,f3,f4,f5⟩:=hf b hb;exact⟨f3,f1,f4,f5⟩
 .obtain⟨o,es,ep,ho,r⟩:=hm;exact⟨o,es,ep,k _ o (λz=>(hf _ z).2.1 rfl) ho,r⟩
 .refine(I.hok b u e).stay (λc v hc q=>k c v ?_ q) (λ_ q=>q) λ_ _ q=>q;rcases hc with z|z
  .rw[z];exact nit b u e
  .exact nit c _ z
def aCi (σ:St)(tv:TE)(rd:V->V->Hp->VK->Prop)(nx:St->Hp->Prop)(x:V):VK:=λy H2=>∃a v,x= .ref a/\DGet H2 a y (some v)/\tv σ H2 λy2 H3=>rd v y2 H3 λz H4=>∃H5,DPut H4 a y z H5/\nx σ H5
def aC9 (σ:St)(p:Addr)(k:V)(nx:St->Hp->Prop):VK:=λz H4=>∃H5,DPut H4 p k z H5/\nx σ H5
section
variable {Q:VK}{ty:TE}{bk:St->Hp->Prop}{R:It->Hp->Prop}
theorem aBG (h:td σ H λx H1=>ty σ H1 (aCi σ tv rd nx x)):ZG td ty tv rd ⟨nx,rt,bk,ct⟩ σ H:=h
theorem XG (e:Rd H p (.dK kvs))(hv:aZ kvs (.inr z)=some v)(h:tv σ H λy2 H3=>rd v y2 H3 (aC9 σ p (.str z) nx)):aCi σ tv rd nx (.ref p) (.str z) H:=⟨p,v,rfl,.inl ⟨kvs,.inr z,e,rfl,hv.symm⟩,h⟩
theorem aBT (e:H p=some (.dK kvs))(hl:kvs.length<sizeLine)(h:∀H',SameBut p H H'->H' p=some (.dK (cF kvs (.inr z) v))->nx σ H'):aC9 σ p (.str z) nx v H:=⟨_,DPut.k (k:= .inr z) e hl,h _ SameBut.upd aU⟩
theorem YZ (e:Rd H p (.dK kvs))(h:∀l H',H l=none->Same H H'->H' l=some (.lst (kvs.map λe=>kV e.1))->Q (.ref l) H'):VD [.ref p] H Q:=⟨p,kvs,rfl,e,eO h⟩
theorem TY {l:Addr}{zs:List V}(e:H l=some (.lst xs))(e2:H b=some (.lst zs))(hz:xs.length+zs.length<=sizeLine)(h:∀H',SameBut l H H'->H' l=some (.lst (xs++zs))->Q .non H'):NS (.ref l) [.ref b] H Q:=⟨l,b,xs,zs,rfl,rfl,e,e2,hz,h _ SameBut.upd aU⟩
end
def dF (ps:List (Str×Int))(z:Str):Int:=((ps.filter λp=>decide (p.1=z)).map (·.2)).sum
theorem wP (ps:List (Str×Int))(p:Str×Int)(z:Str):dF (ps++[p]) z=dF ps z+if p.1=z then p.2 else 0:=by
 unfold dF;rw[ku,du,wk]
 congr 1
 by_cases h:p.1=z
 .rw[if_pos h];simp[h]
 .rw[if_neg h];simp[h]
section
variable {v:Addr}{es:Array lj}
end
theorem YV (h:X.K=K:=by rfl):IxR X (RO K):=by subst h;exact gH
section
variable {Q:VK}
end
section
variable {o:Expr}{t:TA}
theorem SY (k:Nat){pl:Sem Bool}(hr:Room k' X.A)(ho:PE X o ta)(ha:PA X (e::es) t)(hk:k<=k':=by decide)(hst:az (e::es) X.env=(false,eval e X.env)::az es X.env:=by rfl)(hpl:(fh pos (az es X.env)).any (·.1)=false:=by rfl)
  (ht:eval (.Call (.Attribute o m apos) (e::es) [] pos) X.env=(do let ov ←eval o X.env;xr apos.atName;let (f,first) ←vt [ov] (ql ov m pl);tj pos f first (fh pos (az (e::es) X.env)) (ri pos (kh [] X.env))):=by rfl)
  (h1:X.prog=P:=by rfl)(h2:X.w=w:=by rfl)(h3:X.K=K:=by rfl)(h4:X.mg=mg:=by rfl)(h5:X.base=base:=by rfl):PE X (.Call (.Attribute o m apos) (e::es) [] pos) (tMD (λC sp=>Mc P w K mg base C m k sp) m ta t):=by
 subst h1 h2 h3 h4 h5;exact kG k hr ho ha hk hst hpl ht
end
theorem Room.units9 {k:Nat}(r:Room k A):A.units+9<nz:=by have:=r.un;have:nz=9900:=rfl;lia
def DeepEq (K:W.Frag)(H:Hp):Nat->V->V->Prop
 | 0,x,y=>x=y/\yJ x=true
 | n+1,x,y=>(x=y/\yJ x=true)∨(∃a b xs ys,x= .ref a/\y= .ref b/\SqL K H a xs/\SqL K H b ys/\cg (DeepEq K H n) xs ys)∨(∃a b xs ys,x= .ref a/\y= .ref b/\H a=some (.tup xs)/\H b=some (.tup ys)/\cg (DeepEq K H n) xs ys)
theorem F6 {x:V}{v:af}(h:yJ x=true)(ru:RelV x u)(rv:RelV x v):qq A s u v true:=by
 have base:gI x=true->qq A s u v true:=λhx=>by
  have:=J3 (A:=A) (s:=s) ru rv hx hx;rw[X3 hx]at this;exact this
 cases x<;>first|(cases ru;cases rv;exact ro _)|exact base h
theorem uX {F:V->V->Prop}(hF:∀x y u v,F x y->RelV x u->RelV y v->qq A s u v true):∀{xs ys:List V}{us ws:List af},cg F xs ys->Vals xs us->Vals ys ws->∀j (h1:j<us.length) (h2:j<ws.length),qq A s us[j] ws[j] true
 | _,_,_,_,.nil,.nil,.nil,j,h1,_=>absurd h1 (wg _)
 | _,_,_,_,.cons h _,.cons r1 _,.cons r2 _,0,_,_=>hF _ _ _ _ h r1 r2
 | _,_,_,_,.cons _ t,.cons _ t1,.cons _ t2,j+1,h1,h2=>uX hF t t1 t2 j (pw h1) (pw h2)
theorem D1 (I:Inv X pins σ H s):∀(n:Nat) (A:jx),A.units+n<nz->∀x y u v,DeepEq X.K H n x y->RelV x u->RelV y v->qq A s u v true
 | 0,A,hu,x,y,u,v,h,ru,rv=>by obtain⟨rfl,h⟩:=h;exact F6 h ru rv
 | n+1,A,hu,x,y,u,v,h,ru,rv=>by
  rcases h with⟨rfl,h⟩|⟨a,b,xs,ys,rfl,rfl,ha,hb,pr⟩|⟨a,b,xs,ys,rfl,rfl,ha,hb,pr⟩
  .exact F6 h ru rv
  .cases ru;cases rv
   by_cases hab:a=b
   .subst hab;exact ro _
   .obtain⟨its,r,pl,hz⟩:=I.list ha;obtain⟨its2,r2,pl2,_⟩:=I.list hb;have hl:its.length=its2.length:=by rw[←r.length,←r2.length];exact cj pr
    have:=yj hab (SeqAt.RcAt.lists (A:=A) (e:=λ_=>true) pl.isList pl2.isList (by simpa using hl) (by lia) λj h1 h2=>by
     have h1':j<its.length:=by simpa using h1
     have h2':j<its2.length:=by simpa using h2
     have:=uX (A:=A.in1) (D1 I n A.in1 (by show A.units+1+n<nz;lia)) pr r r2 j h1' h2'
     simpa using this)
    rw[zU]at this;exact this
  .cases ru;cases rv
   by_cases hab:a=b
   .subst hab;exact ro _
   .obtain⟨_,its,r,o1,g1,c1,n1,d1⟩:=(show ObjOk X.prog X.w H s.heap a (.tup xs) from I.hok a _ ha)
    obtain⟨_,its2,r2,o2,g2,c2,n2,d2⟩:=(show ObjOk X.prog X.w H s.heap b (.tup ys) from I.hok b _ hb)
    have hl:its.length=its2.length:=by rw[←r.length,←r2.length];exact cj pr
    have:=yj hab (SeqAt.RcAt.tuples (A:=A) (e:=λ_=>true) ⟨o1,g1,c1,n1,d1⟩ ⟨o2,g2,c2,n2,d2⟩ (by lia) λj h1 h2=>by
     have h1':j<its.length:=by simpa using h1
     have h2':j<its2.length:=by simpa using h2
     have:=uX (A:=A.in1) (D1 I n A.in1 (by show A.units+1+n<nz;lia)) pr r r2 j h1' h2'
     simpa using this)
    simpa [zU,hl] using this
def U0 (K:W.Frag)(r:Bool):R2:=λx y H Q=>∃a b xs ys,x= .ref a/\y= .ref b/\SqL K H a xs/\SqL K H b ys/\cg (DeepEq K H 4) xs ys/\Q (.bl r) H
theorem aCK (hu:X.A.units+9<nz):OpR X (fe .NotEq) (U0 X.K false):=by
 intro pins s σ H x y v u Q I rx ry h;obtain⟨a,b,xs,ys,rfl,rfl,ha,hb,pr,q⟩:=h;cases rx;cases ry;obtain⟨its,r,pl,hz⟩:=I.list ha;obtain⟨its2,r2,pl2,_⟩:=I.list hb;have hl:its.length=its2.length:=by rw[←r.length,←r2.length];exact cj pr
 refine SeqAt.RcNeAt.lists (e:=λ_=>true) pl.isList pl2.isList (by simpa using hl) (by lia) (λj h1 h2=> ?_) X.prog X.w X.xe _ ⟨.bl false,H,I,by rw[zU];rfl,q⟩;have:=uX (A:=X.A.in1) (D1 I 4 X.A.in1 (by show X.A.units+1+4<nz;lia)) pr r r2 j (by simpa using h1) (by simpa using h2)
 simpa using this
variable {ab:Bool}
section
variable {Q:VK}
theorem WR {ys:List V}{r:Bool}(ha:SqL K H a xs)(hb:SqL K H b ys)(pr:cg (DeepEq K H 4) xs ys)(h:Q (.bl r) H):U0 K r (.ref a) (.ref b) H Q:=⟨a,b,xs,ys,rfl,rfl,ha,hb,pr,h⟩
theorem DeepEq.self {x:V}(h:yJ x=true):DeepEq K H n x x:=by cases n with|zero=>exact⟨rfl,h⟩|succ n=>exact .inl ⟨rfl,h⟩
theorem CH:∀{xs:List V},xs.all yJ=true->cg (DeepEq K H n) xs xs
 | [],_=> .nil
 | x::xs,h=>by
  rw[lh,cq]at h;exact .cons (DeepEq.self h.1) (CH h.2)
end
section
variable {Q:VK}{ty:TE}
end
section
variable {Q:VK}
end
section
variable {body:Expr}{c:Addr}
end
section
variable {rest:St}
end
open Classical in
open Classical in
open Classical in
open Classical in
section
variable {rest:St}
theorem aDr {kvs:List (List Key×V)}(c:List Key×V->Bool)(P:List Key×V->V->Hp->Prop)(hm:∀x y H1 H2,P x y H1->Same H1 H2->P x y H2)(hk:∀e∈kvs,e.1.length=2)(hn:kvs.length<=sizeLine)(hr:ci.map (λi=>(σ[i]?).join)=rest)(h0:H a=some (.frz o (.dT kvs)))
  (ht:∀k1 k2 v H1,([k1,k2],v)∈kvs->Same H H1->∀R:Bool->Hp->Prop,(∀H2,Same H1 H2->R (c ([k1,k2],v)) H2)->ti (some (kV k1)::some (kV k2)::rest) H1 R)
  (he:∀k1 k2 v H1,([k1,k2],v)∈kvs->c ([k1,k2],v)=true->Same H H1->∀R:VK,(∀y H2,P ([k1,k2],v) y H2->Same H1 H2->R y H2)->te (some (kV k1)::some (kV k2)::rest) H1 R)
  (hf:∀ys H1,Same H H1->cg (λx y=>P x y H1) (kvs.filter c) ys->fin ys H1):dN (Itq a o kvs) (DO K 2 (qX (cT 0) (qX (cT 1) IO))) ti te (bX 2 ci σ) fin H:=by
 have e0:bX 2 ci σ=none::none::rest:=WO hr;rw[e0];refine uI kvs c P hm hn (λi H1 s hi=>⟨s _ _ h0,hi⟩) (λH1 s=>⟨s _ _ h0,ar _⟩) (λi x H1 hx s1 v H' y=> ?_) hf;obtain⟨rfl,k,u,q,e2,rfl,hq⟩:=y;rw[hx]at e2;cases e2;have hmem:=bz hx;have hl2:=hk _ hmem;obtain⟨k1,k2,rfl⟩:∃k1 k2,k=[k1,k2]:=by
  match k,hl2 with
  | [k1,k2],_=>exact⟨k1,k2,rfl⟩
 refine⟨Same.refl _,some (kV k1)::some (kV k2)::rest,rfl,λj v hv=> ?_,λR h=>⟨q,[kV k1,kV k2],rfl,.inl (.inl hq),rfl,kV k1,[kV k2],rfl,kV k2,[],rfl,rfl,h⟩,λR h=>ht _ _ _ _ hmem s1 R h,λhc H2 s2 R h=>he _ _ _ H2 hmem hc (s1.trans s2) R h⟩
 match j,hv with
 | 0,hv=>cases hv
 | 1,hv=>cases hv
 | j+2,hv=>exact hv
end
section
variable {ek ev:Expr}{tk:TE}
end
structure FX (K:Frag)(nm qual:Str)(st:Stmt)(ps:List Str)(a:Addr) where
 d:jz
 F:FunV K nm qual st a d
 b:Binds K d ps []
inductive FnL (K:Frag)(nm qual:Str)(st:Stmt)(f:Addr):Prop
 | mk {oc:af}{od an:Option Addr}{osl:Array (Option af)}{kV doc pm cdv ct:af} (l:K.lookup f=some ⟨oc,od,.func (fnOf nm qual (dP st) (cZ st) (aE st) .none kV doc pm an cdv ct),osl⟩) (c:codeIn K cdv qual=true) (k:keepIn K (.ref f)=true):FnL K nm qual st f
section
variable {K:Frag}{st:Stmt}{f:Addr}
abbrev fnB (x qual:Str)(st:Stmt)(kV doc pm cdv ct:af)(an:Option Addr)(us:List af):Sem (List (Str×af)):=bindArgs (fnOf x qual (dP st) (cZ st) (aE st) .none kV doc pm an cdv ct) ⟨us,[]⟩
theorem FnL.ne {ps:List Str}(L:FnL K x qual st f)(h:∀kV doc pm cdv ct an (us:List af),us.length=ps.length->fnB x qual st kV doc pm cdv ct an us=pure (ps.zip us)):Nonempty (FX K x qual st ps f):=by
 cases L with
 | mk l c k=>exact⟨⟨_,tD l c k,.all λus hl=>h _ _ _ _ _ _ us hl⟩⟩
noncomputable def FnL.xn {ps:List Str}(L:FnL K x qual st f)(h:∀kV doc pm cdv ct an (us:List af),us.length=ps.length->fnB x qual st kV doc pm cdv ct an us=pure (ps.zip us)):FX K x qual st ps f:=Classical.choice (L.ne h)
noncomputable def FnL.x1 (L:FnL K x qual st f)(h:∀kV doc pm cdv ct an a,fnB x qual st kV doc pm cdv ct an [a]=pure [(p1,a)]):FX K x qual st [p1] f:=L.xn λkV doc pm cdv ct an us hl=>by
 obtain _|⟨a,_|⟨b,us⟩⟩:=us
 .cases hl
 .exact h ..
 .cases hl
noncomputable def FnL.x2 (L:FnL K x qual st f)(h:∀kV doc pm cdv ct an a b,fnB x qual st kV doc pm cdv ct an [a,b]=pure [(p1,a),(p2,b)]):FX K x qual st [p1,p2] f:=L.xn λkV doc pm cdv ct an us hl=>by
 obtain _|⟨a,_|⟨b,_|⟨c,us⟩⟩⟩:=us
 .cases hl
 .cases hl
 .exact h ..
 .cases hl
noncomputable def FnL.x3 (L:FnL K x qual st f)(h:∀kV doc pm cdv ct an a b c,fnB x qual st kV doc pm cdv ct an [a,b,c]=pure [(p1,a),(p2,b),(p3,c)]):FX K x qual st [p1,p2,p3] f:=L.xn λkV doc pm cdv ct an us hl=>by
 obtain _|⟨a,_|⟨b,_|⟨c,_|⟨d,us⟩⟩⟩⟩:=us
 .cases hl
 .cases hl
 .cases hl
 .exact h ..
 .cases hl
noncomputable def FnL.x4 {p4:Str}(L:FnL K x qual st f)(h:∀kV doc pm cdv ct an a b c d,fnB x qual st kV doc pm cdv ct an [a,b,c,d]=pure [(p1,a),(p2,b),(p3,c),(p4,d)]):FX K x qual st [p1,p2,p3,p4] f:=L.xn λkV doc pm cdv ct an us hl=>by
 obtain _|⟨a,_|⟨b,_|⟨c,_|⟨d,_|⟨e,us⟩⟩⟩⟩⟩:=us
 .cases hl
 .cases hl
 .cases hl
 .cases hl
 .exact h ..
 .cases hl
def noF (K:Frag)(C:Addr)(fs:List Str):Bool:=fs.all λx=>(qr K (.ref C) x).any (·.isNone)
theorem eM {fs:List Str}(h:noF K C fs=true)(i:Nat)(e:fs[i]? =some x):NoAttr K C x:=by
 have h2:=gh.mp h x (bz e);unfold NoAttr;cases h3:qr K (.ref C) x with
 | none=>rw[h3]at h2;cases h2
 | some o =>
  rw[h3]at h2;cases o with
  | none=>rfl
  | some v=>cases h2
end
variable {col:Option Bool}{dd:Option Addr}{os:OsState}
section
variable {gs:Array wy}{dr:Drawn}{tk:Nat}
variable {qn:Str}{N:Addr}{bs bmB:List af}{hd:Bool}{B initId:String}
abbrev mL (h:Heap)(C:Addr)(us:List af):Heap:=(h.push { cls:= .type "tuple",data:= .seq us.toArray }).push { cls:= .ref C,data:= .fields #[.ref h.objs.size,.none,.none,.none,.bool false,.none] }
theorem jW (q:h.get? b=some o):(mL h C us).get? b=some o:=ae _ (ae _ q)
theorem GO (Fx:ExcBaseFacts B newId initId bmB)(T:OwnTail h bmB bm){Q:Fin->aj->Prop}
  (hC:h.get? C=some (oh nm qn C N bs bm hd sn sub ab col dd k0 k1 k2 k3 k5 newId))(hn:h.Ns N mN)(hi:mN "__init__" =some (.ref fi))(hf:h.get? fi=some ob)(hfc:ob.cls= .type "function")
  (k:ax (be P w) A (call (.ref fi) (.ref (h.objs.size+1)::us)) (λr s'=>r= .none/\Q (.done (.ret (.ref (h.objs.size+1)))) s') E ⟨mL h C us,gs,dr,tk,os⟩)(hl:us.length<=sizeLine) :
  ax (be P w) A (nq.«type.__call__» ⟨.ref C::us,[]⟩) Q E ⟨h,gs,dr,tk,os⟩:=by
 repeat (first|with_reducible refine gj hC ?_|with_reducible refine wpAny_madeBy_exc hC ?_|wp_step)
 refine codeAny_call_builtin_code (tm _ Fx.quiet) (wpAny_check_new_subT Fx T hC (codeAny_exc_new_subT Fx T hC ?_ hl));show ax _ _ _ _ _ _;have c1:(mL h C us).get? C=_:=jW hC;have f1:(mL h C us).get? fi=_:=jW hf;have n1:(mL h C us).Ns N mN:=hn.keeps λb o q=>jW q;have t1:OwnTail (mL h C us) bmB bm:=T.keeps λb o q=>jW q;have g1:(mL h C us).get? (h.objs.size+1)=some { cls:= .ref C,data:= .fields #[.ref h.objs.size,.none,.none,.none,.bool false,.none] }:=by heap_get
 have hcc:(av C::bm).contains (.ref C)=true:=by simp
 unfold isInstance
 repeat (first|with_reducible refine gj g1 ?_|(with_reducible refine sf c1 ?_;rw[hcc])|wp_step)
 show ax _ _ (qo (.ref C) _) _ _ _;refine wpAny_typeLookup_tail c1 n1 t1 Fx.mroIs Fx.init.lookup ?_;rw[hi];refine dy (aa ?_);unfold bindSpecial;refine aa (px (T:= "function") ⟨_,f1,hfc⟩ ?_);rw[if_pos (by decide)];refine ai (aa (bu k (λr s' ⟨hr,hQ⟩=> ?_) λ_ _ y=>y));subst hr
 wp_walk
 exact hQ
theorem W8 (Fx:ExcBaseFacts B newId initId bmB)(T:OwnTail h bmB bm)
  (hC:h.get? C=some (oh nm qn C N bs bm hd sn sub ab col dd k0 k1 k2 k3 k5 newId))(hn:h.Ns N mN)(hi:mN "__init__" =some (.ref fi))(hf:h.get? fi=some ob)(hfc:ob.cls= .type "function")
  (k:ax (be P w) (A.under (.builtin "type.__call__" ⟨.ref C::us,[]⟩)) (call (.ref fi) (.ref (h.objs.size+1)::us)) (λr s'=>r= .none/\Q (.ref (h.objs.size+1)) s') E ⟨mL h C us,gs,dr,tk,os⟩)(hl:us.length<=sizeLine) :
  ax (be P w) A (call (.ref C) us) Q E ⟨h,gs,dr,tk,os⟩:=by
 have x1:=tc_lookup;have x2:=tc_bind (.ref C);have hT:(⟨h,gs,dr,tk,os⟩:aj).TypeIs (.ref C) "type" :=⟨_,hC,rfl⟩
 refine qm (codeAny_of_tree ?_);show ax _ _ (callAny (.ref C) _) _ _ _
 repeat (any_goals (first|assumption|with_reducible refine gj hC ?_|wp_step))
 exact⟨rfl,codeAny_call_builtin_at (tm _ (by decide +kernel)) entry_typeCall (wpAny_check_type_call_sub hC (GO Fx T hC hn hi hf hfc k hl))⟩
end
section
variable {g:Array wy}{d:Drawn}{t:Nat}{K:Frag}
abbrev xW (h:Heap)(e:Addr):Heap:=(h.push { cls:= .type "dict",data:= .dict #[] }).update e λo=>{ o with dict:=some h.objs.size }
abbrev m9 (w:gd)(h:Heap)(e:Addr)(nm:Str)(tk:Tok)(v:af):Heap:=(xW h e).update h.objs.size (Obj.putName nm (qa w.params nm) (.str nm tk) v)
theorem R9 {e:Addr}{vs:Array af}{v:af}{b:Bool}{cd:ClassData}{Q:Fin->aj->Prop}(X:K.In h)(hc:clsIn K C=some cd)(hdd:cd.hasDict=true)(hx:h.get? e=some { cls:= .ref C,data:= .fields vs })
  (hq:Q (.done (.ret .none)) ⟨m9 w h e nm t v,g,d,t+1,os⟩):ax (be P w) A (oq (.ref e) (.ref C) (.str nm tk) nm v b) Q E ⟨h,g,d,t,os⟩:=by
 unfold oq;have L1:=looks_clsIn (M:=be P w) X hc
 repeat (any_goals (first|assumption|(with_reducible refine gj hx ?_)|(with_reducible refine L1.at ?_)|wp_step))
 have ne:e≠h.objs.size:=bp (ag hx);have hd1:(xW h e).get? h.objs.size=some { cls:= .type "dict",data:= .dict #[] }:=by
  rw[bf _ _ ne];exact Heap.get?_push_at rfl rfl
 have hq':Q (.done (.ret .none)) ⟨(xW h e).update h.objs.size (Obj.putName nm (qa w.params nm) (.str nm t) v),g,d,t+1,os⟩:=hq;show ax _ _ ask _ _ ⟨xW h e,g,d,t,os⟩;generalize xW h e=h1 at hd1 hq' ⊢;refine wpAny_askSetting ?_
 repeat (any_goals (first|assumption|(with_reducible refine gj hd1 ?_)|(with_reducible refine wpAny_updatePart' hd1 ?_)|wp_step))
end
open Builtin Builtin.ObjectAttr
def IL:List af->Bool
 | .ref _::r=>IL r
 | l=>l==bmV
theorem RP (self:af):refuseLoop self "__setattr__" bmV=pure ():=by kernel_rfl
theorem wO (self:af):∀{l:List af},IL l=true->refuseLoop self "__setattr__" l=pure ()
 | .ref c::r,e=>by rw[refuseLoop_ref];exact wO self (l:=r) e
 | [],e=>by cases e
 | .none::r,e=>by cases e
 | .type n::r,e=>by
  have e:(ki n::r)=bmV:=beq_iff_eq.mp e;rw[e];exact RP self
theorem F2:∀{l:List af},IL l=true->l.contains (.type "object")=true
 | .ref c::r,e=>by rw[tw,F2 (l:=r) e,yo]
 | [],e=>by cases e
 | .none::r,e=>by cases e
 | .type n::r,e=>by
  have e:(ki n::r)=bmV:=beq_iff_eq.mp e;rw[e];decide
def eV (K:Frag)(C:Addr):Bool:=(clsIn K C).any λcd=>IL cd.mro&&cd.hasDict
section
variable {g:Array wy}{d:Drawn}{t:Nat}{K:Frag}
theorem aAB {e:Addr}{vs:Array af}{v:af}(X:K.In h)(hf:eV K C=true)(hn:qr K (.ref C) nm=some none)(hx:h.get? e=some { cls:= .ref C,data:= .fields vs })
  (hq:R (.ok (.ret .none)) ⟨m9 w h e nm t v,g,d,t+1,os⟩) :
  iu (be P w) A (.call (.builtin "object.__setattr__") ⟨[.ref e,.str nm tk,v],[]⟩) R ⟨h,g,d,t,os⟩:=by
 have SF:=PySem.F.store_object;obtain⟨cd,hc,ho⟩:=any_some hf;obtain⟨h1,h2⟩:=(cq _ _).mp ho;have hne:cd.mro.isEmpty=false:=by
  cases q:cd.mro with
  | nil=>rw[q]at h1;cases h1
  | cons _ _=>rfl
 have ty:=fW (M:=be P w) hx rfl rfl;have obj:Looks (be P w) h (isInstance (.ref e) (.type "object")) true:=ty.andThen (looks_mroIn X (by unfold mroIn;rw[hc,Option.bind_some,if_neg (by rw[hne];decide),F2 h1]));refine jr SF.slot.plain SF.entry (@check_slot (be P w) _ _ ⟨h,g,d,t,os⟩ "object.__setattr__" "object" "__setattr__" (.ref e) [.str nm tk,v] [] _ SF.kind SF.split obj (SF.args (.ref e) (.str nm tk) v) ?_);have mr:Looks (be P w) h (mroOf (.ref C)) cd.mro:=(looks_clsIn X hc).andThen .now;rw[osa_eq,refuse_eq];refine aa (aa (ty.here (aa (mr.here ?_))));rw[wO _ h1];refine ai (aa (ty.here (aa ((mq X hn).here (aa ?_)))));exact ai (R9 X hc h2 hx hq)
theorem XS {e:Addr}{vs:Array af}{v:af}{Q:Unit->aj->Prop}(X:K.In h)(hf:eV K C=true)(hn:qr K (.ref C) nm=some none)(hs:qr K (.ref C) "__setattr__" =some (some (.builtin "object.__setattr__")))
  (hx:h.get? e=some { cls:= .ref C,data:= .fields vs })(hq:Q () ⟨m9 w h e nm (t+1) v,g,d,t+2,os⟩):ax (be P w) A (setAttr (.ref e) nm v) Q E ⟨h,g,d,t,os⟩ :=
 set_plain (s:=⟨h,g,d,t,os⟩) X (⟨hx,rfl,rfl,trivial⟩:InstAt h e { cls:= .ref C,data:= .fields vs } C none) hs (aAB X hf hn hx hq)
end
section
variable {g:Array wy}{d:Drawn}{t:Nat}{K:Frag}{vs:Array af}{mA:Str->Option af}
theorem LV {Q:Fin->aj->Prop}(X:K.In h)(k:ExcK K C)(hf:eV K C=true)(hn:qr K (.ref C) nm=some none)(hx:h.get? a=some o)(hc:o.cls= .ref C)(hd:o.data= .fields vs)(hdx:o.dict=some dx)(hns:h.Ns dx mA)(hm:mA nm=some u)(hq:Q (.done (.ret u)) ⟨h,g,d,t,os⟩):
  ax (be P w) A (nq.«object.__getattribute__» ⟨[.ref a,.str nm tk],[]⟩) Q E ⟨h,g,d,t,os⟩:=by
 obtain⟨cd,hcd,ho⟩:=any_some hf;obtain⟨_,hdd⟩:=(cq _ _).mp ho;have L3:=looks_clsIn (M:=be P w) X hcd;have L0:=fW (M:=be P w) hx hc hd;have L1:=mq (M:=be P w) X hn;obtain⟨oc,od,oda,osl⟩:=o
 dsimp only at hc hd hdx
 subst hc hd hdx;have L2:Looks (be P w) h (inDict nm (some dx)) (some u):=by
  intro A' Q' E' s' kp q;show ax _ _ (nsGet dx nm) _ _ _;have hns':s'.heap.Ns dx mA:=hns.keeps kp;obtain⟨hh,g',d',t',os'⟩:=s';refine wpAny_nsGet hns' ?_;rw[hm];exact q
 repeat (any_goals (first|assumption|(with_reducible refine L0.at ?_)|(with_reducible refine L1.at ?_)|(with_reducible refine L2.at ?_)|(with_reducible refine L3.at ?_)|(with_reducible refine gj hx ?_)|wp_step))
theorem Q1 (X:K.In h)(k:ExcK K C)(hf:eV K C=true)(hn:qr K (.ref C) nm=some none)(hx:h.get? a=some o)(hc:o.cls= .ref C)(hd:o.data= .fields vs)(hdx:o.dict=some dx)(hns:h.Ns dx mA)(hm:mA nm=some u)(hq:R (.ok (.ret u)) ⟨h,g,d,t,os⟩):
  iu (be P w) A (.call (.builtin "BaseException.__getattribute__") ⟨[.ref a,.str nm tk],[]⟩) R ⟨h,g,d,t,os⟩ :=
 jr F.excAttr_ValueError.ga.plain F.entry_bexc_ga (xD X k hx hc hd (LV X k hf hn hx hc hd hdx hns hm hq))
theorem X0 {fill expr:Bool}(hu:∀id,u≠ .builtin id)(X:K.In h)(k:ExcK K C)(hf:eV K C=true)(hn:qr K (.ref C) nm=some none)(hx:h.get? a=some o)(hc:o.cls= .ref C)(hd:o.data= .fields vs)(hdx:o.dict=some dx)(hns:h.Ns dx mA)(hm:mA nm=some u)(hq:Q u ⟨h,g,d,t,os⟩):
  ax (be P w) A (getAttrBy (.ref a) (.str nm tk) fill expr) Q E ⟨h,g,d,t,os⟩:=by
 have y0:=fW (M:=be P w) hx hc hd;have y1:=mq (M:=be P w) X k.ga;have y2:=mq (M:=be P w) X k.gg;have y3:=F.excAttr_ValueError.ga.bind (.ref a);have z0:(expr&&onTheHeap (iw "BaseException.__getattribute__"))=false:=by cases expr<;>rfl
 have z2:(iw "BaseException.__getattribute__" ==iw "object.__getattribute__")=false:=by decide +kernel
 have z1:(onTheHeap (av C)&&iw "BaseException.__getattribute__" ==iw "object.__getattribute__")=false:=by rw[z2];rfl
 repeat (any_goals (first|assumption|(with_reducible refine y0.at ?_)|(with_reducible refine y1.at ?_)|(with_reducible refine y2.at ?_)|wp_step))
 refine Q1 X k hf hn hx hc hd hdx hns hm ?_
 repeat (any_goals (first|assumption|wp_step))
 cases u with
 | builtin id=>exact absurd rfl (hu id)
 | _=>exact ai hq
theorem TR {b:Bool}(hu:∀id,u≠ .builtin id)(X:K.In h)(k:ExcK K C)(hf:eV K C=true)(hn:qr K (.ref C) nm=some none)(hx:h.get? a=some o)(hc:o.cls= .ref C)(hd:o.data= .fields vs)(hdx:o.dict=some dx)(hns:h.Ns dx mA)(hm:mA nm=some u)(hq:Q u ⟨h,g,d,t+1,os⟩):
  ax (be P w) A (getAttr (.ref a) nm b) Q E ⟨h,g,d,t,os⟩:=by
 unfold getAttr
 repeat (any_goals (first|assumption|with_reducible apply X0 hu X k hf hn hx hc hd hdx hns hm|wp_step))
end
section
variable {e:Addr}{vs:Array af}{v:af}
theorem PU (hb:b≠e)(hb':b≠h.objs.size)(q:h.get? b=some o):(m9 w h e nm tk v).get? b=some o:=by
 rw[bf _ _ (dg hb'),bf _ _ (dg hb)];exact ae _ q
theorem PP (hx:h.get? e=some { cls:= .ref C,data:= .fields vs }):(m9 w h e nm tk v).get? e=some { cls:= .ref C,dict:=some h.objs.size,data:= .fields vs }:=by
 rw[bf _ _ (dg (bp (ag hx)))];exact ck _ (ae _ hx) rfl
theorem SW (hx:h.get? e=some { cls:= .ref C,data:= .fields vs }):(m9 w h e nm tk v).Ns1 h.objs.size λx=>if x=nm then some v else none:=by
 have hd1:(xW h e).get? h.objs.size=some (dictOf [] 0):=by
  rw[bf _ _ (bp (ag hx))];exact Heap.get?_push_at rfl rfl
 have hp:=putName_dict nm (qa w.params nm) (.str nm tk) v [] 0;have hg:(m9 w h e nm tk v).get? h.objs.size=some (dictOf [⟨qa w.params nm,.str nm tk,v⟩] 1):=by
  rw[ck _ hd1 (by rw[hp];rfl),hp];rfl
 refine⟨_,_,_,hg,rfl,λb hb=> ?_,vj _ _,λx=> ?_⟩
 .have hb:b=⟨qa w.params nm,.str nm tk,v⟩:=by simpa using hb
  subst hb;exact⟨nm,tk,rfl⟩
 .unfold nsFind findBy
  by_cases hxn:x=nm
  .subst hxn;simp[af.isStr]
  .simp[af.isStr,hxn,dg hxn]
end
abbrev uQ (e C:Addr)(vs:Array af):Heap->Prop:=λh=>h.get? e=some { cls:= .ref C,data:= .fields vs }
abbrev rO (e C dx:Addr)(vs:Array af):Heap->Prop:=λh=>h.get? e=some { cls:= .ref C,dict:=some dx,data:= .fields vs }
section
variable {e:Addr}{vs:Array af}{y:V}
theorem aA8 {Q:Unit->aj->Prop}(I:Inv X pins σ H s)(he:H e=some (.ext (uQ e C vs)))(hf:eV X.K C=true)(hn:NoAttr X.K C nm)(hs:qr X.K (.ref C) "__setattr__" =some (some (.builtin "object.__setattr__")))(ry:RelV y u)
  (k:∀dx s',H dx=none->dx≠e->Inv X pins σ (upd (upd H e (.ext (rO e C dx vs))) dx (.xd [(nm,y)])) s'->Q () s'):ax (be X.prog X.w) A (setAttr (.ref e) nm u) Q E s:=by
 obtain⟨hx,_,_⟩:=I.hok e _ he;obtain⟨hh,g,d,t,os⟩:=s;have hx:hh.get? e=some { cls:= .ref C,data:= .fields vs }:=hx;have ne:hh.objs.size≠e:=dg (bp (ag hx));refine XS I.kIn hf hn hs hx (k hh.objs.size _ (I.hok.fresh (ar _)) ne ?_);have hself:(hh.update e λo=>{ o with dict:=some hh.objs.size }).get? e=some { cls:= .ref C,dict:=some hh.objs.size,data:= .fields vs }:=ck _ hx rfl;have I1:=I.write (x:=e) (e:=e) (o:= .ext (rO e C hh.objs.size vs)) (h':=hh.update e λo=>{ o with dict:=some hh.objs.size }) (t':=t) (by rw[he];trivial) (.inl rfl) (λb o hb q=>by rw[bf _ _ (dg hb)];exact q) ⟨_,hself⟩
  ⟨hself,⟨_,hself⟩,λh1 h2 q1 q2=>q2 _ q1⟩
 refine I1.laid (a:=hh.objs.size) (o:= .xd [(nm,y)]) (h':=m9 X.w hh e nm (t+1) u) (t':=t+2) (λb o q=> ?_) (by rw[Heap.size_update];exact ar _) ⟨_,SW hx,λf=> ?_⟩
 .by_cases hb:b=e
  .subst hb;rw[hself]at q;cases q;exact PP hx
  .rw[bf _ _ (dg hb)]at q;exact PU hb (bp (ag q)) q
 .show RelO (il f [(nm,y)]) (if f=nm then some u else none)
  by_cases hfn:f=nm
  .rw[if_pos hfn,hfn,dz,beq_self_eq_true];exact ry
  .rw[if_neg hfn,dz,beq_false_of_ne hfn];exact jg
theorem RelV.noB {y:V}(r:RelV y u)(id:String):u≠ .builtin id:=λz=>by
 subst z;cases y with
 | int i=>obtain⟨_,r⟩:=r;cases r
 | str x=>obtain⟨_,r⟩:=r;cases r
 | byt b=>obtain⟨_,r⟩:=r;cases r
 | flt b=>obtain⟨_,r⟩:=r;cases r
 | _=>cases (show _=_ from r)
end
structure pX (K:Frag)(C:Addr):Prop where
 k:ExcK K C
 fi:eV K C=true
 sa:qr K (.ref C) "__setattr__" =some (some (.builtin "object.__setattr__"))
section
variable {o:Expr}{f:Str}
def ZU (K:Frag)(ta tv:TE)(f:Str):TS:=λD σ H=>tv σ H λy H1=>ta σ H1 λx H2=>∃a C vs,x= .ref a/\H2 a=some (.ext (uQ a C vs))/\pX K C/\NoAttr K C f ∧
 ∀dx,H2 dx=none->dx≠a->D.nx σ (upd (upd H2 a (.ext (rO a C dx vs))) dx (.xd [(f,y)]))
theorem EG (ha:PE X o ta)(hv:PE X value tv)(hs:mn value (some (.Attribute o f pos')) pos.line X.env=pure false):PS X (.Assign [.Attribute o f pos'] value pos) (ZU X.K ta tv f):=by
 intro pins s σ H D I h;refine qf (thn (hv pins s σ H _ I h) λu s1 ⟨y,H1,I1,ry,q⟩=>thn (ha pins s1 σ H1 _ I1 q) λov s2 ⟨x,H2,I2,rx,q2⟩=> ?_) hs;obtain⟨a,C,vs,ex,ea,c,n,q2⟩:=q2;subst ex;obtain rfl:ov=av a:=rx;exact aA8 I2 ea c.fi n c.sa ry λdx s3 n1 n2 I3=>⟨σ,_,I3,q2 dx n1 n2⟩
theorem ET {K:Frag}{f:Str}{j:Nat}{D:d6}{vs:Array af}{y:V}(ei:σ[i]? =some (some (.ref a)))(ej:σ[j]? =some (some y))(ea:H a=some (.ext (uQ a C vs)))(c:pX K C)(n:NoAttr K C f)(h:∀dx,H dx=none->dx≠a->D.nx σ (upd (upd H a (.ext (rO a C dx vs))) dx (.xd [(f,y)]))):ZU K (gY i) (gY j) f D σ H:=⟨_,ej,_,ei,a,C,vs,rfl,ea,c,n,h⟩
end
def t7 (K:Frag)(C fi:Addr):Bool:=match K.lookup C with
 | some ⟨.type "type",_,.cls cd,sl⟩=>(match cd.mro,sl.toList with
  | .ref C'::bm,[_,_,_,_,some (.builtin n),_]=>C'==C&&(n== "ValueError.__new__" &&(!cd.hasDel&&(tailIn K bmV bm&&(nsOkIn K cd.ns&&(nsIn K cd.ns "__init__" ==some (some (.ref fi))&&typeIn K (.ref fi)==some (.type "function"))))))
  | _,_=>false)
 | _=>false
theorem aDi {K:Frag}{N:Addr}{m:Str->Option af}{n:Str}{v:af}(X:K.In h)(G:h.Ns N m)(e:nsIn K N n=some (some v)):m n=some v:=by
 obtain⟨o,es,ep,ho,hd,_,hf⟩:=G;rw[←hf];unfold nsIn at e
 split at e
 .rename_i q;have z:=X _ _ q;rw[ho]at z;injection z with z;subst z;injection hd with hd1 hd2;subst hd1
  split at e
  .rename_i en he;injection e with e;injection e with e;subst e;unfold nsFind findBy;rw[←yf,he];rfl
  .first|cases e|(split at e<;>cases e)
 .cases e
theorem aBE {K:Frag}{h₀:Heap}(X:K.In h₀)(q:t7 K C fi=true):
  ∃bm N nm q bs hdct sn sub ab col dd k0 k1 k2 k3 k5 mN ob,h₀.get? C=some (oh nm q C N bs bm hdct sn sub ab col dd k0 k1 k2 k3 k5 "ValueError.__new__")/\h₀.Ns N mN/\mN "__init__" =some (.ref fi)/\OwnTail h₀ bmV bm/\h₀.get? fi=some ob/\ob.cls= .type "function" :=by
 unfold t7 at q
 split at q
 .rename_i dd cd sl ho
  split at q
  .rename_i C' bm k0 k1 k2 k3 n k5 hm hs;simp only[cq,beq_iff_eq,pj]at q;obtain⟨rfl,rfl,hdel,ht,hok,hni,hty⟩:=q;obtain⟨nm,bs,mro,ns,qn,hd,sn,sub,ab,col,del⟩:=cd
   dsimp only at hm hdel hok hni
   subst hm hdel;have hsl:sl= #[k0,k1,k2,k3,some (.builtin "ValueError.__new__"),k5]:=by
    obtain⟨l⟩:=sl;simp only at hs;rw[hs]
   subst hsl;have hty:(K.lookup fi).map (·.cls)=some (.type "function"):=hty;obtain⟨ob,ho2,hc2⟩:=gb.mp hty;have N0:h₀.Ns ns (h₀.nsMap ns):= .of_isNs (isNs_of_in X hok);exact⟨bm,ns,nm,qn,bs,hd,sn,sub,ab,col,dd,k0,k1,k2,k3,k5,_,ob,X _ _ ho,N0,aDi X N0 hni,tail_of_in X ht,X _ _ ho2,hc2⟩
  .cases q
 .cases q
theorem O2 {M:vz}{x:Sem af}{Q:Flow->aj->Prop}{q:Str}{N:Addr}{bs:List af}{hdct:Bool}
  (hb:bm.contains (.type "BaseException")=true)(hh:A.handled=none)
  (h:ax M A x (λv s₁=>∃e ob vs,v= .ref e/\s₁.heap.get? C=some (oh nm q C N bs bm hdct sn sub ab col dd k0 k1 k2 k3 k5 newId)/\s₁.heap.get? e=some ob/\ob.cls= .ref C/\ob.data= .fields vs/\vs[1]? =some .none/\E (.ref e) s₁) E s):ax M A (raiseStmt env (some x) none) Q E s:=by
 have hcB:(av C::bm).contains (.type "BaseException")=true:=by rw[tw,hb,yo]
 unfold raiseStmt;refine aa (bu h (λv s₁ ⟨e,ob,vs,ev,hC,he,ec,ed,v1,hE⟩=> ?_) λ_ _ x=>x);subst ev;obtain⟨hp,g,d,tk,os⟩:=s₁;obtain⟨oc,od,odt,osl⟩:=ob
 dsimp only at ec ed
 subst ec ed
 repeat (first|with_reducible refine gj he ?_|with_reducible refine gj hC ?_|(with_reducible refine sf hC ?_;rw[hcB])|wp_step)
 rw[v1]
 repeat (first|with_reducible exact wpAny_raiseNew_none hh hE|wp_step)
def lets0 (H:Hp)(c:Addr):Hp:=λb=>if b=c then none else H b
theorem oU {c:Addr}:lets0 H c c=none:=by unfold lets0;rw[if_pos rfl]
theorem AZ {c:Addr}(h:b≠c):lets0 H c b=H b:=by unfold lets0;rw[if_neg h]
theorem oW {c:Addr}(h:H b=none):lets0 H c b=none:=by unfold lets0;split<;>first|rfl|exact h
theorem Inv.lets0 {e:Addr}{φ:Heap->Prop}(I:Inv X pins σ H s)(he:H e=some (.ext φ)):Inv X pins σ (L2.lets0 H e) s:=by
 have out:∀b u,H b=some u->(∀ψ,u≠ .ext ψ)->L2.lets0 H e b=some u:=λb u q n=>by
  rw[AZ];exact q;rintro rfl;rw[he]at q;cases q;exact n _ rfl
 refine⟨I.ok,I.os,I.bare,⟨I.base.keep,I.base.slot,λb o q n hx=>oW (I.base.free b o q n hx),I.base.there,λb xs q=>out _ _ (I.base.tups b xs q) (by intro ψ z;cases z),λb o u q=> ?_,λb ps q=> ?_⟩,I.loc,I.cell,oW I.free,λx c q=>oW (I.freeC x c q),λp hp=> ?_,λb u q=> ?_,I.len⟩
 .exact out _ _ (I.base.frzs b o u q) (by intro ψ z;cases z)
 .obtain⟨m,z⟩:=I.base.tbls b ps q;exact⟨m,out _ _ z (by intro ψ z;cases z)⟩
 .obtain⟨a1,a2,a3,a4,a5⟩:=I.pin p hp;exact⟨a1,oW a2,a3,a4,a5⟩
 .have hb:b≠e:=by rintro rfl;rw[oU]at q;cases q
  rw[AZ hb]at q;exact(I.hok b u q).stay (λ_ _ _ z=>z) (λc z=>out _ _ z (by intro ψ z;cases z)) λc xs z=>out _ _ z (by intro ψ z;cases z)
def N6 (X:Cx)(E:XK):Prop:=∀(pins:List (Addr×Obj)) (σ:St) (H:Hp) (s:aj) (e C dx:Addr) (vs:Array af) (a0:af),Inv X pins σ H s->H e=some (.ext (rO e C dx vs))->X.s₀.heap.get? e=none->vs[0]? =some a0->vs[1]? =some .none/\vs[2]? =some .none->E (.ref C) (some dx) (lets0 H e)->X.xe (.ref e) s
variable {outer:List Env}
theorem CK {f:Addr}{E:XK}:
  N6 (c6 (CXE P w) P w K mg base N qual scope f cd A outer s₀ H₀ E) E:=by
 intro pins σ H s e C dx vs a0 I0 he new v0 v1 q;have I:=I0.lets0 he;obtain⟨go,_,_⟩:=I0.hok e _ he;have go:s.heap.get? e=some { cls:= .ref C,dict:=some dx,data:= .fields vs }:=go;generalize hX:c6 (CXE P w) P w K mg base N qual scope f cd A outer s₀ H₀ E=X at I I0 new ⊢;have there:∀b o,X.s₀.heap.get? b=some o->∃o',s.heap.get? b=some o':=λb o e=>I.base.there b o e (λz=>absurd (show b∈([]:List Addr) from by rw[←hX]at z;exact z) (by simp));have hin:∀env∈X.stack,∀b,env.frame=some b->b∈e::frs X.stack:=λenv he b hb=>bx _ (ko.mpr ⟨env,he,hb⟩);have hk:(ma s.heap (e::frs X.stack)).StaysIn s.heap:=λb o e=>yi _ e;have cov:∀b,(lets0 H e b≠none∨∃o,X.s₀.heap.get? b=some o)->b∉frs X.stack->∃o,(ma s.heap (e::frs X.stack)).get? b=some o:=λb hb hs=>by
  have hbe:b≠e:=by
   rintro rfl;rcases hb with hb|⟨o,q⟩
   .exact hb oU
   .rw[new]at q;cases q
  have:∃o,s.heap.get? b=some o:=by
   rcases hb with hb|⟨o,q⟩
   .cases e1:lets0 H e b with
    | none=>exact absurd e1 hb
    | some u=>exact(I.hok b u e1).there
   .exact there b o q
  obtain⟨o,q⟩:=this;exact⟨o,xi _ q λz=>(ba.mp z).elim hbe hs⟩
 have ff:=xj I.stack hin;have nb:(ma s.heap (e::frs X.stack)).get? e=none:=hideAll_none _ (cy ..);subst hX;show ax _ _ (lx _ _) _ _ _;refine v7 (L:=_) (a0:=(a0,.none)) I.ok.frames ff rfl go hk nb rfl v1.1 ⟨v0,v1.2⟩ λh2 hl=> ?_;obtain⟨x1,⟨_,_,x2⟩,x3,x4⟩:=hl;obtain⟨un2,hok2⟩:=IB (h2:=h2) I rfl x1 hk x4 cov rfl rfl;refine⟨e,.ref C,some dx,a0,lets0 H e,_,rfl,I.os,I.bare,un2,hok2,oU,new,⟨x1,nb,x2,x3⟩,λb hb hs=>cov b hb λz=> ?_,q⟩;rcases ba.mp (I.stkSub b z) with e1|hb'
 .rcases hb with hb|⟨o,e2⟩
  .exact hb (by rw[e1];exact I.free)
  .have e3:=au (ag e2) I.ok.above;rw[e1]at e3;exact bt _ e3
 .exact hs hb'
theorem yD {f:Addr}{E:XK}:
  PassesOwn (be P w) (c6 (CXE P w) P w K mg base N qual scope f cd A outer s₀ H₀ E).A (c6 (CXE P w) P w K mg base N qual scope f cd A outer s₀ H₀ E).env (c6 (CXE P w) P w K mg base N qual scope f cd A outer s₀ H₀ E).xe :=
 λe s' h=>wpAny_leaving_again (SameStack.refl _) h
def spX (K:Frag)(C:Addr)(nm:Str):Sp:=λvs H Q _=>∃e y fv,vs=[.ref e,y]/\H e=some (.ext (uQ e C fv))/\pX K C/\NoAttr K C nm/\∀dx,H dx=none->dx≠e->Q .non (upd (upd H e (.ext (rO e C dx fv))) dx (.xd [(nm,y)]))
structure XcE (P:ef)(w:gd)(K:W.Frag)(mg:Str->Option af)(base:Heap)(x:Str)(C:Addr)(nm:Str):Prop where
 ex:∃f fd ps,mg x=some (.ref C)/\t7 K C f=true/\pX K C/\NoAttr K C nm/\Binds K fd ps []/\aP P w K mg base CX0 1 f fd ps (spX K C nm)
def M9 (C:Addr)(nm:Str)(E:XK)(t:TE):TS:=λ_ σ H=>t σ H λy H1=>∀dx,H1 dx=none->E (.ref C) (some dx) (upd H1 dx (.xd [(nm,y)]))
theorem rS {E:XK}{t:TE}{D:d6}(h:t σ H λy H1=>∀dx,H1 dx=none->E (.ref C) (some dx) (upd H1 dx (.xd [(nm,y)]))):M9 C nm E t D σ H:=h
section
variable {E:XK}{t:TE}
theorem rQ (F:XcE X.prog X.w X.K X.mg X.base x C nm)(hr:Room k' X.A)(hx:N6 X E)(ha:PE X e t)(hex:X.ex=[])(cm:X.calm=true:=by rfl)(hk:2<=k':=by decide)(hg:Gl X x:=by rfl)(hdb:(x==("__debug__" :Str))=false:=by decide)
  (he:az [e] X.env=[(false,eval e X.env)]:=by rfl) :
  PS X (.Raise (some (.Call (.Name x np) [e] [] cpos)) none pos) (M9 C nm E t):=by
 intro pins s σ H D I h;obtain⟨fi,fd,ps,hm,hc,xf,na,hb,G⟩:=F.ex;obtain⟨tl,N,cn,q,bs,hdct,sn,sub,ab,col,dd,k0,k1,k2,k3,k5,mN,fo,hC,hN,hni,T,hf,hfc⟩:=aBE I.ok.mod.kin hc;have hbase:tl.contains (.type "BaseException")=true:=T.hasType gn.hasBase;rw[arm_exec_Raise];refine aa (gu (O2 (C:=C) (nm:=cn) (q:=q) (N:=N) (bs:=bs) (bm:=tl) (hdct:=hdct) (sn:=sn) (sub:=sub) (ab:=ab) (col:=col) (dd:=dd) (k0:=k0) (k1:=k1) (k2:=k2) (k3:=k3) (k5:=k5) (newId:= "ValueError.__new__") hbase (I.ok.hd cm) ?_));refine aa (bu (uk (dH I hg hm ?_ hdb)) (λv s3 h3=>aa (gu (ai h3))) λ_ _ z=>z);unfold tj;rw[he];have one:ax (be X.prog X.w) X.A (spliced (fh cpos [(false,eval e X.env)])) (λus s1=>∃u y H1,us=[u]/\RelV y u/\Inv X pins σ H1 s1/\∀dx,H1 dx=none->E (.ref C) (some dx) (upd H1 dx (.xd [(nm,y)]))) X.xe s:=by
  show ax _ _ (spliced ((false,eval e X.env)::fh cpos [])) _ _ s;refine nv (thn (ha pins s σ H _ I h) λu s1 ⟨y,H1,I1,ru,q1⟩=> ?_);exact uf ⟨u,y,H1,rfl,ru,I1,q1⟩
 refine aa (dy (jm (bu one (λus s2 ⟨u,y,H1,eu,ru,I1,q1⟩=>aa (gu ?_)) λ_ _ z=>z)));subst eu;have kb:∀b o,X.base.get? b=some o->s2.heap.get? b=some o:=I1.bk;have hC2:=I1.bk _ _ hC;have new0:s2.heap.get? (s2.heap.objs.size+1)=none:=xa (jk _);have there:∀b o,X.s₀.heap.get? b=some o->∃o',s2.heap.get? b=some o':=λb o q=>I1.base.there b o q (by rw[hex];simp);have newS:X.s₀.heap.get? (s2.heap.objs.size+1)=none:=by
  cases q:X.s₀.heap.get? (s2.heap.objs.size+1) with
  | none=>rfl
  | some o=>obtain⟨o',q'⟩:=there _ o q;rw[new0]at q';cases q'
 have J:Inv X pins σ (upd H1 (s2.heap.objs.size+1) (.ext (uQ (s2.heap.objs.size+1) C #[.ref s2.heap.objs.size,.none,.none,.none,.bool false,.none]))) { s2 with heap:=mL s2.heap C [u] }:=by
  have hg:(mL s2.heap C [u]).get? (s2.heap.objs.size+1)=some { cls:= .ref C,data:= .fields #[.ref s2.heap.objs.size,.none,.none,.none,.bool false,.none] }:=by heap_get
  exact I1.laid (t':=s2.toks) (λb o q=>jW q) (jk _) ⟨hg,⟨_,hg⟩,λg1 g2 q1 q2=>q2 _ q1⟩
 obtain⟨hp,g,d,tk,os⟩:=s2;refine aa (wpAny_keeperOf_exc hC2 ?_);refine aa (W8 gn (T.keeps I1.bk) hC2 (hN.keeps I1.bk) hni (I1.bk _ _ hf) hfc ?_ (by show 1<=sizeLine;decide));have want:spX X.K C nm [.ref (hp.objs.size+1),y] (upd H1 (hp.objs.size+1) (.ext (uQ (hp.objs.size+1) C #[.ref hp.objs.size,.none,.none,.none,.bool false,.none]))) (λv H2=>v= .non/\∃dx,H1 dx=none/\dx≠hp.objs.size+1/\H2=upd (upd (upd H1 (hp.objs.size+1) (.ext (uQ (hp.objs.size+1) C #[.ref hp.objs.size,.none,.none,.none,.bool false,.none]))) (hp.objs.size+1) (.ext (rO (hp.objs.size+1) C dx #[.ref hp.objs.size,.none,.none,.none,.bool false,.none]))) dx (.xd [(nm,y)])) E0 :=
  ⟨_,_,_,rfl,aU,xf,na,λdx n1 n2=>⟨rfl,dx,by rw[aJ n2]at n1;exact n1,n2,rfl⟩⟩
 have rr:Vals [V.ref (hp.objs.size+1),y] [av (hp.objs.size+1),u]:= .cons rfl (.cons ru .nil);have ln:[av (hp.objs.size+1),u].length=ps.length:=rr.length.symm.trans (G.len _ _ _ _ want);have go:=G.run _ X.stack _ _ ⟨[av (hp.objs.size+1),u],[]⟩ [av (hp.objs.size+1),u] _ _ E0 ((hr.mono hk).make C [u] []) (J.env0.make C [u] []) (by have z:=hb _ [av (hp.objs.size+1),u] J.kIn (by rw[gw];exact ln);rw[gw]at z;exact z) rr want;refine qm (jj go λres s' hq=> ?_)
 match res,hq with
 | .error e,hq=>exact dh hq
 | .ok .next,hq=>exact dh hq
 | .ok .brk,hq=>exact dh hq
 | .ok .cont,hq=>exact dh hq
 | .ok (.ret w'),hq =>
  obtain⟨v,H',I3,rv',ev,dx,n1,n2,eH⟩:=J.after hq;subst ev;refine⟨rv',?_⟩;refine aa (dy (wpAny_point (ai ?_)));have hE:H' (hp.objs.size+1)=some (.ext (rO (hp.objs.size+1) C dx #[.ref hp.objs.size,.none,.none,.none,.bool false,.none])):=by
   rw[eH,aJ (dg n2),aU]
  have eL:lets0 H' (hp.objs.size+1)=upd H1 dx (.xd [(nm,y)]):=by
   funext b
   by_cases hb':b=hp.objs.size+1
   .subst hb';rw[oU,aJ (dg n2)];exact(I1.hok.fresh (jk _)).symm
   .rw[AZ hb',eH]
    by_cases hd':b=dx
    .subst hd';rw[aU,aU]
    .rw[aJ hd',aJ hb',aJ hb',aJ hd']
  obtain⟨gx,_,_⟩:=I3.hok _ _ hE;exact⟨_,_,_,rfl,I3.bk _ _ hC,gx,rfl,rfl,rfl,hx pins σ H' _ _ C dx _ _ I3 hE newS rfl ⟨rfl,rfl⟩ (by rw[eL];exact q1 dx n1)⟩
end
variable {ρ:Keyed->Int}{st:SortSt}
section
variable {κ:mi}{D:Keyed->Prop}
end
section
variable {all o p ra rb:List Keyed}
end
section
variable {κ:mi}{D:Keyed->Prop}
end
section
variable {κ:mi}{D:Keyed->Prop}
end
section
variable {κ:mi}{D:Keyed->Prop}
end
section
variable {κ:mi}{D:Keyed->Prop}
end
section
variable {κ:mi}{D:Keyed->Prop}
end
variable {a₀:Array Keyed}
section
variable {κ:mi}{D:Keyed->Prop}
end
section
variable {κ:mi}{D:Keyed->Prop}
end
section
variable {f:af->α}{lt:α->α->Bool}{d:α}{l:List α}
end
open Sem (wp) in
open AutoSeq1 (wpAny_loadPart') in
section
variable {Q:VK}{R:It->Hp->Prop}{bk:St->Hp->Prop}
end
section
variable [DecidableEq κ]{knd:HeapKind prog w κ}
end
section
variable [DecidableEq κ]{knd:HeapKind prog w κ}
end
def unV:af->V
 | .bool b=> .bl b
 | .int i _=> .int i
 | .str x _=> .str x
 | _=> .non
theorem NF {x:V}(h:gI x=true)(r:RelV x u):unV u=x:=by
 cases x<;>first|(cases h;done)|(obtain⟨t,rfl⟩:=r;rfl)|(cases r;rfl)
end L2
set_option autoImplicit false
namespace L2
open PySem PySem.Spec PyProof.Rows
variable {σ:St}{H H2 H₀:Hp}{ct nx:St->Hp->Prop}{rt:VK}
section
variable {bk:St->Hp->Prop}
end
variable {P prog:ef}{w:gd}
variable {K:W.Frag}{mg:Str->Option af}{base h h':Heap}
variable {C CN T a dx ea i1 i2 it:Addr}{e elt iter tg:Expr}{scope:ud}{apos cpos epos hpos np np2 pos pos' rpos tpos:Pos}{cl:List (Str×Addr)}{X:Cx}
section
variable {args:Arguments}{body:Expr}{lsc:ud}{cs:List (Str×Addr)}{cL PL:Addr}
end
open PySem.W
open PySem.Calls
section
variable {Q:VK}
end
variable {body rest suite:List Stmt}{ti:TT}
section
variable {a:List Stmt}{u v:d6->(St->V->Hp->Prop)->St->Hp->Prop}{c:Expr}{tc:TT}
end
open PyProof
variable {pins:List (Addr×Obj)}{s s' s2 s₀:aj}{E Q:af->aj->Prop}{cd:af}{A:jx}{v:V}
section
variable {k:Option Str}{u r:af}{kvs:List (Option Str×V)}
end
variable {ta td te tv:TE}
section
variable {o i value:Expr}{ty:TE}
end
section
variable {Q:VK}{bk:St->Hp->Prop}{R:It->Hp->Prop}{ty:TE}{p:Addr}{kvs:List (Option Str×V)}
end
section
variable {R:yg->aj->Prop}
end
variable {ep i k' nl:Nat}{o:Obj}{ci:List Nat}
section
variable {r:Addr}
variable {f:af}{n:Nat}{es:Array (Int×af)}{t:SetTable}
variable {tp:Addr}{ot:Obj}{ps:List Nat}{ec:Nat}
end
section
variable {es:Array (Int×af)}{t:SetTable}
end
variable {N:List Str}
section
variable {ss:List Str}
end
section
variable {Q:VK}
end
section
variable {M:vz}
end
variable {fp:List Addr}{qual x y y0:Str}
variable {as elts es ifs:List Expr}{wi:TI}{g:TG}
def bS (X:Cx)(E:XK)(scope:ud)(cl:List (Str×Addr))(N:List Str)(C:Addr)(s0:aj)(H0:Hp)(fp:List Addr):Cx :=
 { bG X scope cl N C s0 H0 fp with xe:=λe s'=>∃pins σ H1 s1,Inv (bG X scope cl N C s0 H0 fp) pins σ H1 s1/\CXE X.prog X.w X.stack H1 s1 E e s' }
variable {E0x:XK}
section
variable {E:XK}{s0:aj}{H0:Hp}
theorem Z9 (I:Inv (bS X E scope cl N C s0 H0 fp) pins σ H s):Inv (bG X scope cl N C s0 H0 fp) pins σ H s :=
 ⟨⟨I.ok.mod,I.ok.kind,I.ok.glob,I.ok.blt,I.ok.above,I.ok.inj,I.ok.has,I.ok.cab,I.ok.hd,I.ok.frames,I.ok.stk,I.ok.exf,I.ok.bs,I.ok.bsz,I.ok.noex,I.ok.exfs,I.ok.funs,I.ok.frf⟩,I.os,I.bare,I.base,I.loc,I.cell,I.free,I.freeC,I.pin,I.hok,I.len⟩
theorem aCs (I:Inv (bG X scope cl N C s0 H0 fp) pins σ H s):Inv (bS X E scope cl N C s0 H0 fp) pins σ H s :=
 ⟨⟨I.ok.mod,I.ok.kind,I.ok.glob,I.ok.blt,I.ok.above,I.ok.inj,I.ok.has,I.ok.cab,I.ok.hd,I.ok.frames,I.ok.stk,I.ok.exf,I.ok.bs,I.ok.bsz,I.ok.noex,I.ok.exfs,I.ok.funs,I.ok.frf⟩,I.os,I.bare,I.base,I.loc,I.cell,I.free,I.freeC,I.pin,I.hok,I.len⟩
theorem QW:c7 (CXE X.prog X.w) (bS X E scope cl N C s0 H0 fp) E:=λpins σ H s e s' I h=>⟨pins,σ,H,s,Z9 I,h⟩
end
variable {fin:List V->Hp->Prop}
theorem CG {J:It}{tn:Nat->Heap->Prop}{RR:af->Addr->yg->aj->Prop}
  (hc:X.calm=true)(B:Blk X scope cl N nl ci)(hg:∀C s0 H0 fp,PG (bS X E0x scope cl N C s0 H0 fp) tg g)(hi:∀C s0 H0 fp,PF (bS X E0x scope cl N C s0 H0 fp) ifs ti)(he:∀C s0 H0 fp,PE (bS X E0x scope cl N C s0 H0 fp) elt te)
  (I2:Inv X pins σ H2 s2)(T:sF X.prog X.w X.K tg J fp it tn)(st2:tn 0 s2.heap)(f2:∀b∈fp,fK X pins H2 b)(hW:dN J g ti te (bX nl ci σ) fin H2)
  (hxn:∀(D C:Addr) (pB:List (Addr×Obj)) (σB:St) (H1:Hp) (s1:aj) (e:af) (s':aj),s2.heap.objs.size<=C->Inv (bG X scope cl N C s2 H2 fp) pB σB H1 s1->CXE X.prog X.w X.stack H1 s1 E0x e s'->ug (be X.prog X.w) X.A (vc scope cl C X.env) (λe s''=>RR (.ref D) C (.error e) s'') e s')
  (hfin:∀(D C:Addr) (s':aj) (H':Hp) (ys:List V) (oC:Obj) (m:Str->Option af),H' D=none->Inv X (pins++[(C,oC)]) σ (upd H' D (.lst ys)) s'->s'.heap.Ns C m->s2.heap.objs.size<=C->fin ys H'->RR (.ref D) C (.ok .next) s') :
  ax (be X.prog X.w) X.A (newList []) (λacc s₃=>ax (be X.prog X.w) X.A (xh scope X.env.globals cl [] X.env.qual none .none (some X.env)) (λcenv s₄=>cenv.frame=X.env.frame ∧
   iu (be X.prog X.w) X.A (.compStart (.ListComp elt [⟨tg,iter,ifs,0⟩] scope pos) 0 (.ref it) acc { cenv with scope:=pd scope X.env }) (RR acc cenv.locals) s₄) E s₃) E s2:=by
 obtain⟨W,⟨m0,w0⟩,turn⟩:=hW;refine fu (wpAny_newFunctionEnv B.nocell (by intro y hy;simp at hy) (λh1 hns1 hsb1=> ?_) B.kind)
 dsimp only at hns1 hsb1 ⊢
 generalize hH2:s2.heap.push { cls:= .type "list",dict:=none,data:= .seq ([]:List af).toArray }=G2 at hns1 hsb1 ⊢;have hCs:G2.objs.size=s2.heap.objs.size+1:=by rw[←hH2,ig]
 generalize hCe:G2.objs.size=C at hns1 hsb1 hCs ⊢;have hDC:s2.heap.objs.size≠C:=by rw[hCs];exact bp (mo _)
 have hCle:s2.heap.objs.size<=C:=by rw[hCs];exact jk _
 have old:∀b o,s2.heap.get? b=some o->h1.get? b=some o:=λb o e=>hsb1.extBut b o (by rw[hCs];exact bp (uh (ag e))) (ae _ (hH2▸ae _ e));have hacc:h1.get? s2.heap.objs.size=some { cls:= .type "list",data:= .seq ([]:List af).toArray 0 }:=hsb1.extBut _ _ hDC (ae _ (hH2▸aw _ rfl));have fo:∀b∈fp,∃o,s2.heap.get? b=some o:=λb hb=>let ⟨o,e,_⟩:=T.obj 0 _ st2 b hb;⟨o,e⟩;have lt2:∀b∈fp,b<s2.heap.objs.size:=λb hb=>let ⟨o,e⟩:=fo b hb;ag e;have hDfp:s2.heap.objs.size∉fp:=λz=>bt _ (lt2 _ z);have hCfp:C∉fp:=λz=>bt _ (au (lt2 _ z) hCle);generalize hDe:s2.heap.objs.size=D at hCs hDC hCle hacc hDfp lt2;have loop:∀s3:aj,s3={ s2 with heap:=h1,toks:=s2.toks+([]:List (Str×af)).length } →
   iu (be X.prog X.w) X.A (.compLoop (.ListComp elt [⟨tg,iter,ifs,0⟩] scope pos) 0 (.ref it) (.ref D) (vc scope cl C X.env)) (RR (.ref D) C) s3:=by
  rintro s3 rfl;have I4:Inv (bS X E0x scope cl N C s2 H2 fp) [] (bX nl ci σ) H2 { s2 with heap:=h1,toks:=s2.toks+([]:List (Str×af)).length }:=aCs (zP B I2 f2 fo (by rw[hDe];exact hCle) hns1 old);have fpk:∀{H':Hp},(∀b∈fp,H' b=none)->∀b∈fp,fK (bS X E0x scope cl N C s2 H2 fp) [] H' b:=λhn b hb =>
   ⟨hn b hb,(I4.ok.exf b hb).1,I4.ok.exfs b hb,.inl hb,(I4.ok.exf b hb).2,λp hp=>by cases hp⟩
  have hDX:∀x c,(bS X E0x scope cl N C s2 H2 fp).env.cells.lookup x=some c->c≠D:=λx c e=>by
   obtain⟨v,o,ho,_⟩:=I2.cell x c (B.sub x c e);rw[←hDe];exact bp (ag ho)
  have hDL:D≠(bS X E0x scope cl N C s2 H2 fp).env.locals:=hDC;have hDf:D∉(bS X E0x scope cl N C s2 H2 fp).fs:=λz=>by
   rcases ba.mp (I2.stkSub D z) with q|q
   .exact bt _ (by have:=I2.lt;rw[hDe,←q]at this;exact this)
   .exact I2.nofs (by rw[hDe];exact ar _) q
  refine zG (λn s'=>∃i ys its k H',W i n ys H'/\Inv (bS X E0x scope cl N C s2 H2 fp) [] (bX nl ci σ) H' s'/\tn i s'.heap/\(∀b∈fp,H' b=none)/\H' D=none ∧
   s'.heap.get? D=some { cls:= .type "list",data:= .seq its.toArray k }/\Vals ys its/\ys.length<=sizeLine) ?_ m0 ?_
  .rintro n s' ⟨i,ys,its,k,H',w',I',st',fr',hD',eD,rv,hz⟩;have IP:Inv (bS X E0x scope cl N C s2 H2 fp) [(D,{ cls:= .type "list",data:= .seq its.toArray k })] (bX nl ci σ) H' s':=I'.pins_of λp hp=>by
    obtain rfl:p=_:=by simpa using hp
    exact⟨eD,hD',hDL,hDf,λv z=>by cases z⟩
   have fpD:∀{H'':Hp},(∀b∈fp,H'' b=none)->∀b∈fp,fK (bS X E0x scope cl N C s2 H2 fp) [(D,{ cls:= .type "list",data:= .seq its.toArray k })] H'' b:=λhn b hb =>
    ⟨hn b hb,(I4.ok.exf b hb).1,I4.ok.exfs b hb,.inl hb,(I4.ok.exf b hb).2,λp hp=>by
     obtain rfl:p=_:=by simpa [bS,bG] using hp
     exact λz=>hDfp ((show D=b from z)▸hb)⟩
   rcases turn i n ys H' w' with⟨stop,q⟩|⟨go,step⟩
   .refine thn (T.done (bS X E0x scope cl N C s2 H2 fp) rfl rfl rfl hc i _ s' (bX nl ci σ) H' _ IP (fpD fr') st' stop) λr s'' ⟨hr,I''⟩=> ?_;subst hr;have eD2:=(I''.pin (D,_) (bc _ cy)).1;have J1:Inv (bS X E0x scope cl N C s2 H2 fp) [] (bX nl ci σ) (upd H' D (.lst ys)) s'' :=
     (I''.pins_of (pins':=[]) λp hp=>by cases hp).track hD' eD2 rv hz (by show s2.heap.objs.size<=D;rw[hDe];exact ar _) hDL hDX λp hp=>by cases hp
    have K1:Inv X pins σ (upd H' D (.lst ys)) s'':=wA I2 f2 (Z9 J1);obtain⟨mC,nsC,_⟩:=J1.loc;obtain⟨oC,es,ep,hoC,hdC,rC⟩:=id nsC;refine hfin D C s'' H' ys oC mC hD' (K1.pins_of λp hp=> ?_) nsC (by rw[hDe];exact hCle) q;rcases fc.mp hp with hp|hp
    .exact K1.pin p (bc _ hp)
    .obtain rfl:p=(C,oC):=by simpa using hp
     refine⟨hoC,J1.free,km (au I2.lt (by rw[hDe];exact hCle)),I2.nofs (by rw[hDe];exact hCle),λv z=> ?_⟩;rw[hdC]at z;cases z
   .refine thn (T.item (bS X E0x scope cl N C s2 H2 fp) rfl rfl rfl hc i _ s' (bX nl ci σ) H' _ IP (fpD fr') st' go) λr s4 ⟨u,hr,h4⟩=> ?_;subst hr;refine thn h4 λ_ s5 ⟨x,H5,I5,r5,y5,st5,fr5⟩=> ?_;have I5':=I5.pinned (fpD fr5) (T.obj _ _ st5);refine bu (hg C s2 H2 fp _ s5 (bX nl ci σ) H5 x u _ I5' r5 (step x H5 y5)) (λ_ s6 ⟨σ6,H6,I6,⟨hl6,hk6⟩,q6⟩=> ?_) λe s' ⟨pB,σB,H1,s1,J,hx⟩=>hxn D C pB σB H1 s1 e s' (by rw[hDe];exact hCle) J hx;refine bu (hi C s2 H2 fp _ s6 σ6 H6 _ I6 q6) (λb s7 ⟨H7,I7,q7⟩=> ?_) λe s' ⟨pB,σB,H1,s1,J,hx⟩=>hxn D C pB σB H1 s1 e s' (by rw[hDe];exact hCle) J hx;have pinD:∀{pp:List (Addr×Obj)}{σx:St}{Hx:Hp}{sx:aj},Inv (bS X E0x scope cl N C s2 H2 fp) ([(D,({ cls:= .type "list",data:= .seq its.toArray k }:Obj))]++fF fp s5.heap) σx Hx sx →
      sx.heap.get? D=some { cls:= .type "list",data:= .seq its.toArray k }/\Hx D=none/\tn (i+1) sx.heap/\(∀b∈fp,Hx b=none):=λ{pp σx Hx sx} Ix=>by
     refine⟨(Ix.pin (D,_) (bc _ (gk _ cy))).1,(Ix.pin (D,_) (bc _ (gk _ cy))).2.1,T.keep _ _ _ st5 λb hb o e=>(Ix.pin (b,o) (bc _ (bc _ (dW hb e)))).1,λb hb=> ?_⟩;obtain⟨o,e,d⟩:=T.obj _ _ st5 b hb;exact(Ix.pin (b,o) (bc _ (bc _ (dW hb e)))).2.1
    cases b with
    | false =>
     rw[if_neg bh]at q7 ⊢;obtain⟨m',hm',w7⟩:=q7;obtain⟨e7,n7,st7,fr7⟩:=pinD (pp:=[]) I7;exact⟨m',hm',i+1,ys,its,k,H7,w7,(I7.pins_of (pins':=[]) λp hp=>by cases hp).weak hl6.symm hk6,st7,fr7,n7,e7,rv,hz⟩
    | true =>
     rw[if_pos rfl]at q7 ⊢;refine bu (he C s2 H2 fp _ s7 σ6 H7 _ I7 q7) (λy' s8 ⟨y,H8,I8,r8,hlt,m',hm',w8⟩=> ?_) λe s' ⟨pB,σB,H1,s1,J,hx⟩=>hxn D C pB σB H1 s1 e s' (by rw[hDe];exact hCle) J hx;obtain⟨e8,n8,st8,fr8⟩:=pinD (pp:=[]) I8;have I8f:Inv (bS X E0x scope cl N C s2 H2 fp) (fF fp s5.heap) σ6 H8 s8:=I8.pins_of λp hp=>I8.pin p (bc _ (bc _ hp));have I8t:=I8f.track n8 e8 rv hz (by show s2.heap.objs.size<=D;rw[hDe];exact ar _) hDL hDX λp hp=>by
      have hp':p∈fF fp s5.heap:=by simpa [bS,bG] using hp
      exact λz=>hDfp (z▸(wS hp').1)
     refine bu (rD (X:=bS X E0x scope cl N C s2 H2 fp) (fF fp s5.heap) s8 σ6 _ (.ref D) [y] (.ref D) [y'] (λ_ H9=>H9=upd H8 D (.lst (ys++[y]))) I8t rfl (.cons r8 .nil)
      ⟨D,ys,y,rfl,rfl,aU,hlt,M3⟩) (λ_ s9 ⟨_,H9,I9,_,e9⟩=> ?_) λe s' ⟨pB,σB,H1,s1,J,hx⟩=>hxn D C pB σB H1 s1 e s' (by rw[hDe];exact hCle) J hx
     subst e9;obtain⟨hz9,its9,k9,rv9,e9⟩:=I9.hok D _ aU;have I9u:=I9.untrack n8;refine⟨m',hm',i+1,ys++[y],its9,k9,H8,w8,(I9u.pins_of (pins':=[]) λp hp=>by cases hp).weak hl6.symm hk6,?_,fr8,n8,e9,rv9,hz9⟩;exact T.keep _ _ _ st5 λb hb o e=>(I9u.pin (b,o) (bc _ (dW hb e))).1
  .exact⟨0,[],[],0,H2,w0,I4,T.keep _ _ _ st2 λb hb o e=>old b o e,λb hb=>(f2 b hb).1,I2.hok.fresh (by rw[hDe];exact ar _),hacc,.nil,gi _⟩
 exact⟨rfl,codeAny_compStart_list (loop _ rfl) (T.self _ 0 _ _ _ (T.keep _ _ _ st2 λb hb o e=>old b o e) (loop _ rfl))⟩
def q0 (M:vz)(A:jx)(E:af->aj->Prop)(use:Option (af->Sem Unit))(Q:af->aj->Prop)(F:Option Addr)(acc:af)(C:Addr)(r:yg)(s':aj):Prop :=
 match r,use with
 | .ok _,none=>∃m,s'.heap.Ns C m/\∀h',ie C s'.heap h'->Q acc { s' with heap:=h' }
 | .ok _,some u=>ax M A (u acc) (λ_ s''=>∃m,s''.heap.Ns C m/\∀h',ie C s''.heap h'->Q .none { s'' with heap:=h' }) E s'
 | .error x,_=>∃m,s'.heap.Ns C m/\∀h',ie C s'.heap h'->∀cenv:Env,cenv.frame=F->ax M A (passOn "comprehension.variables-let-go" x cenv:Sem af) (λ_ _=>False) E { s' with heap:=h' }
variable {use:Option (af->Sem Unit)}{env:Env}
section
variable {M:vz}
theorem BP {newAcc first:Sem af}{g:Comprehension}{gs:List Comprehension}
  (hcl:clausesOf e=g::gs)(hs:∀x,ji g.iter env x=pure x)(hclos:closureFor scope env=pure cl)(hkind:scope.kind= .function)(hnames:∀x∈scope.names,x.2= .local->scope.names.lookup x.1=some .local)
  (h:ax M A first (λx s1=>ax M A (pyIter x) (λit s2=>ax M A newAcc (λacc s3=>ax M A (xh scope env.globals cl [] env.qual none .none (some env)) (λcenv s4=>cenv.frame=env.frame ∧
    iu M A (.compStart e 0 it acc { cenv with scope:=pd scope env }) (q0 M A E use Q env.frame acc cenv.locals) s4) E s3) E s2) E s1) E s) :
  ax M A (comprehension e scope env pos newAcc false first use) Q E s:=by
 unfold comprehension;rw[hclos,hcl];refine aa (bu h (λx s1 h1=>aa (gu (aa (xk (hs x) (aa (dy (bu h1 (λit s2 h2 =>
  wpAny_standIf (aa (bu h2 (λacc s3 h3=>aa (ai (aa (bu h3 (λcenv s4 ⟨hfr,h4⟩=> ?_) λ_ _ h'=>h')))) λ_ _ h'=>h'))) λ_ _ h'=>h'))))))) λ_ _ h'=>h')
 dsimp only
 have hv:∀x∈(scope.names.filter λx=>(x.2== .local||x.2== .cell)&&x.1 !=(".0" :Str)).reverse,x.2= .local->Env.kindOf { cenv with scope:=pd scope env } x.1=some .local:=λx hx hl=>lookup_relabel_local (hnames x (fb.mp (List.mem_reverse.mp hx)).1 hl);have hv2:∀x∈(scope.names.filter λx=>(x.2== .local||x.2== .cell)&&x.1 !=(".0" :Str)).reverse.drop 1++(scope.names.filter λx=>(x.2== .local||x.2== .cell)&&x.1 !=(".0" :Str)).reverse.take 1,x.2= .local->Env.kindOf { cenv with scope:=pd scope env } x.1=some .local:=λx hx hl=>by
  rcases fc.mp hx with z|z
  .exact hv x (List.mem_of_mem_drop z) hl
  .exact hv x (List.mem_of_mem_take z) hl
 refine dy (aa (qz (dy (wpAny_run (jj h4 λr s' hr=> ?_)))));cases r with
 | ok f =>
  cases use with
  | none =>
   obtain⟨m,hn,hr⟩:=hr;exact aa (dy (vk (cenv:={ cenv with scope:=pd scope env }) hkind _ s' m hv hn λh' m' _ hs'=>ai (hr h' hs')))
  | some u =>
   refine aa (qu (aa (dy (bu hr (λ_ s'' hr'=> ?_) λ_ _ h'=>h'))));obtain⟨m,hn,hr'⟩:=hr';exact aa (vk (cenv:={ cenv with scope:=pd scope env }) hkind _ s'' m hv2 hn λh' m' _ hs'=>ai (hr' h' hs'))
 | error x =>
  have hr2:∃m,s'.heap.Ns cenv.locals m/\∀h',ie cenv.locals s'.heap h'->∀cenv':Env,cenv'.frame=env.frame->ax M A (passOn "comprehension.variables-let-go" x cenv':Sem af) (λ_ _=>False) E { s' with heap:=h' }:=by cases use<;>exact hr
  obtain⟨m,hn,hr⟩:=hr2;exact aa (dy (vk (cenv:={ cenv with scope:=pd scope env }) hkind _ s' m hv hn λh' m' _ hs'=>bu (hr h' hs' _ hfr) (λ_ _ f=>f.elim) λ_ _ y=>y))
end
section
variable {h2 B:Heap}
theorem VM (I:Inv X pins σ H s)(hex:X.ex=[])(st:B.StaysIn h2)(sb:B.StaysIn s.heap)(up:∀b∈frs X.stack,∀o,s.heap.get? b=some o->(∀vs,o.data≠ .fields vs)->∃sl,h2.get? b=some { o with slots:=sl })(cov:∀b,(H b≠none∨∃o,X.s₀.heap.get? b=some o)->b∉frs X.stack->∃o,B.get? b=some o)(hst:X.stack=X.env::X.outer)(hf:X.env.frame=some X.env.locals):
  Un X.fs [] X.H₀ H X.s₀.heap h2/\HOk X.prog X.w H h2:=by
 have hfr:∀b,b∈frs X.stack->b=X.env.locals∨b∈X.fs:=λb hb=>ba.mp (I.stkSub b hb);have hfs:∀b,b∈X.fs->b∈frs X.stack:=λb hb=>by
  rw[hst];unfold frs;rw[iz,hf];exact bx _ hb
 have nloc:∀b o,X.s₀.heap.get? b=some o->b≠X.env.locals:=λb o q z=>by
  have e1:=au (ag q) I.ok.above;rw[z]at e1;exact bt _ e1
 have same:∀b o,(H b≠none∨∃o,X.s₀.heap.get? b=some o)->b∉frs X.stack->s.heap.get? b=some o->h2.get? b=some o:=λb o hc hb q=>by
  obtain⟨o',e⟩:=cov b hc hb;have e1:=sb b o' e;rw[q]at e1;cases e1;exact st b _ e
 have ub:=I.base;rw[hex]at ub;refine⟨⟨λb o q n hb _=> ?_,λb o q n hb _=> ?_,λb o q n _=>ub.free b o q n (by simp),λb o q _=> ?_,ub.tups,ub.frzs,ub.tbls⟩,λb u e=> ?_⟩
 .have q1:=ub.keep b o q n hb (by simp);exact same b o (.inr ⟨o,q⟩) (λz=>(hfr b z).elim (nloc b o q) hb) q1
 .obtain⟨sl,q1⟩:=ub.slot b o q n hb (by simp);obtain⟨_,o',ho',hd⟩:=I.funs.mem hb;have hd1:∀vs,({ o with slots:=sl }:Obj).data≠ .fields vs:=λvs z=>by
   rw[q1]at ho';cases ho';exact hd vs z
  obtain⟨sl2,q2⟩:=up b (hfs b hb) _ q1 hd1;exact⟨sl2,q2⟩
 .obtain⟨o1,q1⟩:=ub.there b o q (by simp)
  by_cases hb:b∈frs X.stack
  .obtain⟨_,o',ho',hd⟩:=I.stack.mem hb;rw[q1]at ho';cases ho';obtain⟨sl2,q2⟩:=up b hb _ q1 hd;exact⟨_,q2⟩
  .exact⟨o1,same b o1 (.inr ⟨o,q⟩) hb q1⟩
 .refine(I.hok b u e).stay (λc v hc q=> ?_) (λ_ q=>q) λ_ _ q=>q;have hn:H c≠none:=by
   rcases hc with z|z
   .rw[z,e];simp
   .rw[z];simp
  exact same c v (.inl hn) (λz=>hn (I.stkFree c z)) q
end
def IH (X:Cx)(E:XK):Prop:=∀(pins:List (Addr×Obj)) (σ:St) (H':Hp) (s':aj) (h3:Heap) (ea:Addr) (cls:af) (dd:Option Addr) (a0:af) (B:Heap),Inv X pins σ H' s'->H' ea=none->X.s₀.heap.get? ea=none->B.StaysIn s'.heap->B.StaysIn h3->B.get? ea=none->h3.FunFrames B X.stack →
 HZ h3 B ea cls dd (a0,.none) (rawInt X.env.locals)->(∀b∈frs X.stack,∀o,s'.heap.get? b=some o->(∀vs,o.data≠ .fields vs)->∃sl,h3.get? b=some { o with slots:=sl })->(∀b,(H' b≠none∨∃o,X.s₀.heap.get? b=some o)->b∉frs X.stack->∃o,B.get? b=some o)->E cls dd H'->X.xe (.ref ea) { s' with heap:=h3 }
variable {outer:List Env}
theorem O7 {f:Addr}{E:XK}:
  IH (c6 (CXE P w) P w K mg base N qual scope f cd A outer s₀ H₀ E) E:=by
 intro pins σ H' s' h3 ea cls dd a0 B I hn new sb st nb ff tr up cov q;show ax _ _ (lx _ _) _ _ _;obtain⟨ob,fv,tb,tbo,tv,go,ec,ed,h0,hdt,h1,nT,tne,gT,dT,hm⟩:=id tr;unfold lx ka;simp only[show (rn qual scope s₀.heap.objs.size f cd).frame=some s₀.heap.objs.size from rfl];refine aa (aa (cw go hdt h1 ?_));rw[if_pos (show (av tb !=bw)=true from by simp)];refine aa (cw gT dT hm ?_);refine nu (λ_=> ?_) (λz=>absurd (show (rawInt (s₀.heap.objs.size:Int)==rawInt (s₀.heap.objs.size:Int))=true from beq_self_eq_true _) z);refine ai (tH (s:={ s' with heap:=h3 }) st nb ff tr λh4 fl up4=> ?_);obtain⟨f1,f2,⟨_,_,f3⟩,f4⟩:=fl;obtain⟨un2,hok2⟩:=VM (B:=B) (h2:=h4) I rfl f1 sb (λb hb o e hd=>by
  obtain⟨sl,e3⟩:=up b hb o e hd;obtain⟨sl2,e4⟩:=up4 b _ e3 hd;exact⟨sl2,e4⟩) cov rfl rfl
 refine⟨ea,cls,dd,a0,H',B,rfl,I.os,I.bare,un2,hok2,hn,new,⟨f1,f2,f3,f4⟩,λb hb hs=>cov b hb λz=> ?_,q⟩;rcases ba.mp (I.stkSub b z) with e|hb'
 .rcases hb with hb|⟨o,e2⟩
  .exact hb (by rw[e];exact I.free)
  .have e1:=au (ag e2) I.ok.above;rw[e]at e1;exact bt _ e1
 .exact hs hb'
theorem ID {B B':Heap}(bn:∀b,B.get? b=none->B'.get? b=none):∀{l:List Env},(∀b∈frs l,∀o,h.get? b=some o->(∀vs,o.data≠ .fields vs)->∃o',h'.get? b=some o'/\o'.data=o.data)->h.FunFrames B l->h'.FunFrames B' l
 | [],_,_=>trivial
 | env::l,k,⟨h1,⟨L,o,e1,e2,e3,e4⟩,h3⟩=>by
  have hm:∀b,b∈frs l->b∈frs (env::l):=λb hb=>by unfold frs;rw[iz,e1];exact bx _ hb
  obtain⟨o',e5,e6⟩:=k L (by unfold frs;rw[iz,e1];exact cy) o e3 e4;exact⟨h1,⟨L,o',e1,bn L e2,e5,λvs z=>e4 vs (by rw[←e6];exact z)⟩,ID bn (λb hb=>k b (hm b hb)) h3⟩
theorem KD {E:XK}{pB:List (Addr×Obj)}{σB:St}{H1:Hp}{s1:aj}{e acc:af}
  (hst:X.stack=X.env::X.outer)(hf:X.env.frame=some X.env.locals)(hex:X.ex=[])(pf:IH X E)(I2:Inv X pins σ H2 s2)(f2:∀b∈fp,fK X pins H2 b)(hC:s2.heap.objs.size<=C)(J:Inv (bG X scope cl N C s2 H2 fp) pB σB H1 s1)(h:CXE X.prog X.w X.stack H1 s1 E e s') :
  ug (be X.prog X.w) X.A (vc scope cl C X.env) (λe s''=>q0 (be X.prog X.w) X.A X.xe use Q X.env.frame acc C (.error e) s'') e s':=by
 obtain⟨ea,cls,dd,a0,H',B,rfl,os,bare,un,hok,hn,new,fl,cov,q⟩:=h;have K1:=wA I2 f2 J;have K2:=K1.call' (ch:=[]) os un hok bare (λb z=>absurd z (by simp));obtain⟨mC,nsC,_⟩:=J.loc;obtain⟨oC,es,ep,hoC,hdC,rC⟩:=id nsC;have hoC:s1.heap.get? C=some oC:=hoC;have hCf:C∉frs X.stack:=λz=>by
  rcases ba.mp (I2.stkSub C z) with q|q
  .have:=I2.lt;rw[←q]at this;exact bt _ (au this hC)
  .exact I2.nofs hC q
 have hC1:H1 C=none:=J.free;have oC2:s'.heap.get? C=some oC:=un.keep C oC hoC hC1 hCf (by simp);have hC2:H' C=none:=un.free C oC hoC hC1 (by simp);obtain⟨oB,bC⟩:=cov C (.inr ⟨oC,hoC⟩) hCf;obtain rfl:oB=oC:=by
  have:=fl.1 C oB bC;rw[oC2]at this;exact(cp this).symm
 have eaC:ea≠C:=λz=>by rw[z]at new;rw[hoC]at new;cases new
 have hfrA:X.A.frames=some (X.env::X.outer):=by rw[I2.ok.frames,hst]
 have fl':=fl;rw[hst]at fl';show ax _ X.A (ka (.ref ea) (vc scope cl C X.env)) _ _ s';rw[show ka (.ref ea) (vc scope cl C X.env)=ka (.ref ea) X.env from rfl];refine wH hfrA hf fl' λh1 held=> ?_;obtain⟨g1,g2,g3,g4⟩:=held;have oC3:=g1 C oB bC;refine⟨mC,⟨oB,es,ep,oC3,hdC,rC⟩,λh2 sb cenv hfc=> ?_⟩;obtain⟨ob,fv,tb,tbo,tv,go,ec,ed,h0,hdt,hh1,nT,tne,gT,dT,hm⟩:=g3;have tbC:tb≠C:=λz=>by rw[z,bC]at nT;cases nT
 have go2:h2.get? ea=some ob:=(sb.2 ea eaC).trans go;have gT2:h2.get? tb=some tbo:=(sb.2 tb tbC).trans gT;have z3:=(dj.mp hm).1;unfold PySem.passOn sv;refine aa (cw go2 hdt hh1 ?_);rw[if_neg (show ¬(av tb==bw)=true from bh)];show ax _ X.A ((field (.ref ea) 1 >>= λtb=>if (tb !=bw)=true then tq tb 3 (cenv.frame.elim bw λf=>rawInt f) else pure ()) >>= λ_=>throw (av ea)) _ _ _;refine aa (aa (cw go2 hdt hh1 ?_));rw[if_pos (show (av tb !=bw)=true from by simp),hfc,hf];refine fq gT2 dT z3 (oj ?_);have oth:∀b,b≠tb->(h2.update tb (cc (·.setIfInBounds 3 (rawInt X.env.locals)))).get? b=h2.get? b:=λb hb=>bf _ _ (dg hb);have gT3:=ck (cc (·.setIfInBounds 3 (rawInt X.env.locals))) gT2 (df (cu dT _));have dT3:=cu dT (·.setIfInBounds 3 (rawInt X.env.locals));show X.xe (.ref ea) { s' with heap:=h2.update tb (cc (·.setIfInBounds 3 (rawInt X.env.locals))) };generalize h2.update tb (cc (·.setIfInBounds 3 (rawInt X.env.locals)))=h3 at oth gT3 ⊢;have there:∀b o,X.s₀.heap.get? b=some o->∃o',s1.heap.get? b=some o':=λb o e=>K1.base.there b o e (by rw[hex];simp);have nbC:∀b o,(ma B [C]).get? b=some o->b≠C/\B.get? b=some o:=λb o e=>⟨λz=>(by rw[z,hideAll_none [C] cy]at e;cases e),yi _ e⟩
 have bn:∀b,B.get? b=none->(ma B [C]).get? b=none:=λb e=>by
  cases e2:(ma B [C]).get? b with
  | none=>rfl
  | some o=>rw[(nbC b o e2).2]at e;cases e
 have frC:∀b∈frs X.stack,b≠C:=λb hb z=>hCf (z▸hb);have norec:∀b o,h1.get? b=some o->(∀vs,o.data≠ .fields vs)->b≠tb:=λb o q hnf z=>by
  rw[z,gT]at q;cases q;exact hnf tv dT
 refine pf pins σ H' s' h3 ea cls dd a0 (ma B [C]) K2 hn ?_ (λb o e=>fl.1 b o (nbC b o e).2) (λb o e=> ?_) (bn ea fl.2.1) ?_ ?_ (λb hb o e hd=> ?_) (λb hb hs=> ?_) q
 .cases e:X.s₀.heap.get? ea with
  | none=>rfl
  | some o =>
   obtain⟨o',e'⟩:=there ea o e;rw[new]at e';cases e'
 .obtain⟨n1,e2⟩:=nbC b o e;exact(oth b λz=>by rw[z,nT]at e2;cases e2).trans ((sb.2 b n1).trans (g1 b o e2))
 .rw[hst];refine ID bn (λb hb o e hd=> ?_) g2;have hb':b∈frs X.stack:=by rw[hst];exact hb
  exact⟨o,(oth b (norec b o e hd)).trans ((sb.2 b (frC b hb')).trans e),rfl⟩
 .exact⟨ob,fv,tb,_,_,(oth ea (dg tne)).trans go2,ec,ed,h0,hdt,hh1,bn tb nT,tne,gT3,dT3,by simp[z3]⟩
 .obtain⟨sl,e1⟩:=g4 b o e hd;exact⟨sl,(oth b (norec b _ e1 hd)).trans ((sb.2 b (frC b hb)).trans e1)⟩
 .obtain⟨o,e⟩:=cov b (hb.imp id λ⟨o,e⟩=>there b o e) hs;refine⟨o,xi _ e λz=> ?_⟩;have z:=bj.mp z;rcases hb with hb|⟨o',e'⟩
  .exact hb (by rw[z];exact hC2)
  .have:=ag e';rw[z]at this;exact bt _ (au this (bo I2.sz hC))
theorem KR (pf:IH X E0x)(hc:X.calm=true)(B:Blk X scope cl N nl ci)(hp:PI X tg iter wi)(hg:∀C s0 H0 fp,PG (bS X E0x scope cl N C s0 H0 fp) tg g)(hi:∀C s0 H0 fp,PF (bS X E0x scope cl N C s0 H0 fp) ifs ti)
  (he:∀C s0 H0 fp,PE (bS X E0x scope cl N C s0 H0 fp) elt te)(hs:∀x,ji iter X.env x=pure x:=by intro _;rfl)(hst:X.stack=X.env::X.outer:=by rfl)(hf0:X.env.frame=some X.env.locals:=by rfl)(hex:X.ex=[]:=by rfl):PE X (.ListComp elt [⟨tg,iter,ifs,0⟩] scope pos) (BR wi nl ci g ti te):=by
 intro pins s σ H Q I h;rw[eval_ListComp];refine BP (use:=none) rfl hs B.clos B.kind B.names (thn (hp pins s σ H _ I h) λv s1 h1=>thn h1 λitv s2 h2=> ?_);obtain⟨it,fp,tn,J,H2,e,I2,T,st2,f2,hW⟩:=h2;subst e;refine CG (RR:=λacc C=>q0 (be X.prog X.w) X.A X.xe none (EP X pins σ Q) X.env.frame acc C) hc B hg hi he I2 T st2 f2 hW (λD C pB σB H1 s1 e s2 hC J h=>KD hst hf0 hex pf I2 f2 hC J h) ?_;intro D C s' H' ys oC m hD K1 hn hC q;refine⟨m,hn,λh' hs'=> ?_⟩;have hL:C≠X.env.locals:=(K1.pin (C,oC) (by simp)).2.2.1;have I9:Inv X pins σ (upd H' D (.lst ys)) { s' with heap:=h',toks:=s'.toks }:=K1.unpinned.turned (t':=s'.toks) (it:=C) (λb o hb e=>hs'.extBut b o hb e) (K1.pin (C,oC) (by simp)).2.1 hL (.inr (bo I2.sz hC)) (λx c e z=> ?_) λp hp z=> ?_
 .exact⟨.ref D,_,I9,rfl,q D hD⟩
 .obtain⟨v,o,ho,_⟩:=I2.cell x c e;exact absurd (au (ag ho) (z▸hC)) (bt _)
 .exact absurd (au (ag (I2.pin p hp).1) (z▸hC)) (bt _)
theorem L8 {spos:Pos}(hN:X.N.Nodup)(hix:X.N[i]? =some x)(hx:Loc X.env.scope x)(pf:IH X E0x)(hc:X.calm=true)(B:Blk X scope cl N nl ci)(hp:PI X tg iter wi)(hg:∀C s0 H0 fp,PG (bS X E0x scope cl N C s0 H0 fp) tg g)
  (hi:∀C s0 H0 fp,PF (bS X E0x scope cl N C s0 H0 fp) ifs ti)(he:∀C s0 H0 fp,PE (bS X E0x scope cl N C s0 H0 fp) elt te)
  (hsw:mn (.ListComp elt [⟨tg,iter,ifs,0⟩] scope pos) (some (.Name x pos')) spos.line X.env=pure true:=by rfl)(hs:∀x,ji iter X.env x=pure x:=by intro _;rfl)(hst:X.stack=X.env::X.outer:=by rfl)(hf0:X.env.frame=some X.env.locals:=by rfl)(hex:X.ex=[]:=by rfl)
  (hf:X.fn x=true∨X.env.scope.names.lookup x=some .local:=by first|exact .inl rfl|exact .inr rfl|assumption) :
  PS X (.Assign [.Name x pos'] (.ListComp elt [⟨tg,iter,ifs,0⟩] scope pos) spos) (PH (BR wi nl ci g ti te) (cT i)):=by
 intro pins s σ H D I h;rw[exec_Assign_Name_used _ _ _ _ hsw];refine aa (gu (aa ?_));show ax _ X.A (do let _ ←comprehension (.ListComp elt [⟨tg,iter,ifs,0⟩] scope pos) scope X.env _ (newList []) false (eval iter X.env) (some (uo (.Name x pos') X.env))) _ _ s;refine aa (bu (BP (use:=some (uo (.Name x pos') X.env)) (Q:=λ_ s'=>SP X pins D .next s') rfl hs B.clos B.kind B.names
  (thn (hp pins s σ H _ I h) λv s1 h1=>thn h1 λitv s2 h2=> ?_)) (λ_ s' hq=>ai (ai hq)) λ_ _ e=>e)
 obtain⟨it,fp,tn,J,H2,e,I2,T,st2,f2,hW⟩:=h2;subst e;refine CG (RR:=λacc C=>q0 (be X.prog X.w) X.A X.xe (some (uo (.Name x pos') X.env)) (λ_ s'=>SP X pins D .next s') X.env.frame acc C) hc B hg hi he I2 T st2 f2 hW (λD C pB σB H1 s1 e s2 hC J h=>KD hst hf0 hex pf I2 f2 hC J h) ?_;intro Dd C s' H' ys oC m hD K1 hn hC q;show ax _ X.A (uo (.Name x pos') X.env (.ref Dd)) _ _ _;refine thn (aS (i:=i) hN hix hx hf (pins++[(C,oC)]) s' σ (upd H' Dd (.lst ys)) (.ref Dd) (.ref Dd) (λσ' H''=>D.nx σ' H'') K1 rfl (q Dd hD)) λ_ s'' ⟨σ',H'',K2,q2⟩=> ?_;have eC:=K2.pin (C,oC) (by simp);obtain⟨oC',es,ep,hoC,hdC,rC⟩:=id hn;have eo:oC'=oC:=by
  have:=(K1.pin (C,oC) (by simp)).1;rw[hoC]at this;exact cp this
 subst eo;refine⟨m,⟨oC',es,ep,eC.1,hdC,rC⟩,λh' hs'=> ?_⟩;have hL:C≠X.env.locals:=eC.2.2.1;have I9:Inv X pins σ' H'' { s'' with heap:=h',toks:=s''.toks }:=K2.unpinned.turned (t':=s''.toks) (it:=C) (λb o hb e=>hs'.extBut b o hb e) eC.2.1 hL (.inr (bo I2.sz hC)) (λx c e z=> ?_) λp hp z=> ?_
 .exact⟨σ',H'',I9,q2⟩
 .obtain⟨v,o,ho,_⟩:=I2.cell x c e;exact absurd (au (ag ho) (z▸hC)) (bt _)
 .exact absurd (au (ag (I2.pin p hp).1) (z▸hC)) (bt _)
open PySem.Builtin PySem.Builtin.Str
theorem FL:∀l:List (Str×Tok),Vals ((l.map (·.1)).map V.str) (strValues l)
 | []=> .nil
 | (x,t)::l=> .cons ⟨t,rfl⟩ (FL l)
def TD:V->List V->Hp->VK->Prop:=λx vs H Q=>∃(z:Str) (c:Nat),x= .str z/\vs=[.str ⟨#[c]⟩]/\z.length<=1000000/\∀p,H p=none->Q (.ref p) (upd H p (.lst ((gr z ⟨#[c]⟩).map V.str)))
theorem pG:MtR X "str.split" TD:=by
 intro pins s σ H x xs v us Q I rx rs h;obtain⟨z,c,rfl,rfl,hz,q⟩:=h;obtain⟨t,rfl⟩:=rx;obtain⟨u,rfl,u',rfl⟩:=gG rs;have hn:(partsBetween z (occurrences z ⟨#[c]⟩ 0 z.length (z.length+1)) (⟨#[c]⟩:Str).length).length<=z.length+2:=by
  unfold partsBetween;rw[ao,List.length_zip,cv,ao,cb];have:=StrLaws.occ_length_le z ⟨#[c]⟩ 0 z.length (z.length+1);simp only[cv,ip]
  lia
 have hzl:z.length<=sizeLine:=by rw[bq];lia
 have done:∀(l:List (Str×Tok)) (tk:Nat),l.map (·.1)=gr z ⟨#[c]⟩->l.length<=z.length+2->EP X pins σ Q (.ref s.heap.objs.size) { s with toks:=tk,heap:=s.heap.push { cls:= .type "list",data:= .seq (strValues l).toArray } }:=λl tk e hl=>by
  refine⟨.ref s.heap.objs.size,_,I.laid (t':=tk) (λ_ _ q=>ae _ q) (ar _) (show ObjOk X.prog X.w _ _ _ (.lst ((gr z ⟨#[c]⟩).map V.str)) from⟨?_,strValues l,0,?_,aw _ rfl⟩),rfl,q _ (I.hok.fresh (ar _))⟩
  .rw[←e,ao,ao,bq];lia
  .rw[←e];exact FL l
 have hT:=yh s z t;cases h1:(decide (z.length<(⟨#[c]⟩:Str).length)||decide (strKind z<strKind ⟨#[c]⟩))
 .cases hf:(occurrences z ⟨#[c]⟩ 0 z.length (z.length+1)).isEmpty
  .refine pq gc hT oo (nh _ _) ((meets_str_split_sep z ⟨#[c]⟩ t u' h1 rfl hf hzl (by rw[bq];lia)).inModel _ _) ?_;show wants _ _ _ { s with toks:=_,heap:=s.heap.push { cls:= .type "list",data:= .seq (strsFrom s.toks (partsBetween z (occurrences z ⟨#[c]⟩ 0 z.length (z.length+1)) (⟨#[c]⟩:Str).length)).toArray } };rw[strsFrom_eq];refine done (numbered s.toks _) _ ((numbered_texts _ _).trans ((if_neg (ne_true_of_eq_false h1)).trans (if_neg (ne_true_of_eq_false hf))).symm) ?_;rw[←ao (f:=(·.1)),numbered_texts];exact hn
  .exact pq gc hT oo (nh _ _) ((meets_str_split_not_found z ⟨#[c]⟩ t u' h1 rfl hf).inModel _ _) (done [(z,t)] s.toks ((if_neg (ne_true_of_eq_false h1)).trans (if_pos hf)).symm (by show 1<=_;lia))
 .exact pq gc hT oo (nh _ _) ((meets_str_split_cannot_occur z ⟨#[c]⟩ t u' h1).inModel _ _) (done [(z,t)] s.toks (if_pos h1).symm (by show 1<=_;lia))
section
variable {t:Addr}{its:Array af}
theorem aBJ {x:af}(hit:s.heap.IsTupleIter it t i)(ht:s.heap.IsTuple t its)(hx:its[i]? =some x)(k:∀h',h'.IsTupleIter it t (i+1)->ie it s.heap h'->Q x { s with heap:=h' }):ax (be prog w) A (fw (.ref it)) Q E s:=by
 obtain⟨o,ho,hc,hd⟩:=id hit;obtain⟨ot,hot,_,nt,hdt⟩:=ht;unfold fw;refine aa (ib (name:=jq "__next__") hit.typeIs ik (ia ik hit.typeIs ou ?_ (ny _)));show ax _ _ (field (.ref it) 0 >>= _) _ _ s;refine aa (cw ho hd (x:= .ref t) rfl (show ax _ _ (if (av t==bw)=true then _ else _) _ _ s from ?_));rw[if_neg (show ¬((av t==bw)=true) from bh)];show ax _ _ (field (.ref it) 1 >>= _) _ _ s;refine aa (cw ho hd (x:= .int i 0) rfl (show ax _ _ (seqItems? (.ref t) >>= _) _ _ s from aa (iy hot hdt ?_)));simp only[ly,hx];refine aa (fq ho hd (by simp) (ai ⟨x,rfl,ai (k _ ?_ (jb ..))⟩));exact⟨_,ck _ ho (df (cu hd _)),(js ..).trans hc,(cu hd _).trans (by simp[rawInt])⟩
theorem aCo (hh:A.handled=none)(hit:s.heap.IsTupleIter it t i)(ht:s.heap.IsTuple t its)(hx:its[i]? =none)(k:∀h' e,Heap.ExtBut it s.heap h'->(∃o,h'.get? e=some o/\o.cls= .type "StopIteration")->E (.ref e) { s with heap:=h' }):ax (be prog w) A (fw (.ref it)) Q E s:=by
 obtain⟨o,ho,hc,hd⟩:=id hit;obtain⟨ot,hot,_,nt,hdt⟩:=ht;unfold fw;refine aa (ib (name:=jq "__next__") hit.typeIs ik (ia ik hit.typeIs ou ?_ (ny _)));show ax _ _ (field (.ref it) 0 >>= _) _ _ s;refine aa (cw ho hd (x:= .ref t) rfl (show ax _ _ (if (av t==bw)=true then _ else _) _ _ s from ?_));rw[if_neg (show ¬((av t==bw)=true) from bh)];show ax _ _ (field (.ref it) 1 >>= _) _ _ s;refine aa (cw ho hd (x:= .int i 0) rfl (show ax _ _ (seqItems? (.ref t) >>= _) _ _ s from aa (iy hot hdt ?_)));simp only[ly,hx];refine aa (qu (aa (fq ho hd (by simp) (show ax _ _ (newExc (.type "StopIteration") [] >>= _) _ _ _ from aa ?_))));simp only[newExc,newTuple];refine aa (fu (aa (m:=mj _ _) (xk (a:=bw) (by first|rfl|(simp only[mj];rfl)) (fu ?_ (by size_fits)))) (by size_fits));simp only[xl];refine aa (ur ?_)
 first|rw[show A.in1.handled=none from hh]|rw[hh]
 refine aa (ai (oj (k _ _ (((jb ..).extBut.push _).push _) ⟨_,aw _ rfl,rfl⟩)))
variable {z TI TO l2:Addr}{k1 k2:Nat}{ys:Array af}{a b:af}
theorem aAM {x y:af}{Q:Option af->aj->Prop}(D:ZipApart z TI TO i1 i2 t l2)(hz:xp s.heap z TI TO .none)(hTI:qv s.heap TI (.ref i1) (.ref i2))(hTO:qv s.heap TO a b)(h1:s.heap.IsTupleIter i1 t k1)(h2:s.heap.IsListIter i2 l2 k2)(hl1:s.heap.IsTuple t its)(hl2:s.heap.IsList l2 ys)(hx:its[k1]? =some x)(hy:ys[k2]? =some y)
  (k:∀h',xp h' z TI TO (rawInt s.heap.objs.size)->qv h' TO x y->h'.IsTupleIter i1 t (k1+1)->h'.IsListIter i2 l2 (k2+1)->qv h' s.heap.objs.size x y->h'.objs.size=s.heap.objs.size+1->(∀c o,c≠z->c≠TO->c≠i1->c≠i2->s.heap.get? c=some o->h'.get? c=some o)->Q (some (.ref s.heap.objs.size)) { s with heap:=h' }) :
  ax (be prog w) A (rl (.ref z)) Q E s:=by
 have hT:s.TypeIs (.ref z) "zip" :=⟨_,hz,rfl⟩
 unfold rl;refine aa (qz (ib (name:=jq "__next__") hT ls (ia ls hT vx ?_ (vm _))));show ax _ _ (field (.ref z) 2 >>= _) _ _ _;refine aa (cw hz rfl (x:= .bool false) rfl (show ax _ _ (field (.ref z) 3 >>= _) _ _ _ from aa (cw hz rfl (x:= .ref TI) rfl (aa (iy hTI rfl ?_)))));show ax _ _ (gv (.ref z) >>= _) _ _ _;refine aa ?_;unfold gv;refine aa (cw hz rfl (x:= .none) rfl (ai ?_));simp only[if_true];refine aa (qu (aa (cw hz rfl (x:= .ref TO) rfl (aa (ky hz (by simp) λg1 hz1 hs1=> ?_)))))
 replace hz1:xp g1 z TI TO .ellipsis:=hz1
 refine aa ?_;simp only[List.zipIdx_cons,List.zipIdx_nil,wb,List.forIn_nil];refine aa (aa (wpAny_onRaise (show ax _ _ (fw (.ref i1) >>= _) _ _ _ from aa (aBJ (h1.extBut hs1.extBut D.i1z) (hl1.extBut hs1.extBut D.l1z) hx λg2 h12 hs2=>ai ?_))));have hTO2:qv g2 TO a b:=hs2.extBut _ _ D.TOi1 (hs1.extBut _ _ D.TOz hTO);refine aa (iy hTO2 rfl (aa (wpAny_updateSeq_pair hTO2 λg3 hTO3 hs3=> ?_)))
 replace hTO3:qv g3 TO x b:=hTO3
 refine aa (wpAny_letGo (ai (aa (aa (wpAny_onRaise (show ax _ _ (fw (.ref i2) >>= _) _ _ _ from ?_))))));refine aa (wpAny_nextOf_list_item (((h2.extBut hs1.extBut D.i2z).extBut hs2.extBut D.i12.symm).extBut hs3.extBut D.TOi2.symm) (((hl2.extBut hs1.extBut D.l2z).extBut hs2.extBut D.l2i1).extBut hs3.extBut D.l2TO) hy λg4 h24 hs4=>ai ?_);have hTO4:qv g4 TO x b:=hs4.extBut _ _ D.TOi2 hTO3;refine aa (iy hTO4 rfl (aa (wpAny_updateSeq_pair hTO4 λg5 hTO5 hs5=> ?_)))
 replace hTO5:qv g5 TO x y:=hTO5
 refine aa (wpAny_letGo (ai (ai (aa (iy hTO5 rfl (aa (wpAny_newTuple ?_)))))));have hsz:g5.objs.size=s.heap.objs.size:=by rw[hs5.1,hs4.1,hs3.1,hs2.1,hs1.1]
 have hz5:xp g5 z TI TO .ellipsis:=hs5.extBut _ _ D.TOz.symm (hs4.extBut _ _ D.i2z.symm (hs3.extBut _ _ D.TOz.symm (hs2.extBut _ _ D.i1z.symm hz1)));have hk5:∀c o,c≠z->c≠TO->c≠i1->c≠i2->s.heap.get? c=some o->g5.get? c=some o:=λc o c1 c2 c3 c4 e=>hs5.extBut _ _ c2 (hs4.extBut _ _ c4 (hs3.extBut _ _ c2 (hs2.extBut _ _ c3 (hs1.extBut _ _ c1 e))));have h15:g5.IsTupleIter i1 t (k1+1):=((h12.extBut hs3.extBut D.TOi1.symm).extBut hs4.extBut D.i12).extBut hs5.extBut D.TOi1.symm;have h25:g5.IsListIter i2 l2 (k2+1):=h24.extBut hs5.extBut D.TOi2.symm;have hzlt:z<g5.objs.size:=ag hz5;show ax _ _ (mz (.ref z) (.ref g5.objs.size) >>= _) _ _ _;refine aa ?_;unfold mz;have hz6:xp (g5.push { cls:= .type "tuple",data:= .seq #[x,y] }) z TI TO .ellipsis:=ae _ hz5;refine aa (ky hz6 (by simp) λg7 hz7 hs7=> ?_)
 replace hz7:xp g7 z TI TO (rawInt g5.objs.size):=hz7
 refine ky hz7 (by simp) λg8 hz8 hs8=> ?_
 replace hz8:xp g8 z TI TO (rawInt g5.objs.size):=hz8
 have up:∀c o,c≠z->g5.get? c=some o->g8.get? c=some o:=λc o c1 e=>hs8.extBut _ _ c1 (hs7.extBut _ _ c1 (ae _ e));have hT8:qv g8 g5.objs.size x y:=hs8.extBut _ _ (km hzlt) (hs7.extBut _ _ (km hzlt) (aw _ rfl));have hs8':g8.objs.size=g5.objs.size+1:=by rw[hs8.1,hs7.1,ig]
 rw[hsz]at hz8 hT8 hs8';refine ai ⟨_,rfl,?_⟩;show ax _ _ (pure (some (av g5.objs.size))) _ _ _;rw[hsz];exact ai (k g8 hz8 (up _ _ D.TOz hTO5) (h15.at λo e=>up _ o D.i1z e) (h25.at λo e=>up _ o D.i2z e) hT8 hs8' λc o c1 c2 c3 c4 e=>up c o c1 (hk5 c o c1 c2 c3 c4 e))
theorem aCr {Q:Option af->aj->Prop}(hh:A.handled=none)(D:ZipApart z TI TO i1 i2 t l2)(hz:xp s.heap z TI TO .none)(hTI:qv s.heap TI (.ref i1) (.ref i2))(h1:s.heap.IsTupleIter i1 t k1)(hl1:s.heap.IsTuple t its)(hx:its[k1]? =none)
  (k:∀h',(∀c o,c≠z->c≠i1->s.heap.get? c=some o->h'.get? c=some o)->Q none { s with heap:=h' }):ax (be prog w) A (rl (.ref z)) Q E s:=by
 have hT:s.TypeIs (.ref z) "zip" :=⟨_,hz,rfl⟩
 unfold rl;refine aa (qz (ib (name:=jq "__next__") hT ls (ia ls hT vx ?_ (vm _))));show ax _ _ (field (.ref z) 2 >>= _) _ _ _;refine aa (cw hz rfl (x:= .bool false) rfl (show ax _ _ (field (.ref z) 3 >>= _) _ _ _ from aa (cw hz rfl (x:= .ref TI) rfl (aa (iy hTI rfl ?_)))));show ax _ _ (gv (.ref z) >>= _) _ _ _;refine aa ?_;unfold gv;refine aa (cw hz rfl (x:= .none) rfl (ai ?_));simp only[if_true];refine aa (qu (aa (cw hz rfl (x:= .ref TO) rfl (aa (ky hz (by simp) λg1 hz1 hs1=> ?_)))))
 replace hz1:xp g1 z TI TO .ellipsis:=hz1
 refine aa ?_;simp only[List.zipIdx_cons,List.zipIdx_nil,wb,List.forIn_nil];refine aa (aa (wpAny_onRaise (show ax _ _ (fw (.ref i1) >>= _) _ _ _ from aa (aCo hh (h1.extBut hs1.extBut D.i1z) (hl1.extBut hs1.extBut D.l1z) hx λg2 e hs2 he=> ?_))));obtain⟨oe,hoe,hce⟩:=he;have hz2:xp g2 z TI TO .ellipsis:=hs2 _ _ D.i1z.symm hz1;have hez:e≠z:=λx=>by subst x;rw[hz2]at hoe;cases hoe;simp at hce
 refine ky hz2 (by simp) λg3 _ hs3=> ?_;refine aa (kc (T:= "StopIteration") (b:=true) ⟨oe,hs3.extBut _ _ hez hoe,hce⟩ isSubtype_stop ?_);exact ai (k g3 λc o c1 c3 x=>hs3.extBut _ _ c1 (hs2 _ _ c3 (hs1.extBut _ _ c1 x)))
end
def zH1 (h:Heap)(t:Addr):Heap:=h.push { cls:= .type "tuple_iterator",data:= .fields #[.ref t,.int 0 0] }
def zH2 (h:Heap)(t l:Addr):Heap:=(zH1 h t).push { cls:= .type "list_iterator",data:= .fields #[.ref l,.int 0 0] }
def zH3 (h:Heap)(t l:Addr):Heap:=(zH2 h t l).push { cls:= .type "tuple",data:= .seq #[.ref h.objs.size,.ref (zH1 h t).objs.size] }
def zH4 (h:Heap)(t l:Addr):Heap:=(zH3 h t l).push { cls:= .type "tuple",data:= .seq #[.none,.none] }
def zH5 (h:Heap)(t l:Addr):Heap:=(zH4 h t l).push { cls:= .type "zip",data:= .fields #[.none,.bool false,.bool false,.ref (zH2 h t l).objs.size,.ref (zH3 h t l).objs.size] }
theorem aCv (t l:Addr)(xs ys:Array af):Meets (nq.«zip.__new__» ⟨[.type "zip",.ref t,.ref l],[]⟩) (λ_ R s=>s.heap.IsTuple t xs/\s.heap.IsList l ys/\R (.ok (.ret (.ref (zH4 s.heap t l).objs.size))) { s with heap:=zH5 s.heap t l }) :=
 .of_wp λprog w A R s h=>by
  obtain⟨hp,g,d,tk,os⟩:=s;obtain⟨hl1,hl2,h⟩:=h;have sub0:=sub_zip;have q1:Heap.IsTuple (aj.heap ⟨hp,g,d,tk,os⟩) t xs:=hl1;have q2:Heap.IsList (aj.heap ⟨hp.push { cls:= .type "tuple_iterator",data:= .fields #[.ref t,.int 0 0] },g,d,tk,os⟩) l ys:=Heap.IsList.push hl2 _
  wp_walk using wpAny_pyIter_tuple q1,lu q2
  exact⟨_,rfl,h⟩
theorem SX {t l:Addr}{xs ys:Array af}(hl1:s.heap.IsTuple t xs)(hl2:s.heap.IsList l ys)
  (k:∀h',xp h' (s.heap.objs.size+4) (s.heap.objs.size+2) (s.heap.objs.size+3) .none->qv h' (s.heap.objs.size+2) (.ref s.heap.objs.size) (.ref (s.heap.objs.size+1))->qv h' (s.heap.objs.size+3) .none .none->h'.IsTupleIter s.heap.objs.size t 0->h'.IsListIter (s.heap.objs.size+1) l 0->h'.objs.size=s.heap.objs.size+5 →
   (∀c o,s.heap.get? c=some o->h'.get? c=some o)->Q (.ref (s.heap.objs.size+4)) { s with heap:=h' }):ax (be prog w) A (call (.type "zip") [.ref t,.ref l]) Q E s:=by
 refine callType_new PySem.F.called_zip (by decide) (PySem.F.typeCall_zip_2 _ _) (PySem.F.newCall_zip_2 _ _) (λobj=>PySem.F.args_object_init_3 obj _ _) PySem.F.entry_zip_new (aCv t l xs ys) ⟨hl1,hl2,?_⟩;have z1:(zH1 s.heap t).objs.size=s.heap.objs.size+1:=ig ..;have z2:(zH2 s.heap t l).objs.size=s.heap.objs.size+2:=by rw[zH2,ig,z1]
 have z3:(zH3 s.heap t l).objs.size=s.heap.objs.size+3:=by rw[zH3,ig,z2]
 have z4:(zH4 s.heap t l).objs.size=s.heap.objs.size+4:=by rw[zH4,ig,z3]
 have z5:(zH5 s.heap t l).objs.size=s.heap.objs.size+5:=by rw[zH5,ig,z4]
 have g5:(zH5 s.heap t l).get? (zH4 s.heap t l).objs.size=some { cls:= .type "zip",data:= .fields #[.none,.bool false,.bool false,.ref (zH2 s.heap t l).objs.size,.ref (zH3 s.heap t l).objs.size] }:=aw _ rfl;have g4:(zH5 s.heap t l).get? (zH3 s.heap t l).objs.size=some { cls:= .type "tuple",data:= .seq #[.none,.none] }:=ae _ (aw _ rfl);have g3:(zH5 s.heap t l).get? (zH2 s.heap t l).objs.size=some { cls:= .type "tuple",data:= .seq #[.ref s.heap.objs.size,.ref (zH1 s.heap t).objs.size] }:=ae _ (ae _ (aw _ rfl));have g2:(zH5 s.heap t l).get? (zH1 s.heap t).objs.size=some { cls:= .type "list_iterator",data:= .fields #[.ref l,.int 0 0] }:=ae _ (ae _ (ae _ (aw _ rfl)));have g1:(zH5 s.heap t l).get? s.heap.objs.size=some { cls:= .type "tuple_iterator",data:= .fields #[.ref t,.int 0 0] }:=ae _ (ae _ (ae _ (ae _ (aw _ rfl))));show _/\_;rw[z2,z3,z4]at g5;rw[z1,z2]at g3;rw[z3]at g4;rw[z1]at g2;rw[z4];exact⟨⟨_,g5,rfl⟩,k _ g5 g3 g4 ⟨_,g1,rfl,rfl⟩ ⟨_,g2,rfl,rfl⟩ z5 λc o x=>ae _ (ae _ (ae _ (ae _ (ae _ x))))⟩
def Itz (K:W.Frag)(t a:Addr):It :=
 ⟨λi H=>∃xs ys x y,SqT K H t xs/\SqL K H a ys/\xs[i]? =some x/\ys[i]? =some y,λi H x H'=>∃q,x= .ref q/\H q=none/\∀xs ys,SqT K H t xs->SqL K H a ys->∃u v,xs[i]? =some u/\ys[i]? =some v/\H'=upd H q (.tup [u,v]),λi H=>∃xs,SqT K H t xs/\xs.length<=i⟩
theorem Y3 {x1:Nat}{z TI TO:Addr}(t a:Addr)(D:ZipApart z TI TO i1 i2 t a):
  sF P w K (.Tuple elts x1 tpos) (Itz K t a) [z,TI,TO,i1,i2] z (λi h=>xp h z TI TO .none/\qv h TI (.ref i1) (.ref i2)/\(∃u v,qv h TO u v)/\h.IsTupleIter i1 t i/\h.IsListIter i2 a i) where
 mem:=by simp
 obj:=λi h st b hb=>by
  obtain⟨e1,e2,⟨_,_,e3⟩,⟨o4,e4,_,d4⟩,o5,e5,_,d5⟩:=st;simp only[ba,cz,or_false]at hb;rcases hb with rfl|rfl|rfl|rfl|rfl
  .exact⟨_,e1,λv z=>by cases z⟩
  .exact⟨_,e2,λv z=>by cases z⟩
  .exact⟨_,e3,λv z=>by cases z⟩
  .exact⟨_,e4,λv z=>by rw[d4]at z;cases z⟩
  .exact⟨_,e5,λv z=>by rw[d5]at z;cases z⟩
 keep:=λi h h' st k=>⟨k z (by simp) _ st.1,k TI (by simp) _ st.2.1,let ⟨u,v,e⟩:=st.2.2.1;⟨u,v,k TO (by simp) _ e⟩,st.2.2.2.1.at λo q=>k i1 (by simp) o q,st.2.2.2.2.at λo q=>k i2 (by simp) o q⟩
 item:=by
  intro X hP hw hK hc i pins s σ H E I hf st hg;subst hP hw hK;obtain⟨xs,ys,x,y,hq,hr,hx,hy⟩:=hg;obtain⟨st1,st2,⟨u0,v0,st3⟩,st4,st5⟩:=st;obtain⟨its,rv,p,_⟩:=I.tuple hq;obtain⟨jts,rw',pl,_⟩:=I.list hr;obtain⟨u,hu,ru⟩:=rv.get hx;obtain⟨v,hv,rv'⟩:=rw'.get hy;refine aAM D st1 st2 st3 st4 st5 (show s.heap.IsTuple t its.toArray from p) pl.isList (x:=u) (y:=v) (by simpa using hu) (by simpa using hv) λh1 a1 a2 a3 a4 a5 a6 a7=> ?_;refine⟨_,rfl,?_⟩;refine wpAny_letOwnedTupleGo_zip (s:={ s with heap:=h1 }) a1 λh2 b1 sb2=> ?_;have hq0:H s.heap.objs.size=none:=I.hok.fresh (ar _);have lz:z<s.heap.objs.size:=ag st1;have lTI:TI<s.heap.objs.size:=ag st2;have lTO:TO<s.heap.objs.size:=ag st3;have l1:i1<s.heap.objs.size:=by obtain⟨o,q,_⟩:=st4;exact ag q
  have l2:i2<s.heap.objs.size:=by obtain⟨o,q,_⟩:=st5;exact ag q
  have I1:Inv X pins σ (upd H s.heap.objs.size (.tup [x,y])) { s with heap:=s.heap.push { cls:= .type "tuple",data:= .seq #[u,v] } } :=
   I.laid (t':=s.toks) (λb u e=>ae _ e) (ar _) ⟨(show 2<=sizeLine by rw[bq];decide),[u,v],.cons ru (.cons rv' .nil),⟨_,aw _ rfl,rfl,0,rfl⟩⟩
  have hf':∀b∈[z,TI,TO,i1,i2],fK X pins (upd H s.heap.objs.size (.tup [x,y])) b:=λb hb=>by
   obtain⟨f0,f1⟩:=hf b hb;refine⟨?_,f1⟩;simp only[ba,cz,or_false]at hb;rcases hb with rfl|rfl|rfl|rfl|rfl
   .rw[aJ (bp lz)];exact f0
   .rw[aJ (bp lTI)];exact f0
   .rw[aJ (bp lTO)];exact f0
   .rw[aJ (bp l1)];exact f0
   .rw[aJ (bp l2)];exact f0
  have I2:Inv X pins σ (upd H s.heap.objs.size (.tup [x,y])) { s with heap:=h2,toks:=s.toks }:=Inv.turns (s:={ s with heap:=s.heap.push { cls:= .type "tuple",data:= .seq #[u,v] } }) (h':=h2) (t':=s.toks) I1 (λc o hb q=>by
   simp only[ba,cz,or_false,not_or]at hb;rcases xm q with⟨rfl,rfl⟩|q
   .exact(sb2.2 _ hb.1).trans a5
   .exact(sb2.2 c hb.1).trans (a7 c o hb.1 hb.2.2.1 hb.2.2.2.1 hb.2.2.2.2 q)) hf'
  refine⟨.ref s.heap.objs.size,_,I2,rfl,⟨_,rfl,hq0,λxs' ys' hx' hy'=>⟨x,y,by rw[I.tuple_inj hx' hq];exact hx,by rw[I.list_inj hy' hr];exact hy,rfl⟩⟩,⟨b1,?_,⟨u,v,(sb2.2 TO D.TOz).trans a2⟩,a3.at λo q=>(sb2.2 i1 D.i1z).trans q,a4.at λo q=>(sb2.2 i2 D.i2z).trans q⟩,λb hb=>(hf' b hb).1⟩;exact(sb2.2 TI D.TIz).trans (a7 TI _ D.TIz D.TITO D.TIi1 D.TIi2 st2)
 done:=by
  intro X hP hw hK hc i pins s σ H E I hf st hg;subst hP hw hK;obtain⟨xs,hq,hx⟩:=hg;obtain⟨st1,st2,⟨u0,v0,st3⟩,st4,st5⟩:=st;obtain⟨its,rv,p,_⟩:=I.tuple hq;have hl:=rv.length;exact aCr (I.ok.hd hc) D st1 st2 st4 (show s.heap.IsTuple t its.toArray from p) (by simp;lia) λh' eb=>⟨rfl,Inv.turns (t':=s.toks) I (ch:=[z,TI,TO,i1,i2]) (λb o hb q=>by
   simp only[ba,cz,or_false,not_or]at hb;exact eb b o hb.1 hb.2.2.2.1 q) hf⟩
 self:=λA i s Q E st h=>wpAny_pyIter_zip st.1 h
theorem aC5:dv "zip" =some (.type "zip"):=by decide +kernel
def aCy (K:W.Frag)(ta:TA):TI:=λσ H R=>ta σ H λvs H1=>∃t b xs ys,vs=[.ref t,.ref b]/\SqT K H1 t xs/\SqL K H1 b ys/\R (Itz K t b) H1
theorem aDk {a b:Expr}{ta:TA}{p:Pos}{x1:Nat}(hg:Gl X "zip")(hm:X.mg "zip" =none)(ha:PA X [a,b] ta)(hs:az [a,b] X.env=(false,eval a X.env)::az [b] X.env:=by rfl)(hpl:(fh pos (az [b] X.env)).any (·.1)=false:=by rfl):PI X (.Tuple elts x1 tpos) (.Call (.Name "zip" p) [a,b] [] pos) (aCy X.K ta):=by
 intro pins s σ H R I h;refine Call_ (tK I hg hm aC5 (jc (thn (ha pos pins s σ H _ I h) λus s1 ⟨vs,H1,I1,r1,q1⟩=> ?_) hs hpl));obtain⟨t,l,xs,ys,rfl,hq,hr,q⟩:=q1;obtain⟨u,v,rfl,ru,rv⟩:∃u v,us=[u,v]/\RelV (.ref t) u/\RelV (.ref l) v:=by
  cases r1 with
  | cons a b=>cases b with
   | cons c d=>cases d;exact⟨_,_,rfl,a,c⟩
 cases ru;cases rv;obtain⟨its,_,pt,_⟩:=I1.tuple hq;obtain⟨jts,_,pl,_⟩:=I1.list hr;refine SX (show s1.heap.IsTuple t its.toArray from pt) pl.isList λh' e1 e2 e3 e4 e5 hsz kp=> ?_;refine wpAny_pyIter_zip (s:={ s1 with heap:=h' }) e1 ?_;have lt:t<s1.heap.objs.size:=by obtain⟨o,e,_⟩:=pt;exact ag e
 have ll:l<s1.heap.objs.size:=by obtain⟨o,e,_⟩:=pl.isList;exact ag e
 have I2:Inv X pins σ H1 { s1 with heap:=h' }:=I1.kept (t':=s1.toks) kp;have fr:∀n,fK X pins H1 (s1.heap.objs.size+n):=λn=>I1.fpOk (vn _ _) (I1.hok.fresh (vn _ _));refine⟨s1.heap.objs.size+4,[s1.heap.objs.size+4,s1.heap.objs.size+2,s1.heap.objs.size+3,s1.heap.objs.size,s1.heap.objs.size+1],_,_,H1,rfl,I2,Y3 t l ⟨?_,?_,?_,?_,?_,?_,?_,?_,?_,?_,?_,?_,?_,?_,?_,?_,?_,?_⟩,⟨e1,e2,⟨_,_,e3⟩,e4,e5⟩,λc hc=> ?_,q⟩
 case refine_19 =>
  simp only[ba,cz,or_false]at hc;rcases hc with rfl|rfl|rfl|rfl|rfl
  .exact fr 4
  .exact fr 2
  .exact fr 3
  .exact fr 0
  .exact fr 1
 all_goals (intro z;have z':(_:Nat)=_:=z;have lt': @LT.lt Nat _ t s1.heap.objs.size:=lt;have ll': @LT.lt Nat _ l s1.heap.objs.size:=ll;lia)
def eJ (z y:Str):Bool:=decide (0+y.length<=z.length)&&PySem.Builtin.Str.subAt z y 0
theorem F1:MtR X "str.startswith" (λx vs H Q=>∃z y:Str,x= .str z/\vs=[.str y]/\Q (.bl (eJ z y)) H):=by
 intro pins s σ H x xs v us Q I rx rs h;obtain⟨z,y,rfl,rfl,q⟩:=h;obtain⟨t,rfl⟩:=rx;obtain⟨u,rfl,u',rfl⟩:=gG rs;exact call_gives md (yh s z t) PySem.F.entry_str_startswith (PySem.F.args_str_startswith_2 _ _) (gives_str_startswith z y t u') ⟨.bl _,H,I,rfl,q⟩
def aED:List V->Hp->VK->Prop:=λvs H Q=>∃(x:Str) (n:Int),vs=[.str x]/\PySem.intText? x=some n/\x.length<=640/\Q (.int n) H
theorem R4:cQ X (.type "int") aED:=by
 intro pins s σ H xs us Q I r h;obtain⟨x,n,rfl,hn,hl,q⟩:=h;obtain⟨u,rfl,t,rfl⟩:=gG r;exact KIN.call_text hn hl ⟨.int n,H,I.tok _,⟨_,rfl⟩,q⟩
variable {dvs xs:List V}
section
variable {rest:List (Option V)}{t:Addr}
theorem WN {H':Hp}{t:Addr}(e:Same H H')(h:SqT K H t xs):SqT K H' t xs:=by
 rcases h with h|h
 .rcases h with h|⟨o,h⟩
  .exact .inl (.inl (e _ _ h))
  .exact .inl (.inr ⟨o,e _ _ h⟩)
 .exact .inr h
theorem aD2 {ys:List V}(P:Nat->V->Hp->Prop)(hm:∀i y H1 H2,P i y H1->Same H1 H2->P i y H2)(hn:xs.length<=sizeLine)(hr:ci.map (λi=>(σ[i]?).join)=rest)(hx:SqT K H t xs)(hy:SqL K H a ys)(hl:ys.length=xs.length)
  (he:∀i u v H1,xs[i]? =some u->ys[i]? =some v->Same H H1->∀R:VK,(∀y H2,P i y H2->Same H1 H2->R y H2)->te (some u::some v::rest) H1 R)
  (hf:∀zs H1,Same H H1->zs.length=xs.length->(∀i y,zs[i]? =some y->P i y H1)->fin zs H1):dN (Itz K t a) (DO K 2 (qX (cT 0) (qX (cT 1) IO))) wL te (bX 2 ci σ) fin H:=by
 have e0:bX 2 ci σ=none::none::rest:=WO hr;rw[e0];refine⟨λi m zs H1=>m=xs.length - i/\i<=xs.length/\Same H H1/\zs.length=i/\∀j y,zs[j]? =some y->P j y H1,⟨xs.length,rfl,gi _,Same.refl _,rfl,λj y e=>by simp at e⟩,λi m zs H1 ⟨e1,e2,s1,e3,e4⟩=> ?_⟩
 by_cases hi:i<xs.length
 .right
  have hi2:i<ys.length:=by lia
  refine⟨⟨xs,ys,xs[i],ys[i],WN s1 hx,s1.seq hy,aq hi,aq hi2⟩,λv H' y=> ?_⟩;obtain⟨q,rfl,hq,yy⟩:=y;obtain⟨u,w,hu,hw,rfl⟩:=yy xs ys (WN s1 hx) (s1.seq hy);have s2:Same H1 (upd H1 q (.tup [u,w])):=XU hq;refine⟨q,[u,w],rfl,.inl (.inl aU),rfl,u,[w],rfl,w,[],rfl,rfl,⟨rfl,λj v hv=> ?_⟩,?_⟩
  .match j,hv with
   | 0,hv=>cases hv
   | 1,hv=>cases hv
   | j+2,hv=>exact hv
  .unfold wL;simp only[↓reduceIte];refine he i u w _ hu hw (s1.trans s2) _ λy H3 hp s3=>⟨by lia,xs.length - (i+1),by lia,rfl,by lia,(s1.trans s2).trans s3,by rw[cb,e3];rfl,λj y' ej=> ?_⟩
   rcases Nat.lt_or_ge j zs.length with hj|hj
   .rw[ir hj]at ej;exact hm _ _ _ _ (e4 j y' ej) (s2.trans s3)
   .rw[jh hj]at ej;have:j=i:=by
     have:=(ay.mp ej).1;simp at this
     lia
    subst this;rw[e3,Nat.sub_self]at ej;cases ej;exact hp
 .left
  exact⟨⟨xs,WN s1 hx,by lia⟩,hf zs H1 s1 (by lia) e4⟩
end
open PySem.NumText
def noC (c:Nat)(x:Str):Prop:=c∉x.cps.toList
theorem M1 {c:Nat}:∀{a b u v:List Nat},c∉a->c∉b->a++c::u=b++c::v->a=b/\u=v
 | [],[],u,v,_,_,h=>⟨rfl,(jv h).2⟩
 | [],y::b,u,v,_,hb,h=>absurd (show c∈y::b by rw[←(jv h).1];exact .head _) hb
 | x::a,[],u,v,ha,_,h=>absurd (show c∈x::a by rw[(jv h).1];exact .head _) ha
 | x::a,y::b,u,v,ha,hb,h=>by
  obtain⟨h1,h2⟩:=jv h;obtain⟨h3,h4⟩:=M1 (λz=>ha (.tail _ z)) (λz=>hb (.tail _ z)) h2;exact⟨by rw[h1,h3],h4⟩
theorem sV (x y:Str):(x++y).cps.toList=x.cps.toList++y.cps.toList:=by
 show (x.cps++y.cps).toList=_;rw[Array.toList_append]
theorem C1 (h:x.cps.toList=y.cps.toList):x=y:=by
 obtain⟨a⟩:=x;obtain⟨b⟩:=y
 congr 1
 exact Array.toList_inj.mp h
theorem KC {c:Nat}:∀{ps qs:List Str},ps≠[]->qs≠[]->(∀p∈ps,noC c p)->(∀p∈qs,noC c p)->ml ⟨#[c]⟩ ps=ml ⟨#[c]⟩ qs->ps=qs
 | [],_,h,_,_,_,_=>absurd rfl h
 | _,[],_,h,_,_,_=>absurd rfl h
 | [x],[y],_,_,_,_,h=>by rw[show x=y from h]
 | [x],y::y2::qs,_,_,hp,_,h=>by
  have h':=congrArg (λz:Str=>z.cps.toList) (show x=y++(⟨#[c]⟩:Str)++ml ⟨#[c]⟩ (y2::qs) from h);simp only[sV]at h';exact absurd (show c∈x.cps.toList by rw[h'];simp) (hp x (.head _))
 | x::x2::ps,[y],_,_,_,hq,h=>by
  have h':=congrArg (λz:Str=>z.cps.toList) (show x++(⟨#[c]⟩:Str)++ml ⟨#[c]⟩ (x2::ps)=y from h);simp only[sV]at h';exact absurd (show c∈y.cps.toList by rw[←h'];simp) (hq y (.head _))
 | x::x2::ps,y::y2::qs,_,_,hp,hq,h=>by
  have h':=congrArg (λz:Str=>z.cps.toList) (show x++(⟨#[c]⟩:Str)++ml ⟨#[c]⟩ (x2::ps)=y++(⟨#[c]⟩:Str)++ml ⟨#[c]⟩ (y2::qs) from h);simp only[sV]at h';obtain⟨h1,h2⟩:=M1 (c:=c) (hp x (.head _)) (hq y (.head _)) (by simpa using h');have ih:=KC (ps:=x2::ps) (qs:=y2::qs) (List.cons_ne_nil _ _) (List.cons_ne_nil _ _) (λp hp'=>hp p (.tail _ hp')) (λp hq'=>hq p (.tail _ hq')) (C1 h2);rw[C1 h1,ih]
theorem CU {c:Nat}{ps:List Str}(hne:ps≠[])(hp:∀p∈ps,noC c p):gr (ml ⟨#[c]⟩ ps) ⟨#[c]⟩=ps:=by
 refine(KC hne ?_ hp (λp hp=>StrLaws.split_free _ c p hp) ?_).symm
 .intro z;have:=split_pos (ml ⟨#[c]⟩ ps) ⟨#[c]⟩;rw[z]at this;exact absurd this (by decide)
 .exact(StrLaws.join_split _ _).symm
theorem RK {c:Nat}(h:noC c x):gr x ⟨#[c]⟩=[x]:=CU (ps:=[x]) (λz=>nomatch z) λp hp=>by rw[bj.mp hp];exact h
theorem DG (n:Nat):(toString (n:Int):Str).cps.toList=(jo 10 n).map Char.toNat:=KIN.signs_num n
theorem CP (n:Nat):∀c∈(toString (n:Int):Str).cps.toList,48<=c/\c<=57:=by
 intro c hc;rw[DG]at hc;obtain⟨ch,hch,e⟩:=bg.mp hc;have r:=digit_range (Nat.isDigit_of_mem_toDigits (by decide) (by decide) hch);rw[←e];exact r
theorem aC8 (n:Nat):(toString (n:Int):Str).cps.toList≠[]:=by
 rw[DG];intro e;have h:=toDigits_len_ge 10 n;rw[List.map_eq_nil_iff.mp e]at h;exact absurd h (by decide)
theorem J0:∀(k n:Nat),n<10^k->(jo 10 n).length<=max 1 k
 | 0,n,h=>by
  have:n=0:=by simpa using h
  subst this;decide
 | k+1,n,h=>by
  by_cases hn:n<10
  .rw[vo hn];simp
  .have hm:n%10<10:=Nat.mod_lt n (by decide);have t:jo 10 (n/10)++jo 10 (n%10)=jo 10 (10 * (n/10)+n%10):=Nat.toDigits_append_toDigits (by decide) (by lia) hm;rw[Nat.div_add_mod]at t;have h1:n/10<10^k:=by rw[Nat.pow_succ]at h;lia
   have ih:=J0 k (n/10) h1;have hk:1<=k:=by
    cases k with
    | zero=>simp at h1;lia
    | succ k=>lia
   rw[←t,cb,vo hm];simp only[cv,ip]
   lia
theorem aBF {n:Int}{k:Nat}(h0:0<=n)(h1:n<10^k)(hk:1<=k):(toString n:Str).length<=k:=by
 obtain⟨m,rfl⟩:=Int.eq_ofNat_of_zero_le h0;have e:(toString (m:Int):Str).length=(toString (m:Int):Str).cps.toList.length:=by rw[fj];rfl
 rw[e,DG,ao];have:=J0 k m (by exact_mod_cast h1)
 lia
section
variable {rest:St}
end
theorem IU {o:Expr}{to:TE}{t:TA}{name:Str}{apos cpos:Pos}{T id:String}{r:V->List V->Hp->VK->Prop}(hK:X.K=K)(pa:PlainAttrs T)(slot:Slot T name id)(hty:xg (.builtin id)=pure (.type "method_descriptor"))(hm:MtR X id r)(ho:PE X o to)(ha:PA X (e::es) t)
  (hbase:jt o name X.env (eval o X.env)=eval o X.env:=by rfl)
  (hfew:((fh cpos (az (e::es) X.env)).all (λx=> !x.1)&&(ri cpos (kh [] X.env)).all (λx=>x.1.isSome)
   && decide ((e::es).length+([]:List xu).length+(if ([]:List xu).isEmpty then 0 else 1)<30))=true:=by rfl)
  (hline:(apos.endLine==cpos.line)=true:=by rfl)(hs:az (e::es) X.env=(false,eval e X.env)::az es X.env:=by rfl)(hplain:(fh cpos (az es X.env)).any (·.1)=false:=by rfl) :
  PE X (.Call (.Attribute o name apos) (e::es) [] cpos) (tBM K T r to t):=by
 subst hK;exact oT pa slot hty hm ho ha hbase hfew hline hs hplain
def aAf (w:gd)(K:W.Frag)(D:Addr)(kvs:List (Key×V)):Prop:=(D==gq)=false/\∃(o:Obj) (es:Array lj) (ep:Nat) (vs:List (Key×af)),K.lookup D=some o/\o.ExactDict/\o.data= .dict es ep/\(∀P,PySem.KeysOf (bT P w) es/\Pairs (bT P w) es.toList vs)/\(vs.map (·.1)).Nodup/\KV kvs vs
variable {kvs:List (Key×V)}
section
variable {D:Addr}
theorem aEj (I:Inv X pins σ H s)(kd:aAf X.w X.K D kvs):∃vs,KV kvs vs/\s.heap.DictOf (bT X.prog X.w) D vs:=by
 obtain⟨_,o,es,ep,vs,h1,h2,h3,h4,h5,h6⟩:=kd;exact⟨vs,h6,o,es,ep,I.kIn D o h1,h2,h3,(h4 X.prog).1,(h4 X.prog).2,h5⟩
end
section
variable {tb:TS}{bk:St->Hp->Prop}
end
variable {tc:XK->TE}{b₀:Stmt}
def aAe (tc:XK->TE):XK->TS:=λR D σ H=>tc R σ H λv H1=>D.rt v H1
theorem MX (he:PEx X e tc):PXs X [.Return (some e) epos] (aAe tc):=by
 intro R pins s σ H D I h;refine jy (wpAny_Return_some ?_);exact bu (he R pins s σ H _ I h) (λv s1 ⟨v',H1,I1,r1,q1⟩=>⟨v',σ,H1,I1,r1,q1⟩) λ_ _ z=>z
def aDt:V->List V->Hp->VK->Prop:=λx vs H Q=>∃(p:Addr) (z:Str) (ss:List Str) (j:Nat),x= .ref p/\vs=[.str z]/\H p=some (.lst (ss.map V.str))/\ss[j]? =some z/\z∉ss.take j/\ss.length<=1000000/\Q (.int j) H
theorem YD:MtR X "list.index" aDt:=by
 intro pins s σ H x xs v us Q I rx rs h;obtain⟨p,z,ss,j,rfl,rfl,hH,hj,hn,hl,q⟩:=h;obtain⟨u,rfl,ru⟩:=gG rs;cases rx;obtain⟨zz,its,n,r,hll,e⟩:=I.lstM hH;have hjs:j<ss.length:=(ay.mp hj).1;have hlen:its.length=ss.length:=by rw[←r.length,ao]
 have hall:∀y∈ss.map V.str,gI y=true:=λy hy=>by
  obtain⟨t,_,rfl⟩:=bg.mp hy;rfl
 have hg:∀i (hi:i<its.length),MeetsSeq.EqGives its[i] u (eqV (unV its[i]) (.str z)):=λi hi=>by
  obtain⟨y',e1,e2⟩:=r.get (aq (show i<(ss.map V.str).length by rw[ao];lia));rw[aq hi]at e1;cases e1;have hf:=hall _ (List.getElem_mem (show i<(ss.map V.str).length by rw[ao];lia));rw[NF hf e2];exact λprog w' A E s Q hQ=>J3 e2 ru hf rfl prog w' E Q hQ
 have hun:∀i (hi:i<its.length) (hs:i<ss.length),unV its[i]= .str ss[i]:=λi hi hs=>by
  obtain⟨y',e1,e2⟩:=r.get (aq (show i<(ss.map V.str).length by rw[ao];lia));rw[aq hi]at e1;cases e1;rw[List.getElem_map]at e2;exact NF rfl e2
 have hz:ss[j]=z:=(ay.mp hj).2;refine call_meets F.slot_list_index ⟨_,e,rfl⟩ F.entry_list_index (F.args_list_index_2 _ _) (MeetsSeq.list_index p its.toArray n u (λy=>eqV (unV y) (.str z)) (λy hy=> ?_) j (by simpa using (by lia:j<its.length)) (by lia) ?_ ?_) ⟨e,⟨.int j,H,I.tok _,⟨_,rfl⟩,q⟩⟩
 .obtain⟨i,hi,rfl⟩:=sg (show y∈its by simpa using hy);exact hg i hi
 .show eqV (unV its[j]) (.str z)=true;rw[hun j (by lia) hjs,hz];show (z==z)=true;simp
 .intro m hm hmj;have hm':m<its.length:=by simpa using hm
  show eqV (unV its[m]) (.str z)=false;rw[hun m hm' (by lia)];show (ss[m]==z)=false;have hne:ss[m]≠z:=λc=>hn (by
   rw[←c];exact List.mem_take_iff_getElem.mpr ⟨m,by lia,rfl⟩)
  simpa using hne
theorem P3:entryFor table "proto.unchain" =some nq.«proto.unchain»:=entryFor_of_tree (by kernel_rfl)
def EQ (ea:Addr)(h:Heap):Prop:=∃o vs,h.get? ea=some o/\o.data= .fields vs/\vs[2]? =some .none
theorem ExcU.un (x:ExcU a C h):EQ a h:=let ⟨o,vs,e,_,d,z⟩:=x;⟨o,vs,e,d,z⟩
theorem ExcDAt.un (x:ExcDAt a C dx h):EQ a h:=let ⟨o,vs,e,_,_,d,z⟩:=x;⟨o,vs,e,d,z⟩
variable {α:Type}
theorem LW {oa:Obj}{va:Array af}{Q:α->aj->Prop}(hh:A.handled=some (.ref ea))(hu:EQ ea s.heap)(ha:s.heap.get? a=some oa)(da:oa.data= .fields va)(hz:2<va.size)(ne:ea≠a)
  (h:E (.ref a) { s with heap:=s.heap.update a (cc (·.setIfInBounds 2 (.ref ea))) }):ax (be prog w) A (xl (.ref a):Sem α) Q E s:=by
 obtain⟨o,vs,ho,hd,h2⟩:=hu;unfold xl;refine aa (ur ?_);rw[hh];show ax _ _ (if (av ea !=av a)=true then _ else _) _ _ s;rw[if_pos (by simpa using ne)];refine aa (dy (runValue_entry P3 ?_));unfold nq.«proto.unchain»;refine aa (cw ho hd h2 ?_);show ax _ _ (if (bw==bw)=true then _ else _) _ _ s;rw[if_pos (by decide)];refine ai ⟨_,rfl,?_⟩;show ax _ _ (tq (.ref a) 2 (.ref ea) >>= _) _ _ s;exact aa (fq ha da hz (oj h))
def HX (ea:Addr)(H:Hp):Prop:=∃φ,H ea=some (.ext φ)/\∀h,φ h->EQ ea h
section
variable {K:Frag}
end
section
variable {n:Str}
end
section
variable {nm qn:Str}{N:Addr}{bs bm bb:List af}{hd:Bool}{sn:List Str}{su:List af}{ab:Bool}{co:Option Bool}{dd:Option Addr}{k0 k1 k2 k3 k5:Option af}{B nid iid:String}
theorem F4 {x:Sem af}{Q:Flow->aj->Prop}(hb:bm.contains (.type "BaseException")=true)(hh:A.handled=some (.ref ea))
  (h:ax (be prog w) A x (λv s1=>∃e t,v= .ref e/\ea≠e/\EQ ea s1.heap/\s1.heap.get? C=some (oh nm qn C N bs bm hd sn su ab co dd k0 k1 k2 k3 k5 nid) ∧
   s1.heap.get? e=some { cls:= .ref C,data:= .fields #[.ref t,.none,.none,.none,.bool false,.none] }/\E (.ref e) { s1 with heap:=s1.heap.update e (cc (·.setIfInBounds 2 (.ref ea))) }) E s) :
  ax (be prog w) A (raiseStmt env (some x) none) Q E s:=by
 have hcB:(av C::bm).contains (.type "BaseException")=true:=by rw[tw,hb,yo]
 unfold raiseStmt;refine aa (bu h (λv s1 h1=> ?_) λ_ _ x=>x);obtain⟨e,t,rfl,ne,hu,hC,he,hE⟩:=h1;obtain⟨hp,g,d,tk,os⟩:=s1
 repeat (first|with_reducible refine gj he ?_|with_reducible refine gj hC ?_|(with_reducible refine sf hC ?_;rw[hcB])|wp_step)
 exact LW hh hu he rfl (by show 2<6;decide) ne hE
theorem L4 (F:ExcBaseFacts B nid iid bb){mN:Str->Option af}{args:List Expr}{Q:Flow->aj->Prop}
  (hb:bm.contains (.type "BaseException")=true)(hh:A.handled=some (.ref ea))(hpl:(fh cpos (az args env)).any (·.1)=false)(hni:mN "__init__" =none)
  (h:ax (be prog w) A (eval (.Name x np) env) (λf s1=>f= .ref C/\ax (be prog w) A (evalArgs (.ref C) true (fh cpos (az args env)) [])
   (λa s2=>a.kw=[]/\a.pos.length<=sizeLine/\EQ ea s2.heap/\s2.heap.get? C=some (oh nm qn C N bs bm hd sn su ab co dd k0 k1 k2 k3 k5 nid)/\s2.heap.Ns N mN/\OwnTail s2.heap bb bm ∧
    ∀h' e,ph s2.heap h' e (.ref C) a.pos->E (.ref e) { s2 with heap:=h'.update e (cc (·.setIfInBounds 2 (.ref ea))) }) E s1) E s) :
  ax (be prog w) A (exec (.Raise (some (.Call (.Name x np) args [] cpos)) none pos) env) Q E s:=by
 rw[arm_exec_Raise]
 first
  | refine aa (gu (F4 (C:=C) (nm:=nm) (qn:=qn) (N:=N) (bs:=bs) (bm:=bm) (hd:=hd) (sn:=sn) (su:=su) (ab:=ab) (co:=co) (dd:=dd) (k0:=k0) (k1:=k1) (k2:=k2) (k3:=k3) (k5:=k5) (nid:=nid) hb hh (aa (bu (uk (bu h (λf s1 h1=> ?_) λ_ _ x=>x)) (λv s3 h3=>aa (gu (ai h3))) λ_ _ x=>x))))
  | (simp only[evalOpt,Option.map];refine aa (gu (F4 (C:=C) (nm:=nm) (qn:=qn) (N:=N) (bs:=bs) (bm:=bm) (hd:=hd) (sn:=sn) (su:=su) (ab:=ab) (co:=co) (dd:=dd) (k0:=k0) (k1:=k1) (k2:=k2) (k3:=k3) (k5:=k5) (nid:=nid) hb hh (aa (bu (uk (bu h (λf s1 h1=> ?_) λ_ _ x=>x)) (λv s3 h3=>aa (gu (ai h3))) λ_ _ x=>x)))))
 obtain⟨rfl,h1⟩:=h1;unfold tj;refine aa (dy (bu h1 (λa s2 h2=>aa (gu ?_)) λ_ _ x=>x));obtain⟨ap,ak⟩:=a;obtain⟨hkw,hlen,hu,hC,hn,T,h2⟩:=h2;obtain rfl:ak=[]:=hkw;obtain⟨hp,g,d,tk,os⟩:=s2;simp only[hpl];refine aa (wpAny_keeperOf_exc hC ?_);refine aa (wpAny_call_exc_subT (hrest:=hlen) F T hC hn hni λh' e hm=>aa (dy (wpAny_point (ai ?_))));obtain⟨t,ht,_,_⟩:=hm.there;obtain⟨o,vs,ho,hod,h2'⟩:=hu;have hne:ea≠e:=λz=>by
  subst z;have z1:=hm.new;rw[show hp.get? ea=some o from ho]at z1;cases z1
 exact⟨e,t,rfl,hne,⟨o,vs,hm.keeps _ _ ho,hod,h2'⟩,hm.keeps _ _ hC,ht,h2 h' e hm⟩
end
def CXC (P:ef)(w:gd):CXT:=λouter H s E e s' =>
 ∃ea cls dd,∃a0:af×af,∃H' B,e= .ref ea/\s'.os=s.os/\qw s'.gens/\Un (frs outer) [] H H' s.heap s'.heap/\HOk P w H' s'.heap/\H' ea=none/\s.heap.get? ea=none ∧
  FlyD B outer ea cls dd a0 s'.heap/\(∀b,(H' b≠none∨∃o,s.heap.get? b=some o)->b∉frs outer->∃o,B.get? b=some o)/\E cls dd H'
theorem CXE.c {E:XK}{e:af}(h:CXE P w outer H s E e s'):CXC P w outer H s E e s' :=
 let ⟨ea,cls,dd,a0,H',B,r⟩:=h;⟨ea,cls,dd,(a0,.none),H',B,r⟩
section
variable {K:Frag}{f:Addr}{E:XK}
theorem uZ:c7 (CXC P w) (c6 (CXC P w) P w K mg base N qual scope f cd A outer s₀ H₀ E) E:=by
 intro pins σ H s e s' I h;obtain⟨ea,cls,dd,a0,H',B,rfl,os,bare,un,hok,hn,new,fl,cov,q⟩:=h;have I':=I.call' (ch:=[]) os un hok bare (λb z=>absurd z (by simp));have there:∀b o,s₀.heap.get? b=some o->∃o',s.heap.get? b=some o':=λb o e=>I.base.there b o e (λz=>absurd (show b∈([]:List Addr) from z) (by simp));show ax _ _ (lx _ _) _ _ s';refine BM (I.ok.frames) rfl fl λh2 fl2 up=> ?_;obtain⟨un2,hok2⟩:=IB (B:=B) (h2:=h2) I' rfl fl2.1 fl.1 up (λb hb hs=>cov b (hb.imp id λ⟨o,e⟩=>there b o e) hs) rfl rfl;refine⟨ea,cls,dd,a0,H',B,rfl,I'.os,bare,un2,hok2,hn,?_,fl2,λb hb hs=>cov b (hb.imp id λ⟨o,e⟩=>there b o e) λz=> ?_,q⟩
 .cases e:s₀.heap.get? ea with
  | none=>rfl
  | some o =>
   obtain⟨o',e'⟩:=there ea o e;rw[new]at e';cases e'
 .rcases ba.mp (I.stkSub b z) with e|hb'
  .rcases hb with hb|⟨o,e2⟩
   .exact hb (by rw[e];exact I'.free)
   .have e1:=au (ag e2) I.ok.above;rw[e]at e1;exact bt _ e1
  .exact hs hb'
theorem nG:c7 (CXE P w) (c6 (CXC P w) P w K mg base N qual scope f cd A outer s₀ H₀ E) E:=λpins σ H s e s' I h=>uZ pins σ H s e s' I h.c
def IE (X:Cx)(E:XK):Prop:=∀(pins:List (Addr×Obj)) (σ:St) (H':Hp) (s':aj) (h3:Heap) (ea:Addr) (cls:af) (dd:Option Addr) (a0:af×af) (B:Heap),Inv X pins σ H' s'->H' ea=none->X.s₀.heap.get? ea=none->B.StaysIn s'.heap->B.StaysIn h3->B.get? ea=none->h3.FunFrames B X.stack →
 HZ h3 B ea cls dd a0 (rawInt X.env.locals)->(∀b∈frs X.stack,∀o,s'.heap.get? b=some o->(∀vs,o.data≠ .fields vs)->∃sl,h3.get? b=some { o with slots:=sl })->(∀b,(H' b≠none∨∃o,X.s₀.heap.get? b=some o)->b∉frs X.stack->∃o,B.get? b=some o)->E cls dd H'->X.xe (.ref ea) { s' with heap:=h3 }
theorem ZT:IE (c6 (CXC P w) P w K mg base N qual scope f cd A outer s₀ H₀ E) E:=by
 intro pins σ H' s' h3 ea cls dd a0 B I hn new sb st nb ff tr up cov q;show ax _ _ (lx _ _) _ _ _;obtain⟨ob,fv,tb,tbo,tv,go,ec,ed,h0,hdt,h1,nT,tne,gT,dT,hm⟩:=id tr;unfold lx ka;simp only[show (rn qual scope s₀.heap.objs.size f cd).frame=some s₀.heap.objs.size from rfl];refine aa (aa (cw go hdt h1 ?_));rw[if_pos (show (av tb !=bw)=true from by simp)];refine aa (cw gT dT hm ?_);refine nu (λ_=> ?_) (λz=>absurd (show (rawInt (s₀.heap.objs.size:Int)==rawInt (s₀.heap.objs.size:Int))=true from beq_self_eq_true _) z);refine ai (tH (s:={ s' with heap:=h3 }) st nb ff tr λh4 fl up4=> ?_);obtain⟨f1,f2,⟨_,_,f3⟩,f4⟩:=fl;obtain⟨un2,hok2⟩:=VM (B:=B) (h2:=h4) I rfl f1 sb (λb hb o e hd=>by
  obtain⟨sl,e3⟩:=up b hb o e hd;obtain⟨sl2,e4⟩:=up4 b _ e3 hd;exact⟨sl2,e4⟩) cov rfl rfl
 refine⟨ea,cls,dd,a0,H',B,rfl,I.os,I.bare,un2,hok2,hn,new,⟨f1,f2,f3,f4⟩,λb hb hs=>cov b hb λz=> ?_,q⟩;rcases ba.mp (I.stkSub b z) with e|hb'
 .rcases hb with hb|⟨o,e2⟩
  .exact hb (by rw[e];exact I.free)
  .have e1:=au (ag e2) I.ok.above;rw[e]at e1;exact bt _ e1
 .exact hs hb'
end
section
variable {a₀:Expr}{ta:TA}
def OR (K:Frag)(T CN:Addr)(ta:TA)(E:XK)(σ:St):XK:=λcls dd H1=>∃C,cls= .ref C/\((exmOne K (.ref C) (.ref T)=some true/\∀ea,H1 ea=none->ta σ (upd H1 ea (II ea C dd)) λvs H2=>vs.length<=sizeLine/\HX ea H2/\E (.ref CN) none H2)∨(exmOne K (.ref C) (.ref T)=some false/\E cls dd H1))
theorem VA {e':Addr}{args:List af}{E:XK}(pf:IE X E)(hst:X.stack=X.env::X.outer)(hfr:X.env.frame=some X.env.locals)(hex0:X.ex=[])(I2:Inv X pins σ H2 s2)
  (m:ph s2.heap h' e' (.ref CN) args)(q:E (.ref CN) none H2) :
  ug (be X.prog X.w) (X.A.mark (some (.ref ea))) X.env (cameBackBy (be X.prog X.w) X.A X.env X.xe) (.ref e') { s2 with heap:=h'.update e' (cc (·.setIfInBounds 2 (.ref ea))) }:=by
 obtain⟨t,go,_,_⟩:=m.there;have nw:=m.new;have dU:=cu (show ({ cls:= .ref CN,data:= .fields #[.ref t,.none,.none,.none,.bool false,.none] }:Obj).data= .fields #[.ref t,.none,.none,.none,.bool false,.none] from rfl) (·.setIfInBounds 2 (.ref ea));have gU:=ck (cc (·.setIfInBounds 2 (av ea))) go (df dU);have keepU:∀b o,s2.heap.get? b=some o->(h'.update e' (cc (·.setIfInBounds 2 (.ref ea)))).get? b=some o:=λb o z=>by
  rw[bf _ _ (λy=>by rw[y,z]at nw;cases nw)];exact m.keeps b o z
 have clsU:(cc (·.setIfInBounds 2 (av ea)) ({ cls:= .ref CN,data:= .fields #[.ref t,.none,.none,.none,.bool false,.none] }:Obj)).cls= .ref CN:=js _ _;have dictU:(cc (·.setIfInBounds 2 (av ea)) ({ cls:= .ref CN,data:= .fields #[.ref t,.none,.none,.none,.bool false,.none] }:Obj)).dict=none:=xC _ _;generalize cc (·.setIfInBounds 2 (av ea)) ({ cls:= .ref CN,data:= .fields #[.ref t,.none,.none,.none,.bool false,.none] }:Obj)=ob at dU gU clsU dictU;generalize h'.update e' (cc (·.setIfInBounds 2 (.ref ea)))=hU at gU keepU ⊢;have there:∀b o,X.s₀.heap.get? b=some o->∃o',s2.heap.get? b=some o':=λb o e=>I2.base.there b o e (by rw[hex0];simp);have hin:∀env∈X.stack,∀b,env.frame=some b->b∈frs X.stack:=λenv he b hb=>ko.mpr ⟨env,he,hb⟩;have hk:(ma s2.heap (frs X.stack)).StaysIn s2.heap:=λb o e=>yi _ e;have cov:∀b,(H2 b≠none∨∃o,X.s₀.heap.get? b=some o)->b∉frs X.stack->∃o,(ma s2.heap (frs X.stack)).get? b=some o:=λb hb hs=>by
  have:∃o,s2.heap.get? b=some o:=by
   rcases hb with hb|⟨o,e⟩
   .cases e:H2 b with
    | none=>exact absurd e hb
    | some u=>exact(I2.hok b u e).there
   .exact there b o e
  obtain⟨o,e⟩:=this;exact⟨o,xi _ e hs⟩
 have ff0:=xj I2.stack hin;have nB:(ma s2.heap (frs X.stack)).get? e'=none:=by
  cases z:(ma s2.heap (frs X.stack)).get? e' with
  | none=>rfl
  | some o=>rw[hk _ _ z]at nw;cases nw
 generalize ma s2.heap (frs X.stack)=B at hk cov ff0 nB;have ffU:hU.FunFrames B X.stack:=ff0.of_keeps λb o z _=>⟨o,keepU b o z,rfl⟩
 rw[hst]at ffU;show ax _ _ (ka (.ref e') X.env) _ _ _;unfold ka;simp only[hfr];refine aa (cw gU dU (x:= .none) rfl ?_);rw[if_neg (by decide)];refine zO (outer:=X.outer) (L:=X.env.locals) (a0:=(.ref t,.ref ea)) (by show X.A.frames=_;rw[I2.ok.frames,hst]) ffU hfr gU (λb o z=>keepU b o (hk b o z)) nB dU (by show 1<6;decide) ⟨rfl,rfl⟩ λh7 held=> ?_;obtain⟨g1,g2,g3,up⟩:=held;rw[clsU,dictU]at g3;obtain⟨ob7,fv,tb,tbo,tv,go7,ec,ed,h0,hdt,hh1,nT,tne,gT,dT,hmk⟩:=g3;have z3:=(dj.mp hmk).1;unfold cameBackBy sv;refine aa (cw go7 hdt hh1 ?_);rw[if_neg (show ¬(av tb==bw)=true from bh)];show ax _ X.A (field (.ref e') 1 >>= λtb=>if (tb !=bw)=true then tq tb 3 (X.env.frame.elim bw λf=>rawInt f) else pure ()) _ _ _;refine aa (cw go7 hdt hh1 ?_);rw[if_pos (show (av tb !=bw)=true from by simp),hfr];refine fq gT dT z3 ?_;have oth:∀b,b≠tb->(h7.update tb (cc (·.setIfInBounds 3 (rawInt X.env.locals)))).get? b=h7.get? b:=λb hb=>bf _ _ (dg hb);have gT3:=ck (cc (·.setIfInBounds 3 (rawInt X.env.locals))) gT (df (cu dT _));have dT3:=cu dT (·.setIfInBounds 3 (rawInt X.env.locals));show X.xe (.ref e') { s2 with heap:=h7.update tb (cc (·.setIfInBounds 3 (rawInt X.env.locals))) };generalize h7.update tb (cc (·.setIfInBounds 3 (rawInt X.env.locals)))=h3 at oth gT3 ⊢;have norec:∀b o,h7.get? b=some o->(∀vs,o.data≠ .fields vs)->b≠tb:=λb o q hnf z=>by
  rw[z,gT]at q;cases q;exact hnf tv dT
 refine pf pins σ H2 s2 h3 e' (.ref CN) none (.ref t,.ref ea) B I2 ?_ ?_ hk (λb o z=>(oth b λy=>by rw[y,nT]at z;cases z).trans (g1 b o z)) nB ?_ ?_ (λb hb o z hd=> ?_) cov q
 .cases z:H2 e' with
  | none=>rfl
  | some u =>
   obtain⟨o,z2⟩:=(I2.hok e' u z).there;rw[nw]at z2;cases z2
 .cases z:X.s₀.heap.get? e' with
  | none=>rfl
  | some o =>
   obtain⟨o',z2⟩:=there e' o z;rw[nw]at z2;cases z2
 .rw[hst];exact ID (λb z=>z) (λb hb o z hd=>⟨o,(oth b (norec b o z hd)).trans z,rfl⟩) g2
 .exact⟨ob7,fv,tb,_,_,(oth e' (dg tne)).trans go7,ec,ed,h0,hdt,hh1,nT,tne,gT3,dT3,by simp[z3]⟩
 .obtain⟨sl,z1⟩:=up b o (keepU b o z) hd;exact⟨sl,(oth b (norec b _ z1 hd)).trans z1⟩
end
variable {tr:XK->TS}
section
variable {a₀:Expr}{ta:TA}
theorem aBQ {tb:XK->TS}(pf:IE X E0x)(hst:X.stack=X.env::X.outer)(hfr:X.env.frame=some X.env.locals)(hex0:X.ex=[])(hm:X.mg x=some (.ref T))(hm2:X.mg y=some (.ref CN))(hc:uS X.K CN)(he:PXs X body tb)(ha:∀ea,PA (X.inx ea) (a₀::as) ta)
  (hg:Gl X x:=by rfl)(hdb:(x==("__debug__" :Str))=false:=by decide)(hg2:Gl X y:=by rfl)(hdb2:(y==("__debug__" :Str))=false:=by decide)
  (hes:az (a₀::as) X.env=(false,eval a₀ X.env)::az as X.env:=by rfl)(hpl:(fh cpos (az as X.env)).any (·.1)=false:=by rfl) :
  PS X (.Try body [.ExceptHandler (some (.Name x np)) none [.Raise (some (.Call (.Name y np2) (a₀::as) [] cpos)) none rpos] hpos] [] [] pos) (λD σ H=>tb (OR X.K T CN ta E0x σ) D σ H):=by
 intro pins s σ H D I h;refine wpAny_Try_except ?_;refine bu (he _ pins s σ H _ I h) (λf s1 q=> ?_) λev s' hx=> ?_
 .cases f with
  | next=>exact kz q
  | ret v=>exact q
  | brk=>exact q
  | cont=>exact q
 obtain⟨H1,s1,I1,ea,cls,dd,a0,H',B,rfl,os,bare,un,hok,hn,new,fl,cov,C,rfl,hq⟩:=hx;have frms:∀b∈frs X.stack,H' b=none:=λb hb=>by
  obtain⟨_,o,ho,_⟩:=I1.stack.mem hb;exact un.free b o ho (I1.stkFree b hb) (by simp)
 have fl0:=fl;rw[hst]at fl0;refine wH (by rw[I.ok.frames,hst]) hfr fl0 λh4 ⟨k1,k2,k3,up4⟩=> ?_;refine tH k1 fl.2.1 k2 k3 λh5 hfl5 up5=> ?_;have I0:Inv X pins σ H' s':=I1.call' (ch:=[]) os un hok bare (λb z=>absurd z (by simp));have step:∀h6,FlyD B (X.env::X.outer) ea (.ref C) dd (a0,.none) h6->s'.heap.UpToSlots h6->Inv X pins σ (upd H' ea (II ea C dd)) { s' with heap:=h6 }:=λh6 f6 up6=>by
  obtain⟨un2,hok2⟩:=M6 un hok cov fl.1 f6.1 up6 λb hb=>⟨frms b hb,(fl.2.2.1.mem hb).2⟩
  obtain⟨oe,vs,q1,q2,q3,q4,q5⟩:=f6.there;obtain⟨un3,hok3⟩:=aBP (C:=C) un2 hok2 new hn q1 q2 q3 q4 q5;exact I1.call' (s':={ s' with heap:=h6 }) (ch:=[]) os un3 hok3 bare λb z=>absurd z (by simp)
 have I5:=step h5 hfl5 (up4.trans up5);obtain⟨ob,_,hob,hobc,_⟩:=hfl5.there;have LT:Looks (be X.prog X.w) h5 (xg (.ref ea)) (.ref C):=by
  rw[←hobc];exact(Looks.ld hob).andThen .now
 refine wpAny_handleBy_cons (codeAny_handlers_test ?_) (by intro q;cases q);refine dH (X:=X.inx ea) (I5.inx ea) hg hm ?_ hdb;rcases hq with⟨hex,hq⟩|⟨hex,hq⟩
 .refine(W.exm_one I5.kIn LT hex).here ?_;show iu _ _ _ _ _;refine codeAny_handlers_suite ?_;obtain⟨l1,l2,l3,l4⟩:=hfl5;refine tH l1 l2 l3 l4 λh6 hfl6 up6=> ?_;have I6:=step h6 hfl6 ((up4.trans up5).trans up6);obtain⟨tl,N,nm,q,bs,hdct,sn,sub,ab,col,dd',k0,k1,k2,k3,k5,mN,hC,hN,hni,TT⟩:=NG I.ok.mod.kin hc;refine jy ?_;refine L4 (C:=CN) (nm:=nm) (qn:=q) (N:=N) (bs:=bs) (bm:=tl) (hd:=hdct) (sn:=sn) (su:=sub) (ab:=ab) (co:=col) (dd:=dd') (k0:=k0) (k1:=k1) (k2:=k2) (k3:=k3) (k5:=k5) (ea:=ea)
   gn (mN:=mN) (TT.hasType gn.hasBase) rfl (by rw[hes];show (false||(fh cpos (az as X.env)).any (·.1))=false;rw[hpl];rfl) hni (dH (X:=X.inx ea) (I6.inx ea) hg2 hm2 ⟨rfl,?_⟩ hdb2)
  have hh:=ha ea cpos pins _ σ _ _ (I6.inx ea) (hq ea hn);rw[show az (a₀::as) (X.inx ea).env=(false,eval a₀ X.env)::az as X.env from hes]at hh;rw[hes];refine jm (bu hh (λvs s2 h2=> ?_) λ_ _ z=>dh z);obtain⟨us,H2,I2,r,z,⟨φ,hx,hu⟩,q2⟩:=h2;have I2':=I2.outx I.ok;exact⟨rfl,by rw[←r.length];exact z,hu _ (I2.hok ea _ hx).1,I2'.bk _ _ hC,hN.keeps I2'.bk,TT.keeps I2'.bk,λh' e' m=>VA pf hst hfr hex0 I2' m q2⟩
 .refine(W.exm_one I5.kIn LT hex).here ?_;show ax _ _ (handleBy (.ref ea) X.env []) _ _ _;refine wpAny_handleBy_nil ?_;have up:=up4.trans up5;obtain⟨g1,nb,g2,ob,fv,tb,tbo,tv,go,ec,ed,h0,hdt,hh1,nT,tne,gT,dT,hmk⟩:=hfl5;have z3:=(dj.mp hmk).1;unfold PySem.passOn sv;refine aa (cw go hdt hh1 ?_);rw[if_neg (show ¬(av tb==bw)=true from bh)];show ax _ X.A ((field (.ref ea) 1 >>= λtb=>if (tb !=bw)=true then tq tb 3 (X.env.frame.elim bw λf=>rawInt f) else pure ()) >>= λ_=>throw (av ea)) _ _ _;refine aa (aa (cw go hdt hh1 ?_));rw[if_pos (show (av tb !=bw)=true from by simp),hfr];refine fq gT dT z3 (oj ?_);have oth:∀b,b≠tb->(h5.update tb (cc (·.setIfInBounds 3 (rawInt X.env.locals)))).get? b=h5.get? b:=λb hb=>bf _ _ (dg hb);have gT3:=ck (cc (·.setIfInBounds 3 (rawInt X.env.locals))) gT (df (cu dT _));have dT3:=cu dT (·.setIfInBounds 3 (rawInt X.env.locals));show X.xe (.ref ea) { s' with heap:=h5.update tb (cc (·.setIfInBounds 3 (rawInt X.env.locals))) };generalize h5.update tb (cc (·.setIfInBounds 3 (rawInt X.env.locals)))=h3 at oth gT3 ⊢;have there:∀b o,X.s₀.heap.get? b=some o->∃o',s1.heap.get? b=some o':=λb o e=>I1.base.there b o e (by rw[hex0];simp);have norec:∀b o,h5.get? b=some o->(∀vs,o.data≠ .fields vs)->b≠tb:=λb o q hnf z=>by
   rw[z,gT]at q;cases q;exact hnf tv dT
  refine pf pins σ H' s' h3 ea (.ref C) dd (a0,.none) B I0 hn ?_ (λb o e=>fl.1 b o e) (λb o e=> ?_) nb ?_ ?_ (λb hb o e hd=> ?_) (λb hb hs=> ?_) hq
  .cases e:X.s₀.heap.get? ea with
   | none=>rfl
   | some o =>
    obtain⟨o',e'⟩:=there ea o e;rw[new]at e';cases e'
  .exact(oth b λz=>by rw[z,nT]at e;cases e).trans (g1 b o e)
  .rw[hst];refine ID (λb e=>e) (λb hb o e hd=> ?_) g2;exact⟨o,(oth b (norec b o e hd)).trans e,rfl⟩
  .exact⟨ob,fv,tb,_,_,(oth ea (dg tne)).trans go,ec,ed,h0,hdt,hh1,nT,tne,gT3,dT3,by simp[z3]⟩
  .obtain⟨sl,e1⟩:=up b o e hd;exact⟨sl,(oth b (norec b _ e1 hd)).trans e1⟩
  .exact cov b (hb.imp id λ⟨o,e⟩=>there b o e) hs
theorem aBi (he:PEx X e tc)(hr:PXs X rest tr)(hsw:mn e none epos.line X.env=pure false:=by rfl):PXs X (.Expr e epos::rest) (λR D σ H=>tc R σ H λ_ H1=>tr R D σ H1):=by
 intro R pins s σ H D I h;refine jy (xb ?_ I.quiet hsw);exact bu (he R pins s σ H _ I h) (λv s1 ⟨v',H1,I1,r1,q1⟩=>hr R pins s1 σ H1 D I1 q1) λ_ _ z=>z
end
structure FcQ (P:ef)(w:gd)(K:Frag)(mg:Str->Option af)(base:Heap)(x:Str)(k:Nat)(ps:List Str)(sp:Sp):Prop where
 ex:∃f fd,mg x=some (.ref f)/\keepIn K (.ref f)=true/\Binds K fd ps []/\aP P w K mg base (CXC P w) k f fd ps sp
structure McQ (P:ef)(w:gd)(K:Frag)(mg:Str->Option af)(base:Heap)(C:Addr)(nm:Str)(k:Nat)(sp:Sp):Prop where
 ex:∃f fd ps,Cls K C/\Meth K C nm f/\Binds K fd ps []/\aP P w K mg base (CXC P w) k f fd ps sp
variable {fd:jz}{sp:Sp}
section
variable {K:Frag}
theorem FunV.okQ {st:Stmt}{f:Addr}{ps:List Str}{k:Nat}(F:FunV K x qual st f fd)(S:aK N ps (aE st))(len:∀vs H Q E,sp vs H Q E->vs.length=ps.length)
  (hbody:∀(cdv:af) (A:jx) (outer:List Env) (s:aj) (H:Hp) (vs:List V) (Q:VK) (E:XK),Room k (A.deeper (rn qual (aE st) s.heap.objs.size f cdv))->sp vs H Q E →
   ∃t,PSs (c6 (CXC P w) P w K mg base N qual (aE st) f cdv A outer s H E) (cZ st) t/\t { nx:=λ_ H'=>Q .non H',rt:=Q } (iM N vs) H):aP P w K mg base (CXC P w) (k+1) f fd ps sp:=by
 obtain⟨oc,od,dV,kV,doc,pm,an,cdv,ct,osl,rfl,lk,hcd⟩:=F.ex;exact OF lk hcd S len λA outer s H vs Q E hr h=>hbody cdv A outer s H vs Q E hr h
end
section
variable {k:Nat}{m:Str}{p:Pos}{o:Expr}{t:TA}{f:Addr}{ds:List af}{E R:XK}{ps:List Str}
theorem HW (F:FcQ X.prog X.w X.K X.mg X.base x k ps sp)(hr:Room k' X.A)(hx:c7 (CXC X.prog X.w) X E)(ha:PA X (e::es) t)(hk:k<=k':=by decide)(hg:Gl X x:=by rfl)
  (hdb:(x==("__debug__" :Str))=false:=by decide)(he:az (e::es) X.env=(false,eval e X.env)::az es X.env:=by rfl)(hpl:(fh pos (az es X.env)).any (·.1)=false:=by rfl) :
  PE X (.Call (.Name x p) (e::es) [] pos) (jZ sp [] E t):=by
 obtain⟨f,fd,hm,kp,b,G⟩:=F.ex;exact yI G (hr.mono hk) hg hm kp b .nil hx ha hdb he hpl
def YT (M:Addr->Sp->Prop)(m:Str)(E:XK)(ta:TE)(t:TA):TE:=λσ H Q=>ta σ H λx H1=>∃a C dx fs sp,x= .ref a/\H1 a=some (.ins C dx fs)/\fs.lookup m=none/\M C sp/\t σ H1 λvs H2=>sp (x::vs) H2 Q E
theorem UI (k:Nat){pl:Sem Bool}(hr:Room k' X.A)(hx:c7 (CXC X.prog X.w) X E)(ho:PE X o ta)(ha:PA X (e::es) t)(hk:k<=k':=by decide)
  (hst:az (e::es) X.env=(false,eval e X.env)::az es X.env:=by rfl)(hpl:(fh pos (az es X.env)).any (·.1)=false:=by rfl)
  (ht:eval (.Call (.Attribute o m apos) (e::es) [] pos) X.env=(do
   let ov ←eval o X.env
   xr apos.atName
   let (f,first) ←vt [ov] (ql ov m pl)
   tj pos f first (fh pos (az (e::es) X.env)) (ri pos (kh [] X.env))):=by rfl) :
  PE X (.Call (.Attribute o m apos) (e::es) [] pos) (YT (λC sp=>McQ X.prog X.w X.K X.mg X.base C m k sp) m E ta t):=by
 intro pins s σ H Q I h;refine W.methodCall_KW (pl:=pl) (thn (ho pins s σ H _ I h) λu s1 ⟨x,H1,I1,rx,a,C,dx,fs,sp,ex,ea,l,M,q⟩=> ?_) ht;subst ex;obtain rfl:u=av a:=rx;obtain⟨f,fd,ps,c,hm,hb,F⟩:=M.ex;refine oR I1 ea c hm l ?_;refine W.callWith_K (first:=[.ref a]) (h₀:=X.base) I.ok.mod.kin hm.kp (thn (ha pos pins s1 σ H1 _ I1 q) λus s2 ⟨vs,H2,I2,r,q2⟩=>⟨I2.kIn,?_⟩) hst hpl;exact tL (us:= .ref a::us) (vs:= .ref a::vs) (dvs:=[]) F (hr.mono hk) hb .nil hx I2 (.cons rfl r) (by rw[gw];exact q2)
def ExcQ (a C dx:Addr)(h:Heap):Prop:=∃o vs,h.get? a=some o/\o.cls= .ref C/\o.dict=some dx/\o.data= .fields vs
theorem ExcQ.at (x:ExcQ a C dx h):rN a C h:=let ⟨o,vs,e,c,_,d⟩:=x;⟨o,vs,e,c,d⟩
def mO (a C:Addr):Option Addr->HO
 | none=> .ext (rN a C)
 | some dx=> .ext (ExcQ a C dx)
def XWQ (X:Cx)(pins:List (Addr×Obj))(σ:St)(R:XK)(e:af)(s':aj):Prop:=∃H1 s1,Inv X pins σ H1 s1/\CXC X.prog X.w X.stack H1 s1 R e s'
def aDz (X:Cx)(e:Expr)(t:XK->TE):Prop :=
 ∀(R:XK) (pins:List (Addr×Obj)) (s:aj) (σ:St) (H:Hp) (Q:VK),Inv X pins σ H s->t R σ H Q->ax (be X.prog X.w) X.A (eval e X.env) (EP X pins σ Q) (XWQ X pins σ R) s
theorem US (F:FcQ X.prog X.w X.K X.mg X.base x k ps sp)(hr:Room k' X.A)(ha:PA X.nox (e::es) t)(hk:k<=k':=by decide)(hg:Gl X x:=by rfl)
  (hdb:(x==("__debug__" :Str))=false:=by decide)(he:az (e::es) X.env=(false,eval e X.env)::az es X.env:=by rfl)(hpl:(fh pos (az es X.env)).any (·.1)=false:=by rfl) :
  aDz X (.Call (.Name x p) (e::es) [] pos) (λR=>jZ sp [] R t):=by
 intro R pins s σ H Q I h;obtain⟨f,fd,hm,kp,b,G⟩:=F.ex;refine gz (dH I hg hm ?_ hdb);refine W.callWith_K (h₀:=X.base) I.ok.mod.kin kp (thn (ha.noxx pos pins s σ H _ I h) λus s1 ⟨vs,H1,I1,r,q⟩=>⟨I1.kIn,?_⟩) he hpl;have r2:Vals (vs++[]) (us++[]):=r.append .nil;have hl:(us++[]).length=ps.length:=by rw[←r2.length];exact G.len _ _ _ _ q
 refine qm (jj (G.run X.A X.stack s1 H1 ⟨us,[]⟩ (us++[]) (vs++[]) Q R (hr.mono hk) I1.env0 (b s1 us I1.kIn hl) r2 q) λr s' hq=> ?_);cases r with
 | error e=>exact⟨H1,s1,I1,hq⟩
 | ok fl =>
  cases fl with
  | ret u=>exact I1.after hq
  | next=>exact dh hq
  | brk=>exact dh hq
  | cont=>exact dh hq
end
section
variable {n:Str}{ts:TS}
def OS (K:Frag)(T:Addr)(i:Nat)(ts:TS)(D:d6)(σ:St):XK:=λcls dd H1=>∃C,cls= .ref C/\exmOne K (.ref C) (.ref T)=some true ∧
 ∀ea,H1 ea=none->ts { nx:=λσ' H'=>D.nx (σ'.set i none) H',rt:=D.rt,bk:=λσ' H'=>D.bk (σ'.set i none) H',ct:=λσ' H'=>D.ct (σ'.set i none) H' } (σ.set i (some (.ref ea))) (upd H1 ea (mO ea C dd))
def OK (K:Frag)(T:Addr)(i:Nat)(tc:XK->TE)(ts:TS):TS:=λD σ H=>tc (OS K T i ts D σ) σ H λ_ H1=>D.nx σ H1
theorem N1 (hN:X.N.Nodup)(hi:X.N[i]? =some n)(hk:X.env.scope.names.lookup n=some .local)(hst:X.stack=X.env::X.outer)(hfr:X.env.frame=some X.env.locals)(hm:X.mg x=some (.ref T))(he:aDz X e tc)(hs:∀ea,PSs (X.inx ea) (b₀::suite) ts)
  (hg:Gl X x:=by rfl)(hdb:(x==("__debug__" :Str))=false:=by decide)(hsw:mn e none epos.line X.env=pure false:=by rfl) :
  PS X (.Try [.Expr e epos] [.ExceptHandler (some (.Name x np)) (some n) (b₀::suite) hpos] [] [] pos) (OK X.K T i tc ts):=by
 intro pins s σ H D I h;refine wpAny_Try_except ?_;have run:ax (be X.prog X.w) X.A (execs [.Expr e epos] X.env) (SP X pins D) (XWQ X pins σ (OS X.K T i ts D σ)) s:=by
  refine jy (xb ?_ I.quiet hsw);exact bu (he _ pins s σ H _ I h) (λv s1 ⟨v',H1,I1,r1,q1⟩=>kz ⟨σ,H1,I1,q1⟩) λ_ _ z=>z
 refine bu run (λf s1 q=> ?_) λev s' hx=> ?_
 .cases f with
  | next=>exact kz q
  | ret v=>exact q
  | brk=>exact q
  | cont=>exact q
 obtain⟨H1,s1,I1,ea,cls,dd,a0,H',B,rfl,os,bare,un,hok,hn,new,fl,cov,C,rfl,hex,hq⟩:=hx;have frms:∀b∈frs X.stack,H' b=none:=λb hb=>by
  obtain⟨_,o,ho,_⟩:=I1.stack.mem hb;exact un.free b o ho (I1.stkFree b hb) (by simp)
 have fl0:=fl;rw[hst]at fl0;refine wH (by rw[I.ok.frames,hst]) hfr fl0 λh4 ⟨k1,k2,k3,up4⟩=> ?_;refine tH k1 fl.2.1 k2 k3 λh5 hfl5 up5=> ?_;have step:∀h6,FlyD B (X.env::X.outer) ea (.ref C) dd a0 h6->s'.heap.UpToSlots h6->Inv X pins σ (upd H' ea (mO ea C dd)) { s' with heap:=h6 }:=λh6 f6 up6=>by
  obtain⟨un2,hok2⟩:=M6 un hok cov fl.1 f6.1 up6 λb hb=>⟨frms b hb,(fl.2.2.1.mem hb).2⟩
  obtain⟨oe,vs,q1,q2,q3,q4,q5⟩:=f6.there;have un3:Un (frs X.stack) [] H1 (upd H' ea (mO ea C dd)) s1.heap h6/\HOk X.prog X.w (upd H' ea (mO ea C dd)) h6:=by
   cases dd with
   | none=>exact CQ (C:=C) un2 hok2 new hn ⟨oe,vs,q1,q2,q4⟩ ⟨_,q1⟩ λg1 g2 ⟨o',vs',z1,z2⟩ k=>⟨o',vs',k _ z1,z2⟩
   | some dx=>exact CQ (C:=C) un2 hok2 new hn ⟨oe,vs,q1,q2,q3,q4⟩ ⟨_,q1⟩ λg1 g2 ⟨o',vs',z1,z2⟩ k=>⟨o',vs',k _ z1,z2⟩
  exact I1.call' (s':={ s' with heap:=h6 }) (ch:=[]) os un3.1 un3.2 bare λb z=>absurd z (by simp)
 have I5:=step h5 hfl5 (up4.trans up5);obtain⟨ob,_,hob,hobc,_⟩:=hfl5.there;have LT:Looks (be X.prog X.w) h5 (xg (.ref ea)) (.ref C):=by
  rw[←hobc];exact(Looks.ld hob).andThen .now
 refine wpAny_handleBy_cons (codeAny_handlers_test ?_) (by intro q;cases q);refine dH (X:=X.inx ea) (I5.inx ea) hg hm ?_ hdb;refine(W.exm_one I5.kIn LT hex).here ?_;show iu _ _ _ _ _;refine codeAny_handlers_suite_as ?_;obtain⟨l1,l2,l3,l4⟩:=hfl5;refine tH l1 l2 l3 l4 λh6 hfl6 up6=> ?_;have I6:=step h6 hfl6 ((up4.trans up5).trans up6);refine zZ (X:=X.inx ea) (v:= .ref ea) (I6.inx ea) hN hi (.inl hk) rfl (λs7 I7=> ?_) (.inr hk);refine bu (hs ea pins s7 _ _ _ I7 (hq ea hn)) (λf s8 hsp=> ?_) λ_ _ z=>dh z;cases f with
 | next =>
  obtain⟨σ',H8,I8,q8⟩:=hsp;exact rH (I8.outx I.ok) hN hi hk λs9 I9=>⟨_,H8,I9,q8⟩
 | brk =>
  obtain⟨σ',H8,I8,q8⟩:=hsp;exact rH (I8.outx I.ok) hN hi hk λs9 I9=>⟨_,H8,I9,q8⟩
 | cont =>
  obtain⟨σ',H8,I8,q8⟩:=hsp;exact rH (I8.outx I.ok) hN hi hk λs9 I9=>⟨_,H8,I9,q8⟩
 | ret u =>
  obtain⟨v,σ',H8,I8,r8,q8⟩:=hsp;exact rH (I8.outx I.ok) hN hi hk λs9 I9=>⟨v,_,H8,I9,r8,q8⟩
end
section
variable {f:Str}
def aCp (K:Frag)(ta:TE)(f:Str):TE:=λσ H Q=>ta σ H λx H1=>∃a C dx fs v,x= .ref a/\H1 a=some (.ext (ExcQ a C dx))/\H1 dx=some (.xd fs)/\pX K C/\NoAttr K C f/\fs.lookup f=some v/\Q v H1
theorem aCW (K:Frag)(hK:X.K=K)(he:PE X e ta)(hb:jt e f X.env (eval e X.env)=eval e X.env):PE X (.Attribute e f pos) (aCp K ta f):=by
 subst hK;intro pins s σ H Q I h;refine M0 hb (thn (he pins s σ H _ I h) λu s1 ⟨x,H1,I1,rx,q⟩=> ?_);obtain⟨a,C,dx,fs,v,ex,ea,ed,c,n,l,q⟩:=q;subst ex;obtain rfl:u=av a:=rx;obtain⟨⟨ob,vs,hx,x1,x2,x3⟩,_,_⟩:=I1.hok a _ ea;obtain⟨mA,hns,r⟩:=I1.hok dx _ ed;obtain⟨u,hu,ru⟩:=RelO.some_of (v:=v) (o:=mA f) (by rw[←l];exact r f);obtain⟨hh,g,d,t,os⟩:=s1;exact TR ru.noB I1.kIn c.k c.fi n hx x1 x3 x2 hns.ns hu ⟨v,H1,I1.tok _,ru,q⟩
theorem JZ {K:Frag}{f:Str}{Q:VK}{fs:List (Str×V)}(ei:σ[i]? =some (some (.ref a)))(ea:H a=some (.ext (ExcQ a C dx)))(ed:H dx=some (.xd fs))(c:pX K C)(n:NoAttr K C f)(l:fs.lookup f=some v)(h:Q v H):aCp K (gY i) f σ H Q:=⟨_,ei,a,C,dx,fs,v,rfl,ea,ed,c,n,l,h⟩
end
def aEB (K:Frag):List V->Hp->VK->Prop:=λxs H Q=>∃(a tp C:Addr) (Ds:List Addr) (b:Bool),xs=[.ref a,.ref tp]/\IsX H a C/\ExcK K C/\H tp=some (.tup (Ds.map V.ref))/\kitAny K (.ref C) (Ds.map av)=some b/\Q (.bl b) H
theorem FS:∀{Ds:List Addr}{us:List af},Vals (Ds.map V.ref) us->us=Ds.map av
 | [],_,.nil=>rfl
 | _::_,_,.cons r t=>by rw[FS t];cases (show _=_ from r);rfl
theorem VO (K:Frag)(h:X.K=K):cQ X (.builtin "isinstance") (aEB K):=by
 subst h;intro pins s σ H xs us Q I r h;obtain⟨a,tp,C,Ds,b,rfl,hs,k,ht,e,q⟩:=h;obtain⟨v1,v2,rfl,r1,r2⟩:=IA r;obtain rfl:v1= .ref a:=r1;obtain rfl:v2= .ref tp:=r2;obtain⟨φ,hs,hφ⟩:=hs;obtain⟨z,_⟩:=I.hok a _ hs;obtain⟨_,its,rv,⟨cl,d,dt,sl⟩,ho,hc,hd⟩:=I.hok tp _ ht;obtain rfl:=FS rv
 dsimp only at hc hd
 obtain⟨n,hd⟩:=hd;subst hc hd;exact kia_tup (AJ k) I.kIn (hφ _ z) ho e (λz=>by cases z) λtk=>⟨.bl b,H,I.tok tk,rfl,q⟩
theorem cY {l:List Stmt}:PSs X l (λ_ _ _=>False):=λ_ _ _ _ _ _ h=>h.elim
theorem aAy:PE X e (λ_ _ _=>False):=λ_ _ _ _ _ _ h=>h.elim
def ZW (w:gd)(K:Frag)(D:Addr)(ks:List Key):Prop:=∃kvs,aAf w K D kvs/\kvs.map (·.1)=ks
theorem aAY {k:Key}(h:∀e∈kvs,e.1≠k):aZ kvs k=none:=by
 unfold aZ;rw[tz.mpr λe he=>by simpa using h e he];rfl
section
variable {D:Addr}{ks:List Key}
def aEO (D:Addr)(ks:List Key):R2:=λx y H Q=>∃k,x=kV k/\y= .ref D/\k∉ks/\Q (.bl true) H
theorem aA5 (kd:ZW X.w X.K D ks):OpR X (fe .NotIn) (aEO D ks):=by
 intro pins s σ H x y v u Q I rx ry h;obtain⟨k,rfl,rfl,hn,q⟩:=h;obtain⟨kvs,kd,rfl⟩:=kd;cases ry;obtain⟨vs,rel,dd⟩:=aEj I kd;refine wpAny_notIn_of (q9 rx) kd.1 dd.mapOf ?_;rw[←(rel.val k).isSome_eq,aAY λe he z=>hn (bg.mpr ⟨e,he,z⟩)];exact⟨.bl true,H,I.tok _,rfl,q⟩
end
structure FcW (P:ef)(w:gd)(K:Frag)(mg:Str->Option af)(base:Heap)(x:Str)(k:Nat)(dvs:List V)(ps:List Str)(sp:Sp):Prop where
 ex:∃f fd ds,mg x=some (.ref f)/\keepIn K (.ref f)=true/\Vals dvs ds/\Binds K fd ps ds/\aP P w K mg base (CXE P w) k f fd ps sp
theorem aEx {k:Nat}{ps:List Str}{E:XK}{t:TA}{p pos:Pos}(F:FcW X.prog X.w X.K X.mg X.base x k dvs ps sp)(hr:Room k' X.A)(hx:c7 (CXE X.prog X.w) X E)(ha:PA X (e::es) t)(hk:k<=k':=by decide)(hg:Gl X x:=by rfl)
  (hdb:(x==("__debug__" :Str))=false:=by decide)(he:az (e::es) X.env=(false,eval e X.env)::az es X.env:=by rfl)(hpl:(fh pos (az es X.env)).any (·.1)=false:=by rfl) :
  PE X (.Call (.Name x p) (e::es) [] pos) (jZ sp dvs E t):=by
 obtain⟨f,fd,ds,hm,kp,rv,b,G⟩:=F.ex;exact yI G (hr.mono hk) hg hm kp b rv hx ha hdb he hpl
def ZQ (K:Frag)(T CN:Addr)(ta:TA)(E:XK)(tb:XK->TS):TS:=λD σ H=>tb (OR K T CN ta E σ) D σ H
theorem aAm {K:Frag}{ta:TA}{E:XK}{tb:XK->TS}{D:d6}(h:tb (OR K T CN ta E σ) D σ H):ZQ K T CN ta E tb D σ H:=h
theorem MU {np np2 cpos rpos hpos pos:Pos}{a₀:Expr}{ta:TA}{tb:XK->TS}(pf:IE X E0x)(hst:X.stack=X.env::X.outer)(hfr:X.env.frame=some X.env.locals)(hex0:X.ex=[])(hm:X.mg x=some (.ref T))(hm2:X.mg y=some (.ref CN))(hc:uS X.K CN)(he:PXs X body tb)(ha:∀ea,PA (X.inx ea) (a₀::as) ta)
  (hg:Gl X x:=by rfl)(hdb:(x==("__debug__" :Str))=false:=by decide)(hg2:Gl X y:=by rfl)(hdb2:(y==("__debug__" :Str))=false:=by decide)
  (hes:az (a₀::as) X.env=(false,eval a₀ X.env)::az as X.env:=by rfl)(hpl:(fh cpos (az as X.env)).any (·.1)=false:=by rfl) :
  PS X (.Try body [.ExceptHandler (some (.Name x np)) none [.Raise (some (.Call (.Name y np2) (a₀::as) [] cpos)) none rpos] hpos] [] [] pos) (ZQ X.K T CN ta E0x tb):=aBQ pf hst hfr hex0 hm hm2 hc he ha hg hdb hg2 hdb2 hes hpl
def ZK (tc:XK->TE)(tr:XK->TS):XK->TS:=λR D σ H=>tc R σ H λ_ H1=>tr R D σ H1
theorem WM {R:XK}{D:d6}(h:tc R σ H λ_ H1=>tr R D σ H1):ZK tc tr R D σ H:=h
theorem WX {R:XK}{D:d6}(h:tc R σ H λv H1=>D.rt v H1):aAe tc R D σ H:=h
theorem aDu (he:PEx X e tc)(hr:PXs X rest tr)(hsw:mn e none epos.line X.env=pure false:=by rfl):PXs X (.Expr e epos::rest) (ZK tc tr):=aBi he hr hsw
theorem WG (K:Frag)(h:X.K=K):SlR X (W9 K):=by
 subst h;exact DZ
def ixAll (K:Frag)(l:List Addr):Bool:=l.zipIdx.all λC=>kitOne K (.ref C.1) (.type "ValueError")==some true&&l.zipIdx.all λD=>kitOne K (.ref C.1) (.ref D.1)==some (decide (C.2=D.2))
theorem ixAll.at {K:Frag}{l:List Addr}{j:Nat}{D:Addr}(h:ixAll K l=true)(hi:l[i]? =some C)(hj:l[j]? =some D):kitOne K (.ref C) (.ref D)=some (decide (i=j)):=by
 have h1:=gh.mp h (C,i) (lg.mpr hi);rw[cq]at h1;exact beq_iff_eq.mp (gh.mp h1.2 (D,j) (lg.mpr hj))
theorem ixAll.ve {K:Frag}{l:List Addr}(h:ixAll K l=true)(hi:l[i]? =some C):kitOne K (.ref C) (.type "ValueError")=some true:=by
 have h1:=gh.mp h (C,i) (lg.mpr hi);rw[cq]at h1;exact beq_iff_eq.mp h1.1
def aCj:Nat->(List α->Prop)->Prop
 | 0,p=>p []
 | n+1,p=>∀a,aCj n (λl=>p (a::l))
theorem aAQ:∀(n:Nat) (p:List α->Prop),aCj n p->∀us:List α,us.length=n->p us
 | 0,_,h,[],_=>h
 | n+1,_,h,a::us,e=>aAQ n _ (h a) us (by simpa using e)
 | 0,_,_,_::_,e=>by simp at e
 | _+1,_,_,[],e=>by simp at e
end L2
namespace Prf
open PySem L2
set_option hygiene false
local macro_rules| `(tactic| walk_at"fs")=> `(tactic| exact⟨rfl,rfl,rfl,by decide +kernel,rfl,by decide +kernel,by decide +kernel⟩)
local macro_rules| `(tactic| walk_at"hu")=> `(tactic| (have hu0:=Room.units0 hr;have hu1:=Room.units1 hr;have hu9:=Room.units9 hr))
set_option hygiene true
def top (i:Nat):Stmt:=PySem.Challenge.pw_firstout_k77_nine_refusals.main.body.getD i (.Pass ⟨0,0,0,0⟩)
abbrev iZ:Stmt:=cC (top 8) 0
theorem aFO:aK ["self","name"] ["self","name"] (aE iZ):=by walk_at"fs"
abbrev hJ:Stmt:=cC (top 9) 0
theorem aFI:aK ["self","name"] ["self","name"] (aE hJ):=by walk_at"fs"
abbrev fU:Stmt:=cC (top 10) 0
theorem aFB:aK ["self","name"] ["self","name"] (aE fU):=by walk_at"fs"
abbrev tT:Stmt:=top 12
theorem aGI:aK ["thing"] ["thing"] (aE tT):=by walk_at"fs"
abbrev wT:Stmt:=top 15
theorem aGM:aK ["thing"] ["thing"] (aE wT):=by walk_at"fs"
abbrev sL:Stmt:=top 16
theorem aFy:aK ["part","thing"] ["part","thing"] (aE sL):=by walk_at"fs"
abbrev pK:Stmt:=top 17
theorem aFv:aK ["part","thing","least"] ["part","thing","least"] (aE pK):=by walk_at"fs"
abbrev dQ:Stmt:=cC (top 19) 0
theorem aFq:aK ["self","name","start","end","wide"] ["self","name","start","end","wide"] (aE dQ):=by walk_at"fs"
abbrev r9:Stmt:=cC (top 19) 1
theorem aGz:aK ["self","turn"] ["self","turn"] (aE r9):=by walk_at"fs"
abbrev lO:Stmt:=cC (top 19) 2
theorem aF7:aK ["self"] ["self"] (aE lO):=by walk_at"fs"
abbrev kK:Stmt:=cC (top 24) 0
theorem aFS:aK ["self","door","turn"] ["self","door","turn"] (aE kK):=by walk_at"fs"
abbrev iX:Stmt:=cC (top 25) 0
theorem aFL:aK ["self","door","turn","more"] ["self","door","turn","more"] (aE iX):=by walk_at"fs"
abbrev qK:Stmt:=top 27
theorem aGq:aK ["first","last"] ["first","last"] (aE qK):=by walk_at"fs"
abbrev i9:Stmt:=top 28
theorem aFM:aK ["names","seen","name"] ["names"] (aE i9):=by walk_at"fs"
abbrev g6:Stmt:=top 29
theorem aFE:aK ["doors","people","names","door"] ["doors","people"] (aE g6):=by walk_at"fs"
abbrev pJ:Stmt:=top 30
theorem aFu:aK ["names","sizes","name"] ["names","sizes"] (aE pJ):=by walk_at"fs"
abbrev lK:Stmt:=top 31
theorem aF2:aK ["sizes","people","inside","room","number"] ["sizes","people"] (aE lK):=by walk_at"fs"
abbrev qH:Stmt:=top 32
theorem aGp:aK ["sizes","people","inside"] ["sizes","people"] (aE qH):=by walk_at"fs"
abbrev dO:Stmt:=cC (top 33) 0
theorem aFN:aK ["self","rooms","doors","people","last","first","sizes","door"] ["self","rooms","doors","people","last","first"] (aE dO):=by walk_at"fs"
abbrev vH:Stmt:=cC (top 33) 1
abbrev nX:Stmt:=cC (top 33) 2
theorem aGb:aK ["self"] ["self"] (aE nX):=by walk_at"fs"
abbrev gZ:Stmt:=cC (top 33) 3
theorem aFn:aK ["self","room"] ["self","room"] (aE gZ):=by walk_at"fs"
abbrev nN:Stmt:=cC (top 33) 4
theorem aF9:aK ["self","room"] ["self","room"] (aE nN):=by walk_at"fs"
abbrev nV:Stmt:=cC (top 33) 5
theorem aGh:aK ["self","room"] ["self","room"] (aE nV):=by walk_at"fs"
abbrev wQ:Stmt:=cC (top 33) 6
abbrev gX:Stmt:=cC (top 33) 7
theorem aFJ:aK ["self","room"] ["self","room"] (aE gX):=by walk_at"fs"
abbrev pU:Stmt:=cC (top 33) 8
theorem aFw:aK ["self","name"] ["self","name"] (aE pU):=by walk_at"fs"
abbrev qI:Stmt:=cC (top 33) 9
theorem aFx:aK ["self","name","turn","door"] ["self","name","turn"] (aE qI):=by walk_at"fs"
abbrev nY:Stmt:=cC (top 33) 11
theorem aGd:aK ["self","pairs","turn"] ["self"] (aE nY):=by walk_at"fs"
abbrev uJ:Stmt:=top 35
theorem aGJ:aK ["plan","going","turn","name","number"] ["plan"] (aE uJ):=by walk_at"fs"
abbrev g0:Stmt:=top 37
theorem aFG:aK ["house","plan","doors"] ["house","plan"] (aE g0):=by walk_at"fs"
abbrev wD:Stmt:=top 38
theorem aGQ:aK ["house","plan","numbers","turn","name","number","pair"] ["house","plan"] (aE wD):=by walk_at"fs"
abbrev AS:Stmt:=top 39
theorem aGW:aK ["house","plan","numbers","turn","name","number","door","pair"] ["house","plan"] (aE AS):=by walk_at"fs"
abbrev EL:Stmt:=top 40
theorem aG8:aK ["house","plan","leave","come","inside","room","turn","before"] ["house","plan"] (aE EL):=by walk_at"fs"
abbrev l7:Stmt:=top 41
theorem aF4:aK ["house","turn","name"] ["house","turn","name"] (aE l7):=by walk_at"fs"
abbrev nS:Stmt:=top 42
theorem aGc:aK ["house","plan","going"] ["house","plan"] (aE nS):=by walk_at"fs"
abbrev lV:Stmt:=top 43
theorem aF5:aK ["house","plan","inside","leave","below_last"] ["house","plan","inside"] (aE lV):=by walk_at"fs"
abbrev nQ:Stmt:=top 44
theorem aGa:aK ["house","inside"] ["house","inside"] (aE nQ):=by walk_at"fs"
abbrev AF:Stmt:=top 45
theorem aGX:aK ["house","plan","inside"] ["house","plan"] (aE AF):=by walk_at"fs"
abbrev nO:Stmt:=top 46
theorem aGf:aK ["house","plan"] ["house","plan"] (aE nO):=by walk_at"fs"
abbrev uC:Stmt:=top 48
theorem aGL:aK ["doors","name","names"] ["doors","name"] (aE uC):=by walk_at"fs"
abbrev lJ:Stmt:=top 49
theorem aF6:aK ["door","happening"] ["door","happening"] (aE lJ):=by walk_at"fs"
abbrev nU:Stmt:=top 50
theorem aGg:aK ["doors","happening","place"] ["doors","happening"] (aE nU):=by walk_at"fs"
abbrev wB:Stmt:=top 51
theorem aGD:aK ["house","plan","turn","happenings","happened","doors","happening","inside","people"] ["house","plan","turn","happenings"] (aE wB):=by walk_at"fs"
abbrev rY:Stmt:=top 74
theorem aGB:aK ["thing"] ["thing"] (aE rY):=by walk_at"fs"
abbrev fT:Stmt:=top 75
theorem aFA:aK ["text"] ["text"] (aE fT):=by walk_at"fs"
abbrev qE:Stmt:=top 76
theorem aGm:aK ["text"] ["text"] (aE qE):=by walk_at"fs"
abbrev sI:Stmt:=top 77
theorem aGx:aK ["text"] ["text"] (aE sI):=by walk_at"fs"
abbrev sJ:Stmt:=top 78
theorem aGy:aK ["form","word"] ["form","word"] (aE sJ):=by walk_at"fs"
abbrev qA:Stmt:=top 79
theorem aGu:aK ["forms","words"] ["forms","words"] (aE qA):=by walk_at"fs"
abbrev lI:Stmt:=top 86
theorem aF3:aK ["rows","first_word","forms","rows_of_words"] ["rows","first_word","forms"] (aE lI):=by walk_at"fs"
abbrev pV:Stmt:=top 87
theorem aGn:aK ["rows","turns","rooms","doors","people"] ["rows"] (aE pV):=by walk_at"fs"
abbrev kI:Stmt:=top 88
theorem aFQ:aK ["rows","house"] ["rows"] (aE kI):=by walk_at"fs"
abbrev p9:Stmt:=top 89
theorem aGs:aK ["text"] ["text"] (aE p9):=by walk_at"fs"
abbrev rZ:Stmt:=top 91
theorem aGv:aK ["text","rows","plan"] ["text"] (aE rZ):=by walk_at"fs"
abbrev uY:Stmt:=top 95
theorem aGK:aK ["row","words"] ["row"] (aE uY):=by walk_at"fs"
abbrev qF:Stmt:=top 96
theorem aGr:aK ["row"] ["row"] (aE qF):=by walk_at"fs"
abbrev ER:Stmt:=top 105
theorem aG4:aK ["house","plan","groups","turn","dealt","group"] ["house","plan"] (aE ER):=by walk_at"fs"
abbrev jY:Stmt:=cC (top 113) 0
theorem aFX:aK ["self"] ["self"] (aE jY):=by walk_at"fs"
abbrev uH:Stmt:=cC (top 113) 1
theorem aGH:aK ["self","row","order"] ["self","row"] (aE uH):=by walk_at"fs"
abbrev l6:Stmt:=top 115
theorem aF1:aK ["_law_script","_law_k"] ["_law_script","_law_k"] (aE l6):=by walk_at"fs"
abbrev qD:Stmt:=top 116
theorem aGl:aK ["_law_name","_law_number"] ["_law_name","_law_number"] (aE qD):=by walk_at"fs"
abbrev gW:Stmt:=top 117
theorem aFF:aK ["_law_way","_law_other","_law_name","_law_number","_law_house_here"] ["_law_way","_law_other","_law_name","_law_number"] (aE gW):=by walk_at"fs"
abbrev j1:Stmt:=top 118
theorem aF0:aK ["_law_way","_law_other","_law_name","_law_number"] ["_law_way","_law_other","_law_name","_law_number"] (aE j1):=by walk_at"fs"
abbrev kF:Stmt:=top 119
theorem aFP:aK ["_law_way","_law_other","_law_name","_law_number","_law_house_here"] ["_law_way","_law_other","_law_name","_law_number"] (aE kF):=by walk_at"fs"
abbrev nW:Stmt:=top 120
theorem aGe:aK ["_law_way","_law_other","_law_name","_law_number"] ["_law_way","_law_other","_law_name","_law_number"] (aE nW):=by walk_at"fs"
abbrev pO:Stmt:=top 121
theorem aGt:aK ["_law_way","_law_other","_law_name","_law_number","_law_kinds","_law_found","e"] ["_law_way","_law_other","_law_name","_law_number"] (aE pO):=by walk_at"fs"
abbrev gS:Stmt:=top 122
theorem aFH:aK ["_law_name","e"] ["_law_name"] (aE gS):=by walk_at"fs"
abbrev rK:Stmt:=top 123
theorem aHn:aK ["_law_script","_law_cell","_law_name","_law_number","_law_way"] ["_law_script"] (aE rK):=by walk_at"fs"
theorem YE:("a" :Str).length=1:=by rw[aR];rfl
theorem XH:("z" :Str).length=1:=by rw[aR];rfl
theorem XX:(" is no name" :Str).length=11:=by rw[aR];rfl
theorem WI:(" is no whole number from " :Str).length=25:=by rw[aR];rfl
theorem V3:(" on" :Str).length=3:=by rw[aR];rfl
theorem YC:("name" :Str).length=4:=by rw[aR];rfl
theorem WE:("start" :Str).length=5:=by rw[aR];rfl
theorem Y0:("wide" :Str).length=4:=by rw[aR];rfl
theorem YF:("end" :Str).length=3:=by rw[aR];rfl
theorem XY:("turn" :Str).length=4:=by rw[aR];rfl
theorem QQ:("more" :Str).length=4:=by rw[aR];rfl
theorem RI:("the first turn is below 0" :Str).length=25:=by rw[aR];rfl
theorem PQ:("the last turn is below the first one" :Str).length=36:=by rw[aR];rfl
theorem P0:("a row of people is below 0" :Str).length=26:=by rw[aR];rfl
theorem OL:("more are in a room than it holds" :Str).length=32:=by rw[aR];rfl
theorem QB:("door" :Str).length=4:=by rw[aR];rfl
theorem P7:("leave" :Str).length=5:=by rw[aR];rfl
theorem OH:("full" :Str).length=4:=by rw[aR];rfl
theorem P2:("the plan has faults" :Str).length=19:=by rw[aR];rfl
theorem P1:("shut" :Str).length=4:=by rw[aR];rfl
theorem OV:("found" :Str).length=5:=by rw[aR];rfl
theorem PR:("the house has no such turn" :Str).length=26:=by rw[aR];rfl
theorem RE:("it is no text" :Str).length=13:=by rw[aR];rfl
theorem P5:("0" :Str).length=1:=by rw[aR];rfl
theorem O6:("9" :Str).length=1:=by rw[aR];rfl
theorem RL:("the text is no number" :Str).length=21:=by rw[aR];rfl
theorem QF:("the text is no name" :Str).length=19:=by rw[aR];rfl
theorem QH:("there are words too few or too many" :Str).length=35:=by rw[aR];rfl
theorem Q7:(" " :Str).length=1:=by rw[aR];rfl
theorem RB:("turns" :Str).length=5:=by rw[aR];rfl
theorem QK:("room" :Str).length=4:=by rw[aR];rfl
theorem PM:("people" :Str).length=6:=by rw[aR];rfl
theorem OT:("number" :Str).length=6:=by rw[aR];rfl
theorem QR:("there is not just one row of turns" :Str).length=34:=by rw[aR];rfl
theorem QE:("way " :Str).length=4:=by rw[aR];rfl
theorem QV:("the house is refused" :Str).length=20:=by rw[aR];rfl
theorem RF:("no house is written so" :Str).length=22:=by rw[aR];rfl
theorem QL:("\n" :Str).length=1:=by rw[aR];rfl
theorem O8:("" :Str).length=0:=by rw[aR];rfl
theorem PB:("no plan is told so" :Str).length=18:=by rw[aR];rfl
theorem O1:("house" :Str).length=5:=by rw[aR];rfl
theorem QN:("bound" :Str).length=5:=by rw[aR];rfl
theorem QS:("no row begins so" :Str).length=16:=by rw[aR];rfl
theorem OI:("; " :Str).length=2:=by rw[aR];rfl
theorem PD:("house " :Str).length=6:=by rw[aR];rfl
theorem Q9:("there is no such row" :Str).length=20:=by rw[aR];rfl
theorem QM:("there is no house yet" :Str).length=21:=by rw[aR];rfl
theorem P6:("A" :Str).length=1:=by rw[aR];rfl
theorem PV:("strange" :Str).length=7:=by rw[aR];rfl
theorem RC:("other" :Str).length=5:=by rw[aR];rfl
theorem RN:("wider" :Str).length=5:=by rw[aR];rfl
theorem OB:(" 2" :Str).length=2:=by rw[aR];rfl
theorem O9:(" 1\nroom " :Str).length=8:=by rw[aR];rfl
theorem Q8:("turns 0 4\nroom " :Str).length=15:=by rw[aR];rfl
theorem RJ:("abcdefgh" :Str).length=8:=by rw[aR];rfl
abbrev aE7:List Str:=["name","start","end","wide","inner","turn","more","first","last","sizes","people","named_doors","house"]
structure DCls (K:W.Frag)(C:Addr):Prop where
 ic:ICls K C
 nf:noF K C aE7=true
variable {K:W.Frag}{C CN NH NR NT TW a b dx p q:Addr}
theorem DCls.n_name (d:DCls K C):NoAttr K C "name" :=eM d.nf 0 rfl
theorem DCls.n_start (d:DCls K C):NoAttr K C "start" :=eM d.nf 1 rfl
theorem DCls.n_end (d:DCls K C):NoAttr K C "end" :=eM d.nf 2 rfl
theorem DCls.n_wide (d:DCls K C):NoAttr K C "wide" :=eM d.nf 3 rfl
theorem DCls.n_inner (d:DCls K C):NoAttr K C "inner" :=eM d.nf 4 rfl
theorem DCls.n_turn (d:DCls K C):NoAttr K C "turn" :=eM d.nf 5 rfl
theorem DCls.n_more (d:DCls K C):NoAttr K C "more" :=eM d.nf 6 rfl
theorem DCls.n_first (d:DCls K C):NoAttr K C "first" :=eM d.nf 7 rfl
theorem DCls.n_last (d:DCls K C):NoAttr K C "last" :=eM d.nf 8 rfl
theorem DCls.n_sizes (d:DCls K C):NoAttr K C "sizes" :=eM d.nf 9 rfl
theorem DCls.n_people (d:DCls K C):NoAttr K C "people" :=eM d.nf 10 rfl
theorem DCls.n_named_doors (d:DCls K C):NoAttr K C "named_doors" :=eM d.nf 11 rfl
theorem DCls.n_house (d:DCls K C):NoAttr K C "house" :=eM d.nf 12 rfl
set_option genInjectivity false in set_option genSizeOf false in structure M (w:World) (K:W.Frag) (mg:Str->Option Value) where
 u7:Addr
 oY:FX K "is_whole" "is_whole" tT ["thing"] u7
 xG:Addr
 rW:FX K "is_name" "is_name" wT ["thing"] xG
 mR:Addr
 dG:FX K "need_name" "need_name" sL ["part","thing"] mR
 lC:Addr
 c9:FX K "need_whole" "need_whole" pK ["part","thing","least"] lC
 qR:Addr
 k7:FX K "need_turns" "need_turns" qK ["first","last"] qR
 jC:Addr
 fE:FX K "need_each_once" "need_each_once" i9 ["names"] jC
 iE:Addr
 eI:FX K "rooms_spoken_of" "rooms_spoken_of" g6 ["doors","people"] iE
 lD:Addr
 c8:FX K "need_rooms" "need_rooms" pJ ["names","sizes"] lD
 mJ:Addr
 gO:FX K "added_people" "added_people" lK ["sizes","people"] mJ
 qM:Addr
 lA:FX K "need_space" "need_space" qH ["sizes","people"] qM
 vD:Addr
 o0:FX K "added_up" "added_up" uJ ["plan"] vD
 iF:Addr
 d8:FX K "rows_that_count" "rows_that_count" g0 ["house","plan"] iF
 xR:Addr
 rX:FX K "leaving" "leaving" wD ["house","plan"] xR
 BC:Addr
 u6:FX K "coming" "coming" AS ["house","plan"] BC
 FA:Addr
 yS:FX K "there" "there" EL ["house","plan"] FA
 mH:Addr
 gK:FX K "most_through" "most_through" l7 ["house","turn","name"] mH
 oN:Addr
 iO:FX K "door_faults" "door_faults" nS ["house","plan"] oN
 l8:Addr
 gP:FX K "leave_faults" "leave_faults" lV ["house","plan","inside"] l8
 oA:Addr
 iQ:FX K "full_faults" "full_faults" nQ ["house","inside"] oA
 A6:Addr
 vB:FX K "faults" "faults" AF ["house","plan"] A6
 oJ:Addr
 iP:FX K "need_lawful" "need_lawful" nO ["house","plan"] oJ
 u5:Addr
 o6:FX K "place_of" "place_of" uC ["doors","name"] u5
 mE:Addr
 gR:FX K "changed_door" "changed_door" lJ ["door","happening"] mE
 oK:Addr
 iR:FX K "doors_after" "doors_after" nU ["doors","happening"] oK
 DD:Addr
 xF:jz
 nK:FunV K "anew" "anew" wB DD xF
 aEa:Binds K xF ["house","plan","turn","happenings"] []
 sP:Addr
 mQ:FX K "need_text" "need_text" rY ["thing"] sP
 fY:Addr
 dX:FX K "is_written_whole" "is_written_whole" fT ["text"] fY
 qP:Addr
 kR:FX K "read_whole" "read_whole" qE ["text"] qP
 sS:Addr
 mT:FX K "read_name" "read_name" sI ["text"] sS
 sN:Addr
 mS:FX K "read_part" "read_part" sJ ["form","word"] sN
 qS:Addr
 kW:FX K "read_parts" "read_parts" qA ["forms","words"] qS
 mI:Addr
 gM:FX K "parts_behind" "parts_behind" lI ["rows","first_word","forms"] mI
 qO:Addr
 k8:FX K "made_house" "made_house" pV ["rows"] qO
 lE:Addr
 fP:FX K "house_of_rows" "house_of_rows" kI ["rows"] lE
 qN:Addr
 kO:FX K "read_house" "read_house" p9 ["text"] qN
 sQ:Addr
 mP:FX K "read_plan" "read_plan" rZ ["text"] sQ
 u9:Addr
 oZ:FX K "order_of" "order_of" uY ["row"] u9
 qQ:Addr
 kU:FX K "read_order" "read_order" qF ["row"] qQ
 FD:Addr
 yR:FX K "walks" "walks" ER ["house","plan"] FD
 mD:Addr
 gN:FX K "_law_cell_at" "_law_cell_at" l6 ["_law_script","_law_k"] mD
 qT:Addr
 kN:FX K "_law_house" "_law_house" qD ["_law_name","_law_number"] qT
 hZ:Addr
 eF:FX K "_law_of_numbers" "_law_of_numbers" gW ["_law_way","_law_other","_law_name","_law_number"] hZ
 kY:Addr
 fO:FX K "_law_of_texts" "_law_of_texts" j1 ["_law_way","_law_other","_law_name","_law_number"] kY
 kM:Addr
 fN:FX K "_law_of_names" "_law_of_names" kF ["_law_way","_law_other","_law_name","_law_number"] kM
 oG:Addr
 iS:FX K "_law_raised" "_law_raised" nW ["_law_way","_law_other","_law_name","_law_number"] oG
 qU:Addr
 kZ:FX K "_law_right" "_law_right" pO ["_law_way","_law_other","_law_name","_law_number"] qU
 iA:Addr
 d9:FX K "_law_house_text" "_law_house_text" gS ["_law_name"] iA
 RU:Addr
 RZ:jz
 aEW:FunV K "law" "law" rK RU RZ
 aFk:Binds K RZ ["_law_script"] []
 jF:Addr
 jE:FX K "__init__" "Twice.__init__" iZ ["self","name"] jF
 iD:Addr
 hV:FX K "__init__" "NoRoom.__init__" hJ ["self","name"] iD
 fZ:Addr
 gD:FX K "__init__" "Unknown.__init__" fU ["self","name"] fZ
 dZ:Addr
 dD:jz
 kS:FunV K "__init__" "Door.__init__" dQ dZ dD
 DE:Binds K dD ["self","name","start","end","wide"] []
 sR:Addr
 sO:FX K "lets" "Door.lets" r9 ["self","turn"] sR
 cI:Addr
 gQ:FX K "is_exit" "Door.is_exit" lO ["self"] cI
 kP:Addr
 kQ:FX K "__init__" "Shut.__init__" kK ["self","door","turn"] kP
 jB:Addr
 jD:FX K "__init__" "Wider.__init__" iX ["self","door","turn","more"] jB
 jI:Addr
 fC:jz
 A7:FunV K "__init__" "House.__init__" dO jI fC
 BD:Binds K fC ["self","rooms","doors","people","last","first"] []
 vN:Addr
 aB6:FX K "rooms" "House.rooms" vH ["self"] vN
 oI:Addr
 nZ:FX K "doors" "House.doors" nX ["self"] oI
 d7:Addr
 cV:FX K "need_room" "House.need_room" gZ ["self","room"] d7
 n9:Addr
 oE:FX K "holds" "House.holds" nN ["self","room"] n9
 oM:Addr
 oO:FX K "found" "House.found" nV ["self","room"] oM
 xO:Addr
 aD6:FX K "into" "House.into" wQ ["self","room"] xO
 iB:Addr
 iC:FX K "from_room" "House.from_room" gX ["self","room"] iB
 kT:Addr
 eW:FX K "door" "House.door" pU ["self","name"] kT
 kX:Addr
 eX:FX K "lets" "House.lets" qI ["self","name","turn"] kX
 oF:Addr
 oH:FX K "pairs" "House.pairs" nY ["self"] oF
 k6:Addr
 lB:FX K "__init__" "Desk.__init__" jY ["self"] k6
 u8:Addr
 u4:FX K "say" "Desk.say" uH ["self","row"] u8
 RY:mg "is_whole" =some (.ref u7)
 VU:mg "is_name" =some (.ref xG)
 zR:mg "need_name" =some (.ref mR)
 xI:mg "need_whole" =some (.ref lC)
 LD:mg "need_turns" =some (.ref qR)
 BA:mg "need_each_once" =some (.ref jC)
 zD:mg "rooms_spoken_of" =some (.ref iE)
 xQ:mg "need_rooms" =some (.ref lD)
 E7:mg "added_people" =some (.ref mJ)
 LC:mg "need_space" =some (.ref qM)
 RT:mg "added_up" =some (.ref vD)
 zC:mg "rows_that_count" =some (.ref iF)
 VX:mg "leaving" =some (.ref xR)
 Y7:mg "coming" =some (.ref BC)
 aBX:mg "there" =some (.ref FA)
 E2:mg "most_through" =some (.ref mH)
 HS:mg "door_faults" =some (.ref oN)
 FF:mg "leave_faults" =some (.ref l8)
 HV:mg "full_faults" =some (.ref oA)
 ZB:mg "faults" =some (.ref A6)
 HN:mg "need_lawful" =some (.ref oJ)
 R0:mg "place_of" =some (.ref u5)
 E5:mg "changed_door" =some (.ref mE)
 HQ:mg "doors_after" =some (.ref oK)
 VW:mg "anew" =some (.ref DD)
 MI:mg "need_text" =some (.ref sP)
 xU:mg "is_written_whole" =some (.ref fY)
 LB:mg "read_whole" =some (.ref qP)
 MJ:mg "read_name" =some (.ref sS)
 MK:mg "read_part" =some (.ref sN)
 LM:mg "read_parts" =some (.ref qS)
 E6:mg "parts_behind" =some (.ref mI)
 LN:mg "made_house" =some (.ref qO)
 DA:mg "house_of_rows" =some (.ref lE)
 K8:mg "read_house" =some (.ref qN)
 ML:mg "read_plan" =some (.ref sQ)
 RV:mg "order_of" =some (.ref u9)
 LG:mg "read_order" =some (.ref qQ)
 aB1:mg "walks" =some (.ref FD)
 E1:mg "_law_cell_at" =some (.ref mD)
 LI:mg "_law_house" =some (.ref qT)
 zA:mg "_law_of_numbers" =some (.ref hZ)
 C7:mg "_law_of_texts" =some (.ref kY)
 DC:mg "_law_of_names" =some (.ref kM)
 HU:mg "_law_raised" =some (.ref oG)
 K7:mg "_law_right" =some (.ref qU)
 zE:mg "_law_house_text" =some (.ref iA)
 aFl:mg "law" =some (.ref RU)
 V0:∃ds,Vals [.non] ds/\Binds K xF ["house","plan","turn","happenings"] ds
 xH:∃ds,Vals [.int 1] ds/\Binds K dD ["self","name","start","end","wide"] ds
 nM:∃ds,Vals [.non,.int 1] ds/\Binds K dD ["self","name","start","end","wide"] ds
 vY:∃ds,Vals [.int 0] ds/\Binds K fC ["self","rooms","doors","people","last","first"] ds
 dY:Addr
 DF:mg "Door" =some (.ref dY)
 FG:Addr
 aFi:mg "Since" =some (.ref FG)
 E9:Addr
 aFg:mg "Until" =some (.ref E9)
 LJ:Addr
 aFj:mg "Beat" =some (.ref LJ)
 BE:Addr
 aFd:mg "Marked" =some (.ref BE)
 xK:Addr
 aD5:mg "Shut" =some (.ref xK)
 o9:Addr
 aBY:mg "Wider" =some (.ref o9)
 aH:Addr
 N7:mg "House" =some (.ref aH)
 iL:Addr
 aD7:mg "Desk" =some (.ref iL)
 cU:Addr
 C8:mg "OutError" =some (.ref cU)
 bY:Addr
 BG:mg "NoDoor" =some (.ref bY)
 bW:Addr
 rV:mg "NoHouse" =some (.ref bW)
 b2:Addr
 LH:mg "NoPlan" =some (.ref b2)
 bZ:Addr
 vC:mg "NoTurn" =some (.ref bZ)
 aV:Addr
 fD:mg "NoText" =some (.ref aV)
 cE:Addr
 OA:mg "NoRow" =some (.ref cE)
 b5:Addr
 yT:mg "Twice" =some (.ref b5)
 bN:Addr
 A9:mg "NoRoom" =some (.ref bN)
 bE:Addr
 xN:mg "Unknown" =some (.ref bE)
 mG:DCls K dY
 E3:Mk K dY dZ
 LA:Meth K dY "lets" sR
 C6:Meth K dY "is_exit" cI
 aFe:DCls K FG
 Y6:Meth K FG "is_exit" cI
 aFf:DCls K E9
 ZC:Meth K E9 "is_exit" cI
 aFh:DCls K LJ
 aAj:Meth K LJ "is_exit" cI
 aEX:DCls K BE
 V2:Meth K BE "is_exit" cI
 aB5:DCls K xK
 aB2:Mk K xK kP
 aAk:Meth K xK "is_exit" cI
 K6:DCls K o9
 ZD:Mk K o9 jB
 A8:Meth K o9 "is_exit" cI
 a8:DCls K aH
 LF:Mk K aH jI
 aBW:Meth K aH "rooms" vN
 FC:Meth K aH "doors" oI
 nL:Meth K aH "need_room" d7
 FE:Meth K aH "holds" n9
 E8:Meth K aH "found" oM
 aB7:Meth K aH "into" xO
 xL:Meth K aH "from_room" iB
 vL:Meth K aH "door" kT
 vM:Meth K aH "lets" kX
 E4:Meth K aH "pairs" oF
 N9:DCls K iL
 aBZ:Mk K iL k6
 MM:Meth K iL "say" u8
 jG:W.specialIn K (.ref dY) "__getattribute__" =some (some (.builtin "type.__getattribute__"))/\W.readsIn K dY (.type "type")=true/\W.findCls K (.ref dY) (.type "type") "__init__" =some (.val (.ref dZ))
 LE:uS K bY
 VZ:ExcK K bY
 GF:uS K bW
 R1:ExcK K bW
 ZA:uS K b2
 VV:ExcK K b2
 BF:uS K bZ
 V1:ExcK K bZ
 mF:uS K aV
 GE:ExcK K aV
 aB3:uS K cE
 Y8:ExcK K cE
 Y5:t7 K b5 jF=true
 BB:pX K b5
 LK:NoAttr K b5 "name"
 VY:t7 K bN iD=true
 xT:pX K bN
 GG:NoAttr K bN "name"
 RX:t7 K bE fZ=true
 vA:pX K bE
 DB:NoAttr K bE "name"
 xE:W.exmOne K (.ref bY) (.ref cU)=some true
 vX:W.exmOne K (.ref bW) (.ref cU)=some true
 xJ:W.exmOne K (.ref b2) (.ref cU)=some true
 xM:W.exmOne K (.ref bZ) (.ref cU)=some true
 xS:W.exmOne K (.ref aV) (.ref cU)=some true
 zB:W.exmOne K (.ref cE) (.ref cU)=some true
 oQ:W.exmOne K (.ref b5) (.ref cU)=some true
 xP:W.exmOne K (.ref bN) (.ref cU)=some true
 vW:W.exmOne K (.ref bE) (.ref cU)=some true
 jH:W.exmOne K (.ref aV) (.ref aV)=some true
 ixA:ixAll K [bY,bW,b2,bZ,aV,cE,b5,bN,bE]=true
 K9:mg "ValueError" =none
 aAi:mg "any" =none
 Y4:mg "sorted" =none
 FB:mg "range" =none
 aAh:mg "int" =none
 aB0:mg "tuple" =none
 bL:mg "isinstance" =none
 yU:mg "str" =none
 aAl:mg "all" =none
 aD8:mg "dict" =none
 aEb:mg "list" =none
 u3:mg "len" =none
 aD9:mg "bool" =none
 aEV:mg "zip" =none
 N8:Addr
 aB4:mg "FORMS" =some (.ref N8)
 Y9:ZW w K N8 [.inr "plan",.inr "out",.inr "cut",.inr "all",.inr "lost",.inr "walks",.inr "anew",.inr "shut",.inr "wider",.inr "found",.inr "keep"]
 mB:∃t:Tok,mg "LONGEST_NAME" =some (.int 8 t)
 l9:∃t:Tok,mg "MOST_FIGURES" =some (.int 60 t)
theorem gl_ {G:Prop}(h:∀G':Prop,G'=G->G'):G:=h G rfl
set_option hygiene false
local macro_rules| `(tactic| walk_at"w0")=> `(tactic| (intro vs H Q E h;cases h;subst_vars;rfl))
local macro_rules| `(tactic| walk_at"w1")=> `(tactic| (intro cdv A outer s H vs Q E hr h;refine gl_ ?_;intro G_ hG_))
local macro_rules| `(tactic| walk_at"g1")=> `(tactic| (refine gl_ ?_;intro G_ hG_))
local macro_rules| `(tactic| walk_at"g2")=> `(tactic| subst hG_)
local macro_rules| `(tactic| walk_at"cx")=> `(tactic| try dsimp only[cxK,cxP,cxW,cxM,cxB])
set_option hygiene true
local macro_rules| `(tactic| walk_at"hp")=> `(tactic| first|assumption|(refine' Same.at ?s ?h;(case s=>assumption);(case h=>walk_at"hp"))|(refine' SqL.of ?h;(case h=>walk_at"hp"))|(refine' SqT.of ?h;(case h=>walk_at"hp"))|(refine' Same.seq ?s ?h;(case s=>assumption);(case h=>walk_at"hp"))|(refine' Same.sqT ?s ?h;(case s=>assumption);(case h=>walk_at"hp")))
local macro_rules| `(tactic| walk_at"sm")=> `(tactic| first|assumption|exact Same.refl _|(refine' Same.snoc ?s ?h;(case s=>assumption);(case h=>walk_at"sm")))
local macro_rules| `(tactic| walk_at"sb")=> `(tactic| first|assumption|exact SameBut.refl|(refine' SameBut.snoc ?s ?h;(case s=>assumption);(case h=>walk_at"sb"))|(refine' SameBut.snocS ?s ?h;(case s=>assumption);(case h=>walk_at"sb")))
local macro_rules| `(tactic| walk_at"lk")=> `(tactic| first|assumption|(with_reducible exact UX)|(with_reducible exact aBO)|(refine' aEE ?d ?h;(case d=>decide +kernel);(case h=>walk_at"lk"))|exact UX)
local macro_rules| `(tactic| walk_at"sz")=> `(tactic| first|with_reducible assumption|lia|omega|(simp only[cO,DH,YE,XH,XX,WI,V3,YC,WE,Y0,YF,XY,QQ,RI,PQ,P0,OL,QB,P7,OH,P2,P1,OV,PR,RE,P5,O6,RL,QF,QH,Q7,RB,QK,PM,OT,QR,QE,QV,RF,QL,O8,PB,O1,QN,QS,OI,PD,Q9,QM,P6,PV,RC,RN,OB,O9,Q8,RJ,bq,cv,ip,cb,ao];done)|(simp only[cO,DH,YE,XH,XX,WI,V3,YC,WE,Y0,YF,XY,QQ,RI,PQ,P0,OL,QB,P7,OH,P2,P1,OV,PR,RE,P5,O6,RL,QF,QH,Q7,RB,QK,PM,OT,QR,QE,QV,RF,QL,O8,PB,O1,QN,QS,OI,PD,Q9,QM,P6,PV,RC,RN,OB,O9,Q8,RJ,bq,cv,ip,cb,ao];omega)|(simp only[cO,DH,YE,XH,XX,WI,V3,YC,WE,Y0,YF,XY,QQ,RI,PQ,P0,OL,QB,P7,OH,P2,P1,OV,PR,RE,P5,O6,RL,QF,QH,Q7,RB,QK,PM,OT,QR,QE,QV,RF,QL,O8,PB,O1,QN,QS,OI,PD,Q9,QM,P6,PV,RC,RN,OB,O9,Q8,RJ,bq,cv,ip,cb,ao]at *;omega))
local macro_rules| `(tactic| walk_at"sd")=> `(tactic| first|with_reducible assumption|lia|omega|decide)
local macro_rules| `(tactic| walk_at"dc")=> `(tactic| first|((with_reducible refine ICls.cl (DCls.ic ?_));assumption)|((with_reducible refine DCls.ic ?_);assumption)|((with_reducible refine DCls.n_name ?_);assumption)|((with_reducible refine DCls.n_start ?_);assumption)|((with_reducible refine DCls.n_end ?_);assumption)|((with_reducible refine DCls.n_wide ?_);assumption)|((with_reducible refine DCls.n_since ?_);assumption)|((with_reducible refine DCls.n_until ?_);assumption)|((with_reducible refine DCls.n_every ?_);assumption)|((with_reducible refine DCls.n_bits ?_);assumption)|((with_reducible refine DCls.n_inner ?_);assumption)|((with_reducible refine DCls.n_turn ?_);assumption)|((with_reducible refine DCls.n_more ?_);assumption)|((with_reducible refine DCls.n_first ?_);assumption)|((with_reducible refine DCls.n_last ?_);assumption)|((with_reducible refine DCls.n_sizes ?_);assumption)|((with_reducible refine DCls.n_people ?_);assumption)|((with_reducible refine DCls.n_named_doors ?_);assumption)|((with_reducible refine DCls.n_targets ?_);assumption)|((with_reducible refine DCls.n_spare ?_);assumption)|((with_reducible refine DCls.n_arcs ?_);assumption)|((with_reducible refine DCls.n_house ?_);assumption)|((with_reducible refine DCls.n_outs ?_);assumption)|((with_reducible refine DCls.n_cuts ?_);assumption)|((with_reducible refine DCls.n_net ?_);assumption)|((with_reducible refine DCls.n_source ?_);assumption)|((with_reducible refine DCls.n_pair_nodes ?_);assumption)|((with_reducible refine DCls.n_door_arcs ?_);assumption)|((with_reducible refine DCls.n_plenty ?_);assumption))
local macro_rules| `(tactic| walk_at"rd1")=> `(tactic| first|(with_reducible first|refine aDZ ?_|refine aDP ?_|refine aEZ ?_|refine aEQ ?_|refine aEi ?_|refine aEo ?_|refine aEr ?_|refine aEG ?_|refine aEC ?_|refine aEt ?_|refine aEN ?_|refine aEM ?_|refine rd_v8 ?_|refine rd_v9 ?_|refine rd_v10 ?_|refine rd_v11 ?_|refine rd_v12 ?_|refine aAC ?_|refine aCk ?_|refine aEk ?_|refine aER ?_|refine aAo ?_|refine aEK ?_|refine aCV ?_|refine aBr ?_|refine aEI ?_|refine aDU ?_|refine aEq ?_|refine TX ?_|refine UO ?_|refine aAS ?_|refine aBe ?_|refine rd_s0 ?_|refine aEd ?_|refine aEF ?_|refine aEf ?_|refine aEv ?_|refine aES ?_|refine aEz ?_|refine aEn ?_|refine rd_s8 ?_|refine rd_s9 ?_|refine rd_s10 ?_|refine rd_s11 ?_|refine rd_s12 ?_|refine aCm ?_|refine aAH ?_|refine aAT ?_|refine rd_retN ?_|refine aCq ?_|refine aDg ?_|refine aEs ?_|refine aBV ?_|refine aCZ ?_|refine aBU ?_|refine aCc ?_|refine W4 ?_|refine aEw ?_|refine aE5 ?_|refine aDG ?_|refine rd_eqB ?_|refine aCP ?_|refine rd_eqSN ?_|refine rd_eqNS ?_|refine rd_eqNN ?_|refine aCG ?_|refine rd_neB ?_|refine rd_neS ?_|refine rd_neNN ?_|refine aAD ?_|refine rd_isNS ?_|refine rd_isNI ?_|refine aA1 ?_|refine aA0 ?_|refine aAI ?_|refine rd_ntNI ?_|refine rd_ntNR ?_|refine aBq ?_|refine rd_ntNV ?_|refine aDC ?_|refine aCg ?_|refine aA6 ?_|refine aAn ?_|refine aAL ?_|refine aEe ?_|refine aEH ?_|refine rd_bm0 ?_|refine aC0 ?_|refine rd_bm0I ?_|refine rd_isiII ?_|refine rd_isiIB ?_|refine rd_isiBB ?_|refine rd_isiBI ?_|refine WP ?_|refine rd_isiNS ?_|refine rd_max2 ?_|refine rd_min2 ?_|refine rd_intB ?_|refine rd_intI ?_|refine T9 ?_|refine aAU ?_|refine aCx ?_|refine rd_gsub ?_|refine aAp ?_|refine YO ?_|refine aDe ?_|refine WQ ?_|refine rd_iTup ?_|refine YS ?_|refine WL ?_|refine aBh ?_|refine YN ?_|refine rd_break ?_|refine rd_cont ?_|refine rd_aug ?_)|((with_reducible refine' aD3 ?s ?_);(case s=>decide))|((with_reducible refine' aAO ?s ?_);(case s=>walk_at"sd");intro h0' h1')|((with_reducible refine' rd_repL ?e ?a ?b ?s ?_);(case e=>walk_at"hp");(case a=>decide);(case b=>decide);(case s=>first|(simp;done)|(simp[bq];done)|walk_at"sz");intro p' H' n' S' e')|((with_reducible refine' aDx ?s ?r ?_);(case s=>walk_at"sd");(case r=>walk_at"sd"))|((with_reducible refine' rd_mulL ?s ?r ?_);(case s=>walk_at"sd");(case r=>walk_at"sd"))|((with_reducible refine' rd_mulR ?s ?r ?_);(case s=>walk_at"sd");(case r=>walk_at"sd"))|((with_reducible refine' aAW ?s ?_);(case s=>walk_at"sz");intro p' H' n' S' e')|((with_reducible refine' aBy ?s ?_);(case s=>walk_at"sz");intro p' H' n' S' e')|((with_reducible refine aBw ?_);intro p' H' n' S' e')|((with_reducible refine' aBN ?e ?c ?n ?l ?_);(case e=>walk_at"hp");(case c=>walk_at"dc");(case n=>walk_at"dc");(case l=>walk_at"lk"))|((with_reducible refine' XD ?e ?c ?n ?l ?_);(case e=>walk_at"hp");(case c=>walk_at"dc");(case n=>walk_at"dc");(case l=>kernel_rfl);intro H' B' e')|((with_reducible refine' aDp ?e ?l ?F ?_);(case e=>walk_at"hp");(case l=>walk_at"lk");(case F=>assumption))|((with_reducible refine' rd_isiC ?e ?i ?k ?_);(case e=>walk_at"hp");(case i=>walk_at"dc");(case k=>assumption))|((with_reducible refine' aCO ?e ?l ?_);(case e=>walk_at"hp");(case l=>rfl))|((with_reducible refine' aAP ?e ?s ?r ?_);(case e=>walk_at"hp");(case s=>walk_at"sd");(case r=>walk_at"sd");intro v' hv')|((with_reducible refine' rd_ix3i ?e ?s ?r ?_);(case e=>walk_at"hp");(case s=>walk_at"sd");(case r=>walk_at"sd");intro v' hv')|((with_reducible refine' rd_setLm ?e ?l ?_);(case e=>walk_at"hp");(case l=>rfl);intro H' B' e')|((with_reducible refine' aAR ?e ?_);(case e=>walk_at"hp"))|((with_reducible refine' aAX ?e ?_);(case e=>walk_at"sz"))|((with_reducible refine' aBg ?e ?_);(case e=>walk_at"sz"))|((with_reducible refine' aDJ ?e ?_);(case e=>walk_at"sz");intro hl')|((with_reducible refine' rd_slI ?e ?_);(case e=>walk_at"hp");intro p' H' n' S' e')|((with_reducible refine' aCL ?e ?_);(case e=>walk_at"hp");intro p' H' n' S' e')|((with_reducible refine' yB ?e ?f ?s ?_);(case e=>walk_at"hp");(case f=>walk_at"hp");(case s=>walk_at"sz");intro p' H' n' S' e')|((with_reducible refine' rd_listOf ?e ?_);(case e=>walk_at"hp");intro p' H' n' S' e')|((with_reducible refine' aDh ?e ?_);(case e=>walk_at"hp"))|((with_reducible refine' FO ?e ?_);(case e=>walk_at"hp"))|((with_reducible refine' VB ?s ?r ?_);(case s=>walk_at"sd");(case r=>walk_at"sd"))|((with_reducible refine' TC ?s ?r ?t ?u ?_);(case s=>walk_at"sd");(case r=>walk_at"sd");(case t=>walk_at"sd");(case u=>walk_at"sd"))|((with_reducible refine' aDX ?s ?r ?_);(case s=>walk_at"sd");(case r=>walk_at"sd");intro hl')|((with_reducible refine' rd_gtupL ?e ?l ?_);(case e=>walk_at"hp");(case l=>rfl))|((with_reducible refine' aBH ?e ?l ?_);(case e=>walk_at"hp");(case l=>rfl))|((with_reducible refine' aDd ?s ?_);(case s=>walk_at"sd"))|((with_reducible refine' aDF ?s ?_);(case s=>walk_at"sd"))|((with_reducible refine' rd_ifnP ?s ?_);(case s=>walk_at"sd"))|((with_reducible refine' rd_ifnN ?s ?_);(case s=>walk_at"sd")))
local macro_rules| `(tactic| walk_at"go")=> `(tactic| repeat walk_at"rd1")
local macro_rules| `(tactic| walk_at"gs")=> `(tactic| repeat ((fail_if_success (with_reducible refine X8 ?_));walk_at"rd1"))
local macro_rules| `(tactic| walk_at"nn")=> `(tactic| repeat first|exact nn_nil|refine nn_app ?_ ?_|refine nn_cons (by omega) ?_|exact nn_map (λn=>by omega))
variable {H H' H1:Hp}{first part x y z:Str}{α β γ:Type}{f j l wd:Int}{dvs vs ws xs:List V}{v:V}{i n:Nat}{pp ps rz:List (Str×Int)}{ss:List Str}{kvs nk:List (Key×V)}{rows:List bA}{C' L LT:List Key->Int}{σ:St}{φ:Heap->Prop}{w:gd}{mg:Str->Option af}
section
variable {P:ef}{w:gd}{K:W.Frag}{mg:Str->Option af}{base:Heap}
def aDn:V->Bool
 | .int _=>true
 | _=>false
def AM (K:W.Frag):Sp:=λvs H Q _=>∃x n,vs=[x]/\BTy K H x n/\Q (.bl (aDn x)) H
theorem W6 {Q:VK}{E:XK}{i:Int}(h:Q (.bl true) H):AM K [.int i] H Q E:=⟨_,_,rfl,.int i,h⟩
theorem LY (m:M w K mg):aP P w K mg base CX0 1 m.u7 m.oY.d ["thing"] (AM K):=by
 refine m.oY.F.ok aGI (λvs H Q E h=> ?_) (λcdv A outer s H vs Q E hr h=> ?_)
 .walk_at"g1";obtain⟨x,n,rfl,b,k⟩:=h;walk_at"g2";rfl
 .walk_at"g1";obtain⟨x,n,rfl,b,k⟩:=h;walk_at"g2";have nd:=aGI.nd;walk_at"hu";refine⟨_,(aD (aM (JE (bH qG rfl m.bL bF (aA (pv 0) (aA (yM rfl m.aAh TB) aB))) (BX (BY (bH qG rfl m.bL bF (aA (pv 0) (aA (yM rfl m.aD9 aA4) aB)))))))),?_⟩;refine aG (σ:=[some (x)]) rfl ?_;walk_at"cx";refine⟨_,rfl,_,_,_,_,_,rfl,b.ty,rfl,C5 b "int" (.inl rfl),_,rfl,?_⟩;refine AW (λh1=>⟨_,rfl,_,_,_,_,_,rfl,b.ty,rfl,C5 b "bool" (.inr (.inl rfl)),_,rfl,?_⟩) (λh1=> ?_)
  .cases b<;>first|exact k|exact absurd h1 (by decide)
  .cases b<;>first|exact k|exact absurd (by decide) h1
theorem zQ (m:M w K mg):Fc P w K mg base "is_whole" 1 ["thing"] (AM K):=⟨_,_,m.RY,m.oY.F.kp,m.oY.b,LY m⟩
def nmB:V->Bool
 | .str z=>bM z
 | _=>false
def DN (K:W.Frag):Sp:=λvs H Q _=>∃x n,vs=[x]/\BTy K H x n/\(∀z,x= .str z->z.length<=1000)/\∀H',Same H H'->Q (.bl (nmB x)) H'
theorem aBc {Q:VK}{E:XK}(hz:bM z=true)(h:∀H',Same H H'->Q (.bl true) H'):DN K [.str z] H Q E :=
 ⟨_,_,rfl,.str z,λy e=>by cases e;exact bo (wF hz) (by decide),λH' s=>by rw[show nmB (.str z)=true from hz];exact h H' s⟩
theorem le1 (a c:Nat):(!decide ([c]<[a]))=decide (a<=c):=by
 have:([c]<[a])↔c<a:=by
  constructor
  .intro h;cases h with
   | rel h=>exact h
   | cons h=>cases h
  .exact λh=> .rel h
 by_cases h:c<a
 .rw[decide_eq_true (this.mpr h),decide_eq_false (by lia)];rfl
 .rw[decide_eq_false (λz=>h (this.mp z)),decide_eq_true (by lia)];rfl
theorem aEA:("a" :Str).cps.toList=[97]:=by decide +kernel
theorem aEu:("z" :Str).cps.toList=[122]:=by decide +kernel
theorem v8 (p:α->Bool)(d:α):∀l:List α,((fz l.length).map λi=>p (l.getD i d)).all id=l.all p
 | []=>rfl
 | a::l=>by
  rw[cv,pe,dm,lh,fk,lh,←v8 p d l];rfl
theorem lU {o:HO}(h:H p=none):Same H (upd H p o):=λb u e=>by rw[aJ (aO e h)];exact e
theorem P9 (m:M w K mg):aP P w K mg base CX0 1 m.xG m.rW.d ["thing"] (DN K):=by
 refine m.rW.F.ok aGM (λvs H Q E h=> ?_) (λcdv A outer s H vs Q E hr h=> ?_)
 .walk_at"g1";obtain⟨x,n,rfl,b,hz,k⟩:=h;walk_at"g2";rfl
 .walk_at"g1";obtain⟨x,n,rfl,b,hz,k⟩:=h;walk_at"g2";have nd:=aGM.nd;walk_at"hu";obtain⟨aHx,mB⟩:=m.mB;refine⟨_,(aC (a9 (eK (cA (bH qG rfl m.bL bF (aA (pv 0) (aA (yM rfl m.yU sZ) aB))))) (aD (aM xZ)) aQ)
   (aD (aM (JE (AV BZ BZ aF (bH FW rfl m.u3 p8 (aA (pv 0) aB)) (NC rfl mB)) (BX (bH (KF rfl) rfl m.aAl VS (aA (dA (N:=["sign"]) (nl:=1) (ci:=[]) rfl (blk (s.heap.objs.size+1) rfl rfl rfl (by kernel_rfl)) (UH (pv 0)) (λ_ _ _ _=>(aS (i:=0) (show (["sign"]:List Str).Nodup by decide +kernel) rfl (by walk_at"oi"))) (λ_ _ _ _=>dR) (λ_ _ _ _=>(AV BU BU aL (pv 0) aL))) aB))))))),?_⟩
  refine aG (σ:=[some (x)]) rfl ?_;walk_at"cx";refine⟨_,rfl,_,_,_,_,_,rfl,b.ty,rfl,C5 b "str" (.inr (.inr rfl)),_,rfl,?_⟩;refine AW (λh1=> ?_) (λh1=> ?_)
  .show Q (.bl false) H;cases b<;>first|exact k H (Same.refl H)|exact absurd h1 (by decide)
  .have hs:∃z,x= .str z:=by
    cases b<;>first|exact⟨_,rfl⟩|exact absurd (by decide) h1
   obtain⟨z,rfl⟩:=hs;have hl:=hz z rfl;have hl':z.length<=sizeLine:=kj (mY hl);refine⟨_,rfl,z,rfl,hl',_,_,rfl,rfl,_,rfl,?_⟩;refine AW (λh2=>⟨_,_,rfl,rfl,_,rfl,?_⟩) (λh2=>⟨_,rfl,?_⟩)
   .refine AW (λh3=> ?_) (λh3=> ?_)
    .refine⟨_,rfl,z,rfl,?_⟩;refine M4 z.cps.size (λi=> .bl (sgB (z.cps.toList.getD i 0))) hl' (λH'=>H'=H) rfl (λ_ _=>rfl) (λi _ hi _=>hi) ?_ ?_ ?_ ?_ ?_
     .rintro i _ x H' hi rfl hq_;walk_at"g1";obtain⟨rfl,c,hc,rfl⟩:=hq_;walk_at"g2";refine⟨⟨rfl,λj v hv=> ?_⟩,rfl,?_⟩
      .match j,hv with
       | 0,hv=>cases hv
       | j+1,hv=>cases hv
      .have hc':z.cps.toList.getD i 0=c:=by
        rw[cf,wu,hc];rfl
       refine⟨_,rfl,_,_,rfl,rfl,_,rfl,?_⟩;rw[aEA,hc'];refine AW (λh4=>⟨_,_,rfl,rfl,?_,rfl⟩) (λh4=>⟨?_,rfl⟩)
       .have h4':97<=c:=by rw[show (⟨#[c]⟩:Str).cps.toList=[c] from rfl,le1]at h4;exact of_decide_eq_true h4
        rw[aEu,show (⟨#[c]⟩:Str).cps.toList=[c] from rfl,le1];unfold sgB;rw[decide_eq_true h4',rf]
       .have h4':¬97<=c:=by rw[show (⟨#[c]⟩:Str).cps.toList=[c] from rfl,le1]at h4;exact λz=>h4 (decide_eq_true z)
        unfold sgB;rw[decide_eq_false h4',mh]
     .exact λ_ _ _ _ f q=>f _ _ q
     .rintro σ H Q Q' f hq_;walk_at"g1";obtain⟨v,e,i,j,e1,e2,k,e3,q⟩:=hq_;walk_at"g2";refine⟨v,e,i,j,e1,e2,k,e3,?_⟩;revert q
      split
      .rintro hq_;walk_at"g1";obtain⟨i,j,e1,e2,q⟩:=hq_;walk_at"g2";exact⟨i,j,e1,e2,f _ _ q⟩
      .exact λq=>f _ _ q
     .exact λ_ _ _ _ _ f q=>f _ _ q
     .rintro _ rfl p hp;refine⟨p,(fz z.cps.size).map (λi=>sgB (z.cps.toList.getD i 0)),rfl,SqL.of ?_,?_⟩
      .rw[aU,fk];rfl
      .have e:=v8 sgB 0 z.cps.toList;rw[fj]at e;rw[e];have e2:nmB (.str z)=z.cps.toList.all sgB:=by
        show bM z=_;unfold bM;rw[show decide (1<=(z.length:Int))=true from h2,show decide ((z.length:Int)<=8)=true from h3];rfl
       rw[←e2];exact k _ (lU hp)
    .have e2:nmB (.str z)=false:=by
      show bM z=_;unfold bM;rw[show decide ((z.length:Int)<=8)=false from by simpa using h3];simp
     have:=k H (Same.refl H);rw[e2]at this;exact this
   .have e2:nmB (.str z)=false:=by
     show bM z=_;unfold bM;rw[show decide (1<=(z.length:Int))=false from by simpa using h2];simp
    have:=k H (Same.refl H);rw[e2]at this;exact this
theorem uE (m:M w K mg):Fc P w K mg base "is_name" 1 ["thing"] (DN K):=⟨_,_,m.VU,m.rW.F.kp,m.rW.b,P9 m⟩
local macro_rules| `(tactic| walk_at"rd1")=> `(tactic| first|(with_reducible refine W6 ?_)|((with_reducible refine' aBc ?s ?_);(case s=>assumption);intro H' S'))
inductive kJ (K:W.Frag)(vs:List V)(H:Hp)(Q:VK)(E:XK):Prop
 | mk (part z:Str) (_:vs=[.str part,.str z]) (_:bM z=true) (_:∀H',Same H H'->Q .non H'):kJ K vs H Q E
theorem MA {Q:VK}{E:XK}(hz:bM z=true)(h:∀H',Same H H'->Q .non H'):kJ K [.str part,.str z] H Q E:=⟨_,_,rfl,hz,h⟩
theorem JP (m:M w K mg):aP P w K mg base CX0 2 m.mR m.dG.d ["part","thing"] (kJ K):=by
 refine m.dG.F.ok aFy ?_ ?_;walk_at"w0";walk_at"w1";obtain⟨part,z,rfl,hz,k⟩:=h;walk_at"g2";have nd:=aFy.nd;walk_at"hu";have aFK:= @uE P w K mg base m;refine⟨_,(aD (a9 (eK (cA (cG aFK hr (aA (pv 1) aB)))) (aD pI) aQ)),?_⟩;refine aG (σ:=[some (.str part),some (.str z)]) rfl ?_;walk_at"cx";walk_at"go";exact k _ (by walk_at"sm")
theorem JC (m:M w K mg):Fc P w K mg base "need_name" 2 ["part","thing"] (kJ K):=⟨_,_,m.zR,m.dG.F.kp,m.dG.b,JP m⟩
inductive iN (K:W.Frag)(vs:List V)(H:Hp)(Q:VK)(E:XK):Prop
 | mk (part:Str) (i l:Int) (_:vs=[.str part,.int i,.int l]) (_:l<=i) (_:Q .non H):iN K vs H Q E
theorem JJ {Q:VK}{E:XK}{i:Int}(hz:l<=i)(h:Q .non H):iN K [.str part,.int i,.int l] H Q E:=⟨_,_,_,rfl,hz,h⟩
theorem GI (m:M w K mg):aP P w K mg base CX0 2 m.lC m.c9.d ["part","thing","least"] (iN K):=by
 refine m.c9.F.ok aFv ?_ ?_;walk_at"w0";walk_at"w1";obtain⟨part,i,l,rfl,hz,k⟩:=h;walk_at"g2";have nd:=aFv.nd;walk_at"hu";have aGj:= @zQ P w K mg base m;refine⟨_,(aD (a9 (PW.pt (rJ (eK (cA (cG aGj hr (aA (pv 1) aB)))) (qC (aT fM (pv 1) (pv 2) (aX _))))) (aD pI) aQ)),?_⟩;refine aG (σ:=[some (.str part),some (.int i),some (.int l)]) rfl ?_;walk_at"cx";walk_at"go";exact k
theorem vK (m:M w K mg):Fc P w K mg base "need_whole" 2 ["part","thing","least"] (iN K):=⟨_,_,m.xI,m.c9.F.kp,m.c9.b,GI m⟩
local macro_rules| `(tactic| walk_at"rd1")=> `(tactic| first|((with_reducible refine' MA ?s ?_);(case s=>assumption);intro H' S')|((with_reducible refine' JJ ?s ?_);(case s=>walk_at"sd")))
abbrev wM (n s e w:V):List (Str×V):=cM "wide" w (cM "end" e (cM "start" s (cM "name" n [])))
def rE (e:V):Prop:=e= .non∨∃z,e= .str z/\bM z=true
inductive cS (K:W.Frag)(vs:List V)(H:Hp)(Q:VK)(E:XK):Prop
 | mk (p C dx:Addr) (n s:Str) (e:V) (wd:Int) (_:vs=[.ref p,.str n,.str s,e,.int wd]) (_:DCls K C) (_:H p=some (.ins C dx [])) (_:bM n=true) (_:bM s=true) (_:rE e) (_:0<=wd) (_:∀H',SameBut p H H'->H' p=some (.ins C dx (wM (.str n) (.str s) e (.int wd)))->Q .non H'):cS K vs H Q E
theorem sK {Q:VK}{E:XK}{n s:Str}{e:V}(dc:DCls K C)(hp:H p=some (.ins C dx []))(hn:bM n=true)(hs:bM s=true)(he:rE e)(hw:0<=wd)
  (k:∀H',SameBut p H H'->H' p=some (.ins C dx (wM (.str n) (.str s) e (.int wd)))->Q .non H'):cS K [.ref p,.str n,.str s,e,.int wd] H Q E:=⟨_,_,_,_,_,_,_,rfl,dc,hp,hn,hs,he,hw,k⟩
theorem iW (m:M w K mg):aP P w K mg base CX0 3 m.dZ m.dD ["self","name","start","end","wide"] (cS K):=by
 refine m.kS.ok aFq ?_ ?_;walk_at"w0";walk_at"w1";obtain⟨p,C,dx,n,st,e,wd,rfl,dc,hp,hn,hs,he,hw,k⟩:=h;walk_at"g2";have nd:=aFq.nd;walk_at"hu";have aF8:= @JC P w K mg base m;have aFz:= @vK P w K mg base m;refine⟨_,(aC (bQ (cG aF8 hr (aA aL (aA (pv 1) aB))))
  (aC (bQ (cG aF8 hr (aA aL (aA (pv 2) aB))))
  (aC (a9 (aT aBx (pv 3) qJ (aX _)) (aD (bQ (cG aF8 hr (aA aL (aA (pv 3) aB))))) aQ)
  (aC (bQ (cG aFz hr (aA aL (aA (pv 4) (aA aF aB)))))
  (aC (eQ (pv 0) (pv 1) rfl)
  (aC (eQ (pv 0) (pv 2) rfl)
  (aC (eQ (pv 0) (pv 3) rfl)
  (aD (eQ (pv 0) (pv 4) rfl))))))))),?_⟩
 refine aG (σ:=[some (.ref p),some (.str n),some (.str st),some (e),some (.int wd)]) rfl ?_;walk_at"cx";rcases he with rfl|⟨z,rfl,hz⟩
 .walk_at"go";exact k _ (by walk_at"sb") (by assumption)
 .walk_at"go";exact k _ (by walk_at"sb") (by assumption)
theorem UQ (m:M w K mg):Kc P w K mg base "Door" m.dY 3 [] (cS K):=⟨_,_,_,_,m.DF,m.E3,.nil,m.DE,iW m⟩
theorem F9 (m:M w K mg):Kc P w K mg base "Door" m.dY 3 [.non,.int 1] (cS K):=by
 obtain⟨ds,h1,h2⟩:=m.nM;exact⟨_,_,_,_,m.DF,m.E3,h1,h2,iW m⟩
theorem iK (m:M w K mg):DcD P w K mg base "Door" "__init__" 3 [.int 1] (cS K):=by
 obtain⟨ds,h1,h2⟩:=m.xH;exact⟨_,_,_,_,_,m.DF,m.jG.1,m.jG.2.1,m.jG.2.2,m.kS.kp,h1,h2,iW m⟩
theorem WK {Q:VK}{E:XK}{n s:Str}{e:V}(ev:vs++dvs=[.str n,.str s,e,.int wd])(dc:DCls K C)(hn:bM n=true)(hs:bM s=true)(he:rE e)(hw:0<=wd)
  (k:∀p dx H',H p=none->Same H H'->H' p=some (.ins C dx (wM (.str n) (.str s) e (.int wd)))->Q (.ref p) H'):t9 C (cS K) dvs E Q vs H :=
 WW (λp dx H0 Q' h k' s0=>by rw[ev];exact sK dc h hn hs he hw k') k
local macro_rules| `(tactic| walk_at"rd1")=> `(tactic| ((with_reducible refine' WK ?v ?d ?hn ?hs ?he ?hw ?_);(case v=>rfl);(case d=>assumption);(case hn=>assumption);(case hs=>assumption);(case he=>first|assumption|exact .inl rfl|exact .inr ⟨_,rfl,by assumption⟩);(case hw=>walk_at"sd");intro p' dx' H' n' S' e'))
inductive jJ (K:W.Frag)(vs:List V)(H:Hp)(Q:VK)(E:XK):Prop
 | mk (p C dx:Addr) (fs:List (Str×V)) (e:V) (_:vs=[.ref p]) (_:DCls K C) (_:H p=some (.ins C dx fs)) (_:fs.lookup ("end" :Str)=some e) (_:Q (.bl (decide (e= .non))) H):jJ K vs H Q E
theorem aAw {Q:VK}{E:XK}{fs:List (Str×V)}(hp:H p=some (.ins C dx fs))(dc:DCls K C)(l:fs.lookup ("end" :Str)=some .non)(k:Q (.bl true) H):jJ K [.ref p] H Q E:=⟨_,_,_,_,_,rfl,dc,hp,l,k⟩
theorem aBR {Q:VK}{E:XK}{fs:List (Str×V)}(hp:H p=some (.ins C dx fs))(dc:DCls K C)(l:fs.lookup ("end" :Str)=some (.str z))(k:Q (.bl false) H):jJ K [.ref p] H Q E :=
 ⟨_,_,_,_,_,rfl,dc,hp,l,by rw[decide_eq_false (λz=>by cases z)];exact k⟩
theorem rF (m:M w K mg):aP P w K mg base CX0 1 m.cI m.gQ.d ["self"] (jJ K):=by
 refine m.gQ.F.ok aF7 ?_ ?_;walk_at"w0";walk_at"w1";obtain⟨p,C,dx,fs,e,rfl,dc,hp,l,k⟩:=h;walk_at"g2";have nd:=aF7.nd;walk_at"hu";refine⟨_,(aD (aM (jQ JM (bO (pv 0) rfl) qJ (aX _)))),?_⟩;refine aG (σ:=[some (.ref p)]) rfl ?_;walk_at"cx";walk_at"go";exact k
theorem CJ (m:M w K mg):Mc P w K mg base m.dY "is_exit" 1 (jJ K):=⟨_,_,_,m.mG.ic.cl,m.C6,m.gQ.b,rF m⟩
theorem zT (m:M w K mg):Mc P w K mg base m.o9 "is_exit" 1 (jJ K):=⟨_,_,_,m.K6.ic.cl,m.A8,m.gQ.b,rF m⟩
local macro_rules| `(tactic| walk_at"rd1")=> `(tactic| first|((with_reducible refine' aAw ?e ?d ?l ?_);(case e=>walk_at"hp");(case d=>assumption);(case l=>walk_at"lk"))|((with_reducible refine' aBR ?e ?d ?l ?_);(case e=>walk_at"hp");(case d=>assumption);(case l=>walk_at"lk")))
inductive j2 (K:W.Frag)(vs:List V)(H:Hp)(Q:VK)(E:XK):Prop
 | mk (p C dx:Addr) (fs:List (Str×V)) (t wd:Int) (_:vs=[.ref p,.int t]) (_:DCls K C) (_:H p=some (.ins C dx fs)) (_:fs.lookup ("wide" :Str)=some (.int wd)) (_:Q (.int wd) H):j2 K vs H Q E
theorem LZ {Q:VK}{E:XK}{fs:List (Str×V)}{t:Int}(hp:H p=some (.ins C dx fs))(dc:DCls K C)(l:fs.lookup ("wide" :Str)=some (.int wd))(k:Q (.int wd) H):j2 K [.ref p,.int t] H Q E:=⟨_,_,_,_,_,_,rfl,dc,hp,l,k⟩
theorem KO (m:M w K mg):aP P w K mg base CX0 1 m.sR m.sO.d ["self","turn"] (j2 K):=by
 refine m.sO.F.ok aGz ?_ ?_;walk_at"w0";walk_at"w1";obtain⟨p,C,dx,fs,t,wd,rfl,dc,hp,l,k⟩:=h;walk_at"g2";have nd:=aGz.nd;walk_at"hu";refine⟨_,(aD (aM (bO (pv 0) rfl))),?_⟩;refine aG (σ:=[some (.ref p),some (.int t)]) rfl ?_;walk_at"cx";walk_at"go";exact k
theorem KA (m:M w K mg):Mc P w K mg base m.dY "lets" 1 (j2 K):=⟨_,_,_,m.mG.ic.cl,m.LA,m.sO.b,KO m⟩
local macro_rules| `(tactic| walk_at"rd1")=> `(tactic| ((with_reducible refine' sK ?d ?e ?hn ?hs ?he ?hw ?_);(case d=>assumption);(case e=>walk_at"hp");(case hn=>assumption);(case hs=>assumption);(case he=>assumption);(case hw=>walk_at"sd");intro H' B' e'))
abbrev aI:=Str×Str×V×(Int->Int)
def V9:HO->Prop
 | .lst _=>True
 | .dK _=>True
 | .dT _=>True
 | .tbl _=>True
 | .ins _ _ fs=>fs=[]
 | _=>False
structure aY where
 at':Hp->V->aI->Prop
 same:∀{H H' v d},at' H v d->Same H H'->at' H' v d
 but:∀{H H' v d p o},at' H v d->H p=some o->V9 o->SameBut p H H'->at' H' v d
def ZZ (P:ef)(w:gd)(K:W.Frag)(mg:Str->Option af)(base:Heap)(kL:Option Nat)(p C dx:Addr)(fs:List (Str×V))(fp:List (Addr×HO))(lt:Int->Int):Prop:=∀kl,kL=some kl →
 ∃sp,Mc P w K mg base C "lets" kl sp/\∀(H':Hp) (t:Int) (Q:VK),H' p=some (.ins C dx fs)->(∀x∈fp,H' x.1=some x.2)->0<=t->(∀H'',Same H' H''->Q (.int (lt t)) H'')->sp [.ref p,.int t] H' Q E0
inductive DoorAt (P:ef)(w:gd)(K:W.Frag)(mg:Str->Option af)(base:Heap)(kL:Option Nat)(H:Hp)(v:V)(d:aI):Prop
 | mk (p C dx:Addr) (fs:List (Str×V)) (fp:List (Addr×HO)) (_:v= .ref p) (_:H p=some (.ins C dx fs)) (_:DCls K C) (_:fs.lookup ("name" :Str)=some (.str d.1)) (_:fs.lookup ("start" :Str)=some (.str d.2.1)) (_:fs.lookup ("end" :Str)=some d.2.2.1) (_:fs.lookup ("is_exit" :Str)=none) (_:fs.lookup ("lets" :Str)=none) (_:Mc P w K mg base C "is_exit" 1 (jJ K)) (_:∀x∈fp,H x.1=some x.2/\¬V9 x.2) (_:ZZ P w K mg base kL p C dx fs fp d.2.2.2):DoorAt P w K mg base kL H v d
inductive Z4 (P:ef)(w:gd)(K:W.Frag)(mg:Str->Option af)(base:Heap)(kL:Option Nat)(H:Hp)(v:V)(n st:Str)(e:V)(lt:Int->Int):Prop
 | mk (p C dx:Addr) (fs:List (Str×V)) (fp:List (Addr×HO)) (_:v= .ref p) (_:H p=some (.ins C dx fs)) (_:DCls K C) (_:fs.lookup ("name" :Str)=some (.str n)) (_:fs.lookup ("start" :Str)=some (.str st)) (_:fs.lookup ("end" :Str)=some e) (_:fs.lookup ("is_exit" :Str)=none) (_:fs.lookup ("lets" :Str)=none) (_:Mc P w K mg base C "is_exit" 1 (jJ K)) (_:∀x∈fp,H x.1=some x.2/\¬V9 x.2) (_:ZZ P w K mg base kL p C dx fs fp lt):Z4 P w K mg base kL H v n st e lt
theorem DoorAt.ex {kL:Option Nat}{n st:Str}{e:V}{lt:Int->Int}(h:DoorAt P w K mg base kL H v (n,st,e,lt)):Z4 P w K mg base kL H v n st e lt:=by
 walk_at"g1";obtain⟨p,C,dx,fs,fp,h1,h2,h3,h4,h5,h6,h7,h8,h9,h10,h11⟩:=h;walk_at"g2";exact⟨p,C,dx,fs,fp,h1,h2,h3,h4,h5,h6,h7,h8,h9,h10,h11⟩
def aN (P:ef)(w:gd)(K:W.Frag)(mg:Str->Option af)(base:Heap)(kL:Option Nat):aY where
 at':=DoorAt P w K mg base kL
 same:=λ⟨p,C,dx,fs,fp,e,hp,dc,l1,l2,l3,l4,l5,mc,hf,lt⟩ s=>⟨p,C,dx,fs,fp,e,s _ _ hp,dc,l1,l2,l3,l4,l5,mc,λx hx=>⟨s _ _ (hf x hx).1,(hf x hx).2⟩,lt⟩
 but:=λ{H H' v d q o} ⟨p,C,dx,fs,fp,e,hp,dc,l1,l2,l3,l4,l5,mc,hf,lt⟩ ho so sb=>⟨p,C,dx,fs,fp,e,sb _ _ hp (λz=>by
   rw[z,ho]at hp;cases hp;have h:fs=[]:=so;rw[h]at l1;cases l1),dc,l1,l2,l3,l4,l5,mc,λx hx=>⟨sb _ _ (hf x hx).1 (λz=>by
   have h:=(hf x hx).1;rw[z,ho]at h;cases h;exact(hf x hx).2 so),(hf x hx).2⟩,lt⟩
local macro_rules| `(tactic| walk_at"rd1")=> `(tactic| first|(with_reducible refine aAz ?_)|(with_reducible refine aAv ?_)|(with_reducible refine aDy ?_)|(with_reducible refine VR ?_)|(with_reducible refine U6 ?_)|(with_reducible refine rd_iItemsK ?_)|(with_reducible refine rd_iItemsT ?_)|(with_reducible refine WA ?_)|((with_reducible refine XI ?_);intro p' H' n' S' e')|((with_reducible refine V8 ?_);intro p' H' n' S' e'))
theorem v9 {Q:VK}{l:Addr}{y:V}(e:H l=some (.lst xs))(hz:xs.length<sizeLine)(h:∀H',SameBut l H H'->H' l=some (.lst (xs++[y]))->Q .non H'):NL (.ref l) [y] H Q :=
 ⟨l,xs,y,rfl,rfl,e,hz,h _ SameBut.upd aU⟩
theorem tQ {α:Type}{ss:List α}(nd:ss.Nodup){z:α}(hz:ss[i]? =some z):z∉ss.take i:=λh=>by
 obtain⟨hi,e⟩:=ay.mp hz;obtain⟨j,hj,ej⟩:=sg h;rw[fm]at hj;rw[List.getElem_take]at ej;exact(List.pairwise_iff_getElem.mp nd) j i (by lia) hi (by lia) (ej.trans e.symm)
theorem cD {α:Type}{ss:List α}{z:α}(hz:ss[i]? =some z):ss.take (i+1)=ss.take i++[z]:=by rw[List.take_succ,hz];rfl
def mW (rs:List Str)(d:aI):Prop:=d.2.1∈rs/\(d.2.2.1= .non∨∃z,d.2.2.1= .str z/\z∈rs)
def cH (H:Hp)(v:V)(p:Str×Int):Prop:=∃q,v= .ref q/\H q=some (.tup [.str p.1,.int p.2])
theorem nF (h:cg (cH H) vs ps)(s:Same H H'):cg (cH H') vs ps:=Paired.imp' (λv z ⟨q,e,h⟩=>⟨q,e,s _ _ h⟩) h
inductive tU (K:W.Frag)(vs:List V)(H:Hp)(Q:VK)(E:XK):Prop
 | mk (a b:Addr) (ss:List Str) (kvs:List (Key×V)) (_:vs=[.ref a,.ref b]) (_:SqL K H a (ss.map V.str)) (_:Rd H b (.dK kvs)) (_:(∀z∈ss,(aZ kvs (.inr z)).isSome=true)) (_:∀H',Same H H'->Q .non H'):tU K vs H Q E
theorem aBn {Q:VK}{E:XK}(hS:SqL K H a (ss.map V.str))(hb:Rd H b (.dK kvs))(hk:∀z∈ss,(aZ kvs (.inr z)).isSome=true)(h:∀H',Same H H'->Q .non H'):tU K [.ref a,.ref b] H Q E:=⟨_,_,_,_,rfl,hS,hb,hk,h⟩
theorem MT {u:HO}(s:Same H H')(r:Rd H a u):Rd H' a u:=r.elim (λe=> .inl (s _ _ e)) λ⟨o,e⟩=> .inr ⟨o,s _ _ e⟩
theorem GW (m:M w K mg):aP P w K mg base CX0 1 m.lD m.c8.d ["names","sizes"] (tU K):=by
 refine m.c8.F.ok aFu ?_ ?_;walk_at"w0";walk_at"w1";obtain⟨a,b,ss,kvs,rfl,hS,hb,hk,k⟩:=h;walk_at"g2";have nd:=aFu.nd;walk_at"hu";refine⟨_,(aD (dS gy rfl (b0 (pv 0)) (aS (i:=2) nd rfl (by walk_at"oi")) (aD (a9 (wX (qZ hu1 (pv 2) (pv 1)) (by with_unfolding_all rfl)) (aD pI) aQ)))),?_⟩;refine aG (σ:=[some (.ref a),some (.ref b),none]) rfl ?_;walk_at"cx";walk_at"go";let Pv1:Nat->St->Hp->Prop:=λi σ' H'=>Same H H'/\∃x,σ'=[some (.ref a),some (.ref b),x];refine eU (ss.map V.str) Pv1 ⟨Same.refl _,_,rfl⟩ (λi σ' H' _ q=>q.1.seq hS) ?_ ?_
 .rintro i x _ H' hx ⟨s1,y,rfl⟩;rw[dk]at hx;obtain⟨z,hz,rfl⟩:=gb.mp hx;have hz':=hk z (bz hz);walk_at"go";refine oS (MT s1 hb) ?_;rw[hz'];walk_at"go";exact⟨s1,_,rfl⟩
 .rintro _ H' ⟨s1,y,rfl⟩;exact k _ s1
theorem GH (m:M w K mg):Fc P w K mg base "need_rooms" 1 ["names","sizes"] (tU K):=⟨_,_,m.xQ,m.c8.F.kp,m.c8.b,GW m⟩
theorem XT {Q:VK}{i:Int}(h:Q (.int (i+j)) H):aC1 (.int i) (.int j) H Q:=by
 first|exact h|exact⟨_,_,rfl,rfl,h⟩|exact .inl ⟨_,_,rfl,rfl,h⟩
theorem JS {c:Addr}(h:SqL K H c xs)(hp:H p=some (.dK kvs))(sb:SameBut p H H'):SqL K H' c xs:=by
 rcases h with (h|⟨o,h⟩)|h
 .exact .inl (.inl (sb _ _ h λz=>by rw[z,hp]at h;cases h))
 .exact .inl (.inr ⟨o,sb _ _ h λz=>by rw[z,hp]at h;cases h⟩)
 .exact .inr h
def szK (rz:List (Str×Int)):List (Key×V):=rz.map λe=>((.inr e.1:Key),V.int e.2)
theorem NJ (rz:List (Str×Int)):(szK rz).map (·.1)=(rz.map (·.1)).map (mm:Str->Key):=by unfold szK;rw[fk,fk];rfl
theorem FR {rs:List Str}(nd:rs.Nodup):(rs.map (mm:Str->Key)).Nodup:=by
 rw[List.Nodup,um];exact List.Pairwise.imp (λh z=>h (kg z)) nd
theorem zX (nd:(rz.map (·.1)).Nodup):((szK rz).map (·.1)).Nodup:=by rw[NJ];exact FR nd
theorem EA (nd:(rz.map (·.1)).Nodup){e:Str×Int}(h:e∈rz):aZ (szK rz) (.inr e.1)=some (.int e.2) :=
 lW (e:=((.inr e.1:Key),V.int e.2)) (zX nd) (bg.mpr ⟨e,h,rfl⟩)
theorem KQ (nd:(rz.map (·.1)).Nodup)(h:z∈rz.map (·.1)):∃i,(z,i)∈rz/\aZ (szK rz) (.inr z)=some (.int i):=by
 obtain⟨e,he,rfl⟩:=bg.mp h;exact⟨e.2,he,EA nd he⟩
theorem mU {k:Key}(h:∀e∈kvs,e.1≠k):aZ kvs k=none:=by
 induction kvs with
 | nil=>rfl
 | cons a l ih =>
  rw[cR (h a (.head _))];exact ih λe he=>h e (bx _ he)
theorem GD:∀(ps kvs:List (Key×V)),(ps.map (·.1)).Nodup->(∀e∈kvs,∀q∈ps,e.1≠q.1)->j5 kvs ps=kvs++ps
 | [],kvs,_,_=>(gw _).symm
 | (k,v)::ps,kvs,nd,h=>by
  have nd':=List.pairwise_cons.mp nd;show j5 (cF kvs k v) ps=_;rw[pY v (mU λe he=>h e he _ (.head _)),GD ps _ nd'.2,me]
  .rfl
  .intro e he q hq;rcases fc.mp he with he|he
   .exact h e he q (bx _ hq)
   .cases bj.mp he;exact nd'.1 q.1 (bg.mpr ⟨q,hq,rfl⟩)
theorem YK (nd:(rz.map (·.1)).Nodup):j5 [] (szK rz)=szK rz:=by
 rw[GD _ _ (zX nd) (λe he=>absurd he (cz))];rfl
theorem OM:∀(o:Obj) (x:HO),HO.dK kvs≠ .frz o x:=λ_ _ z=>by cases z
def w5 (rz:List (Str×Int))(ps:List (Str×Int))(kvs:List (Key×V)):Prop:=∀z∈rz.map (·.1),aZ kvs (.inr z)=some (.int (dF ps z))
inductive uO (K:W.Frag)(vs:List V)(H:Hp)(Q:VK)(E:XK):Prop
 | mk (a b:Addr) (rz:List (Str×Int)) (ws:List V) (ps:List (Str×Int)) (_:vs=[.ref a,.ref b]) (_:H a=some (.dK (szK rz))) (_:SqL K H b ws) (_:cg (cH H) ws ps) (_:(∀p∈ps,p.1∈rz.map (·.1))) (_:(rz.map (·.1)).Nodup) (_:rz.length<=100) (_:∀p H' kvs,H p=none->Same H H'->H' p=some (.dK kvs)->kvs.map (·.1)=(szK rz).map (·.1)->w5 rz ps kvs->Q (.ref p) H'):uO K vs H Q E
theorem NV {Q:VK}{E:XK}(ha:H a=some (.dK (szK rz)))(hb:SqL K H b ws)(hw:cg (cH H) ws ps)(hwr:∀p∈ps,p.1∈rz.map (·.1))(nd:(rz.map (·.1)).Nodup)(hl:rz.length<=100)(h:∀p H' kvs,H p=none->Same H H'->H' p=some (.dK kvs)->kvs.map (·.1)=(szK rz).map (·.1)->w5 rz ps kvs->Q (.ref p) H'):uO K [.ref a,.ref b] H Q E:=⟨_,_,_,_,_,rfl,ha,hb,hw,hwr,nd,hl,h⟩
theorem WD {k:Key}(h:(aZ kvs k).isSome=true):(cF kvs k v).map (·.1)=kvs.map (·.1):=by
 unfold cF;rw[iU,if_pos h,fk]
 apply se
 intro x _;show (if x.1=k then (x.1,v) else x).1=x.1
 split<;>rfl
theorem BJ (m:M w K mg):aP P w K mg base CX0 1 m.mJ m.gO.d ["sizes","people"] (uO K):=by
 refine m.gO.F.ok aF2 ?_ ?_;walk_at"w0";walk_at"w1";obtain⟨a,b,rz,ws,ps,rfl,ha,hb,hw,hwr,ndz,hlen,k⟩:=h;walk_at"g2";have nd:=aF2.nd;walk_at"hu";refine⟨_,(aC (bD (i:=2) nd rfl (by walk_at"oi") AL)
  (aC (aAA (dS gy rfl (AN (pv 0)) (aS (i:=3) nd rfl (by walk_at"oi")) (aD (jR hu1 (pv 2) (pv 3) aF rfl))))
  (aC (dS gy rfl (b0 (pv 1)) (tF (n:=2) rfl (bK (aS (i:=3) nd rfl (by walk_at"oi")) (bK (aS (i:=4) nd rfl (by walk_at"oi")) dI))) (aD (aBj hu1 (pv 2) (pv 3) (pv 4) aCf (λ_ _ _=>rfl))))
  (aD (aM (pv 2)))))),?_⟩
 refine aG (σ:=[some (.ref a),some (.ref b),none,none,none]) rfl ?_;walk_at"cx";walk_at"go";rename_i p H1 n1 S1 e1;have hap:a≠p:=λz=>by rw[z,n1]at ha;cases ha
 have ha1:=S1 _ _ ha;have hl2:(szK rz).length=rz.length:=by unfold szK;rw[ao]
 refine WB ha1 OM ?_;walk_at"go";refine zV ha1 λo H2 B2 e2=> ?_;have ep2:H2 p=some (.dK []):=B2 _ _ e1 (dg hap);have hwl:ws.length=ps.length:=cj hw;let Pv1:Nat->St->Hp->Prop:=λi σ' H'=>SameBut p H2 H'/\H' p=some (.dK ((rz.take i).map λe=>((.inr e.1:Key),V.int 0)))/\∃x,σ'=[some (.ref a),some (.ref b),some (.ref p),x,none];refine WV (szK rz) Pv1 ⟨SameBut.refl,ep2,_,rfl⟩ (λi σ' H' q=>q.1 _ _ e2 hap) ?_ ?_
 .rintro i kk v _ H' hx hq_;walk_at"g1";obtain⟨sb,ek,y,rfl⟩:=hq_;walk_at"g2";unfold szK at hx;rw[dk]at hx;walk_at"g1";obtain⟨⟨z,sz⟩,hz,ez⟩:=gb.mp hx;walk_at"g2";cases ez;have hi:i<rz.length:=(ay.mp hz).1;have hnone:aZ ((rz.take i).map λe=>((.inr e.1:Key),V.int 0)) (.inr z)=none:=mU λe he=>by
   obtain⟨d,hd,rfl⟩:=bg.mp he;intro zz;have hn:z∉(rz.map (·.1)).take i:=tQ ndz (by rw[dk,hz];rfl)
   apply hn
   rw[←List.map_take];exact bg.mpr ⟨d,hd,kg zz⟩
  show (_:TG) (.str z) _ _ _;walk_at"go";refine z8 ek (by rw[bq,ao,fm];lia) λH9 B9 e9=> ?_;refine⟨by walk_at"sb",?_,_,rfl⟩;rw[e9,pY _ hnone,cD hz,du];rfl
 .rintro _ H' hq_;walk_at"g1";obtain⟨sb,ek,y,rfl⟩:=hq_;walk_at"g2";rw[hl2,fg]at ek;refine rL (sb _ _ e2 hap) λH3 B3 e3=> ?_;have ep3:=B3 _ _ ek (dg hap);have sH:Same H H3:=λx u hx=>by
   by_cases ex:x=a
   .subst ex;rw[ha]at hx;cases hx;exact e3
   .have hxp:x≠p:=λz=>by rw[z,n1]at hx;cases hx
    exact B3 _ _ (sb _ _ (B2 _ _ (S1 _ _ hx) ex) hxp) ex
  have hb3:=sH.seq hb;have hw3:=nF hw sH;have hnb:∀{H':Hp}{v:V}{r:Str×Int},SameBut p H3 H'->cH H3 v r->cH H' v r:=λsb ⟨q,e,hq⟩=>⟨q,e,sb _ _ hq λz=>by rw[z,ep3]at hq;cases hq⟩
  walk_at"go";let Pv2:Nat->St->Hp->Prop:=λi σ' H'=>SameBut p H3 H'/\(∃kvs,H' p=some (.dK kvs)/\kvs.map (·.1)=(szK rz).map (·.1)/\w5 rz (ps.take i) kvs)/\∃x y,σ'=[some (.ref a),some (.ref b),some (.ref p),x,y];refine eU ws Pv2 ⟨SameBut.refl,⟨_,ep3,?_,?_⟩,_,_,rfl⟩ (λi σ' H' _ q=>JS hb3 ep3 q.1) ?_ ?_
  .unfold szK;rw[fk,fk];rfl
  .intro z hz;obtain⟨e,he,rfl⟩:=bg.mp hz;exact lW (e:=((.inr e.1:Key),V.int 0)) (by rw[show (rz.map λe=>((.inr e.1:Key),V.int 0)).map (·.1)=(szK rz).map (·.1) from by unfold szK;rw[fk,fk];rfl];exact zX ndz) (bg.mpr ⟨e,he,rfl⟩)
  .rintro i x _ H' hx hq_;walk_at"g1";obtain⟨sb',⟨kvs,ek',hkk,hin⟩,x1,x2,rfl⟩:=hq_;walk_at"g2";have hi:i<ws.length:=(ay.mp hx).1;obtain⟨⟨z,nn⟩,hpx⟩:∃d,ps[i]? =some d:=⟨_,aq (by lia)⟩
   obtain⟨q,rfl,hq⟩:=Paired.at2 hw3 hx hpx;have hq':H' q=some (.tup [.str z,.int nn]):=sb' _ _ hq λzz=>by rw[zz,ep3]at hq;cases hq
   have hzr:z∈rz.map (·.1):=hwr _ (bz hpx);have hkl:kvs.length=rz.length:=by rw[←ao (f:=λe:Key×V=>e.1),hkk,ao,hl2]
   walk_at"go";refine aBG ?_;walk_at"go";refine XG (.inl ek') (hin z hzr) ?_;walk_at"go";refine XT ?_;refine aBT ek' (by rw[bq];lia) λH9 B9 e9=> ?_;refine⟨by walk_at"sb",⟨_,e9,?_,λy hy=> ?_⟩,_,_,rfl⟩
   .rw[WD (by rw[hin z hzr];rfl)];exact hkk
   .rw[lM,cD hpx,wP]
    by_cases e:(mm y:Key)= .inr z
    .cases e;rw[if_pos rfl,if_pos rfl]
    .rw[if_neg e,if_neg (λzz=>e (by rw[show z=y from zz])),yq];exact hin y hy
  .rintro _ H' hq_;walk_at"g1";obtain⟨sb',⟨kvs,ek',hkk,hin⟩,x1,x2,rfl⟩:=hq_;walk_at"g2";rw[hwl,fg]at hin;walk_at"go";exact k _ _ _ n1 (SameBut.same n1 (λx u hx=>sH x u hx) sb') ek' hkk hin
theorem rG (m:M w K mg):Fc P w K mg base "added_people" 1 ["sizes","people"] (uO K):=⟨_,_,m.E7,m.gO.F.kp,m.gO.b,BJ m⟩
def pH (rz ps:List (Str×Int)):Prop:=(∀p∈ps,0<=p.2)/\∀e∈rz,dF ps e.1<=e.2
def RoomsAt (H:Hp)(vs:List V)(rz:List (Str×Int)):Prop:=cg (cH H) vs rz
theorem RoomsAt.sm {rs:List (Str×Int)}(h:RoomsAt H vs rs)(s:Same H H'):RoomsAt H' vs rs:=Paired.imp' (λv z ⟨q,e,h⟩=>⟨q,e,s _ _ h⟩) h
theorem zM:∀{vs:List V}{rs:List (Str×Int)},RoomsAt H vs rs->HY H vs (szK rs)
 | _,_,.nil=> .nil
 | _,_,.cons h t=> .cons h (zM t)
theorem lR {D:aY}{us:List V}{ds:List aI}(h:cg (D.at' H) us ds)(s:Same H H'):cg (D.at' H') us ds:=Paired.imp' (λv d h=>D.same h s) h
abbrev EX (f l:Int)(qs qp qd:Addr):List (Str×V):=cM "named_doors" (.ref qd) (cM "people" (.ref qp) (cM "sizes" (.ref qs) (cM "last" (.int l) (cM "first" (.int f) []))))
def oX (D:aY)(H:Hp)(nk:List (Key×V))(ds:List aI):Prop:=cg (λe d=>e.1= .inr d.1/\D.at' H e.2 d) nk ds
theorem WH {D:aY}{ds:List aI}(h:oX D H nk ds)(s:Same H H'):oX D H' nk ds:=Paired.imp' (λe d h=>⟨h.1,D.same h.2 s⟩) h
structure aW (C:Addr)(D:aY)(H:Hp)(h:Addr)(f l:Int)(rz ps:List (Str×Int))(ds:List aI):Prop where
 ex:∃dx qs qp qd nk kvs,H h=some (.ins C dx (EX f l qs qp qd))/\H qs=some (.dK (szK rz))/\H qp=some (.dK kvs)/\kvs.map (·.1)=(szK rz).map (·.1)/\w5 rz ps kvs/\H qd=some (.dK nk)/\oX D H nk ds
theorem bU {D:aY}{h:Addr}{ds:List aI}(x:aW C D H h f l rz ps ds)(s:Same H H'):aW C D H' h f l rz ps ds:=by
 walk_at"g1";obtain⟨dx,qs,qp,qd,nk,kvs,e1,e2,e3,e4,e5,e6,e7⟩:=x.ex;walk_at"g2";exact⟨dx,qs,qp,qd,nk,kvs,s _ _ e1,s _ _ e2,s _ _ e3,e4,e5,s _ _ e6,WH e7 s⟩
theorem NZ {c:Addr}{fs:List (Str×V)}(h:SqL K H c xs)(hp:H p=some (.ins C dx fs))(sb:SameBut p H H'):SqL K H' c xs:=by
 rcases h with (h|⟨o,h⟩)|h
 .exact .inl (.inl (sb _ _ h λz=>by rw[z,hp]at h;cases h))
 .exact .inl (.inr ⟨o,sb _ _ h λz=>by rw[z,hp]at h;cases h⟩)
 .exact .inr h
theorem yW (m:M w K mg):aP P w K mg base CX0 1 m.jF m.jE.d ["self","name"] (spX K m.b5 "name"):=by
 refine m.jE.F.ok aFO (λvs H Q E h=> ?_) (λcdv A outer s H vs Q E hr h=> ?_)
 .walk_at"g1";obtain⟨e,y,fv,rfl,he,xf,na,k⟩:=h;walk_at"g2";rfl
 .walk_at"g1";obtain⟨e,y,fv,rfl,he,xf,na,k⟩:=h;walk_at"g2";have nd:=aFO.nd;walk_at"hu";refine⟨_,(aD (EG (pv 0) (pv 1) rfl)),?_⟩;refine aG (σ:=[some (.ref e),some (y)]) rfl ?_;walk_at"cx";refine ET rfl rfl he xf na λdx n1 n2=> ?_;exact k dx n1 n2
theorem WY (m:M w K mg):XcE P w K mg base "Twice" m.b5 "name" :=⟨_,_,_,m.yT,m.Y5,m.BB,m.LK,m.jE.b,yW m⟩
theorem wE (m:M w K mg):aP P w K mg base CX0 1 m.iD m.hV.d ["self","name"] (spX K m.bN "name"):=by
 refine m.hV.F.ok aFI (λvs H Q E h=> ?_) (λcdv A outer s H vs Q E hr h=> ?_)
 .walk_at"g1";obtain⟨e,y,fv,rfl,he,xf,na,k⟩:=h;walk_at"g2";rfl
 .walk_at"g1";obtain⟨e,y,fv,rfl,he,xf,na,k⟩:=h;walk_at"g2";have nd:=aFI.nd;walk_at"hu";refine⟨_,(aD (EG (pv 0) (pv 1) rfl)),?_⟩;refine aG (σ:=[some (.ref e),some (y)]) rfl ?_;walk_at"cx";refine ET rfl rfl he xf na λdx n1 n2=> ?_;exact k dx n1 n2
theorem VL (m:M w K mg):XcE P w K mg base "NoRoom" m.bN "name" :=⟨_,_,_,m.A9,m.VY,m.xT,m.GG,m.hV.b,wE m⟩
def Refd (C:Addr)(z:Str)(H:Hp)(E:XK):Prop:=∀H' dx,Same H H'->H' dx=some (.xd [("name",.str z)])->E (.ref C) (some dx) H'
theorem Refd.sm {E:XK}(x:Refd C z H E)(s:Same H H1):Refd C z H1 E:=λH2 dx s2 e=>x H2 dx (s.trans s2) e
theorem Refd.go {E:XK}(x:Refd C z H E)(s:Same H H1)(dx:Addr)(n:H1 dx=none):E (.ref C) (some dx) (upd H1 dx (.xd [("name",.str z)])):=x _ _ (s.trans λb o e=>by rw[aJ (aO e n)];exact e) aU
def Ref0 (C:Addr)(H:Hp)(E:XK):Prop:=∀H',Same H H'->E (.ref C) none H'
theorem Ref0.sm {E:XK}(x:Ref0 C H E)(s:Same H H1):Ref0 C H1 E:=λH2 s2=>x H2 (s.trans s2)
theorem jM {E:XK}(k:Ref0 C H E)(s:Same H H1):[V.str x].length<=sizeLine/\E (.ref C) none H1:=⟨by rw[bq];show 1<=_;lia,k _ s⟩
local macro_rules| `(tactic| walk_at"rd1")=> `(tactic| (with_reducible refine YB ?_))
inductive rT (C:Addr)(vs:List V)(H:Hp)(Q:VK)(E:XK):Prop
 | mk (f l:Int) (_:vs=[.int f,.int l]) (_:(0<=f->f<=l->Q .non H)) (_:(f<0∨l<f->Ref0 C H E)):rT C vs H Q E
theorem XB {Q:VK}{E:XK}(h0:0<=f->f<=l->Q .non H)(h1:f<0∨l<f->Ref0 C H E):rT C [.int f,.int l] H Q E:=⟨_,_,rfl,h0,h1⟩
theorem GV (m:M w K mg):aP P w K mg base (CXE P w) 3 m.qR m.k7.d ["first","last"] (rT m.bZ):=by
 refine m.k7.F.okE aGq ?_ ?_;walk_at"w0";walk_at"w1";obtain⟨f,l,rfl,h0,h1⟩:=h;walk_at"g2";have nd:=aGq.nd;walk_at"hu";refine⟨_,(aC (a9 (aT fM (pv 0) aF (aX _)) (aD (cX m.vC m.BF eS (aA aL aB))) aQ)
  (aD (a9 (aT fM (pv 1) (pv 0) (aX _)) (aD (cX m.vC m.BF eS (aA aL aB))) aQ))),?_⟩
 refine aG (σ:=[some (.int f),some (.int l)]) rfl ?_;walk_at"cx";walk_at"gs";refine NI (λσ' G=>H=G/\0<=f/\σ'=[some (.int f),some (.int l)]) ?_ ?_
 rotate_left
 .intro nx' hnx;walk_at"go";refine kC (λhc=> ?_) (λhc=> ?_)
  .walk_at"go";exact jM (h1 (.inl hc)) (Same.refl _)
  .walk_at"go";exact hnx _ _ ⟨rfl,by lia,rfl⟩
 rintro _ _ ⟨rfl,hf,rfl⟩;walk_at"go";refine kC (λhc=> ?_) (λhc=> ?_)
 .walk_at"go";exact jM (h1 (.inr hc)) (Same.refl _)
 .walk_at"go";exact h0 hf (by lia)
theorem GR (m:M w K mg):FcE P w K mg base "need_turns" 3 ["first","last"] (rT m.bZ):=⟨_,_,m.LD,m.k7.F.kp,m.k7.b,GV m⟩
def Dup (ss:List Str)(z:Str):Prop:=∃i,ss[i]? =some z/\z∈ss.take i/\(ss.take i).Nodup
inductive t8 (K:W.Frag)(C:Addr)(vs:List V)(H:Hp)(Q:VK)(E:XK):Prop
 | mk (a:Addr) (ss:List Str) (_:vs=[.ref a]) (_:SqL K H a (ss.map V.str)) (_:ss.length<=100) (_:(ss.Nodup->∀H',Same H H'->Q .non H')) (_:∀z,Dup ss z->Refd C z H E):t8 K C vs H Q E
theorem M5 {Q:VK}{E:XK}(hS:SqL K H a (ss.map V.str))(hl:ss.length<=100)(h:ss.Nodup->∀H',Same H H'->Q .non H')(hd:∀z,Dup ss z->Refd C z H E):t8 K C [.ref a] H Q E:=⟨_,_,rfl,hS,hl,h,hd⟩
theorem RS (hz:ss[i]? =some z)(nd:(ss.take i).Nodup)(hn:z∉ss.take i):(ss.take (i+1)).Nodup:=by
 rw[cD hz,List.nodup_append];refine⟨nd,vj _ _,λa ha b hb e=> ?_⟩;cases bj.mp hb;rw[e]at ha;exact hn ha
theorem yX (m:M w K mg):aP P w K mg base (CXE P w) 4 m.jC m.fE.d ["names"] (t8 K m.b5):=by
 refine m.fE.F.okE aFM ?_ ?_;walk_at"w0";walk_at"w1";obtain⟨a,ss,rfl,hS,hlen,h0,hd⟩:=h;walk_at"g2";have nd:=aFM.nd;walk_at"hu";have X_Twice:=WY (P:=P) (w:=w) (base:=base) m;refine⟨_,(aC (bD (i:=1) nd rfl (by walk_at"oi") AL)
  (aD (dS yD rfl (b0 (pv 0)) (aS (i:=2) nd rfl (by walk_at"oi")) (aC (a9 (wX (aCh hu1 (pv 2) (pv 1)) (by with_unfolding_all rfl)) (aD (rQ X_Twice hr CK (pv 2) rfl)) aQ)
  (aD (jR hu1 (pv 1) (pv 2) xZ rfl)))))),?_⟩
 refine aG (σ:=[some (.ref a),none,none]) rfl ?_;walk_at"cx";walk_at"go";rename_i p H1 n1 S1 e1;let Pv1:Nat->St->Hp->Prop:=λi σ' H'=>SameBut p H1 H'/\(ss.take i).Nodup/\∃kvs,H' p=some (.dK kvs)/\kvs.length<=i/\(∀z,(aZ kvs (.inr z)).isSome=true↔z∈ss.take i)/\∃x,σ'=[some (.ref a),some (.ref p),x];refine eU (ss.map V.str) Pv1 ⟨SameBut.refl,.nil,[],e1,ar _,(λz=>⟨λh=>(by cases h),λh=>nomatch h⟩),_,rfl⟩ (λi σ' H' _ q=>(SameBut.same n1 S1 q.1).seq hS) ?_ ?_
 .rintro i x _ H' hx hq_;walk_at"g1";obtain⟨sb,ndi,kvs,ek,hk,hin,y,rfl⟩:=hq_;walk_at"g2";rw[dk]at hx;obtain⟨z,hz,rfl⟩:=gb.mp hx;have hi:i<ss.length:=(ay.mp hz).1;walk_at"go";refine aBa (.inl ek) ?_
  by_cases hm:z∈ss.take i
  .rw[(hin z).mpr hm];walk_at"go";refine rS ?_;walk_at"go";exact(hd z ⟨i,hz,hm,ndi⟩).go (SameBut.same n1 S1 sb)
  .have hno:(aZ kvs (.inr z)).isSome=false:=by
    cases e:(aZ kvs (.inr z)).isSome with
    | false=>rfl
    | true=>exact absurd ((hin z).mp e) hm
   rw[hno];walk_at"go";refine z8 ek (by rw[bq];lia) λH9 B9 e9=> ?_;refine⟨by walk_at"sb",RS hz ndi hm,_,e9,bo (fI _ _ _) (by lia),λy=> ?_,_,rfl⟩;rw[lM,cD hz,fc]
   by_cases e:(mm y:Key)= .inr z
   .cases e;rw[if_pos rfl];exact⟨λ_=> .inr (.head _),λ_=>rfl⟩
   .rw[if_neg e,hin y];exact⟨.inl,λh=>h.elim id λh=>absurd (by rw[bj.mp h]) e⟩
 .rintro _ H' hq_;walk_at"g1";obtain⟨sb,ndi,kvs,ek,hk,hin,y,rfl⟩:=hq_;walk_at"g2";rw[ao,fg]at ndi;exact h0 ndi _ (SameBut.same n1 S1 sb)
theorem yV (m:M w K mg):FcE P w K mg base "need_each_once" 4 ["names"] (t8 K m.b5):=⟨_,_,m.BA,m.fE.F.kp,m.fE.b,yX m⟩
def aCd:V->List Str
 | .str z=>[z]
 | _=>[]
def qV (d:aI):List Str:=d.2.1::aCd d.2.2.1
def dJ (ds:List aI)(ps:List (Str×Int)):List Str:=(ds.map qV).flatten++ps.map (·.1)
def JT (d:aI):Prop:=d.2.2.1= .non∨∃z,d.2.2.1= .str z
inductive oV (K:W.Frag)(D:aY)(vs:List V)(H:Hp)(Q:VK)(E:XK):Prop
 | mk (a b:Addr) (us:List V) (ds:List aI) (ws:List V) (ps:List (Str×Int)) (_:vs=[.ref a,.ref b]) (_:SqL K H a us) (_:cg (D.at' H) us ds) (_:(∀d∈ds,JT d)) (_:ds.length<=20) (_:SqL K H b ws) (_:cg (cH H) ws ps) (_:ps.length<=40) (_:∀p H',Same H H'->H' p=some (.lst ((dJ ds ps).map V.str))->Q (.ref p) H'):oV K D vs H Q E
theorem VQ {D:aY}{Q:VK}{E:XK}{us:List V}{ds:List aI}(hS:SqL K H a us)(hd:cg (D.at' H) us ds)(hr:∀d∈ds,JT d)(hl:ds.length<=20)(hb:SqL K H b ws)(hw:cg (cH H) ws ps)(hwl:ps.length<=40)(h:∀p H',Same H H'->H' p=some (.lst ((dJ ds ps).map V.str))->Q (.ref p) H'):oV K D [.ref a,.ref b] H Q E:=⟨_,_,_,_,_,_,rfl,hS,hd,hr,hl,hb,hw,hwl,h⟩
theorem AI:∀ds:List aI,((ds.map qV).flatten).length<=2 * ds.length
 | []=>ar _
 | d::ds=>by
  have:=AI ds;have h1:(qV d).length<=2:=by
   unfold qV aCd
   split<;>simp
  rw[dm,List.flatten_cons,cb,cv]
  lia
theorem v3 (m:M w K mg):aP P w K mg base CX0 2 m.iE m.eI.d ["doors","people"] (oV K (aN P w K mg base none)):=by
 refine m.eI.F.ok aFE ?_ ?_;walk_at"w0";walk_at"w1";obtain⟨a,b,us,ds,ws,ps,rfl,hS,hd,hr',hlen,hb,hw,hwl,k⟩:=h;walk_at"g2";have nd:=aFE.nd;walk_at"hu";refine⟨_,(aC (bD (i:=2) nd rfl (by walk_at"oi") (bJ aB))
  (aC (dS gy rfl (b0 (pv 0)) (aS (i:=3) nd rfl (by walk_at"oi")) (aC (bQ (oT kf uw ux rD (pv 2) (aA (bO (pv 3) rfl) aB)))
  (aD (a9 (eK (cA (m8 1 hr (pv 3)))) (aD (bQ (oT kf uw ux rD (pv 2) (aA (bO (pv 3) rfl) aB)))) aQ))))
  (aD (aM (bR qB (pv 2) (dA (N:=["room","number"]) (nl:=2) (ci:=[]) rfl (blk (s.heap.objs.size+1) rfl rfl rfl (by kernel_rfl)) (b0 (pv 1)) (λ_ _ _ _=>(jK (K:=K) (n:=2) rfl (bK (aS (i:=0) (show (["room","number"]:List Str).Nodup by decide +kernel) rfl (by walk_at"oi")) (bK (aS (i:=1) (show (["room","number"]:List Str).Nodup by decide +kernel) rfl (by walk_at"oi")) dI)))) (λ_ _ _ _=>dR) (λ_ _ _ _=>(pv 0)))))))),?_⟩
 refine aG (σ:=[some (.ref a),some (.ref b),none,none]) rfl ?_;walk_at"cx";have hul:us.length=ds.length:=cj hd;walk_at"go";rename_i p H1 n1 S1 e1;let Pv2:Nat->St->Hp->Prop:=λi σ' H'=>SameBut p H1 H'/\H' p=some (.lst ((((ds.take i).map qV).flatten).map V.str))/\∃x,σ'=[some (.ref a),some (.ref b),some (.ref p),x];refine eU us Pv2 ⟨SameBut.refl,e1,_,rfl⟩ (λi σ' H' _ q=>(SameBut.same n1 S1 q.1).seq hS) ?_ ?_
 .rintro i x _ H' hx hq_;walk_at"g1";obtain⟨sb,es,y,rfl⟩:=hq_;walk_at"g2";have hi:i<us.length:=(ay.mp hx).1;obtain⟨d,hdx⟩:∃d,ds[i]? =some d:=⟨_,aq (by lia)⟩
  have hsl:=AI (ds.take i);rw[fm]at hsl;have hnext:((ds.take (i+1)).map qV).flatten=((ds.take i).map qV).flatten++qV d:=by rw[cD hdx,du,xy];simp
  walk_at"g1";obtain⟨n,st,e,lt⟩:=d;walk_at"g2";walk_at"g1";obtain⟨q,C9,dx,fs,fp,rfl,hq,dcC,l1,l2,l3,l4,l5,mcE,hfp,hlt⟩:=DoorAt.ex (Paired.at2 hd hx hdx);walk_at"g2";have r2:=hr' _ (bz hdx);have hqp:q≠p:=λz=>by rw[z,n1]at hq;cases hq
  have hq':H' q=some (.ins C9 dx fs):=sb _ _ (S1 _ _ hq) hqp;rcases r2 with r2|⟨z,r2⟩
  .have r2:e= .non:=r2;subst r2;walk_at"go";refine v9 es (by rw[bq,ao];lia) λH8 B8 e8=> ?_;have hq8:=B8 _ _ hq' hqp;walk_at"go";exact⟨by walk_at"sb",by rw[e8,hnext,du];rfl,_,rfl⟩
  .have r2:e= .str z:=r2;subst r2;walk_at"go";refine v9 es (by rw[bq,ao];lia) λH8 B8 e8=> ?_;have hq8:=B8 _ _ hq' hqp;walk_at"go";refine v9 e8 (by rw[bq,cb,ao];show _+1<_;lia) λH9 B9 e9=> ?_;walk_at"go";exact⟨by walk_at"sb",by rw[e9,hnext,du,me];rfl,_,rfl⟩
 .rintro _ H' hq_;walk_at"g1";obtain⟨sb,es,y,rfl⟩:=hq_;walk_at"g2";have sH:Same H H':=SameBut.same n1 S1 sb;have hb':=sH.seq hb;rw[hul,fg]at es;have hsl:=AI ds;walk_at"go";refine sY (α:=Str×Int) (xs:=ps) (vs:=ws) (λp=> .str p.1) (λp=> .int p.2) (λ_=>true) (λp y _=>y= .str p.1) (λ_ _ _ _ h _=>h) (by rw[bq];lia) (rest:=[]) (by rfl) hb' (nF hw sH) (λx H1 hx s1 R hR=>hR _ (Same.refl _)) (λx H1 hx _ s1 R hR=> ?_) ?_
  .walk_at"go";exact hR _ _ rfl (Same.refl _)
  intro ys H2 s2 hys;rw[iY]at hys;obtain rfl:=nH hys;walk_at"go";rename_i q3 H3 n3 S3 e3 q4 H4 n4 S4 e4;refine k _ _ (by walk_at"sm") ?_;rw[e4];unfold dJ;rw[du,fk];rfl
theorem wI (m:M w K mg):Fc P w K mg base "rooms_spoken_of" 2 ["doors","people"] (oV K (aN P w K mg base none)):=⟨_,_,m.zD,m.eI.F.kp,m.eI.b,v3 m⟩
inductive qW (K:W.Frag)(C:Addr)(vs:List V)(H:Hp)(Q:VK)(E:XK):Prop
 | mk (a b:Addr) (ss:List Str) (kvs:List (Key×V)) (_:vs=[.ref a,.ref b]) (_:SqL K H a (ss.map V.str)) (_:Rd H b (.dK kvs)) (_:((∀z∈ss,(aZ kvs (.inr z)).isSome=true)->∀H',Same H H'->Q .non H')) (_:∀i z,ss[i]? =some z->(aZ kvs (.inr z)).isSome=false->(∀y∈ss.take i,(aZ kvs (.inr y)).isSome=true)->Refd C z H E):qW K C vs H Q E
theorem JD {Q:VK}{E:XK}(hS:SqL K H a (ss.map V.str))(hb:Rd H b (.dK kvs))(h:(∀z∈ss,(aZ kvs (.inr z)).isSome=true)->∀H',Same H H'->Q .non H')(hd:∀i z,ss[i]? =some z->(aZ kvs (.inr z)).isSome=false->(∀y∈ss.take i,(aZ kvs (.inr y)).isSome=true)->Refd C z H E):qW K C [.ref a,.ref b] H Q E:=⟨_,_,_,_,rfl,hS,hb,h,hd⟩
theorem DI (m:M w K mg):aP P w K mg base (CXE P w) 4 m.lD m.c8.d ["names","sizes"] (qW K m.bN):=by
 refine m.c8.F.okE aFu ?_ ?_;walk_at"w0";walk_at"w1";obtain⟨a,b,ss,kvs,rfl,hS,hb,h0,hd⟩:=h;walk_at"g2";have nd:=aFu.nd;walk_at"hu";have X_NoRoom:=VL (P:=P) (w:=w) (base:=base) m;refine⟨_,(aD (dS yD rfl (b0 (pv 0)) (aS (i:=2) nd rfl (by walk_at"oi")) (aD (a9 (wX (qZ hu1 (pv 2) (pv 1)) (by with_unfolding_all rfl)) (aD (rQ X_NoRoom hr CK (pv 2) rfl)) aQ)))),?_⟩;refine aG (σ:=[some (.ref a),some (.ref b),none]) rfl ?_;walk_at"cx";walk_at"go";let Pv3:Nat->St->Hp->Prop:=λi σ' H'=>Same H H'/\(∀y∈ss.take i,(aZ kvs (.inr y)).isSome=true)/\∃x,σ'=[some (.ref a),some (.ref b),x];refine eU (ss.map V.str) Pv3 ⟨Same.refl _,(λ_ z=>nomatch z),_,rfl⟩ (λi σ' H' _ q=>q.1.seq hS) ?_ ?_
 .rintro i x _ H' hx hq_;walk_at"g1";obtain⟨s1,hy,y,rfl⟩:=hq_;walk_at"g2";rw[dk]at hx;obtain⟨z,hz,rfl⟩:=gb.mp hx;walk_at"go";refine oS (MT s1 hb) ?_;cases hm:(aZ kvs (.inr z)).isSome with
  | true =>
   walk_at"go";refine⟨s1,λy' hy'=> ?_,_,rfl⟩;rw[cD hz]at hy';rcases fc.mp hy' with h|h
   .exact hy y' h
   .cases bj.mp h;exact hm
  | false =>
   walk_at"go";refine rS ?_;walk_at"go";exact(hd i z hz hm hy).go s1
 .rintro _ H' hq_;walk_at"g1";obtain⟨s1,hy,y,rfl⟩:=hq_;walk_at"g2";rw[ao,fg]at hy;exact h0 hy _ s1
theorem tI (m:M w K mg):FcE P w K mg base "need_rooms" 4 ["names","sizes"] (qW K m.bN):=⟨_,_,m.xQ,m.c8.F.kp,m.c8.b,DI m⟩
inductive rM (K:W.Frag)(C:Addr)(vs:List V)(H:Hp)(Q:VK)(E:XK):Prop
 | mk (a b:Addr) (rz:List (Str×Int)) (ws:List V) (ps:List (Str×Int)) (_:vs=[.ref a,.ref b]) (_:H a=some (.dK (szK rz))) (_:SqL K H b ws) (_:cg (cH H) ws ps) (_:(∀p∈ps,p.1∈rz.map (·.1))) (_:(rz.map (·.1)).Nodup) (_:rz.length<=100) (_:ps.length<=100) (_:(pH rz ps->∀H',Same H H'->Q .non H')) (_:(¬pH rz ps->Ref0 C H E)):rM K C vs H Q E
theorem X2 {Q:VK}{E:XK}(ha:H a=some (.dK (szK rz)))(hb:SqL K H b ws)(hw:cg (cH H) ws ps)(hwr:∀p∈ps,p.1∈rz.map (·.1))(nd:(rz.map (·.1)).Nodup)(hl:rz.length<=100)(hpl:ps.length<=100)(h:pH rz ps->∀H',Same H H'->Q .non H')(hn:¬pH rz ps->Ref0 C H E):rM K C [.ref a,.ref b] H Q E:=⟨_,_,_,_,_,rfl,ha,hb,hw,hwr,nd,hl,hpl,h,hn⟩
theorem FZ {g:α->Bool}:∀{l:List α}{ys:List V},cg (λx y=>y=V.bl (g x)) l ys->ys=(l.map g).map V.bl
 | _,_,.nil=>rfl
 | _,_,.cons h t=>by rw[h,FZ t];rfl
theorem any_map (g:α->Bool)(l:List α):(l.map g).any id=l.any g:=by induction l with|nil=>rfl|cons a l ih=>rw[dm,jf,jf,ih];rfl
theorem GZ (m:M w K mg):aP P w K mg base (CXE P w) 3 m.qM m.lA.d ["sizes","people"] (rM K m.bW):=by
 refine m.lA.F.okE aGp ?_ ?_;walk_at"w0";walk_at"w1";obtain⟨a,b,rz,ws,ps,rfl,ha,hb,hw,hwr,ndz,hlen,hpl,k,kn⟩:=h;walk_at"g2";have nd:=aGp.nd;walk_at"hu";have aFD:= @rG P w K mg base m;refine⟨_,(aC (a9 (cA (bH (F5 rfl) rfl m.aAi SL (aA (dA (N:=["room","number"]) (nl:=2) (ci:=[]) rfl (blk (s.heap.objs.size+1) rfl rfl rfl (by kernel_rfl)) (b0 (pv 1)) (λ_ _ _ _=>(jK (K:=K) (n:=2) rfl (bK (aS (i:=0) (show (["room","number"]:List Str).Nodup by decide +kernel) rfl (by walk_at"oi")) (bK (aS (i:=1) (show (["room","number"]:List Str).Nodup by decide +kernel) rfl (by walk_at"oi")) dI)))) (λ_ _ _ _=>dR) (λ_ _ _ _=>(jQ fM (pv 1) aF (aX _)))) aB))) (aD (cX m.rV m.GF eS (aA aL aB))) aQ)
  (aC (bD (i:=2) nd rfl (by walk_at"oi") (cG aFD hr (aA (pv 0) (aA (pv 1) aB))))
  (aD (a9 (cA (bH (F5 rfl) rfl m.aAi SL (aA (yG (dA (N:=["room","inside","sizes"]) (nl:=1) (ci:=[2,0]) rfl (blk (s.heap.objs.size+1) rfl rfl rfl (by kernel_rfl)) (AN (pv 0)) (λ_ _ _ _=>(aS (i:=0) (show (["room","inside","sizes"]:List Str).Nodup by decide +kernel) rfl (by walk_at"oi"))) (λ_ _ _ _=>dR) (λ_ _ _ _=>(jQ yF (fJ hu1 (pv 1) (pv 0) (λ_ _=>rfl)) (fJ hu1 (pv 2) (pv 0) (λ_ _=>rfl)) (aX _))))) aB))) (aD (cX m.rV m.GF eS (aA aL aB))) aQ)))),?_⟩
 refine aG (σ:=[some (.ref a),some (.ref b),none]) rfl ?_;walk_at"cx";walk_at"gs";refine NI (λσ' G=>Same H G/\(∀p∈ps,0<=p.2)/\σ'=[some (.ref a),some (.ref b),none]) ?_ ?_
 rotate_left
 .intro nx' hnx;walk_at"go";refine sY (α:=Str×Int) (xs:=ps) (vs:=ws) (λp=> .str p.1) (λp=> .int p.2) (λ_=>true) (λp y _=>y= .bl (decide (p.2<0))) (λ_ _ _ _ h _=>h) (by rw[bq];lia) (rest:=[]) (by rfl) hb hw (λx H1 hx s1 R hR=>hR _ (Same.refl _)) (λx H1 hx _ s1 R hR=> ?_) ?_
  .walk_at"go";exact hR _ _ rfl (Same.refl _)
  intro ys H2 s2 hys;rw[iY]at hys;obtain rfl:=FZ (g:=λp:Str×Int=>decide (p.2<0)) hys;walk_at"go";rename_i q H3 n3 S3 e3;refine UV (SqL.of e3) ?_;rw[any_map];have sA:Same H H3:=s2.trans S3;cases hany:ps.any λp=>decide (p.2<0) with
  | true =>
   walk_at"go";obtain⟨p,hp,hp0⟩:=mw.mp hany;exact jM (kn λhf=>by have:=hf.1 p hp;have:=of_decide_eq_true hp0;lia) sA
  | false =>
   walk_at"go";refine hnx _ _ ⟨sA,λp hp=> ?_,rfl⟩;have:=(ue.mp hany) p hp;have:¬p.2<0:=λz=>this (decide_eq_true z)
   lia
 rintro _ H3 ⟨sA,hp0,rfl⟩;walk_at"go";refine NV (sA _ _ ha) (sA.seq hb) (nF hw sA) hwr ndz hlen λp H4 kvs n4 S4 e4 hkk hv=> ?_;have ha4:=S4 _ _ (sA _ _ ha);walk_at"go";refine AX ha4 OM ?_;walk_at"go";refine zV ha4 λo H5 B5 e5=> ?_;have hpa:p≠a:=λz=>by rw[z,sA _ _ ha]at n4;cases n4
 have ep5:=B5 _ _ e4 hpa;refine VT (λ_=>true) (λx y _=>∀e∈rz,x=((.inr e.1:Key),V.int e.2)->y= .bl (decide (dF ps e.1>e.2))) (λ_ _ _ _ h _=>h) (by rw[bq];unfold szK;rw[ao];lia) (rest:=[some (.ref p),some (.ref a)]) (by rfl) e5 (λx H6 hx s6 R hR=>hR _ (Same.refl _)) ?_ ?_
 .rintro x H6 hx - s6 R hR;obtain⟨e,he,rfl⟩:=bg.mp hx;show (_:TE) (some (V.str e.1)::[some (.ref p),some (.ref a)]) H6 R;walk_at"go";refine qL (.inl (s6 _ _ ep5)) (hv e.1 (bg.mpr ⟨e,he,rfl⟩)) ?_;walk_at"go";refine qL (.inr ⟨o,s6 _ _ e5⟩) (EA ndz he) ?_;walk_at"go";refine hR _ _ (λe' he' q=> ?_) (Same.refl _);have q1:e.1=e'.1:=kg (xq q).1;have q2:e.2=e'.2:=V.int.inj (xq q).2;rw[q1,q2]
 intro ys H6 s6 hys;rw[iY]at hys;have hyb:ys=(rz.map λe=>decide (dF ps e.1>e.2)).map V.bl:=by
  have key:∀(l:List (Str×Int)) (ys:List V),(∀e∈l,e∈rz)->cg (λx y=>∀e∈rz,x=((.inr e.1:Key),V.int e.2)->y= .bl (decide (dF ps e.1>e.2))) (l.map λe=>((.inr e.1:Key),V.int e.2)) ys->ys=(l.map λe=>decide (dF ps e.1>e.2)).map V.bl:=λl=>by
   induction l with
   | nil=>intro ys _ h;cases h;rfl
   | cons e l ih =>
    intro ys hl h;cases h with
    | cons h t=>rw[h e (hl e (.head _)) rfl,ih _ (λe' he'=>hl e' (bx _ he')) t];rfl
  exact key rz ys (λ_ h=>h) hys
 subst hyb;walk_at"go";rename_i q7 H7 n7 S7 e7;refine rL (S7 _ _ (s6 _ _ e5)) λH8 B8 e8=> ?_;have hq7:q7≠a:=λz=>by rw[z,s6 _ _ e5]at n7;cases n7
 have e78:=B8 _ _ e7 hq7;have s08:Same H H8:=FJ (ha) (λx u hx hxa=>B5 _ _ (S4 _ _ (sA _ _ hx)) hxa) (Same.but (s6.trans S7)) B8 e8;walk_at"go";refine UV (SqL.of e78) ?_;rw[any_map];cases hany:rz.any λe=>decide (dF ps e.1>e.2) with
 | true =>
  walk_at"go";obtain⟨e,he,he0⟩:=mw.mp hany;exact jM (kn λhf=>by have:=hf.2 e he;have:=of_decide_eq_true he0;lia) s08
 | false =>
  walk_at"go";refine k ⟨hp0,λe he=> ?_⟩ _ s08;have:=(ue.mp hany) e he;have:¬dF ps e.1>e.2:=λz=>this (decide_eq_true z)
  lia
theorem HL (m:M w K mg):FcE P w K mg base "need_space" 3 ["sizes","people"] (rM K m.bW):=⟨_,_,m.LC,m.lA.F.kp,m.lA.b,GZ m⟩
def Odd (rs ss:List Str)(z:Str):Prop:=∃i,ss[i]? =some z/\z∉rs/\∀y∈ss.take i,y∈rs
def HouseU (C:Addr)(H:Hp)(h:Addr)(f l:Int)(rz ps:List (Str×Int))(us:List V)(ds:List aI):Prop:=∃dx qs qp qd nk kvs,H h=some (.ins C dx (EX f l qs qp qd))/\H qs=some (.dK (szK rz))/\H qp=some (.dK kvs)/\kvs.map (·.1)=(szK rz).map (·.1)/\w5 rz ps kvs/\H qd=some (.dK nk)/\nk.map (·.1)=(ds.map λd=>(.inr d.1:Key))/\nk.map (·.2)=us
theorem JF {D:aY}:∀{nk:List (Key×V)}{ds:List aI},nk.map (·.1)=(ds.map λd=>(.inr d.1:Key))->cg (D.at' H) (nk.map (·.2)) ds->oX D H nk ds
 | [],[],_,_=> .nil
 | [],_::_,h,_=>nomatch h
 | _::_,[],h,_=>nomatch h
 | e::nk,d::ds,h,.cons r t=> .cons ⟨(jv h).1,r⟩ (JF (jv h).2 t)
theorem HouseU.house {D:aY}{h:Addr}{us:List V}{ds:List aI}(x:HouseU C H h f l rz ps us ds)(hd:cg (D.at' H) us ds):aW C D H h f l rz ps ds:=by
 walk_at"g1";obtain⟨dx,qs,qp,qd,nk,kvs,e1,e2,e3,e4,e5,e6,e7,rfl⟩:=x;walk_at"g2";exact⟨dx,qs,qp,qd,nk,kvs,e1,e2,e3,e4,e5,e6,JF e7 hd⟩
structure HX (NT TW NR NH p C:Addr)(f l:Int)(rz ps:List (Str×Int))(us:List V)(ds:List aI)(H:Hp)(Q:VK)(E:XK):Prop where
 tn:f<0∨l<f->Ref0 NT H E
 dr:0<=f->f<=l->∀z,Dup (rz.map (·.1)) z->Refd TW z H E
 dd:0<=f->f<=l->(rz.map (·.1)).Nodup->∀z,Dup (ds.map (·.1)) z->Refd TW z H E
 st:0<=f->f<=l->(rz.map (·.1)).Nodup->(ds.map (·.1)).Nodup->∀z,Odd (rz.map (·.1)) (dJ ds ps) z->Refd NR z H E
 sp:0<=f->f<=l->(rz.map (·.1)).Nodup->(ds.map (·.1)).Nodup->(∀z∈dJ ds ps,z∈rz.map (·.1))->¬pH rz ps->Ref0 NH H E
 ok:0<=f->f<=l->(rz.map (·.1)).Nodup->(ds.map (·.1)).Nodup->(∀z∈dJ ds ps,z∈rz.map (·.1))->pH rz ps->∀H',SameBut p H H'->HouseU C H' p f l rz ps us ds->Q .non H'
inductive jN (K:W.Frag)(D:aY)(NT TW NR NH:Addr)(vs:List V)(H:Hp)(Q:VK)(E:XK):Prop
 | mk (p C dx a b c:Addr) (ws us cs:List V) (rz ps:List (Str×Int)) (ds:List aI) (f l:Int) (_:vs=[.ref p,.ref a,.ref b,.ref c,.int l,.int f]) (_:DCls K C) (_:H p=some (.ins C dx [])) (_:H a=some (.lst ws)) (_:RoomsAt H ws rz) (_:SqL K H b us) (_:cg (D.at' H) us ds) (_:SqL K H c cs) (_:cg (cH H) cs ps) (_:(∀d∈ds,JT d)) (_:rz.length<=20) (_:ds.length<=20) (_:ps.length<=40) (_:HX NT TW NR NH p C f l rz ps us ds H Q E):jN K D NT TW NR NH vs H Q E
theorem YL {D:aY}{Q:VK}{E:XK}{c:Addr}{us cs:List V}{ds:List aI}(dc:DCls K C)(hp:H p=some (.ins C dx []))(ha:H a=some (.lst ws))(hr:RoomsAt H ws rz)(hb:SqL K H b us)(hd:cg (D.at' H) us ds)(hc:SqL K H c cs)(hcp:cg (cH H) cs ps)(hes:∀d∈ds,JT d)(lr:rz.length<=20)(ld:ds.length<=20)(lp:ps.length<=40)(k:HX NT TW NR NH p C f l rz ps us ds H Q E):jN K D NT TW NR NH [.ref p,.ref a,.ref b,.ref c,.int l,.int f] H Q E:=⟨_,_,_,_,_,_,_,_,_,_,_,_,_,_,rfl,dc,hp,ha,hr,hb,hd,hc,hcp,hes,lr,ld,lp,k⟩
theorem oP (m:M w K mg):aP P w K mg base (CXE P w) 6 m.jI m.fC ["self","rooms","doors","people","last","first"] (jN K (aN P w K mg base none) m.bZ m.b5 m.bN m.bW):=by
 refine m.A7.okE aFN ?_ ?_;walk_at"w0";walk_at"w1";obtain⟨p,C,dx,a,b,c,ws,us,cs,rz,ps,ds,f,l,rfl,dc,hp,ha,hra,hb,hd,hc,hcp,hes,lr,ld,lp,k⟩:=h;walk_at"g2";have nd:=aFN.nd;walk_at"hu";have aFD:= @rG P w K mg base m;have aFW:= @yV P w K mg base m;have aHa:= @HL P w K mg base m;have aG3:= @GR P w K mg base m;have aGE:= @wI P w K mg base m;have Fx_need_rooms:=tI (P:=P) (w:=w) (base:=base) m;refine⟨_,(aC (bQ (cB aG3 hr b9 (aA (pv 5) (aA (pv 4) aB))))
  (aC (bQ (cB aFW hr b9 (aA (dA (N:=["name","size"]) (nl:=2) (ci:=[]) rfl (blk (s.heap.objs.size+1) rfl rfl rfl (by kernel_rfl)) (b0 (pv 1)) (λ_ _ _ _=>(jK (K:=K) (n:=2) rfl (bK (aS (i:=0) (show (["name","size"]:List Str).Nodup by decide +kernel) rfl (by walk_at"oi")) (bK (aS (i:=1) (show (["name","size"]:List Str).Nodup by decide +kernel) rfl (by walk_at"oi")) dI)))) (λ_ _ _ _=>dR) (λ_ _ _ _=>(pv 0))) aB)))
  (aC (bQ (cB aFW hr b9 (aA (dA (N:=["door"]) (nl:=1) (ci:=[]) rfl (blk (s.heap.objs.size+1) rfl rfl rfl (by kernel_rfl)) (b0 (pv 2)) (λ_ _ _ _=>(aS (i:=0) (show (["door"]:List Str).Nodup by decide +kernel) rfl (by walk_at"oi"))) (λ_ _ _ _=>dR) (λ_ _ _ _=>(o7 (K:=K) (pv 0) rfl))) aB)))
  (aC (bD (i:=6) nd rfl (by walk_at"oi") (fV (RA rfl) rfl m.aD8 aBl (aA (pv 1) aB)))
  (aC (bQ (cB Fx_need_rooms hr b9 (aA (cG aGE hr (aA (pv 2) (aA (pv 3) aB))) (aA (pv 6) aB))))
  (aC (bQ (cB aHa hr b9 (aA (pv 6) (aA (pv 3) aB))))
  (aC (eQ (pv 0) (pv 5) rfl)
  (aC (eQ (pv 0) (pv 4) rfl)
  (aC (eQ (pv 0) (pv 6) rfl)
  (aC (eQ (pv 0) (cG aFD hr (aA (pv 6) (aA (pv 3) aB))) rfl)
  (aC (eQ (pv 0) AL rfl)
  (aD (dS yD rfl (b0 (pv 2)) (aS (i:=7) nd rfl (by walk_at"oi")) (aD (jR hu1 (bO (pv 0) rfl) (bO (pv 7) rfl) (pv 7) rfl))))))))))))))),?_⟩
 refine aG (σ:=[some (.ref p),some (.ref a),some (.ref b),some (.ref c),some (.int l),some (.int f),none,none]) rfl ?_;walk_at"cx";have hul:us.length=ds.length:=cj hd;have hwl:ws.length=rz.length:=cj hra;walk_at"go";refine XB (λh0 h1=> ?_) k.tn;walk_at"go";refine sY (α:=Str×Int) (xs:=rz) (vs:=ws) (λe=> .str e.1) (λe=> .int e.2) (λ_=>true) (λz y _=>y= .str z.1) (λ_ _ _ _ h _=>h) (by rw[bq];lia) (rest:=[]) (by rfl) (SqL.of ha) hra (λx H1 hx s1 R hR=>hR _ (Same.refl _)) (λx H1 hx _ s1 R hR=> ?_) ?_
 .walk_at"go";exact hR _ _ rfl (Same.refl _)
 intro ys H1 s1 hys;rw[iY]at hys;obtain rfl:=nH hys;walk_at"go";rename_i q1 H2 n2 S2 e2;refine M5 (ss:=rz.map (·.1)) (SqL.of (by rw[e2,fk];rfl)) (by rw[ao];lia) (λnr H3 S3=> ?_) λz hz=>(k.dr h0 h1 z hz).sm (s1.trans S2);have sA:Same H H3:=(s1.trans S2).trans S3;walk_at"go";refine gE (α:=aI) (xs:=ds) (vs:=us) ((aN P w K mg base none).at' H3) (λ_=>true) (λd y _=>y= .str d.1) (λ_ _ _ _ h _=>h) (by rw[bq];lia) (rest:=[]) (by rfl) (sA.seq hb) (lR hd sA) (λv x H1 _ hx s1 R hR=>hR _ (Same.refl _)) ?_ ?_
 .rintro v ⟨n,st,e,lt⟩ H4 hv hm - s4 R hR;walk_at"g1";obtain⟨q,C9,dx',fs,fp,rfl,hq,dcC,l1,l2,l3,l4,l5,mcE,hfp,hlt⟩:=DoorAt.ex hv;walk_at"g2";have hq':=s4 _ _ hq;walk_at"go";exact hR _ _ rfl (Same.refl _)
 intro ys H4 s4 hys;rw[iY]at hys;obtain rfl:=nH hys;walk_at"go";rename_i q5 H5 n5 S5 e5;refine M5 (ss:=ds.map (·.1)) (SqL.of (by rw[e5,fk];rfl)) (by rw[ao];lia) (λnd' H6 S6=> ?_) λz hz=>(k.dd h0 h1 nr z hz).sm ((sA.trans s4).trans S5);have sB:Same H H6:=((sA.trans s4).trans S5).trans S6;walk_at"go";refine Y2 (sB _ _ ha) (zM (hra.sm sB)) λqs H7 n7 S7 e7=> ?_;rw[YK nr]at e7;have sC:Same H H7:=sB.trans S7;walk_at"go";refine VQ (sC.seq hb) (lR hd sC) hes ld (sC.seq hc) (nF hcp sC) lp λq8 H8 S8 e8=> ?_;have isz:∀z,(aZ (szK rz) (.inr z)).isSome=true↔z∈rz.map (·.1):=λz=>by
  constructor
  .intro h;obtain⟨v,hv⟩:=nc.mp h;have:=aBm hv;rw[NJ]at this;obtain⟨y,hy,e⟩:=bg.mp this;cases e;exact hy
  .intro h;obtain⟨i,_,e⟩:=KQ nr h;rw[e];rfl
 walk_at"go";refine JD (SqL.of e8) (.inl (S8 _ _ e7)) (λhall H9 S9=> ?_) λi z hz hno hbef=> ?_
 rotate_left
 .refine(k.st h0 h1 nr nd' z ⟨i,hz,λhm=> ?_,λy hy=>(isz y).mp (hbef y hy)⟩).sm (sC.trans S8);rw[(isz z).mpr hm]at hno;cases hno
 have hsp:∀z∈dJ ds ps,z∈rz.map (·.1):=λz hz=>(isz z).mp (hall z hz);have hpr:∀p∈ps,p.1∈rz.map (·.1):=λp hp=>hsp _ (bc _ (bg.mpr ⟨p,hp,rfl⟩));have sD:Same H7 H9:=S8.trans S9;walk_at"go";refine X2 (sD _ _ e7) ((sC.trans sD).seq hc) (nF hcp (sC.trans sD)) hpr nr (by lia) (by lia) (λhf H10 S10=> ?_) λhf=>(k.sp h0 h1 nr nd' hsp hf).sm (sC.trans sD);have sE:Same H H10:=(sC.trans sD).trans S10;have es:H10 qs=some (.dK (szK rz)):=S10 _ _ (sD _ _ e7);have hp10:=sE _ _ hp;have hqp:qs≠p:=λz=>by rw[z,hp10]at es;cases es
 walk_at"go";rename_i H11 B11 e11 H12 B12 e12 H13 B13 e13;have sb13:SameBut p H10 H13:=by walk_at"sb"
 have es13:=sb13 _ _ es hqp;have hc13:SqL K H13 c cs:=NZ (sE.seq hc) hp10 sb13;have hcp13:cg (cH H13) cs ps:=Paired.imp' (λv r ⟨q,e,hq⟩=>⟨q,e,sb13 _ _ (sE _ _ hq) λz=>by rw[z,hp]at hq;cases hq⟩) hcp;refine NV es13 hc13 hcp13 hpr nr (by lia) λqp H14 kvs n14 S14 e14 hkk hv14=> ?_;have hp14:=S14 _ _ e13;walk_at"go";rename_i H15 B15 e15 qd H16 n16 S16 e16 H17 B17 e17;have hqd:qd≠p:=λz=>by rw[z,e15]at n16;cases n16
 have sb17:SameBut p H10 H17:=((((sb13.trans S14.but).trans B15).trans S16.but).trans B17)
 have ed17:=B17 _ _ e16 hqd;have es17:=sb17 _ _ es hqp;have hqpp:qp≠p:=λz=>by rw[z,e13]at n14;cases n14
 have eq17:H17 qp=some (.dK kvs):=B17 _ _ (S16 _ _ (B15 _ _ e14 hqpp)) hqpp;have hqpd:qp≠qd:=λz=>by rw[←z,B15 _ _ e14 hqpp]at n16;cases n16
 have fresh:∀x u,H10 x=some u->x≠p->x≠qd:=λx u hx hxp z=>by
  have h15:H15 x=some u:=B15 _ _ (S14 _ _ (sb13 _ _ hx hxp)) hxp;rw[z,n16]at h15;cases h15
 have hb17:SqL K H17 b us:=NZ (sE.seq hb) hp10 sb17;have hd17:cg ((aN P w K mg base none).at' H17) us ds:=Paired.imp' (λv d h=>(aN P w K mg base none).but ((aN P w K mg base none).same h sE) hp10 rfl sb17) hd;have ddq:∀{H':Hp}{v:V}{d:aI},SameBut qd H17 H'->(aN P w K mg base none).at' H17 v d->(aN P w K mg base none).at' H' v d:=λsb h=>(aN P w K mg base none).but h ed17 trivial sb;refine FO hb17 ?_;let Pv1:Nat->St->Hp->Prop:=λi σ' H'=>SameBut qd H17 H'/\(∃nk,H' qd=some (.dK nk)/\nk.length<=i/\nk.map (·.1)=((ds.take i).map λd=>(.inr d.1:Key))/\nk.map (·.2)=us.take i)/\∃x,σ'=[some (.ref p),some (.ref a),some (.ref b),some (.ref c),some (.int l),some (.int f),some (.ref qs),x];refine eU us Pv1 ⟨SameBut.refl,⟨[],ed17,ar _,rfl,rfl⟩,_,rfl⟩ (λi σ' H' _ q=>JS hb17 ed17 q.1) ?_ ?_
 .rintro i x _ H' hx hq_;walk_at"g1";obtain⟨sb,⟨nk,ek,hk,pk,pv'⟩,y,rfl⟩:=hq_;walk_at"g2";have hi:i<us.length:=(ay.mp hx).1;obtain⟨d,hdx⟩:∃d,ds[i]? =some d:=⟨_,aq (by lia)⟩
  have hD:=Paired.at2 hd17 hx hdx;walk_at"g1";obtain⟨n,st,e,lt⟩:=d;walk_at"g2";have hD':=ddq sb hD;walk_at"g1";obtain⟨q,C9,dx',fs,fp,rfl,hq',dcC,l1,l2,l3,l4,l5,mcE,hfp,hlt⟩:=DoorAt.ex hD';walk_at"g2";have hpp:H' p=some (.ins C dx (EX f l qs qp qd)):=sb _ _ e17 (dg hqd);have hnone:aZ nk (.inr n)=none:=mU λe he z=>by
   have h1:e.1∈nk.map (·.1):=bg.mpr ⟨e,he,rfl⟩;rw[pk,z]at h1;obtain⟨d',hd',e'⟩:=bg.mp h1;have hn:n∉(ds.map (·.1)).take i:=tQ nd' (by rw[dk,hdx];rfl)
   apply hn
   rw[←List.map_take];exact bg.mpr ⟨d',hd',kg e'⟩
  walk_at"go";refine z8 ek (by rw[bq];lia) λH9' B9' e9'=> ?_;rw[pY _ hnone]at e9';exact⟨by walk_at"sb",⟨_,e9',by rw[cb];show nk.length+1<=_;lia,by rw[cD hdx,du,du,pk];rfl,by rw[cD hx,du,pv'];rfl⟩,_,rfl⟩
 .rintro _ H' hq_;walk_at"g1";obtain⟨sb,⟨nk,ek,hk,pk,pv'⟩,y,rfl⟩:=hq_;walk_at"g2";rw[hul,fg]at pk;rw[fg]at pv';exact k.ok h0 h1 nr nd' hsp hf _ (λx u hx hxp=>sb _ _ (sb17 _ _ (sE _ _ hx) hxp) (fresh x u (sE _ _ hx) hxp)) ⟨dx,qs,qp,qd,nk,kvs,sb _ _ e17 (dg hqd),sb _ _ es17 (fresh _ _ es hqp),sb _ _ eq17 hqpd,hkk,hv14,ek,pk,pv'⟩
theorem BK (m:M w K mg):KcE P w K mg base "House" m.aH 6 [] (jN K (aN P w K mg base none) m.bZ m.b5 m.bN m.bW):=⟨_,_,_,_,m.N7,m.LF,.nil,m.BD,oP m⟩
theorem tY (m:M w K mg):KcE P w K mg base "House" m.aH 6 [.int 0] (jN K (aN P w K mg base none) m.bZ m.b5 m.bN m.bW):=by
 obtain⟨ds,h1,h2⟩:=m.vY;exact⟨_,_,_,_,m.N7,m.LF,h1,h2,oP m⟩
structure HM (NT TW NR NH C:Addr)(f l:Int)(rz ps:List (Str×Int))(us:List V)(ds:List aI)(H:Hp)(Q:VK)(E:XK):Prop where
 tn:f<0∨l<f->Ref0 NT H E
 dr:0<=f->f<=l->∀z,Dup (rz.map (·.1)) z->Refd TW z H E
 dd:0<=f->f<=l->(rz.map (·.1)).Nodup->∀z,Dup (ds.map (·.1)) z->Refd TW z H E
 st:0<=f->f<=l->(rz.map (·.1)).Nodup->(ds.map (·.1)).Nodup->∀z,Odd (rz.map (·.1)) (dJ ds ps) z->Refd NR z H E
 sp:0<=f->f<=l->(rz.map (·.1)).Nodup->(ds.map (·.1)).Nodup->(∀z∈dJ ds ps,z∈rz.map (·.1))->¬pH rz ps->Ref0 NH H E
 ok:0<=f->f<=l->(rz.map (·.1)).Nodup->(ds.map (·.1)).Nodup->(∀z∈dJ ds ps,z∈rz.map (·.1))->pH rz ps->∀p H',H p=none->Same H H'->HouseU C H' p f l rz ps us ds->Q (.ref p) H'
theorem eY {D:aY}{Q:VK}{E:XK}{c:Addr}{us cs:List V}{ds:List aI}(ev:vs++dvs=[.ref a,.ref b,.ref c,.int l,.int f])(dc:DCls K C)(ha:H a=some (.lst ws))(hr:RoomsAt H ws rz)(hb:SqL K H b us)(hd:cg (D.at' H) us ds)(hc:SqL K H c cs)(hcp:cg (cH H) cs ps)(hes:∀d∈ds,JT d)(lr:rz.length<=20)(ld:ds.length<=20)(lp:ps.length<=40)(k:HM NT TW NR NH C f l rz ps us ds H Q E):t9 C (jN K D NT TW NR NH) dvs E Q vs H:=by
 intro x dx nx nd0 ne;have s0:Same H (upd (upd H dx (.own x)) x (.ins C dx [])):=λb o e=>by
  rw[aJ (aO e nx),aJ (aO e nd0)];exact e
 rw[ev];exact YL dc aU (s0 _ _ ha) (hr.sm s0) (s0.seq hb) (lR hd s0) (s0.seq hc) (nF hcp s0) hes lr ld lp ⟨λh=>(k.tn h).sm s0,λa b z h=>(k.dr a b z h).sm s0,λa b c z h=>(k.dd a b c z h).sm s0,λa b c d z h=>(k.st a b c d z h).sm s0,λa b c d e h=>(k.sp a b c d e h).sm s0,λa b c d e h H' sb hh=>⟨rfl,k.ok a b c d e h x H' nx (λb o q=>sb b o (s0 b o q) (aO q nx)) hh⟩⟩
theorem BT {D:aY}:∀{nk:List (Key×V)}{ds:List aI},oX D H nk ds->(nk.map λe=>kV e.1)=(ds.map (·.1)).map V.str
 | _,_,.nil=>rfl
 | (k,v)::_,_,.cons h t=>by
  rw[dm,BT t,dm,dm];have:k= .inr _:=h.1;rw[this];rfl
theorem uN {D:aY}:∀{nk:List (Key×V)}{ds:List aI},oX D H nk ds->nk.map (·.1)=(ds.map (·.1)).map (mm:Str->Key)
 | _,_,.nil=>rfl
 | (k,v)::_,_,.cons h t=>by
  rw[dm,uN t,dm,dm];have:k= .inr _:=h.1;rw[this]
theorem UU {D:aY}{ds:List aI}(h:oX D H nk ds):nk.length=ds.length:=cj h
theorem X4 {D:aY}{ds:List aI}(h:oX D H nk ds)(nd:(ds.map (·.1)).Nodup){d:aI}(hd:d∈ds):∃v,aZ nk (.inr d.1)=some v/\D.at' H v d:=by
 obtain⟨i,hi,e⟩:=sg hd;have hl:=UU h;have hx:nk[i]? =some nk[i]:=aq (by lia);obtain⟨h1,h2⟩:=Paired.at2 h hx (show ds[i]? =some d by rw[aq hi,e]);refine⟨_,?_,h2⟩;rw[←h1];exact lW (by rw[uN h];exact FR nd) (bz hx)
inductive tW (C:Addr)(D:aY)(g:List (Str×Int)->List aI->List Str)(vs:List V)(H:Hp)(Q:VK)(E:XK):Prop
 | mk (h:Addr) (f l:Int) (rz ps:List (Str×Int)) (ds:List aI) (_:vs=[.ref h]) (_:aW C D H h f l rz ps ds) (_:∀p H',H p=none->Same H H'->H' p=some (.lst ((g rz ds).map V.str))->Q (.ref p) H'):tW C D g vs H Q E
theorem D0 {D:aY}{g:List (Str×Int)->List aI->List Str}{Q:VK}{E:XK}{h:Addr}{ds:List aI}(hh:aW C D H h f l rz ps ds)(k:∀p H',H p=none->Same H H'->H' p=some (.lst ((g rz ds).map V.str))->Q (.ref p) H'):tW C D g [.ref h] H Q E:=⟨_,_,_,_,_,_,rfl,hh,k⟩
theorem EI (m:M w K mg):aP P w K mg base CX0 1 m.oI m.nZ.d ["self"] (tW m.aH (aN P w K mg base (some 1)) λ_ ds=>ds.map (·.1)):=by
 refine m.nZ.F.ok aGb ?_ ?_;walk_at"w0";walk_at"w1";obtain⟨h,f,l,rz,ps,ds,rfl,hh,k⟩:=h;walk_at"g2";have nd:=aGb.nd;walk_at"hu";have aFm:=m.a8;refine⟨_,(aD (aM (fV (OC rfl) rfl m.aEb aA3 (aA (bO (pv 0) rfl) aB)))),?_⟩;refine aG (σ:=[some (.ref h)]) rfl ?_;walk_at"cx";walk_at"g1";obtain⟨dx,qs,qp,qd,nk,kvs,e1,e2,e3,e4,e5,e6,e7⟩:=hh.ex;walk_at"g2";walk_at"go";refine YZ (.inl e6) λp H1 n1 S1 e8=> ?_;rw[BT e7]at e8;walk_at"go";exact k _ _ n1 S1 e8
theorem lG (m:M w K mg):Mc P w K mg base m.aH "doors" 1 (tW m.aH (aN P w K mg base (some 1)) λ_ ds=>ds.map (·.1)):=⟨_,_,_,m.a8.ic.cl,m.FC,m.nZ.b,EI m⟩
inductive jU (C:Addr)(D:aY)(vs:List V)(H:Hp)(Q:VK)(E:XK):Prop
 | mk (h:Addr) (z:Str) (f l:Int) (rz ps:List (Str×Int)) (ds:List aI) (_:vs=[.ref h,.str z]) (_:aW C D H h f l rz ps ds) (_:(rz.map (·.1)).Nodup) (_:z∈rz.map (·.1)) (_:∀H',Same H H'->Q .non H'):jU C D vs H Q E
theorem zK {D:aY}{Q:VK}{E:XK}{h:Addr}{ds:List aI}(hh:aW C D H h f l rz ps ds)(nr:(rz.map (·.1)).Nodup)(hz:z∈rz.map (·.1))(k:∀H',Same H H'->Q .non H'):jU C D [.ref h,.str z] H Q E:=⟨_,_,_,_,_,_,_,rfl,hh,nr,hz,k⟩
theorem w9 (m:M w K mg):aP P w K mg base CX0 2 m.d7 m.cV.d ["self","room"] (jU m.aH (aN P w K mg base (some 1))):=by
 refine m.cV.F.ok aFn ?_ ?_;walk_at"w0";walk_at"w1";obtain⟨h,z,f,l,rz,ps,ds,rfl,hh,nr,hz,k⟩:=h;walk_at"g2";have nd:=aFn.nd;walk_at"hu";have aG5:= @GH P w K mg base m;have aFm:=m.a8;refine⟨_,(aD (bQ (cG aG5 hr (aA (bJ (aA (pv 1) aB)) (aA (bO (pv 0) rfl) aB))))),?_⟩;refine aG (σ:=[some (.ref h),some (.str z)]) rfl ?_;walk_at"cx";walk_at"g1";obtain⟨dx,qs,qp,qd,nk,kvs,e1,e2,e3,e4,e5,e6,e7⟩:=hh.ex;walk_at"g2";obtain⟨i,hi,ev⟩:=KQ nr hz;walk_at"go";rename_i p H1 n1 S1 e8;refine aBn (ss:=[z]) (SqL.of e8) (.inl (S1 _ _ e2)) (λy hy=>by cases bj.mp hy;rw[ev];rfl) λH2 S2=> ?_;walk_at"go";exact k _ (S1.trans S2)
theorem nE (m:M w K mg):Mc P w K mg base m.aH "need_room" 2 (jU m.aH (aN P w K mg base (some 1))):=⟨_,_,_,m.a8.ic.cl,m.nL,m.cV.b,w9 m⟩
inductive uW (C:Addr)(D:aY)(vs:List V)(H:Hp)(Q:VK)(E:XK):Prop
 | mk (h:Addr) (z:Str) (i f l:Int) (rz ps:List (Str×Int)) (ds:List aI) (_:vs=[.ref h,.str z]) (_:aW C D H h f l rz ps ds) (_:(rz.map (·.1)).Nodup) (_:(z,i)∈rz) (_:∀H',Same H H'->Q (.int i) H'):uW C D vs H Q E
theorem aAE {D:aY}{Q:VK}{E:XK}{h:Addr}{i:Int}{ds:List aI}(hh:aW C D H h f l rz ps ds)(nr:(rz.map (·.1)).Nodup)(hz:(z,i)∈rz)(k:∀H',Same H H'->Q (.int i) H'):uW C D [.ref h,.str z] H Q E:=⟨_,_,_,_,_,_,_,_,rfl,hh,nr,hz,k⟩
theorem EV (m:M w K mg):aP P w K mg base CX0 3 m.n9 m.oE.d ["self","room"] (uW m.aH (aN P w K mg base (some 1))):=by
 refine m.oE.F.ok aF9 ?_ ?_;walk_at"w0";walk_at"w1";obtain⟨h,z,i,f,l,rz,ps,ds,rfl,hh,nr,hz,k⟩:=h;walk_at"g2";have nd:=aF9.nd;walk_at"hu";have aFm:=m.a8;have aGk:= @nE P w K mg base m;refine⟨_,(aC (bQ (kG 2 hr (pv 0) (aA (pv 1) aB)))
  (aD (aM (fJ hu1 (bO (pv 0) rfl) (pv 1) (λ_ _=>rfl))))),?_⟩
 refine aG (σ:=[some (.ref h),some (.str z)]) rfl ?_;walk_at"cx";walk_at"g1";obtain⟨dx,qs,qp,qd,nk,kvs,e1,e2,e3,e4,e5,e6,e7⟩:=hh.ex;walk_at"g2";walk_at"go";refine zK hh nr (bg.mpr ⟨_,hz,rfl⟩) λH1 S1=> ?_;have e11:=S1 _ _ e1;walk_at"go";refine qL (.inl (S1 _ _ e2)) (EA nr hz) ?_;walk_at"go";exact k _ S1
theorem EH (m:M w K mg):Mc P w K mg base m.aH "holds" 3 (uW m.aH (aN P w K mg base (some 1))):=⟨_,_,_,m.a8.ic.cl,m.FE,m.oE.b,EV m⟩
inductive uM (C:Addr)(D:aY)(vs:List V)(H:Hp)(Q:VK)(E:XK):Prop
 | mk (h:Addr) (z:Str) (f l:Int) (rz ps:List (Str×Int)) (ds:List aI) (_:vs=[.ref h,.str z]) (_:aW C D H h f l rz ps ds) (_:(rz.map (·.1)).Nodup) (_:z∈rz.map (·.1)) (_:∀H',Same H H'->Q (.int (dF ps z)) H'):uM C D vs H Q E
theorem aBz {D:aY}{Q:VK}{E:XK}{h:Addr}{ds:List aI}(hh:aW C D H h f l rz ps ds)(nr:(rz.map (·.1)).Nodup)(hz:z∈rz.map (·.1))(k:∀H',Same H H'->Q (.int (dF ps z)) H'):uM C D [.ref h,.str z] H Q E:=⟨_,_,_,_,_,_,_,rfl,hh,nr,hz,k⟩
theorem EN (m:M w K mg):aP P w K mg base CX0 3 m.oM m.oO.d ["self","room"] (uM m.aH (aN P w K mg base (some 1))):=by
 refine m.oO.F.ok aGh ?_ ?_;walk_at"w0";walk_at"w1";obtain⟨h,z,f,l,rz,ps,ds,rfl,hh,nr,hz,k⟩:=h;walk_at"g2";have nd:=aGh.nd;walk_at"hu";have aFm:=m.a8;have aGk:= @nE P w K mg base m;refine⟨_,(aC (bQ (kG 2 hr (pv 0) (aA (pv 1) aB)))
  (aD (aM (fJ hu1 (bO (pv 0) rfl) (pv 1) (λ_ _=>rfl))))),?_⟩
 refine aG (σ:=[some (.ref h),some (.str z)]) rfl ?_;walk_at"cx";walk_at"g1";obtain⟨dx,qs,qp,qd,nk,kvs,e1,e2,e3,e4,e5,e6,e7⟩:=hh.ex;walk_at"g2";walk_at"go";refine zK hh nr hz λH1 S1=> ?_;have e11:=S1 _ _ e1;walk_at"go";refine qL (.inl (S1 _ _ e3)) (e5 z hz) ?_;walk_at"go";exact k _ S1
theorem D2 (m:M w K mg):Mc P w K mg base m.aH "found" 3 (uM m.aH (aN P w K mg base (some 1))):=⟨_,_,_,m.a8.ic.cl,m.E8,m.oO.b,EN m⟩
inductive yC (C:Addr)(D:aY)(vs:List V)(H:Hp)(Q:VK)(E:XK):Prop
 | mk (h:Addr) (d:aI) (f l:Int) (rz ps:List (Str×Int)) (ds:List aI) (_:vs=[.ref h,.str d.1]) (_:aW C D H h f l rz ps ds) (_:(ds.map (·.1)).Nodup) (_:d∈ds) (_:∀v,D.at' H v d->Q v H):yC C D vs H Q E
theorem wG {D:aY}{Q:VK}{E:XK}{h:Addr}{d:aI}{ds:List aI}(hh:aW C D H h f l rz ps ds)(nd:(ds.map (·.1)).Nodup)(hd:d∈ds)(k:∀v,D.at' H v d->Q v H):yC C D [.ref h,.str d.1] H Q E:=⟨_,_,_,_,_,_,_,rfl,hh,nd,hd,k⟩
theorem G8 (m:M w K mg):aP P w K mg base CX0 1 m.kT m.eW.d ["self","name"] (yC m.aH (aN P w K mg base (some 1))):=by
 refine m.eW.F.ok aFw ?_ ?_;walk_at"w0";walk_at"w1";obtain⟨h,d,f,l,rz,ps,ds,rfl,hh,ndd,hd,k⟩:=h;walk_at"g2";have nd:=aFw.nd;walk_at"hu";have aFm:=m.a8;refine⟨_,(aC (a9 (wX (qZ hu1 (pv 1) (bO (pv 0) rfl)) (by with_unfolding_all rfl)) (aD pI) aQ)
  (aD (aM (fJ hu1 (bO (pv 0) rfl) (pv 1) (λ_ _=>rfl))))),?_⟩
 refine aG (σ:=[some (.ref h),some (.str d.1)]) rfl ?_;walk_at"cx";walk_at"g1";obtain⟨dx,qs,qp,qd,nk,kvs,e1,e2,e3,e4,e5,e6,e7⟩:=hh.ex;walk_at"g2";obtain⟨v,ev,hv⟩:=X4 e7 ndd hd;walk_at"go";refine oS (.inl e6) ?_;rw[show (aZ nk (.inr d.1)).isSome=true by rw[ev];rfl];walk_at"go";refine qL (.inl e6) ev ?_;walk_at"go";exact k _ hv
theorem fG (m:M w K mg):Mc P w K mg base m.aH "door" 1 (yC m.aH (aN P w K mg base (some 1))):=⟨_,_,_,m.a8.ic.cl,m.vL,m.eW.b,G8 m⟩
def bB (rz:List (Str×Int))(f:Int)(n:Nat):List (Str×Int):=((fz n).map λ(i:Nat)=>rz.map λe=>(e.1,f+(i:Int))).flatten
theorem iI (rz:List (Str×Int))(f:Int)(n:Nat):bB rz f (n+1)=bB rz f n++rz.map λe=>(e.1,f+(n:Int)):=by
 unfold bB;rw[List.range_succ,du,xy];simp
theorem kA (rz:List (Str×Int))(f:Int):∀n,(bB rz f n).length=n * rz.length
 | 0=>by simp[bB]
 | n+1=>by rw[iI,cb,kA rz f n,ao,Nat.succ_mul]
theorem JX {t:Int}:∀{rz:List (Str×Int)}{ys:List V},cg (λ(e:Key×V) y=>∀z,e.1= .inr z->cH H y (z,t)) (szK rz) ys->cg (cH H) ys (rz.map λe=>(e.1,t))
 | [],_,.nil=> .nil
 | _::_,_,.cons h t=> .cons (h _ rfl) (JX t)
theorem NQ (h:cg (cH H) ws ps)(e:H p=some (.lst xs))(sb:SameBut p H H'):cg (cH H') ws ps:=Paired.imp' (λv r ⟨q,e1,h⟩=>⟨q,e1,sb _ _ h λz=>by rw[z,e]at h;cases h⟩) h
theorem gF {F:α->β->Prop}:∀{l l2:List α}{m m2:List β},cg F l m->cg F l2 m2->cg F (l++l2) (m++m2)
 | _,_,_,_,.nil,h=>h
 | _,_,_,_,.cons r t,h=> .cons r (gF t h)
inductive tO (C:Addr)(D:aY)(vs:List V)(H:Hp)(Q:VK)(E:XK):Prop
 | mk (h:Addr) (f l:Int) (rz ps:List (Str×Int)) (ds:List aI) (_:vs=[.ref h]) (_:aW C D H h f l rz ps ds) (_:0<=f) (_:f<=l) (_:l<1000000000000) (_:l - f<=1000) (_:rz.length<=20) (_:∀p ys H',H p=none->Same H H'->H' p=some (.lst ys)->cg (cH H') ys (bB rz f (l+1 - f).toNat)->Q (.ref p) H'):tO C D vs H Q E
theorem D8 {D:aY}{Q:VK}{E:XK}{h:Addr}{ds:List aI}(hh:aW C D H h f l rz ps ds)(h0:0<=f)(h1:f<=l)(h2:l<1000000000000)(h3:l - f<=1000)(lr:rz.length<=20)(k:∀p ys H',H p=none->Same H H'->H' p=some (.lst ys)->cg (cH H') ys (bB rz f (l+1 - f).toNat)->Q (.ref p) H'):tO C D [.ref h] H Q E:=⟨_,_,_,_,_,_,rfl,hh,h0,h1,h2,h3,lr,k⟩
theorem DU (m:M w K mg):aP P w K mg base CX0 1 m.oF m.oH.d ["self"] (tO m.aH (aN P w K mg base (some 1))):=by
 refine m.oH.F.ok aGd ?_ ?_;walk_at"w0";walk_at"w1";obtain⟨h,f,l,rz,ps,ds,rfl,hh,h0,h1,h2,h3,lr,k⟩:=h;walk_at"g2";have nd:=aGd.nd;walk_at"hu";have aFm:=m.a8;refine⟨_,(aC (bD (i:=1) nd rfl (by walk_at"oi") (bJ aB))
  (aC (dS gy rfl (SH rfl m.FB (aA (bO (pv 0) rfl) (aA (bR eN (bO (pv 0) rfl) aF) aB))) (aS (i:=2) nd rfl (by walk_at"oi")) (aD (bQ (oT kf PySem.F.slot_list_extend PySem.F.type_list_extend TU (pv 1) (aA (yG (dA (N:=["room","turn"]) (nl:=1) (ci:=[2]) rfl (blk (s.heap.objs.size+1) rfl rfl rfl (by kernel_rfl)) (AN (bO (pv 0) rfl)) (λ_ _ _ _=>(aS (i:=0) (show (["room","turn"]:List Str).Nodup by decide +kernel) rfl (by walk_at"oi"))) (λ_ _ _ _=>dR) (λ_ _ _ _=>(bI (aA (pv 0) (aA (pv 1) aB)))))) aB)))))
  (aD (aM (pv 1))))),?_⟩
 refine aG (σ:=[some (.ref h),none,none]) rfl ?_;walk_at"cx";walk_at"g1";obtain⟨dx,qs,qp,qd,nk,kvs,e1,e2,e3,e4,e5,e6,e7⟩:=hh.ex;walk_at"g2";have hl2:(szK rz).length=rz.length:=by unfold szK;rw[ao]
 walk_at"go";rename_i p H1 n1 S1 ep;have e21:=S1 _ _ e2;have e11:=S1 _ _ e1;have hqsp:qs≠p:=λz=>by rw[z,n1]at e2;cases e2
 have hhp:h≠p:=λz=>by rw[z,n1]at e1;cases e1
 let Pv1:Nat->St->Hp->Prop:=λi σ' H'=>SameBut p H1 H'/\(∃ys,H' p=some (.lst ys)/\cg (cH H') ys (bB rz f i))/\∃x,σ'=[some (.ref h),some (.ref p),x];refine MO Pv1 ⟨SameBut.refl,⟨[],ep,.nil⟩,_,rfl⟩ ?_ ?_
 .rintro i _ H' hi hq_;walk_at"g1";obtain⟨sb,⟨ys,ey,hys⟩,x,rfl⟩:=hq_;walk_at"g2";have e2':=sb _ _ e21 hqsp;have e1':=sb _ _ e11 hhp;have hyl:ys.length=i * rz.length:=by rw[cj hys,kA]
  have hyb:ys.length<=1001 * 20:=by
   rw[hyl];exact qb (by lia) lr
  walk_at"go";refine AX e2' OM ?_;walk_at"go";refine zV e2' λo H2 B2 e22=> ?_;have hpq:p≠qs:=dg hqsp;refine VT (λ_=>true) (λe y H=>∀z,e.1= .inr z->cH H y (z,f+(i:Int))) (λ_ _ _ _ hh s z hz=>let ⟨q,a1,a2⟩:=hh z hz;⟨q,a1,s _ _ a2⟩) (by rw[bq];lia) (rest:=[some (.int (f+(i:Int)))]) (by rfl) e22 (λx H6 hx s6 R hR=>hR _ (Same.refl _)) ?_ ?_
  .rintro x H6 hx - s6 R hR;obtain⟨e,he,rfl⟩:=bg.mp hx;show (_:TE) (some (V.str e.1)::[some (.int (f+(i:Int)))]) H6 R;walk_at"go";rename_i q7 H7 n7 S7 e77;exact hR _ _ (λz hz=>by cases hz;exact⟨q7,rfl,e77⟩) S7
  intro zs H3 s3 hzs;rw[iY]at hzs;have hzp:=JX hzs;walk_at"go";rename_i q4 H4 n4 S4 e44;refine rL (S4 _ _ (s3 _ _ e22)) λH5 B5 e55=> ?_;have hq4:q4≠qs:=λz=>by rw[z,s3 _ _ e22]at n4;cases n4
  have ey2:=B2 _ _ ey hpq;have ey5:H5 p=some (.lst ys):=B5 _ _ (S4 _ _ (s3 _ _ ey2)) hpq;have sX:Same H' H5:=FJ e2' B2 (Same.but (s3.trans S4)) B5 e55;have hz5:cg (cH H5) zs (rz.map λe=>(e.1,f+(i:Int))):=Paired.imp' (λv r ⟨q,a1,a2⟩=>⟨q,a1,B5 _ _ (S4 _ _ a2) λz=>by rw[z,s3 _ _ e22]at a2;cases a2⟩) hzp;have hzl:zs.length=rz.length:=by rw[cj hz5,ao]
  walk_at"go";refine TY ey5 (B5 _ _ e44 hq4) (by rw[bq];lia) λH6 B6 e66=> ?_;walk_at"go";refine⟨(sb.trans sX.but).trans B6,⟨_,e66,?_⟩,_,rfl⟩;rw[iI];exact gF (NQ (nF hys sX) ey5 B6) (NQ hz5 ey5 B6)
 .rintro _ H' hq_;walk_at"g1";obtain⟨sb,⟨ys,ey,hys⟩,x,rfl⟩:=hq_;walk_at"g2";walk_at"go";exact k _ _ _ n1 (SameBut.same n1 S1 sb) ey hys
theorem lX (m:M w K mg):Mc P w K mg base m.aH "pairs" 1 (tO m.aH (aN P w K mg base (some 1))):=⟨_,_,_,m.a8.ic.cl,m.E4,m.oH.b,DU m⟩
def pQ (f l:Int)(d:aI)(t:Int):Int:=if f<=t/\t<l then d.2.2.2 t else 0
inductive tS (C:Addr)(D:aY)(vs:List V)(H:Hp)(Q:VK)(E:XK):Prop
 | mk (h:Addr) (d:aI) (t f l:Int) (rz ps:List (Str×Int)) (ds:List aI) (_:vs=[.ref h,.str d.1,.int t]) (_:aW C D H h f l rz ps ds) (_:(ds.map (·.1)).Nodup) (_:d∈ds) (_:0<=f) (_:∀H',Same H H'->Q (.int (pQ f l d t)) H'):tS C D vs H Q E
theorem aAG {D:aY}{Q:VK}{E:XK}{h:Addr}{d:aI}{t:Int}{ds:List aI}(hh:aW C D H h f l rz ps ds)(nd:(ds.map (·.1)).Nodup)(hd:d∈ds)(hf:0<=f)(k:∀H',Same H H'->Q (.int (pQ f l d t)) H'):tS C D [.ref h,.str d.1,.int t] H Q E:=⟨_,_,_,_,_,_,_,_,rfl,hh,nd,hd,hf,k⟩
theorem GM (m:M w K mg):aP P w K mg base CX0 3 m.kX m.eX.d ["self","name","turn"] (tS m.aH (aN P w K mg base (some 1))):=by
 refine m.eX.F.ok aFx ?_ ?_;walk_at"w0";walk_at"w1";obtain⟨h,d,t,f,l,rz,ps,ds,rfl,hh,ndd,hd,hf,k⟩:=h;walk_at"g2";have nd:=aFx.nd;walk_at"hu";have aFm:=m.a8;have aFs:= @fG P w K mg base m;refine⟨_,(aC (bD (i:=3) nd rfl (by walk_at"oi") (kG 1 hr (pv 0) (aA (pv 1) aB)))
  (aC (a9 (PW.pt (rJ (aT fM (pv 2) (bO (pv 0) rfl) (aX _)) (qC (aT Z7 (pv 2) (bO (pv 0) rfl) (aX _))))) (aD (aM aF)) aQ)
  (aD (aM (kG 1 hr (pv 3) (aA (pv 2) aB)))))),?_⟩
 refine aG (σ:=[some (.ref h),some (.str d.1),some (.int t),none]) rfl ?_;walk_at"cx";walk_at"g1";obtain⟨dx,qs,qp,qd,nk,kvs,e1,_⟩:=hh.ex;walk_at"g2";walk_at"g1";obtain⟨n,st,e,lt⟩:=d;walk_at"g2";walk_at"go";refine wG (d:=(n,st,e,lt)) hh ndd hd λv hv=> ?_;walk_at"g1";obtain⟨q2,C2,dx2,fs2,fp2,rfl,hq2,dcC,l1,l2,l3,l4,l5,mcE,hfp,hlt⟩:=DoorAt.ex hv;walk_at"g2";obtain⟨sp,mcL,hsp⟩:=hlt _ rfl;walk_at"go";refine kC (λhc=> ?_) (λhc=> ?_)
 .have hk:pQ f l (n,st,e,lt) t=0:=by unfold pQ;rw[if_neg (by lia)]
  rw[hk]at k;walk_at"go";exact k _ (Same.refl _)
 .walk_at"go";refine kC (λhc2=> ?_) (λhc2=> ?_)
  .have hk:pQ f l (n,st,e,lt) t=0:=by unfold pQ;rw[if_neg (by lia)]
   rw[hk]at k;walk_at"go";exact k _ (Same.refl _)
  .have hk:pQ f l (n,st,e,lt) t=lt t:=by unfold pQ;rw[if_pos (by lia)]
   rw[hk]at k;walk_at"go";exact hsp _ _ _ hq2 (λx hx=>(hfp x hx).1) (by lia) k
theorem G9 (m:M w K mg):Mc P w K mg base m.aH "lets" 3 (tS m.aH (aN P w K mg base (some 1))):=⟨_,_,_,m.a8.ic.cl,m.vM,m.eX.b,GM m⟩
def JI (H:Hp)(v:V)(r:bA):Prop:=∃q,v= .ref q/\H q=some (.tup [.int r.1,.str r.2.1,.int r.2.2])
abbrev cJ (H:Hp)(vs:List V)(rows:List bA):Prop:=cg (JI H) vs rows
theorem lT (h:cJ H vs rows)(s:Same H H'):cJ H' vs rows:=Paired.imp' (λv r ⟨q,e,h⟩=>⟨q,e,s _ _ h⟩) h
theorem mM {F:α->β->Prop}:∀{l:List α}{m:List β},cg F l m->cg (λb a=>F a b) m l
 | _,_,.nil=> .nil
 | _,_,.cons h t=> .cons h (mM t)
def cnt (ns:List Str)(f l:Int)(r:bA):Bool:=decide (r.2.1∈ns)&&(decide (f<=r.1)&&decide (r.1<l))
inductive uA (K:W.Frag)(C:Addr)(D:aY)(vs:List V)(H:Hp)(Q:VK)(E:XK):Prop
 | mk (h a:Addr) (f l:Int) (rz ps:List (Str×Int)) (ds:List aI) (us:List V) (rows:List bA) (_:vs=[.ref h,.ref a]) (_:aW C D H h f l rz ps ds) (_:SqL K H a us) (_:cJ H us rows) (_:rows.length<=200) (_:∀p ys H',H p=none->Same H H'->H' p=some (.lst ys)->cJ H' ys (rows.filter (cnt (ds.map (·.1)) f l))->Q (.ref p) H'):uA K C D vs H Q E
theorem NM {D:aY}{Q:VK}{E:XK}{h:Addr}{ds:List aI}{us:List V}(hh:aW C D H h f l rz ps ds)(hS:SqL K H a us)(hp:cJ H us rows)(hl:rows.length<=200)(k:∀p ys H',H p=none->Same H H'->H' p=some (.lst ys)->cJ H' ys (rows.filter (cnt (ds.map (·.1)) f l))->Q (.ref p) H'):uA K C D [.ref h,.ref a] H Q E:=⟨_,_,_,_,_,_,_,_,_,rfl,hh,hS,hp,hl,k⟩
theorem wC (m:M w K mg):aP P w K mg base CX0 2 m.iF m.d8.d ["house","plan"] (uA K m.aH (aN P w K mg base (some 1))):=by
 refine m.d8.F.ok aFG ?_ ?_;walk_at"w0";walk_at"w1";obtain⟨h,a,f,l,rz,ps,ds,us,rows,rfl,hh,hS,hpl,hlen,k⟩:=h;walk_at"g2";have nd:=aFG.nd;walk_at"hu";have aFm:=m.a8;have aFU:= @lG P w K mg base m;refine⟨_,(aC (bD (i:=2) nd rfl (by walk_at"oi") (m8 1 hr (pv 0)))
  (aD (aM (dA (N:=["row","doors","house"]) (nl:=1) (ci:=[2,0]) rfl (blk (s.heap.objs.size+1) rfl rfl rfl (by kernel_rfl)) (b0 (pv 1)) (λ_ _ _ _=>(aS (i:=0) (show (["row","doors","house"]:List Str).Nodup by decide +kernel) rfl (by walk_at"oi"))) (λ_ _ _ _=>(nJ (PW.pt (pZ (aT (RD (K:=K)) (dB (EW (K:=K)) (pv 0) aF (λ_ _=>rfl)) (pv 1) (by with_unfolding_all rfl)) (lY (K0 BZ fM (o7 (K:=K) (pv 2) rfl) (dB (EW (K:=K)) (pv 0) aF (λ_ _=>rfl)) (o7 (K:=K) (pv 2) rfl))))))) (λ_ _ _ _=>(pv 0)))))),?_⟩
 refine aG (σ:=[some (.ref h),some (.ref a),none]) rfl ?_;walk_at"cx";walk_at"g1";obtain⟨dx,qs,qp,qd,nk,kvs,e1,e2,e3,e4,e5,e6,e7⟩:=hh.ex;walk_at"g2";walk_at"go";refine D0 hh λp1 H1 n1 S1 e8=> ?_;have e11:=S1 _ _ e1;walk_at"go";refine gE (α:=bA) (xs:=rows) (vs:=us) (JI H1) (cnt (ds.map (·.1)) f l) (λr y H=>JI H y r) (λ_ _ _ _ ⟨q,h1,h2⟩ s=>⟨q,h1,s _ _ h2⟩) (by rw[bq];lia) (rest:=[some (.ref p1),some (.ref h)]) (by rfl) (S1.seq hS) (lT hpl S1) ?_ ?_ ?_
 .rintro v ⟨t0,n0,j0⟩ H2 ⟨q,rfl,hq⟩ hm s2 R hR;have hq':H2 q=some (.tup [.int t0,.str n0,.int j0]):=s2 _ _ hq;have ep:=s2 _ _ e8;have eh:=s2 _ _ e11;walk_at"go";refine⟨q,_,1,_,rfl,rfl,SqT.of hq',rfl,?_⟩;walk_at"go";refine SG (SqL.of ep) ?_;have hR':=hR _ (Same.refl _);unfold cnt at hR';walk_at"go";refine kC (λhc=> ?_) (λhc=> ?_)
  .rw[decide_eq_true hc,rf]at hR';walk_at"go";refine⟨q,_,0,_,rfl,rfl,SqT.of hq',rfl,?_⟩;walk_at"go";refine kC (λhc2=> ?_) (λhc2=> ?_)
   .rw[decide_eq_true hc2,rf]at hR';walk_at"go";exact hR'
   .rw[decide_eq_false hc2,mh]at hR';exact⟨false,rfl,hR'⟩
  .rw[decide_eq_false hc,mh]at hR';exact hR'
 .rintro v ⟨t0,n0,j0⟩ H2 ⟨q,rfl,hq⟩ hm - s2 R hR;walk_at"go";exact hR _ _ ⟨q,rfl,s2 _ _ hq⟩ (Same.refl _)
 intro ys H2 s2 hys;have hpl2:=mM hys;walk_at"go";rename_i p3 H3 n3 S3 e33;refine k _ _ _ ?_ ((S1.trans s2).trans S3) e33 (lT hpl2 S3);cases hq:H p3 with
 | none=>rfl
 | some u=>rw[s2 _ _ (S1 _ _ hq)]at n3;cases n3
theorem mZ (m:M w K mg):Fc P w K mg base "rows_that_count" 2 ["house","plan"] (uA K m.aH (aN P w K mg base (some 1))):=⟨_,_,m.zC,m.d8.F.kp,m.d8.b,wC m⟩
def w6 (key:bA->Option (List Key))(kvs:List (List Key×V))(r:bA):List (List Key×V):=match key r with
 | some k=>cF kvs k (.int (rP ((aZ kvs k).getD (.int 0))+r.2.2))
 | none=>kvs
def g9 (key:bA->Option (List Key))(rows:List bA):List (List Key×V):=rows.foldl (w6 key) []
theorem jO (key:bA->Option (List Key))(rows:List bA)(r:bA):g9 key (rows++[r])=w6 key (g9 key rows) r:=by unfold g9;rw[List.foldl_append];rfl
def pS (key:bA->Option (List Key))(rows:List bA)(k:List Key):Int:=((rows.filter λr=>decide (key r=some k)).map (·.2.2)).sum
theorem VF (key:bA->Option (List Key))(rows:List bA)(r:bA)(k:List Key):pS key (rows++[r]) k=pS key rows k+if key r=some k then r.2.2 else 0:=by
 unfold pS;rw[ku,du,wk]
 congr 1
 by_cases h:key r=some k
 .rw[if_pos h];simp[h]
 .rw[if_neg h];simp[h]
theorem YW (key:bA->Option (List Key))(k:List Key)(rows:List bA):rP ((aZ (g9 key rows) k).getD (.int 0))=pS key rows k:=by
 induction rows using jL with
 | h0=>rfl
 | hs l r ih =>
  rw[jO,VF];unfold w6;cases hk:key r with
  | none =>
   rw[if_neg (by intro z;cases z),yq];exact ih
  | some k2 =>
   show rP ((aZ (cF (g9 key l) k2 _) k).getD (.int 0))=_;rw[lM]
   by_cases e:k=k2
   .subst e;rw[if_pos rfl,if_pos rfl,←ih];rfl
   .rw[if_neg e,if_neg (λz=>e (cp z).symm),yq];exact ih
theorem R6 (key:bA->Option (List Key))(rows:List bA):∀e∈g9 key rows,∃i,e.2= .int i:=by
 induction rows using jL with
 | h0=>intro e h;nomatch h
 | hs l r ih =>
  rw[jO];unfold w6;cases hk:key r with
  | none=>exact ih
  | some k2 =>
   intro e he;rcases AA he with h|⟨h1,h2⟩
   .exact ih e h
   .exact⟨_,h2⟩
theorem z7 (key:bA->Option (List Key))(rows:List bA)(k:List Key):∃i,(aZ (g9 key rows) k).getD (.int 0)= .int i:=by
 cases h:aZ (g9 key rows) k with
 | none=>exact⟨0,rfl⟩
 | some v =>
  obtain⟨i,e⟩:=R6 key rows _ (v5 h);exact⟨i,e⟩
theorem KY (key:bA->Option (List Key))(rows:List bA):(g9 key rows).length<=rows.length:=by
 induction rows using jL with
 | h0=>exact ar _
 | hs l r ih =>
  rw[jO,cb];unfold w6;cases hk:key r with
  | none=>exact bo ih (vn _ _)
  | some k2=>exact bo (fI _ _ _) (by simp;lia)
def iH (ds:List aI)(n:Str):Option aI:=ds.find? λd=>decide (d.1=n)
theorem uK {ds:List aI}{n:Str}(h:n∈ds.map (·.1)):∃d∈ds,d.1=n/\iH ds n=some d:=by
 obtain⟨d,hd,e⟩:=bg.mp h;cases hf:iH ds n with
 | none =>
  have:=tz.mp hf d hd;exact absurd (decide_eq_true e) this
 | some d2 =>
  have h1:decide (d2.1=n)=true:=List.find?_some (p:=λd:aI=>decide (d.1=n)) hf;exact⟨d2,mx hf,of_decide_eq_true h1,rfl⟩
def pW (ds:List aI)(r:bA):Option (List Key):=(iH ds r.2.1).map λd=>[.inr d.2.1,.inl r.1]
def lQ (ds:List aI)(r:bA):Option (List Key):=(iH ds r.2.1).bind λd=>match d.2.2.1 with
 | .str z=>some [.inr z,.inl r.1]
 | _=>none
inductive lZ (K:W.Frag)(C:Addr)(D:aY)(key:List aI->bA->Option (List Key))(vs:List V)(H:Hp)(Q:VK)(E:XK):Prop
 | mk (h a:Addr) (f l:Int) (rz ps:List (Str×Int)) (ds:List aI) (us:List V) (rows:List bA) (_:vs=[.ref h,.ref a]) (_:aW C D H h f l rz ps ds) (_:(ds.map (·.1)).Nodup) (_:(∀d∈ds,mW (rz.map (·.1)) d)) (_:SqL K H a us) (_:cJ H us rows) (_:rows.length<=200) (_:∀p H',H p=none->Same H H'->H' p=some (.dT (g9 (key ds) (rows.filter (cnt (ds.map (·.1)) f l))))->Q (.ref p) H'):lZ K C D key vs H Q E
theorem DM {D:aY}{key:List aI->bA->Option (List Key)}{Q:VK}{E:XK}{h:Addr}{ds:List aI}{us:List V}(hh:aW C D H h f l rz ps ds)(nd:(ds.map (·.1)).Nodup)(hin:∀d∈ds,mW (rz.map (·.1)) d)(hS:SqL K H a us)(hp:cJ H us rows)(hl:rows.length<=200)(k:∀p H',H p=none->Same H H'->H' p=some (.dT (g9 (key ds) (rows.filter (cnt (ds.map (·.1)) f l))))->Q (.ref p) H'):lZ K C D key [.ref h,.ref a] H Q E:=⟨_,_,_,_,_,_,_,_,_,rfl,hh,nd,hin,hS,hp,hl,k⟩
theorem PX (m:M w K mg):aP P w K mg base CX0 3 m.xR m.rX.d ["house","plan"] (lZ K m.aH (aN P w K mg base (some 1)) pW):=by
 refine m.rX.F.ok aGQ ?_ ?_;walk_at"w0";walk_at"w1";obtain⟨h,a,f,l,rz,ps,ds,us,rows,rfl,hh,ndd,hin,hS,hpl,hlen,k⟩:=h;walk_at"g2";have nd:=aGQ.nd;walk_at"hu";have aFt:= @mZ P w K mg base m;have aFm:=m.a8;have aFs:= @fG P w K mg base m;refine⟨_,(aC (bD (i:=2) nd rfl (by walk_at"oi") uB)
  (aC (dS gy rfl (b0 (cG aFt hr (aA (pv 0) (aA (pv 1) aB)))) (tF (n:=3) rfl (bK (aS (i:=3) nd rfl (by walk_at"oi")) (bK (aS (i:=4) nd rfl (by walk_at"oi")) (bK (aS (i:=5) nd rfl (by walk_at"oi")) dI)))) (aC (bD (i:=6) nd rfl (by walk_at"oi") (bI (aA (bO (kG 1 hr (pv 0) (aA (pv 4) aB)) rfl) (aA (pv 3) aB))))
  (aD (jR hu1 (pv 2) (pv 6) (bR eN (lH hu1 (pv 2) (pv 6) aF ⟨rfl,rfl,rfl,rfl⟩) (pv 5)) rfl))))
  (aD (aM (pv 2))))),?_⟩
 refine aG (σ:=[some (.ref h),some (.ref a),none,none,none,none,none]) rfl ?_;walk_at"cx";walk_at"go";rename_i p H1 n1 S1 ep;refine NM (bU hh S1) (S1.seq hS) (lT hpl S1) hlen λq ys H2 n2 S2 eq hcr=> ?_;generalize hce:rows.filter (cnt (ds.map (·.1)) f l)=cr at hcr k;have hcn:∀r∈cr,r.2.1∈ds.map (·.1):=λr hr=>by
  rw[←hce]at hr;have:=(fb.mp hr).2;unfold cnt at this;rw[cq]at this;exact of_decide_eq_true this.1
 have hcl:cr.length<=200:=by rw[←hce];exact bo (dq _ _) hlen
 have hyl:ys.length=cr.length:=cj hcr;have ep2:=S2 _ _ ep;have hqp:q≠p:=λz=>by rw[z,ep]at n2;cases n2
 have hh2:=bU hh (S1.trans S2);have npd:∀x u,H x=some u->x≠p:=λx u hx z=>by rw[z,n1]at hx;cases hx
 walk_at"go";let Pv1:Nat->St->Hp->Prop:=λi σ' H'=>SameBut p H2 H'/\H' p=some (.dT (g9 (pW ds) (cr.take i)))/\∃x y z u,σ'=[some (.ref h),some (.ref a),some (.ref p),x,y,z,u];refine eU ys Pv1 ⟨SameBut.refl,ep2,_,_,_,_,rfl⟩ (λi σ' H' _ g=>SqL.of (g.1 _ _ eq hqp)) ?_ ?_
 .rintro i x _ H' hx hq_;walk_at"g1";obtain⟨sb,ek,x1,x2,x3,x4,rfl⟩:=hq_;walk_at"g2";have hi:i<ys.length:=(ay.mp hx).1;obtain⟨⟨t,n,j⟩,hrx⟩:∃r,cr[i]? =some r:=⟨_,aq (by lia)⟩
  obtain⟨q1,rfl,hq1⟩:=Paired.at2 hcr hx hrx;have hq1':H' q1=some (.tup [.int t,.str n,.int j]):=sb _ _ hq1 λz=>by rw[z,ep2]at hq1;cases hq1
  have sH:Same H H':=λx u hx=>sb _ _ (S2 _ _ (S1 _ _ hx)) (npd x u hx);have hh':=bU hh sH;walk_at"g1";obtain⟨dx,qs,qp,qd,nk,kvs,e1,_⟩:=hh'.ex;walk_at"g2";walk_at"g1";obtain⟨⟨dn,dst,de,dw⟩,hd,rfl,hdo⟩:=uK (hcn _ (bz hrx));walk_at"g2";have hkey:pW ds (t,dn,j)=some [.inr dst,.inl t]:=by
   unfold pW;rw[show iH ds ((t,dn,j):bA).2.1=some (dn,dst,de,dw) from hdo];rfl
  obtain⟨i0,ei⟩:=z7 (pW ds) (cr.take i) [.inr dst,.inl t];have hkl:=KY (pW ds) (cr.take i);rw[fm]at hkl;walk_at"go";refine wG (d:=(dn,dst,de,dw)) hh' ndd hd λv hv=> ?_;walk_at"g1";obtain⟨q2,C2,dx2,fs2,fp2,rfl,hq2,dcC,l1,l2,l3,l4,l5,mcE,hfp,hlt⟩:=DoorAt.ex hv;walk_at"g2";walk_at"go";rename_i b3 H3 n3 S3 e3;refine jP (S3 _ _ ek) ?_;walk_at"go";refine lN [.inr dst,.inl t] (S3 _ _ ek) e3 ?_;rw[ei];walk_at"go";refine pF [.inr dst,.inl t] (S3 _ _ ek) e3 (by rw[bq];lia) λH4 B4 e4=> ?_;refine⟨(sb.trans S3.but).trans B4,?_,_,_,_,_,rfl⟩;rw[e4,cD hrx,jO];unfold w6;rw[hkey];show _=some (HO.dT (cF _ _ (.int (rP ((aZ _ _).getD (.int 0))+j))));rw[ei];rfl
 .rintro _ H' hq_;walk_at"g1";obtain⟨sb,ek,x1,x2,x3,x4,rfl⟩:=hq_;walk_at"g2";rw[hyl,fg]at ek;walk_at"go";exact k _ _ n1 (λx u hx=>sb _ _ (S2 _ _ (S1 _ _ hx)) (npd x u hx)) ek
theorem BN (m:M w K mg):Fc P w K mg base "leaving" 3 ["house","plan"] (lZ K m.aH (aN P w K mg base (some 1)) pW):=⟨_,_,m.VX,m.rX.F.kp,m.rX.b,PX m⟩
theorem SU (m:M w K mg):aP P w K mg base CX0 3 m.BC m.u6.d ["house","plan"] (lZ K m.aH (aN P w K mg base (some 1)) lQ):=by
 refine m.u6.F.ok aGW ?_ ?_;walk_at"w0";walk_at"w1";obtain⟨h,a,f,l,rz,ps,ds,us,rows,rfl,hh,ndd,hin,hS,hpl,hlen,k⟩:=h;walk_at"g2";have nd:=aGW.nd;walk_at"hu";have aFt:= @mZ P w K mg base m;have aFm:=m.a8;have aFs:= @fG P w K mg base m;refine⟨_,(aC (bD (i:=2) nd rfl (by walk_at"oi") uB)
  (aC (dS gy rfl (b0 (cG aFt hr (aA (pv 0) (aA (pv 1) aB)))) (tF (n:=3) rfl (bK (aS (i:=3) nd rfl (by walk_at"oi")) (bK (aS (i:=4) nd rfl (by walk_at"oi")) (bK (aS (i:=5) nd rfl (by walk_at"oi")) dI)))) (aC (bD (i:=6) nd rfl (by walk_at"oi") (kG 1 hr (pv 0) (aA (pv 4) aB)))
  (aD (a9 (eK (cA (m8 1 hr (pv 6)))) (aC (bD (i:=7) nd rfl (by walk_at"oi") (bI (aA (bO (pv 6) rfl) (aA (pv 3) aB))))
  (aD (jR hu1 (pv 2) (pv 7) (bR eN (lH hu1 (pv 2) (pv 7) aF ⟨rfl,rfl,rfl,rfl⟩) (pv 5)) rfl))) aQ))))
  (aD (aM (pv 2))))),?_⟩
 refine aG (σ:=[some (.ref h),some (.ref a),none,none,none,none,none,none]) rfl ?_;walk_at"cx";walk_at"go";rename_i p H1 n1 S1 ep;refine NM (bU hh S1) (S1.seq hS) (lT hpl S1) hlen λq ys H2 n2 S2 eq hcr=> ?_;generalize hce:rows.filter (cnt (ds.map (·.1)) f l)=cr at hcr k;have hcn:∀r∈cr,r.2.1∈ds.map (·.1):=λr hr=>by
  rw[←hce]at hr;have:=(fb.mp hr).2;unfold cnt at this;rw[cq]at this;exact of_decide_eq_true this.1
 have hcl:cr.length<=200:=by rw[←hce];exact bo (dq _ _) hlen
 have hyl:ys.length=cr.length:=cj hcr;have ep2:=S2 _ _ ep;have hqp:q≠p:=λz=>by rw[z,ep]at n2;cases n2
 have hh2:=bU hh (S1.trans S2);have npd:∀x u,H x=some u->x≠p:=λx u hx z=>by rw[z,n1]at hx;cases hx
 walk_at"go";let Pv2:Nat->St->Hp->Prop:=λi σ' H'=>SameBut p H2 H'/\H' p=some (.dT (g9 (lQ ds) (cr.take i)))/\∃x y z u w,σ'=[some (.ref h),some (.ref a),some (.ref p),x,y,z,u,w];refine eU ys Pv2 ⟨SameBut.refl,ep2,_,_,_,_,_,rfl⟩ (λi σ' H' _ g=>SqL.of (g.1 _ _ eq hqp)) ?_ ?_
 .rintro i x _ H' hx hq_;walk_at"g1";obtain⟨sb,ek,x1,x2,x3,x4,x5,rfl⟩:=hq_;walk_at"g2";have hi:i<ys.length:=(ay.mp hx).1;obtain⟨⟨t,n,j⟩,hrx⟩:∃r,cr[i]? =some r:=⟨_,aq (by lia)⟩
  obtain⟨q1,rfl,hq1⟩:=Paired.at2 hcr hx hrx;have hq1':H' q1=some (.tup [.int t,.str n,.int j]):=sb _ _ hq1 λz=>by rw[z,ep2]at hq1;cases hq1
  have sH:Same H H':=λx u hx=>sb _ _ (S2 _ _ (S1 _ _ hx)) (npd x u hx);have hh':=bU hh sH;walk_at"g1";obtain⟨dx,qs,qp,qd,nk,kvs,e1,_⟩:=hh'.ex;walk_at"g2";walk_at"g1";obtain⟨⟨dn,dst,de,dw⟩,hd,rfl,hdo⟩:=uK (hcn _ (bz hrx));walk_at"g2";have hkl:=KY (lQ ds) (cr.take i);rw[fm]at hkl;have hend:=(hin _ hd).2;walk_at"go";refine wG (d:=(dn,dst,de,dw)) hh' ndd hd λv hv=> ?_;walk_at"g1";obtain⟨q2,C2,dx2,fs2,fp2,rfl,hq2,dcC,l1,l2,l3,l4,l5,mcE,hfp,hlt⟩:=DoorAt.ex hv;walk_at"g2";rcases hend with hend|⟨z,hend,hz⟩
  .have hde:de= .non:=hend;subst hde;have hkey:lQ ds (t,dn,j)=none:=by
    unfold lQ;rw[show iH ds ((t,dn,j):bA).2.1=some (dn,dst,.non,dw) from hdo];rfl
   walk_at"go";refine⟨sb,?_,_,_,_,_,_,rfl⟩;rw[ek,cD hrx,jO];unfold w6;rw[hkey]
  .have hde:de= .str z:=hend;subst hde;have hkey:lQ ds (t,dn,j)=some [.inr z,.inl t]:=by
    unfold lQ;rw[show iH ds ((t,dn,j):bA).2.1=some (dn,dst,.str z,dw) from hdo];rfl
   obtain⟨i0,ei⟩:=z7 (lQ ds) (cr.take i) [.inr z,.inl t];walk_at"go";rename_i b3 H3 n3 S3 e3;refine jP (S3 _ _ ek) ?_;walk_at"go";refine lN [.inr z,.inl t] (S3 _ _ ek) e3 ?_;rw[ei];walk_at"go";refine pF [.inr z,.inl t] (S3 _ _ ek) e3 (by rw[bq];lia) λH4 B4 e4=> ?_;refine⟨(sb.trans S3.but).trans B4,?_,_,_,_,_,_,rfl⟩;rw[e4,cD hrx,jO];unfold w6;rw[hkey];show _=some (HO.dT (cF _ _ (.int (rP ((aZ _ _).getD (.int 0))+j))));rw[ei];rfl
 .rintro _ H' hq_;walk_at"g1";obtain⟨sb,ek,x1,x2,x3,x4,x5,rfl⟩:=hq_;walk_at"g2";rw[hyl,fg]at ek;walk_at"go";exact k _ _ n1 (λx u hx=>sb _ _ (S2 _ _ (S1 _ _ hx)) (npd x u hx)) ek
theorem TN (m:M w K mg):Fc P w K mg base "coming" 3 ["house","plan"] (lZ K m.aH (aN P w K mg base (some 1)) lQ):=⟨_,_,m.Y7,m.u6.F.kp,m.u6.b,SU m⟩
theorem zW (key:bA->Option (List Key))(rows:List bA)(k:List Key):(aZ (g9 key rows) k).getD (.int 0)= .int (pS key rows k):=by
 obtain⟨i,e⟩:=z7 key rows k;have h:=YW key k rows;rw[e]at h ⊢;rw[←h];rfl
theorem pairsN_mem {t:Int}:∀{n:Nat},(z,t)∈bB rz f n↔z∈rz.map (·.1)/\∃i:Nat,i<n/\t=f+i
 | 0=>⟨(λh=>by cases h),(λ⟨_,i,h,_⟩=>absurd h (wg _))⟩
 | n+1=>by
  rw[iI,fc,pairsN_mem (n:=n)]
  constructor
  .rintro (⟨h1,i,h2,h3⟩|h)
   .exact⟨h1,i,by lia,h3⟩
   .obtain⟨e,he,ee⟩:=bg.mp h;cases ee;exact⟨bg.mpr ⟨e,he,rfl⟩,n,by lia,rfl⟩
  .rintro hq_;walk_at"g1";obtain⟨h1,i,h2,h3⟩:=hq_;walk_at"g2"
   by_cases hi:i=n
   .subst hi;obtain⟨e,he,rfl⟩:=bg.mp h1;exact .inr (bg.mpr ⟨e,he,by rw[h3]⟩)
   .exact .inl ⟨h1,i,by lia,h3⟩
theorem j8 (nd:(rz.map (·.1)).Nodup)(f:Int):∀n,(bB rz f n).Nodup
 | 0=>by simp[bB]
 | n+1=>by
  rw[iI,List.nodup_append];refine⟨j8 nd f n,?_,?_⟩
  .rw[List.Nodup,um]at nd ⊢;exact nd.imp λh z=>h (xq z).1
  .intro a ha b hb e;subst e;obtain⟨z,t⟩:=a;walk_at"g1";obtain⟨_,i,hi,ht⟩:=pairsN_mem.mp ha;walk_at"g2";obtain⟨e,_,ee⟩:=bg.mp hb;cases ee
   lia
theorem BH (rz:List (Str×Int))(f:Int)(m:Nat):∀k,∃l,bB rz f (m+k)=bB rz f m++l
 | 0=>⟨[],by rw[Nat.add_zero,gw]⟩
 | k+1=>by
  obtain⟨l,e⟩:=BH rz f m k;exact⟨l++_,by rw[←Nat.add_assoc,iI,e,me]⟩
theorem J4 {t:Int}(h:(bB rz f n)[i]? =some (z,t))(ht:t≠f):(z,t - 1)∈(bB rz f n).take i/\f<t:=by
 have hi:=(ay.mp h).1;walk_at"g1";obtain⟨hz,m,hm,rfl⟩:=pairsN_mem.mp (bz h);walk_at"g2";have hm0:0<m:=by
  cases m with
  | zero=>exact absurd (by simp) ht
  | succ m=>exact Nat.succ_pos _
 obtain⟨l,el⟩:=BH rz f m (n - m);rw[show m+(n - m)=n by lia]at el;have hge:(bB rz f m).length<=i:=by
  rcases Nat.lt_or_ge i (bB rz f m).length with hlt|hge
  .rw[el,ir hlt]at h;walk_at"g1";obtain⟨_,j,hj,ej⟩:=pairsN_mem.mp (bz h);walk_at"g2"
   lia
  .exact hge
 refine⟨?_,by lia⟩;have h1:(z,f+(m:Int) - 1)∈bB rz f m:=pairsN_mem.mpr ⟨hz,m - 1,by lia,by lia⟩;rw[el,List.take_append,qc hge];exact gk _ h1
def cK (p:Str×Int):List Key:=[.inr p.1,.inl p.2]
theorem J6 {a b:Str×Int}(h:cK a=cK b):a=b:=by
 unfold cK at h;injection h with h1 h2;injection h2 with h2;exact Prod.ext (kg h1) (wx h2)
def j7 (ps:List (Str×Int))(L C:List Key->Int)(z:Str)(f:Int):Nat->Int
 | 0=>dF ps z
 | n+1=>j7 ps L C z f n - L (cK (z,f+(n:Int)))+C (cK (z,f+(n:Int)))
def jA (ps:List (Str×Int))(L C:List Key->Int)(f:Int)(pp:List (Str×Int)):List (List Key×V):=pp.map λp=>(cK p,V.int (j7 ps L C p.1 f (p.2 - f).toNat))
theorem A5 {C:List Key->Int}(nd:pp.Nodup){p:Str×Int}(h:p∈pp):aZ (jA ps L C f pp) (cK p)=some (.int (j7 ps L C p.1 f (p.2 - f).toNat)):=by
 refine lW (e:=(cK p,V.int (j7 ps L C p.1 f (p.2 - f).toNat))) ?_ (bg.mpr ⟨p,h,rfl⟩);unfold jA;rw[fk,List.Nodup,um];exact nd.imp λhne z=>hne (J6 z)
theorem J8 {C:List Key->Int}{p:Str×Int}(h:p∉pp):aZ (jA ps L C f pp) (cK p)=none:=by
 have:∀e∈jA ps L C f pp,e.1≠cK p:=λe he z=>by
  obtain⟨q,hq,rfl⟩:=bg.mp he;exact h (J6 z▸hq)
 revert this;generalize jA ps L C f pp=kvs;intro this
 induction kvs with
 | nil=>rfl
 | cons a l ih =>
  rw[cR (this a (.head _))];exact ih λe he=>this e (bx _ he)
inductive AC (K:W.Frag)(C:Addr)(D:aY)(vs:List V)(H:Hp)(Q:VK)(E:XK):Prop
 | mk (h a:Addr) (f l:Int) (rz ps:List (Str×Int)) (ds:List aI) (us:List V) (rows:List bA) (_:vs=[.ref h,.ref a]) (_:aW C D H h f l rz ps ds) (_:(rz.map (·.1)).Nodup) (_:(ds.map (·.1)).Nodup) (_:(∀d∈ds,mW (rz.map (·.1)) d)) (_:0<=f) (_:f<=l) (_:l<1000000000000) (_:l - f<=1000) (_:rz.length<=20) (_:SqL K H a us) (_:cJ H us rows) (_:rows.length<=200) (_:∀p H',H p=none->Same H H'->H' p=some (.dT (jA ps (pS (pW ds) (rows.filter (cnt (ds.map (·.1)) f l))) (pS (lQ ds) (rows.filter (cnt (ds.map (·.1)) f l))) f (bB rz f (l+1 - f).toNat)))->Q (.ref p) H'):AC K C D vs H Q E
theorem YM (m:M w K mg):aP P w K mg base CX0 4 m.FA m.yS.d ["house","plan"] (AC K m.aH (aN P w K mg base (some 1))):=by
 refine m.yS.F.ok aG8 ?_ ?_;walk_at"w0";walk_at"w1";obtain⟨h,a,f,l,rz,ps,ds,us,rows,rfl,hh,nr,ndd,hin,h0,h1,h2,h3,lr,hS,hpl,hlen,k⟩:=h;walk_at"g2";have nd:=aG8.nd;walk_at"hu";have aHu:= @TN P w K mg base m;have aGw:= @BN P w K mg base m;have aFm:=m.a8;have aFZ:= @lX P w K mg base m;have aHo:= @D2 P w K mg base m;refine⟨_,(aC (bD (i:=2) nd rfl (by walk_at"oi") (cG aGw hr (aA (pv 0) (aA (pv 1) aB))))
  (aC (bD (i:=3) nd rfl (by walk_at"oi") (cG aHu hr (aA (pv 0) (aA (pv 1) aB))))
  (aC (bD (i:=4) nd rfl (by walk_at"oi") uB)
  (aC (dS gy rfl (b0 (m8 1 hr (pv 0))) (tF (n:=2) rfl (bK (aS (i:=5) nd rfl (by walk_at"oi")) (bK (aS (i:=6) nd rfl (by walk_at"oi")) dI))) (aD (a9 (aT cN (pv 6) (bO (pv 0) rfl) (aX _)) (aD (jR hu1 (pv 4) (bI (aA (pv 5) (aA (pv 6) aB))) (kG 3 hr (pv 0) (aA (pv 5) aB)) rfl)) (aC (bD (i:=7) nd rfl (by walk_at"oi") (bI (aA (pv 5) (aA (bR CO (pv 6) aF) aB))))
  (aD (jR hu1 (pv 4) (bI (aA (pv 5) (aA (pv 6) aB))) (bR eN (bR CO (fJ hu1 (pv 4) (pv 7) (λ_ _=>rfl)) (lH hu1 (pv 2) (pv 7) aF ⟨rfl,rfl,rfl,rfl⟩)) (lH hu1 (pv 3) (pv 7) aF ⟨rfl,rfl,rfl,rfl⟩)) rfl))))))
  (aD (aM (pv 4))))))),?_⟩
 refine aG (σ:=[some (.ref h),some (.ref a),none,none,none,none,none,none]) rfl ?_;walk_at"cx";walk_at"g1";obtain⟨dx,qs,qp,qd,nk,kvs,e1,_⟩:=hh.ex;walk_at"g2";walk_at"go";refine DM hh ndd hin hS hpl hlen λpL H1 n1 S1 eL=> ?_;walk_at"go";refine DM (bU hh S1) ndd hin (S1.seq hS) (lT hpl S1) hlen λpC H2 n2 S2 eC=> ?_;have e12:=S2 _ _ (S1 _ _ e1);walk_at"go";rename_i p H3 n3 S3 ep;have e13:=S3 _ _ e12;walk_at"go";have sA:Same H H3:=(S1.trans S2).trans S3;refine D8 (bU hh sA) h0 h1 h2 h3 lr λq ys H4 n4 S4 eq hpp=> ?_;have ep4:=S4 _ _ ep;have hqp:q≠p:=λz=>by rw[z,ep]at n4;cases n4
 have npd:∀x u,H2 x=some u->x≠p:=λx u hx z=>by rw[z,n3]at hx;cases hx
 have pnd:=j8 nr f (l+1 - f).toNat;have pll:=kA rz f (l+1 - f).toNat;have plb:(l+1 - f).toNat * rz.length<=1001 * 20:=qb (by lia) lr;have hyl:ys.length=(bB rz f (l+1 - f).toNat).length:=cj hpp;generalize hLe:pS (pW ds) (rows.filter (cnt (ds.map (·.1)) f l))=LL at k;generalize hCe:pS (lQ ds) (rows.filter (cnt (ds.map (·.1)) f l))=CC at k;walk_at"go";let Pv1:Nat->St->Hp->Prop:=λi σ' H'=>SameBut p H4 H'/\H' p=some (.dT (jA ps LL CC f ((bB rz f (l+1 - f).toNat).take i)))/\∃x y z,σ'=[some (.ref h),some (.ref a),some (.ref pL),some (.ref pC),some (.ref p),x,y,z];refine eU ys Pv1 ⟨SameBut.refl,ep4,_,_,_,rfl⟩ (λi σ' H' _ g=>SqL.of (g.1 _ _ eq hqp)) ?_ ?_
 .rintro i x _ H' hx hq_;walk_at"g1";obtain⟨sb,ek,x1,x2,x3,rfl⟩:=hq_;walk_at"g2";have hi:i<ys.length:=(ay.mp hx).1;obtain⟨⟨z,t⟩,hrx⟩:∃r,(bB rz f (l+1 - f).toNat)[i]? =some r:=⟨_,aq (by lia)⟩
  obtain⟨q1,rfl,hq1⟩:=Paired.at2 hpp hx hrx;have hq1':H' q1=some (.tup [.str z,.int t]):=sb _ _ hq1 λzz=>by rw[zz,ep4]at hq1;cases hq1
  have sH2:Same H2 H':=λx u hx=>sb _ _ (S4 _ _ (S3 _ _ hx)) (npd x u hx);have hh':=bU hh ((S1.trans S2).trans sH2);have e1':=sH2 _ _ e12;have eL':=sH2 _ _ (S2 _ _ eL);have eC':=sH2 _ _ eC;have hz:z∈rz.map (·.1):=(pairsN_mem.mp (bz hrx)).1;have hnew:(z,t)∉(bB rz f (l+1 - f).toNat).take i:=tQ pnd hrx;have hkl:(jA ps LL CC f ((bB rz f (l+1 - f).toNat).take i)).length<=20020:=by unfold jA;rw[ao,fm];lia
  have nd':((bB rz f (l+1 - f).toNat).take i).Nodup:=pnd.sublist (List.take_sublist _ _);walk_at"go";refine kC (λhc=> ?_) (λhc=> ?_)
  .subst hc;walk_at"go";refine aBz hh' nr hz λH5 S5=> ?_;walk_at"go";rename_i b6 H6 n6 S6 e6;have ek6:=S6 _ _ (S5 _ _ ek);refine pF (cK (z,t)) ek6 e6 (by rw[bq];lia) λH7 B7 e7=> ?_;refine⟨(sb.trans (S5.trans S6).but).trans B7,?_,_,_,_,rfl⟩;rw[e7,pY _ (J8 hnew),cD hrx];unfold jA;rw[du]
   congr 3
   show [(cK (z,t),V.int (dF ps z))]=[(cK (z,t),V.int (j7 ps LL CC z t (t - t).toNat))];rw[show (t - t).toNat=0 by lia];rfl
  .obtain⟨hah,hft⟩:=J4 hrx hc;have gL:(aZ (g9 (pW ds) (rows.filter (cnt (ds.map (·.1)) f l))) (cK (z,t - 1))).getD (.int 0)= .int (LL (cK (z,t - 1))):=by rw[←hLe];exact zW _ _ _
   have gC:(aZ (g9 (lQ ds) (rows.filter (cnt (ds.map (·.1)) f l))) (cK (z,t - 1))).getD (.int 0)= .int (CC (cK (z,t - 1))):=by rw[←hCe];exact zW _ _ _
   walk_at"go";rename_i b6 H6 n6 S6 e6;refine uR (cK (z,t - 1)) (.inl (S6 _ _ ek)) e6 (A5 nd' hah) ?_;walk_at"go";refine jP (S6 _ _ eL') ?_;walk_at"go";refine lN (cK (z,t - 1)) (S6 _ _ eL') e6 ?_;rw[gL];walk_at"go";refine jP (S6 _ _ eC') ?_;walk_at"go";refine lN (cK (z,t - 1)) (S6 _ _ eC') e6 ?_;rw[gC];walk_at"go";rename_i b8 H8 n8 S8 e8;have ek8:=S8 _ _ (S6 _ _ ek);refine pF (cK (z,t)) ek8 e8 (by rw[bq];lia) λH9 B9 e9=> ?_;refine⟨(sb.trans (S6.trans S8).but).trans B9,?_,_,_,_,rfl⟩;rw[e9,pY _ (J8 hnew),cD hrx];unfold jA;rw[du]
   congr 3
   show [(cK (z,t),V.int (j7 ps LL CC z f (t - 1 - f).toNat - LL (cK (z,t - 1))+CC (cK (z,t - 1))))]=[(cK (z,t),V.int (j7 ps LL CC z f (t - f).toNat))];rw[show (t - f).toNat=(t - 1 - f).toNat+1 by lia];show _=[(cK (z,t),V.int (j7 ps LL CC z f (t - 1 - f).toNat - LL (cK (z,f+((t - 1 - f).toNat:Int)))+CC (cK (z,f+((t - 1 - f).toNat:Int)))))];rw[show f+((t - 1 - f).toNat:Int)=t - 1 by lia]
 .rintro _ H' hq_;walk_at"g1";obtain⟨sb,ek,x1,x2,x3,rfl⟩:=hq_;walk_at"g2";rw[hyl,fg]at ek;walk_at"go";refine k _ _ ?_ (λx u hx=>sb _ _ (S4 _ _ (S3 _ _ (S2 _ _ (S1 _ _ hx)))) (npd x u (S2 _ _ (S1 _ _ hx)))) ek;cases hq:H p with
  | none=>rfl
  | some u=>rw[S2 _ _ (S1 _ _ hq)]at n3;cases n3
theorem XL (m:M w K mg):Fc P w K mg base "there" 4 ["house","plan"] (AC K m.aH (aN P w K mg base (some 1))):=⟨_,_,m.aBX,m.yS.F.kp,m.yS.b,YM m⟩
inductive BQ (K:W.Frag)(vs:List V)(H:Hp)(Q:VK)(E:XK):Prop
 | mk (a:Addr) (us:List V) (rows:List bA) (_:vs=[.ref a]) (_:SqL K H a us) (_:cJ H us rows) (_:rows.length<=200) (_:∀p H',H p=none->Same H H'->H' p=some (.dT (fQ rows))->Q (.ref p) H'):BQ K vs H Q E
theorem aEJ {Q:VK}{E:XK}{us:List V}(hS:SqL K H a us)(hr:cJ H us rows)(hl:rows.length<=200)(h:∀p H',H p=none->Same H H'->H' p=some (.dT (fQ rows))->Q (.ref p) H'):BQ K [.ref a] H Q E:=⟨_,_,_,rfl,hS,hr,hl,h⟩
theorem LS (m:M w K mg):aP P w K mg base CX0 1 m.vD m.o0.d ["plan"] (BQ K):=by
 refine m.o0.F.ok aGJ ?_ ?_;walk_at"w0";walk_at"w1";obtain⟨a,us,rows,rfl,hS,hpl,hlen,k⟩:=h;walk_at"g2";have nd:=aGJ.nd;walk_at"hu";refine⟨_,(aC (bD (i:=1) nd rfl (by walk_at"oi") uB)
  (aC (dS gy rfl (b0 (pv 0)) (tF (n:=3) rfl (bK (aS (i:=2) nd rfl (by walk_at"oi")) (bK (aS (i:=3) nd rfl (by walk_at"oi")) (bK (aS (i:=4) nd rfl (by walk_at"oi")) dI)))) (aD (jR hu1 (pv 1) (bI (aA (pv 2) (aA (pv 3) aB))) (bR eN (lH hu1 (pv 1) (bI (aA (pv 2) (aA (pv 3) aB))) aF ⟨rfl,rfl,rfl,rfl⟩) (pv 4)) rfl)))
  (aD (aM (pv 1))))),?_⟩
 refine aG (σ:=[some (.ref a),none,none,none,none]) rfl ?_;walk_at"cx";have hul:us.length=rows.length:=cj hpl;walk_at"go";rename_i p H1 n1 S1 e1;let Pv1:Nat->St->Hp->Prop:=λi σ' H'=>SameBut p H1 H'/\H' p=some (.dT (fQ (rows.take i)))/\∃x y z,σ'=[some (.ref a),some (.ref p),x,y,z];refine eU us Pv1 ⟨SameBut.refl,e1,_,_,_,rfl⟩ (λi σ' H' _ q=>(SameBut.same n1 S1 q.1).seq hS) ?_ ?_
 .rintro i x _ H' hx hq_;walk_at"g1";obtain⟨sb,ek,x1,x2,x3,rfl⟩:=hq_;walk_at"g2";have hi:i<us.length:=(ay.mp hx).1;obtain⟨⟨t,n,j⟩,hrx⟩:∃r,rows[i]? =some r:=⟨_,aq (by lia)⟩
  obtain⟨q,rfl,hq⟩:=Paired.at2 hpl hx hrx;have hq':H' q=some (.tup [.int t,.str n,.int j]):=(SameBut.same n1 S1 sb) _ _ hq;obtain⟨i0,ei⟩:=WJ (rows.take i) t n;have hkl:=z6 (rows.take i);rw[fm]at hkl;walk_at"go";refine jP ek ?_;walk_at"go";rename_i b1 H2 n2 S2 e2;refine lN (dL t n) (by walk_at"hp") (by assumption) ?_;rw[ei];walk_at"go";rename_i b3 H3 n3 S3 e3;refine pF (dL t n) (by walk_at"hp") (by assumption) (by rw[bq];lia) λH4 B4 e4=> ?_;refine⟨by walk_at"sb",?_,_,_,_,rfl⟩;rw[e4,cD hrx,fX];unfold EB;rw[ei];rfl
 .rintro _ H' hq_;walk_at"g1";obtain⟨sb,ek,x1,x2,x3,rfl⟩:=hq_;walk_at"g2";rw[hul,fg]at ek;walk_at"go";exact k _ _ n1 (SameBut.same n1 S1 sb) ek
theorem MB (m:M w K mg):Fc P w K mg base "added_up" 1 ["plan"] (BQ K):=⟨_,_,m.RT,m.o0.F.kp,m.o0.b,LS m⟩
theorem tZ {F:α->γ->Prop}(g:β->γ):∀{l:List β}{m:List α},cg (λx y=>F y (g x)) l m->cg F m (l.map g)
 | _,_,.nil=> .nil
 | _,_,.cons r t=> .cons r (tZ g t)
theorem aEU {kvs:List (List Key×V)}:∀(o:Obj) (x:HO),HO.dT kvs≠ .frz o x:=λ_ _ z=>by cases z
theorem YH {D:aY}{kvs:List (List Key×V)}{h:Addr}{ds:List aI}(x:aW C D H h f l rz ps ds)(e:H p=some (.dT kvs))(s:SameBut p H H'):aW C D H' h f l rz ps ds:=by
 walk_at"g1";obtain⟨dx,qs,qp,qd,nk,kv,e1,e2,e3,e4,e5,e6,e7⟩:=x.ex;walk_at"g2";have ne:∀(q:Addr) (o:HO),H q=some o->(∀k,o≠ .dT k)->q≠p:=λq o h hn z=>by
  rw[z,e]at h;cases h;exact hn _ rfl
 exact⟨dx,qs,qp,qd,nk,kv,s _ _ e1 (ne _ _ e1 λ_ z=>by cases z),s _ _ e2 (ne _ _ e2 λ_ z=>by cases z),s _ _ e3 (ne _ _ e3 λ_ z=>by cases z),e4,e5,s _ _ e6 (ne _ _ e6 λ_ z=>by cases z),Paired.imp' (λ_ d hd=>⟨hd.1,D.but hd.2 e trivial s⟩) e7⟩
theorem wW (h:rz.length<=20)(hn:n<=1001):(bB rz f n).length<=20100:=by
 rw[kA]
 calc _<=_:=ar _
  _<=20100:=by
   first|exact bo (qb hn h) (by decide)|exact bo (qb h hn) (by decide)
theorem FU {Q:VK}(e:SqL K H p (ss.map V.str))(h:Q (.bl (!decide (z∈ss))) H):rIn K true (.str z) (.ref p) H Q:=by
 walk_at"g1";obtain⟨p',xs,e1,e2,e3,e4,e5⟩:=SG (Q:=λv H'=>v= .bl (decide (z∈ss))/\H'=H) e ⟨rfl,rfl⟩;walk_at"g2";refine⟨p',xs,e1,e2,e3,e4,?_⟩;have e5:V.bl (inV (.str z) xs)= .bl (decide (z∈ss)):=e5.1;have e6:inV (.str z) xs=decide (z∈ss):=by injection e5
 show Q (.bl (!inV (.str z) xs)) H;rw[e6];exact h
def fB (ds:List aI)(f l t:Int)(n:Str):Int:=match iH ds n with
 | some d=>pQ f l d t
 | none=>0
theorem zJ {ds:List aI}{n:Str}(h:n∉ds.map (·.1)):iH ds n=none:=by
 unfold iH;rw[tz];intro d hd z;exact h (bg.mpr ⟨d,hd,by simpa using z⟩)
inductive yO (C:Addr)(D:aY)(vs:List V)(H:Hp)(Q:VK)(E:XK):Prop
 | mk (h:Addr) (t:Int) (n:Str) (f l:Int) (rz ps:List (Str×Int)) (ds:List aI) (_:vs=[.ref h,.int t,.str n]) (_:aW C D H h f l rz ps ds) (_:(ds.map (·.1)).Nodup) (_:0<=f) (_:ds.length<=20) (_:∀H',Same H H'->Q (.int (fB ds f l t n)) H'):yO C D vs H Q E
theorem aCJ {D:aY}{Q:VK}{E:XK}{h:Addr}{t:Int}{n:Str}{ds:List aI}(hh:aW C D H h f l rz ps ds)(nd:(ds.map (·.1)).Nodup)(hf:0<=f)(ld:ds.length<=20)(k:∀H',Same H H'->Q (.int (fB ds f l t n)) H'):yO C D [.ref h,.int t,.str n] H Q E:=⟨_,_,_,_,_,_,_,_,rfl,hh,nd,hf,ld,k⟩
theorem C0 (m:M w K mg):aP P w K mg base CX0 8 m.mH m.gK.d ["house","turn","name"] (yO m.aH (aN P w K mg base (some 1))):=by
 refine m.gK.F.ok aF4 ?_ ?_;walk_at"w0";walk_at"w1";obtain⟨h,t,n,f,l,rz,ps,ds,rfl,hh,ndd,hf,ld,k⟩:=h;walk_at"g2";have nd:=aF4.nd;walk_at"hu";have aFm:=m.a8;have aFU:= @lG P w K mg base m;have aHy:= @G9 P w K mg base m;refine⟨_,(aC (a9 (aT xA (pv 2) (m8 1 hr (pv 0)) (by with_unfolding_all rfl)) (aD (aM aF)) aQ)
  (aD (aM (kG 3 hr (pv 0) (aA (pv 2) (aA (pv 1) aB)))))),?_⟩
 refine aG (σ:=[some (.ref h),some (.int t),some (.str n)]) rfl ?_;walk_at"cx";walk_at"g1";obtain⟨dx,qs,qp,qd,nk,kvs0,e1,_⟩:=hh.ex;walk_at"g2";walk_at"go";refine D0 hh λp1 H1 n1 S1 f1=> ?_;walk_at"go";refine FU (SqL.of f1) ?_;walk_at"go"
 by_cases hm:n∈ds.map (·.1)
 .walk_at"g1";obtain⟨d,hd,rfl,hdo⟩:=uK hm;walk_at"g2";rw[decide_eq_true hm];have e11:=S1 _ _ e1;have hk:fB ds f l t d.1=pQ f l d t:=by unfold fB;rw[hdo]
  rw[hk]at k;walk_at"go";refine aAG (d:=d) (bU hh S1) ndd hd hf λH2 S2=> ?_;exact k _ (S1.trans S2)
 .rw[decide_eq_false hm];have hk:fB ds f l t n=0:=by unfold fB;rw[zJ hm]
  rw[hk]at k;walk_at"go";exact k _ S1
theorem CS (m:M w K mg):Fc P w K mg base "most_through" 8 ["house","turn","name"] (yO m.aH (aN P w K mg base (some 1))):=⟨_,_,m.E2,m.gK.F.kp,m.gK.b,C0 m⟩
def flK (w:Str)(p:Str×Int):List Key:=[.inl p.2,.inr w,.inr p.1]
def szF (rz:List (Str×Int))(z:Str):Int:=match rz.find? λe=>decide (e.1=z) with
 | some e=>e.2
 | none=>0
theorem tG:∀{rz:List (Str×Int)},(rz.map (·.1)).Nodup->∀{e:Str×Int},e∈rz->szF rz e.1=e.2
 | a::l,nd,e,h=>by
  have nd':=eg.mp nd;rcases ba.mp h with rfl|h
  .unfold szF;rw[List.find?_cons_of_pos (by simp)]
  .have hne:¬a.1=e.1:=λz=>nd'.1 (show a.1∈_ by rw[z];exact bg.mpr ⟨e,h,rfl⟩);have ih:=tG nd'.2 h;unfold szF at ih ⊢;rw[List.find?_cons_of_neg (by simpa using hne)];exact ih
def K4 (e:List Key×V):Str×Int:=match e.1 with
 | [.inl t,.inr n]=>(n,t)
 | _=>(⟨#[]⟩,0)
def dfB (ds:List aI)(f l:Int)(e:List Key×V):Bool:=decide (rP e.2>fB ds f l (K4 e).2 (K4 e).1)
def dfK (ds:List aI)(f l:Int)(rows:List bA):List (List Key):=((fQ rows).filter (dfB ds f l)).map λe=>flK "door" (K4 e)
abbrev goL (ds:List aI)(f l:Int)(rows:List bA):List Key->Int:=pS (pW ds) (rows.filter (cnt (ds.map (·.1)) f l))
abbrev goC (ds:List aI)(f l:Int)(rows:List bA):List Key->Int:=pS (lQ ds) (rows.filter (cnt (ds.map (·.1)) f l))
def lvB (ps:List (Str×Int))(L C LT:List Key->Int)(f:Int)(x:Str×Int):Bool:=decide (LT (cK x)>j7 ps L C x.1 f (x.2 - f).toNat)
def lfK (rz ps:List (Str×Int))(L C LT:List Key->Int)(f l:Int):List (List Key):=(((bB rz f (l+1 - f).toNat).filter λx=>decide (x.2<l)).filter (lvB ps L C LT f)).map (flK "leave")
def fuB (rz ps:List (Str×Int))(L C:List Key->Int)(f:Int)(x:Str×Int):Bool:=decide (j7 ps L C x.1 f (x.2 - f).toNat>szF rz x.1)
def ffK (rz ps:List (Str×Int))(L C:List Key->Int)(f l:Int):List (List Key):=((bB rz f (l+1 - f).toNat).filter (fuB rz ps L C f)).map (flK "full")
def d3 (rz ps:List (Str×Int))(ds:List aI)(f l:Int)(rows:List bA):List (List Key):=(dfK ds f l rows++lfK rz ps (goL ds f l rows) (goC ds f l rows) (goL ds f l rows) f l)++ffK rz ps (goL ds f l rows) (goC ds f l rows) f l
theorem MN (ds:List aI)(f l:Int)(rows:List bA):(dfK ds f l rows).length<=rows.length:=by
 unfold dfK;rw[ao];exact bo (dq _ _) (z6 rows)
theorem aAV {C:List Key->Int}(h:(bB rz f (l+1 - f).toNat).length<=20100):(lfK rz ps L C LT f l).length<=20100:=by
 unfold lfK;rw[ao];exact bo (dq _ _) (bo (dq _ _) h)
theorem aAt {C:List Key->Int}(h:(bB rz f (l+1 - f).toNat).length<=20100):(ffK rz ps L C f l).length<=20100:=by
 unfold ffK;rw[ao];exact bo (dq _ _) h
theorem W7 (rows:List bA){k:List Key}(h:k∈(fQ rows).map (·.1)):∃r∈rows,k=dL r.1 r.2.1:=by
 induction rows using jL with
 | h0=>exact nomatch h
 | hs l r ih =>
  rw[fX]at h;obtain⟨e,he,rfl⟩:=bg.mp h;rcases AA he with h'|⟨h1,h2⟩
  .obtain⟨r',hr',e'⟩:=ih (bg.mpr ⟨e,h',rfl⟩);exact⟨r',gk _ hr',e'⟩
  .exact⟨r,bc _ (.head _),h1⟩
theorem mem_dfK {ds:List aI}{k:List Key}:k∈dfK ds f l rows↔∃r∈rows,k=flK "door" (r.2.1,r.1)/\tV rows r.1 r.2.1>fB ds f l r.1 r.2.1:=by
 unfold dfK
 constructor
 .intro h;obtain⟨e,he,rfl⟩:=bg.mp h;obtain⟨h1,h2⟩:=fb.mp he;obtain⟨r,hr,er⟩:=W7 rows (bg.mpr ⟨e,h1,rfl⟩);walk_at"g1";obtain⟨t,n,i,rfl⟩:=(mX rows).2 e h1;walk_at"g2";obtain⟨e1,e2⟩:=KW er;have hv:=lW (mX rows).1 h1;have ht:=IV t n rows;rw[hv]at ht;have ht':i=tV rows t n:=ht;refine⟨r,hr,?_,?_⟩
  .rw[←e1,←e2];rfl
  .rw[←e1,←e2,←ht'];exact of_decide_eq_true h2
 .rintro hq_;walk_at"g1";obtain⟨r,hr,rfl,h⟩:=hq_;walk_at"g2";have ht:=IV r.1 r.2.1 rows;cases hv:aZ (fQ rows) (dL r.1 r.2.1) with
  | none =>
   exfalso
   obtain⟨l1,l2,rfl⟩:=List.append_of_mem hr;have key:∀l2:List bA,(aZ (fQ (l1++r::l2)) (dL r.1 r.2.1)).isSome=true:=λl2=>by
    induction l2 using jL with
    | h0 =>
     rw[fX];unfold EB;rw[lM,if_pos rfl];rfl
    | hs l a ih =>
     rw[←List.cons_append,←me,fX];unfold EB;rw[lM]
     split
     .rfl
     .exact ih
   have:=key l2;rw[hv]at this;cases this
  | some v =>
   have hm:=v5 hv;walk_at"g1";obtain⟨t',n',i,e⟩:=(mX rows).2 _ hm;walk_at"g2";obtain⟨e1,e2⟩:=xq e;subst e2;rw[hv]at ht;have ht':i=tV rows r.1 r.2.1:=ht;refine bg.mpr ⟨(dL r.1 r.2.1,.int i),fb.mpr ⟨hm,?_⟩,rfl⟩;show decide (i>fB ds f l r.1 r.2.1)=true;rw[ht'];exact decide_eq_true h
theorem mem_lfK {C:List Key->Int}{k:List Key}:k∈lfK rz ps L C LT f l↔∃z∈rz.map (·.1),∃i:Nat,f+(i:Int)<l/\k=flK "leave" (z,f+(i:Int))/\LT (cK (z,f+(i:Int)))>j7 ps L C z f i:=by
 unfold lfK
 constructor
 .intro h;walk_at"g1";obtain⟨⟨z,t⟩,he,rfl⟩:=bg.mp h;walk_at"g2";obtain⟨h1,h2⟩:=fb.mp he;obtain⟨h3,h4⟩:=fb.mp h1;walk_at"g1";obtain⟨hz,i,hi,rfl⟩:=pairsN_mem.mp h3;walk_at"g2";have h4:f+(i:Int)<l:=by simpa using h4
  have h2:=of_decide_eq_true h2;rw[show ((z,f+(i:Int)).2 - f).toNat=i by show (f+(i:Int) - f).toNat=i;lia]at h2;exact⟨z,hz,i,h4,rfl,h2⟩
 .rintro hq_;walk_at"g1";obtain⟨z,hz,i,hi,rfl,h⟩:=hq_;walk_at"g2";refine bg.mpr ⟨(z,f+(i:Int)),fb.mpr ⟨fb.mpr ⟨pairsN_mem.mpr ⟨hz,i,by lia,rfl⟩,by simpa using hi⟩,?_⟩,rfl⟩;unfold lvB;rw[show ((z,f+(i:Int)).2 - f).toNat=i by show (f+(i:Int) - f).toNat=i;lia];exact decide_eq_true h
theorem aBd (nr:(rz.map (·.1)).Nodup){C:List Key->Int}{k:List Key}:k∈ffK rz ps L C f l↔∃e∈rz,∃i:Nat,f+(i:Int)<=l/\k=flK "full" (e.1,f+(i:Int))/\j7 ps L C e.1 f i>e.2:=by
 unfold ffK
 constructor
 .intro h;walk_at"g1";obtain⟨⟨z,t⟩,he,rfl⟩:=bg.mp h;walk_at"g2";obtain⟨h1,h2⟩:=fb.mp he;walk_at"g1";obtain⟨hz,i,hi,rfl⟩:=pairsN_mem.mp h1;walk_at"g2";obtain⟨e,hez,hz'⟩:=bg.mp hz;have hz':e.1=z:=hz';subst hz';have h2:=of_decide_eq_true h2;rw[show ((e.1,f+(i:Int)).2 - f).toNat=i by show (f+(i:Int) - f).toNat=i;lia,show szF rz ((e.1,f+(i:Int)):Str×Int).1=e.2 from tG nr hez]at h2;exact⟨e,hez,i,by lia,rfl,h2⟩
 .rintro hq_;walk_at"g1";obtain⟨e,he,i,hi,rfl,h⟩:=hq_;walk_at"g2";refine bg.mpr ⟨(e.1,f+(i:Int)),fb.mpr ⟨pairsN_mem.mpr ⟨bg.mpr ⟨e,he,rfl⟩,i,by lia,rfl⟩,?_⟩,rfl⟩;unfold fuB;rw[show ((e.1,f+(i:Int)).2 - f).toNat=i by show (f+(i:Int) - f).toNat=i;lia,show szF rz ((e.1,f+(i:Int)):Str×Int).1=e.2 from tG nr he];exact decide_eq_true h
theorem OZ (nr:(rz.map (·.1)).Nodup)(ds:List aI)(f l:Int)(rows:List bA):∀r∈d3 rz ps ds f l rows,r.map eZ=[true,false,false]:=λk hk=>by
 unfold d3 at hk;rcases fc.mp hk with hk|hk
 .rcases fc.mp hk with hk|hk
  .walk_at"g1";obtain⟨r,_,rfl,_⟩:=mem_dfK.mp hk;walk_at"g2";rfl
  .walk_at"g1";obtain⟨z,_,i,_,rfl,_⟩:=mem_lfK.mp hk;walk_at"g2";rfl
 .walk_at"g1";obtain⟨e,_,i,_,rfl,_⟩:=(aBd nr).mp hk;walk_at"g2";rfl
inductive x9 (K:W.Frag)(C:Addr)(D:aY)(vs:List V)(H:Hp)(Q:VK)(E:XK):Prop
 | mk (h a:Addr) (f l:Int) (rz ps:List (Str×Int)) (ds:List aI) (us:List V) (rows:List bA) (_:vs=[.ref h,.ref a]) (_:aW C D H h f l rz ps ds) (_:(ds.map (·.1)).Nodup) (_:0<=f) (_:ds.length<=20) (_:SqL K H a us) (_:cJ H us rows) (_:rows.length<=200) (_:∀p ys H',H p=none->Same H H'->H' p=some (.lst ys)->KRows H' ys (dfK ds f l rows)->Q (.ref p) H'):x9 K C D vs H Q E
theorem aDA {D:aY}{Q:VK}{E:XK}{h:Addr}{ds:List aI}{us:List V}(hh:aW C D H h f l rz ps ds)(nd:(ds.map (·.1)).Nodup)(hf:0<=f)(ld:ds.length<=20)(hS:SqL K H a us)(hp:cJ H us rows)(hl:rows.length<=200)(k:∀p ys H',H p=none->Same H H'->H' p=some (.lst ys)->KRows H' ys (dfK ds f l rows)->Q (.ref p) H'):x9 K C D [.ref h,.ref a] H Q E:=⟨_,_,_,_,_,_,_,_,_,rfl,hh,nd,hf,ld,hS,hp,hl,k⟩
theorem DW (m:M w K mg):aP P w K mg base CX0 9 m.oN m.iO.d ["house","plan"] (x9 K m.aH (aN P w K mg base (some 1))):=by
 refine m.iO.F.ok aGc ?_ ?_;walk_at"w0";walk_at"w1";obtain⟨h,a,f,l,rz,ps,ds,us,rows,rfl,hh,ndd,hf,ld,hS,hpl,hlen,k⟩:=h;walk_at"g2";have nd:=aGc.nd;walk_at"hu";have aHk:= @MB P w K mg base m;have aGT:= @CS P w K mg base m;have aFm:=m.a8;refine⟨_,(aC (bD (i:=2) nd rfl (by walk_at"oi") (cG aHk hr (aA (pv 1) aB)))
  (aD (aM (yG (dA (N:=["turn","name","going","house"]) (nl:=2) (ci:=[2,0]) rfl (blk (s.heap.objs.size+1) rfl rfl rfl (by kernel_rfl)) (XV (pv 2)) (λ_ _ _ _=>(jK (K:=K) (n:=2) rfl (bK (aS (i:=0) (show (["turn","name","going","house"]:List Str).Nodup by decide +kernel) rfl (by walk_at"oi")) (bK (aS (i:=1) (show (["turn","name","going","house"]:List Str).Nodup by decide +kernel) rfl (by walk_at"oi")) dI)))) (λ_ _ _ _=>(nJ (aT yF (fJ hu1 (pv 2) (bI (aA (pv 0) (aA (pv 1) aB))) (λ_ _=>rfl)) (cG aGT hr (aA (pv 3) (aA (pv 0) (aA (pv 1) aB)))) (aX _)))) (λ_ _ _ _=>(bI (aA (pv 0) (aA aL (aA (pv 1) aB)))))))))),?_⟩
 refine aG (σ:=[some (.ref h),some (.ref a),none]) rfl ?_;walk_at"cx";walk_at"go";refine aEJ hS hpl hlen λp1 H1 n1 S1 e1=> ?_;walk_at"go";refine AX e1 aEU ?_;walk_at"go";refine V4 ?_;walk_at"go";refine W0 e1 λo H2 B2 e2=> ?_;have hg:=mX rows;have hln:=z6 rows;have hh2:aW m.aH (aN P w K mg base (some 1)) H2 h f l rz ps ds:=YH (bU hh S1) e1 B2;refine aDr (dfB ds f l) (λe y H=>∃q,y= .ref q/\H q=some (.tup ((flK "door" (K4 e)).map kV))) (λ_ _ _ _ ⟨q,h1,h2⟩ s=>⟨q,h1,s _ _ h2⟩) (λe he=>by
  walk_at"g1";obtain⟨t,n,i,rfl⟩:=hg.2 e he;walk_at"g2";rfl) (by rw[bq];lia) (rest:=[some (.ref p1),some (.ref h)]) (by rfl) e2 ?_ ?_ ?_
 .intro k1 k2 v H3 hm s3 R hR;walk_at"g1";obtain⟨t,n,i,hte⟩:=hg.2 _ hm;walk_at"g2";have h1:k1= .inl t/\k2= .inr n/\v= .int i:=by
   have e1':=congrArg Prod.fst hte;have e2':=congrArg Prod.snd hte;have e1'':[k1,k2]=dL t n:=e1';unfold dL at e1'';injection e1'' with a1 a2;injection a2 with a2;exact⟨a1,a2,e2'⟩
  obtain⟨rfl,rfl,rfl⟩:=h1;have hv:aZ (fQ rows) (dL t n)=some (.int i):=lW hg.1 hm;show (_:TT) (some (V.int t)::some (V.str n)::[some (.ref p1),some (.ref h)]) H3 R;walk_at"go";rename_i b4 H4 n4 S4 e4;refine uR (dL t n) (.inr ⟨o,S4 _ _ (s3 _ _ e2)⟩) e4 hv ?_;walk_at"go";refine aCJ (bU hh2 (s3.trans S4)) ndd hf ld λH5 S5=> ?_;walk_at"go";exact hR _ (S4.trans S5)
 .intro k1 k2 v H3 hm hcc s3 R hR;walk_at"g1";obtain⟨t,n,i,hte⟩:=hg.2 _ hm;walk_at"g2";have h1:k1= .inl t/\k2= .inr n/\v= .int i:=by
   have e1':=congrArg Prod.fst hte;have e2':=congrArg Prod.snd hte;have e1'':[k1,k2]=dL t n:=e1';unfold dL at e1'';injection e1'' with a1 a2;injection a2 with a2;exact⟨a1,a2,e2'⟩
  obtain⟨rfl,rfl,rfl⟩:=h1;show (_:TE) (some (V.int t)::some (V.str n)::[some (.ref p1),some (.ref h)]) H3 R;walk_at"go";rename_i b4 H4 n4 S4 e4;exact hR _ _ ⟨b4,rfl,e4⟩ S4
 intro ys H3 s3 hys;have kr:KRows H3 ys (dfK ds f l rows):=tZ (λe=>flK "door" (K4 e)) hys;walk_at"go";rename_i p4 H4 n4 S4 e4;have eo:H4 p1=some (.frz o (.dT (fQ rows))):=S4 _ _ (s3 _ _ e2);refine rL eo λH5 B5 e5=> ?_;have hpq:p4≠p1:=λz=>by rw[z,s3 _ _ e2]at n4;cases n4
 have hn:H p4=none:=by
  cases hq:H p4 with
  | none=>rfl
  | some u =>
   have:=s3 _ _ (B2 _ _ (S1 _ _ hq) hpq);rw[n4]at this;cases this
 have fr:∀b u,H b=some u->b≠p1:=λb u hb z=>by rw[z,n1]at hb;cases hb
 exact k p4 ys H5 hn (λb u hb=>B5 _ _ (S4 _ _ (s3 _ _ (B2 _ _ (S1 _ _ hb) (fr b u hb)))) (fr b u hb)) (B5 _ _ e4 hpq) (KRows.map (λq xs hq=>B5 _ _ hq λz=>by rw[z,eo]at hq;cases hq) (kr.same S4))
theorem DP (m:M w K mg):Fc P w K mg base "door_faults" 9 ["house","plan"] (x9 K m.aH (aN P w K mg base (some 1))):=⟨_,_,m.HS,m.iO.F.kp,m.iO.b,DW m⟩
inductive x0 (K:W.Frag)(C:Addr)(D:aY)(vs:List V)(H:Hp)(Q:VK)(E:XK):Prop
 | mk (h a b:Addr) (f l:Int) (rz ps:List (Str×Int)) (ds:List aI) (us:List V) (rows:List bA) (L C':List Key->Int) (_:vs=[.ref h,.ref a,.ref b]) (_:aW C D H h f l rz ps ds) (_:(rz.map (·.1)).Nodup) (_:(ds.map (·.1)).Nodup) (_:(∀d∈ds,mW (rz.map (·.1)) d)) (_:0<=f) (_:f<=l) (_:l<1000000000000) (_:l - f<=1000) (_:rz.length<=20) (_:SqL K H a us) (_:cJ H us rows) (_:rows.length<=200) (_:H b=some (.dT (jA ps L C' f (bB rz f (l+1 - f).toNat)))) (_:∀p ys H',H p=none->Same H H'->H' p=some (.lst ys)->KRows H' ys (lfK rz ps L C' (goL ds f l rows) f l)->Q (.ref p) H'):x0 K C D vs H Q E
theorem CB (m:M w K mg):aP P w K mg base CX0 5 m.l8 m.gP.d ["house","plan","inside"] (x0 K m.aH (aN P w K mg base (some 1))):=by
 refine m.gP.F.ok aF5 ?_ ?_;walk_at"w0";walk_at"w1";obtain⟨h,a,b,f,l,rz,ps,ds,us,rows,L,C',rfl,hh,nr,ndd,hin,h0,h1,h2,h3,lr,hS,hpl,hlen,eb,k⟩:=h;walk_at"g2";have nd:=aF5.nd;walk_at"hu";have aGw:= @BN P w K mg base m;have aFm:=m.a8;have aFZ:= @lX P w K mg base m;refine⟨_,(aC (bD (i:=3) nd rfl (by walk_at"oi") (cG aGw hr (aA (pv 0) (aA (pv 1) aB))))
  (aC (j3 (i:=4) nd rfl (by walk_at"oi") (N:=["pair","house"]) (nl:=1) (ci:=[0]) rfl (blk (s.heap.objs.size+1) rfl rfl rfl (by kernel_rfl)) (b0 (m8 1 hr (pv 0))) (λ_ _ _ _=>(aS (i:=0) (show (["pair","house"]:List Str).Nodup by decide +kernel) rfl (by walk_at"oi"))) (λ_ _ _ _=>(nJ (aT fM (dB (EW (K:=K)) (pv 0) aF (λ_ _=>rfl)) (o7 (K:=K) (pv 1) rfl) (aX _)))) (λ_ _ _ _=>(pv 0)))
  (aD (aM (dA (N:=["room","turn","inside","leave"]) (nl:=2) (ci:=[2,3]) rfl (blk (s.heap.objs.size+1) rfl rfl rfl (by kernel_rfl)) (b0 (pv 4)) (λ_ _ _ _=>(jK (K:=K) (n:=2) rfl (bK (aS (i:=0) (show (["room","turn","inside","leave"]:List Str).Nodup by decide +kernel) rfl (by walk_at"oi")) (bK (aS (i:=1) (show (["room","turn","inside","leave"]:List Str).Nodup by decide +kernel) rfl (by walk_at"oi")) dI)))) (λ_ _ _ _=>(nJ (aT yF (lH hu1 (pv 3) (bI (aA (pv 0) (aA (pv 1) aB))) aF ⟨rfl,rfl,rfl,rfl⟩) (fJ hu1 (pv 2) (bI (aA (pv 0) (aA (pv 1) aB))) (λ_ _=>rfl)) (aX _)))) (λ_ _ _ _=>(bI (aA (pv 1) (aA aL (aA (pv 0) aB)))))))))),?_⟩
 refine aG (σ:=[some (.ref h),some (.ref a),some (.ref b),none,none]) rfl ?_;walk_at"cx";walk_at"g1";obtain⟨dx,qs,qp,qd,nk,kvs0,e1,_⟩:=hh.ex;walk_at"g2";walk_at"go";refine DM hh ndd hin hS hpl hlen λp1 H1 n1 S1 f1=> ?_;have e11:=S1 _ _ e1;walk_at"go";refine D8 (bU hh S1) h0 h1 h2 h3 lr λp2 ys H2 n2 S2 f2 hys=> ?_;have e12:=S2 _ _ e11;walk_at"go";have hpn:(bB rz f (l+1 - f).toNat).length<=20100:=wW lr (by lia);have hyl:ys.length=(bB rz f (l+1 - f).toNat).length:=cj hys;refine gE (α:=Str×Int) (xs:=bB rz f (l+1 - f).toNat) (vs:=ys) (cH H2) (λx=>decide (x.2<l)) (λx y H=>cH H y x) (λ_ _ _ _ ⟨q,h1,h2⟩ s=>⟨q,h1,s _ _ h2⟩) (by rw[bq];lia) (rest:=[some (.ref h)]) (by rfl) (SqL.of f2) hys ?_ ?_ ?_
 .rintro v ⟨z,u⟩ H3 ⟨q3,rfl,hq3⟩ hm s3 R hR;have hq3:H3 q3=some (.tup [.str z,.int u]):=s3 _ _ hq3;have e13:=s3 _ _ e12;walk_at"go";refine⟨q3,_,1,_,rfl,rfl,SqT.of hq3,rfl,?_⟩;walk_at"go";exact hR _ (Same.refl _)
 .rintro v x H3 ⟨q3,rfl,hq3⟩ hm - s3 R hR;walk_at"go";exact hR _ _ ⟨q3,rfl,s3 _ _ hq3⟩ (Same.refl _)
 intro zs H3 s3 hzs;have hzp:cg (cH H3) zs ((bB rz f (l+1 - f).toNat).filter λx=>decide (x.2<l)):=mM hzs;have hfl:((bB rz f (l+1 - f).toNat).filter λx=>decide (x.2<l)).length<=20100:=bo (dq _ _) hpn;walk_at"go";rename_i p4 H4 n4 S4 e4;have s14:=S2.trans (s3.trans S4);have f14:=s14 _ _ f1;have eb4:=s14 _ _ (S1 _ _ eb);refine sY (α:=Str×Int) (xs:=(bB rz f (l+1 - f).toNat).filter λx=>decide (x.2<l)) (vs:=zs) (λx=> .str x.1) (λx=> .int x.2) (lvB ps L C' (goL ds f l rows) f) (λx y H=>∃q,y= .ref q/\H q=some (.tup ((flK "leave" x).map kV))) (λ_ _ _ _ ⟨q,h1,h2⟩ s=>⟨q,h1,s _ _ h2⟩) (by rw[bq];lia) (rest:=[some (.ref b),some (.ref p1)]) (by rfl) (SqL.of e4) (nF hzp S4) ?_ ?_ ?_
 .rintro ⟨z,u⟩ H5 hx s5 R hR;obtain⟨hx1,hx2⟩:=fb.mp hx;have f15:=s5 _ _ f14;have eb5:=s5 _ _ eb4;have hpi:=A5 (ps:=ps) (L:=L) (C:=C') (f:=f) (j8 nr f (l+1 - f).toNat) hx1;show (_:TT) (some (V.str z)::some (V.int u)::[some (.ref b),some (.ref p1)]) H5 R;walk_at"go";refine jP f15 ?_;walk_at"go";rename_i b6 H6 n6 S6 e6;refine lN (cK (z,u)) (S6 _ _ f15) e6 ?_;rw[zW];walk_at"go";rename_i b7 H7 n7 S7 e7;refine uR (cK (z,u)) (.inl (S7 _ _ (S6 _ _ eb5))) e7 hpi ?_;walk_at"go";exact hR _ (S6.trans S7)
 .rintro ⟨z,u⟩ H5 hx hcc s5 R hR;show (_:TE) (some (V.str z)::some (V.int u)::[some (.ref b),some (.ref p1)]) H5 R;walk_at"go";rename_i b6 H6 n6 S6 e6;exact hR _ _ ⟨b6,rfl,e6⟩ S6
 intro ws H5 s5 hws;have kr:KRows H5 ws (lfK rz ps L C' (goL ds f l rows) f l):=tZ (flK "leave") hws;walk_at"go";rename_i p6 H6 n6 S6 e6;have s06:Same H H6:=S1.trans (s14.trans (s5.trans S6));refine k p6 ws H6 ?_ s06 e6 (kr.same S6);cases hq:H p6 with
 | none=>rfl
 | some u =>
  have:=(S1.trans (s14.trans s5)) _ _ hq;rw[n6]at this;cases this
theorem CA (m:M w K mg):Fc P w K mg base "leave_faults" 5 ["house","plan","inside"] (x0 K m.aH (aN P w K mg base (some 1))):=⟨_,_,m.FF,m.gP.F.kp,m.gP.b,CB m⟩
theorem aCE {D:aY}{Q:VK}{E:XK}{h:Addr}{ds:List aI}{us:List V}(hh:aW C D H h f l rz ps ds)(nr:(rz.map (·.1)).Nodup)(nd:(ds.map (·.1)).Nodup)(hin:∀d∈ds,mW (rz.map (·.1)) d)(h0:0<=f)(h1:f<=l)(h2:l<1000000000000)(h3:l - f<=1000)(lr:rz.length<=20)(hS:SqL K H a us)(hp:cJ H us rows)(hl:rows.length<=200)(eb:H b=some (.dT (jA ps L C' f (bB rz f (l+1 - f).toNat))))(k:∀p ys H',H p=none->Same H H'->H' p=some (.lst ys)->KRows H' ys (lfK rz ps L C' (goL ds f l rows) f l)->Q (.ref p) H'):x0 K C D [.ref h,.ref a,.ref b] H Q E:=⟨_,_,_,_,_,_,_,_,_,_,_,_,rfl,hh,nr,nd,hin,h0,h1,h2,h3,lr,hS,hp,hl,eb,k⟩
inductive xY (C:Addr)(D:aY)(vs:List V)(H:Hp)(Q:VK)(E:XK):Prop
 | mk (h b:Addr) (f l:Int) (rz ps:List (Str×Int)) (ds:List aI) (L C':List Key->Int) (_:vs=[.ref h,.ref b]) (_:aW C D H h f l rz ps ds) (_:(rz.map (·.1)).Nodup) (_:0<=f) (_:f<=l) (_:l<1000000000000) (_:l - f<=1000) (_:rz.length<=20) (_:H b=some (.dT (jA ps L C' f (bB rz f (l+1 - f).toNat)))) (_:∀p ys H',H p=none->Same H H'->H' p=some (.lst ys)->KRows H' ys (ffK rz ps L C' f l)->Q (.ref p) H'):xY C D vs H Q E
theorem aDl {D:aY}{Q:VK}{E:XK}{h:Addr}{ds:List aI}(hh:aW C D H h f l rz ps ds)(nr:(rz.map (·.1)).Nodup)(h0:0<=f)(h1:f<=l)(h2:l<1000000000000)(h3:l - f<=1000)(lr:rz.length<=20)(eb:H b=some (.dT (jA ps L C' f (bB rz f (l+1 - f).toNat))))(k:∀p ys H',H p=none->Same H H'->H' p=some (.lst ys)->KRows H' ys (ffK rz ps L C' f l)->Q (.ref p) H'):xY C D [.ref h,.ref b] H Q E:=⟨_,_,_,_,_,_,_,_,_,rfl,hh,nr,h0,h1,h2,h3,lr,eb,k⟩
theorem D3 (m:M w K mg):aP P w K mg base CX0 5 m.oA m.iQ.d ["house","inside"] (xY m.aH (aN P w K mg base (some 1))):=by
 refine m.iQ.F.ok aGa ?_ ?_;walk_at"w0";walk_at"w1";obtain⟨h,b,f,l,rz,ps,ds,L,C',rfl,hh,nr,h0,h1,h2,h3,lr,eb,k⟩:=h;walk_at"g2";have nd:=aGa.nd;walk_at"hu";have aFm:=m.a8;have aFZ:= @lX P w K mg base m;have aHt:= @EH P w K mg base m;refine⟨_,(aD (aM (dA (N:=["room","turn","inside","house"]) (nl:=2) (ci:=[1,0]) rfl (blk (s.heap.objs.size+1) rfl rfl rfl (by kernel_rfl)) (b0 (m8 1 hr (pv 0))) (λ_ _ _ _=>(jK (K:=K) (n:=2) rfl (bK (aS (i:=0) (show (["room","turn","inside","house"]:List Str).Nodup by decide +kernel) rfl (by walk_at"oi")) (bK (aS (i:=1) (show (["room","turn","inside","house"]:List Str).Nodup by decide +kernel) rfl (by walk_at"oi")) dI)))) (λ_ _ _ _=>(nJ (aT yF (fJ hu1 (pv 2) (bI (aA (pv 0) (aA (pv 1) aB))) (λ_ _=>rfl)) (SY (P:=P) (w:=w) (K:=K) (mg:=mg) (base:=base) 3 hr (pv 3) (aA (pv 0) aB)) (aX _)))) (λ_ _ _ _=>(bI (aA (pv 1) (aA aL (aA (pv 0) aB)))))))),?_⟩;refine aG (σ:=[some (.ref h),some (.ref b)]) rfl ?_;walk_at"cx";walk_at"g1";obtain⟨dx,qs,qp,qd,nk,kvs0,e1,_⟩:=hh.ex;walk_at"g2";walk_at"go";refine D8 hh h0 h1 h2 h3 lr λp2 ys H2 n2 S2 f2 hys=> ?_;have hpn:(bB rz f (l+1 - f).toNat).length<=20100:=wW lr (by lia);have eb2:=S2 _ _ eb;have hh2:=bU hh S2;have e12:=S2 _ _ e1;walk_at"go";refine sY (α:=Str×Int) (xs:=bB rz f (l+1 - f).toNat) (vs:=ys) (λx=> .str x.1) (λx=> .int x.2) (fuB rz ps L C' f) (λx y H=>∃q,y= .ref q/\H q=some (.tup ((flK "full" x).map kV))) (λ_ _ _ _ ⟨q,h1,h2⟩ s=>⟨q,h1,s _ _ h2⟩) (by rw[bq];lia) (rest:=[some (.ref b),some (.ref h)]) (by rfl) (SqL.of f2) hys ?_ ?_ ?_
 .rintro ⟨z,u⟩ H5 hx1 s5 R hR;walk_at"g1";obtain⟨hz,i,hi,hu⟩:=pairsN_mem.mp hx1;walk_at"g2";walk_at"g1";obtain⟨⟨ez,ej⟩,he,hez⟩:=bg.mp hz;walk_at"g2";have hez:ez=z:=hez;subst hez;have eb5:=s5 _ _ eb2;have e15:=s5 _ _ e12;have hpi:=A5 (ps:=ps) (L:=L) (C:=C') (f:=f) (j8 nr f (l+1 - f).toNat) hx1;have hsz:szF rz ez=ej:=tG nr he;unfold fuB at hR;simp only[hsz]at hR;show (_:TT) (some (V.str ez)::some (V.int u)::[some (.ref b),some (.ref h)]) H5 R;walk_at"go";rename_i b7 H7 n7 S7 e7;refine uR (cK (ez,u)) (.inl (S7 _ _ eb5)) e7 hpi ?_;have e17:=S7 _ _ e15;walk_at"go";refine aAE (bU hh2 (s5.trans S7)) nr he λH8 S8=> ?_;walk_at"go";exact hR _ (S7.trans S8)
 .rintro ⟨z,u⟩ H5 hx hcc s5 R hR;show (_:TE) (some (V.str z)::some (V.int u)::[some (.ref b),some (.ref h)]) H5 R;walk_at"go";rename_i b6 H6 n6 S6 e6;exact hR _ _ ⟨b6,rfl,e6⟩ S6
 intro ws H5 s5 hws;have kr:KRows H5 ws (ffK rz ps L C' f l):=tZ (flK "full") hws;walk_at"go";rename_i p6 H6 n6 S6 e6;refine k p6 ws H6 ?_ (S2.trans (s5.trans S6)) e6 (kr.same S6);cases hq:H p6 with
 | none=>rfl
 | some u =>
  have:=(S2.trans s5) _ _ hq;rw[n6]at this;cases this
theorem DY (m:M w K mg):Fc P w K mg base "full_faults" 5 ["house","inside"] (xY m.aH (aN P w K mg base (some 1))):=⟨_,_,m.HV,m.iQ.F.kp,m.iQ.b,D3 m⟩
inductive C3 (K:W.Frag)(C:Addr)(D:aY)(vs:List V)(H:Hp)(Q:VK)(E:XK):Prop
 | mk (h a:Addr) (f l:Int) (rz ps:List (Str×Int)) (ds:List aI) (us:List V) (rows:List bA) (_:vs=[.ref h,.ref a]) (_:aW C D H h f l rz ps ds) (_:(rz.map (·.1)).Nodup) (_:(ds.map (·.1)).Nodup) (_:(∀d∈ds,mW (rz.map (·.1)) d)) (_:0<=f) (_:f<=l) (_:l<1000000000000) (_:l - f<=1000) (_:rz.length<=20) (_:ds.length<=20) (_:SqL K H a us) (_:cJ H us rows) (_:rows.length<=200) (_:(d3 rz ps ds f l rows).length<64) (_:∀p ws H',H p=none->Same H H'->H' p=some (.lst ws)->KRows H' ws (xX (d3 rz ps ds f l rows))->Q (.ref p) H'):C3 K C D vs H Q E
theorem aEm {D:aY}{Q:VK}{E:XK}{h:Addr}{ds:List aI}{us:List V}(hh:aW C D H h f l rz ps ds)(nr:(rz.map (·.1)).Nodup)(nd:(ds.map (·.1)).Nodup)(hin:∀d∈ds,mW (rz.map (·.1)) d)(h0:0<=f)(h1:f<=l)(h2:l<1000000000000)(h3:l - f<=1000)(lr:rz.length<=20)(ld:ds.length<=20)(hS:SqL K H a us)(hp:cJ H us rows)(hl:rows.length<=200)(h64:(d3 rz ps ds f l rows).length<64)(k:∀p ws H',H p=none->Same H H'->H' p=some (.lst ws)->KRows H' ws (xX (d3 rz ps ds f l rows))->Q (.ref p) H'):C3 K C D [.ref h,.ref a] H Q E:=⟨_,_,_,_,_,_,_,_,_,rfl,hh,nr,nd,hin,h0,h1,h2,h3,lr,ld,hS,hp,hl,h64,k⟩
theorem UM (m:M w K mg):aP P w K mg base CX0 10 m.A6 m.vB.d ["house","plan"] (C3 K m.aH (aN P w K mg base (some 1))):=by
 refine m.vB.F.ok aGX ?_ ?_;walk_at"w0";walk_at"w1";obtain⟨h,a,f,l,rz,ps,ds,us,rows,rfl,hh,nr,ndd,hin,h0,h1,h2,h3,lr,ld,hS,hpl,hlen,h64,k⟩:=h;walk_at"g2";have nd:=aGX.nd;walk_at"hu";have aG2:= @DP P w K mg base m;have aG1:= @DY P w K mg base m;have aGS:= @CA P w K mg base m;have aHz:= @XL P w K mg base m;have aFm:=m.a8;refine⟨_,(aC (bD (i:=2) nd rfl (by walk_at"oi") (cG aHz hr (aA (pv 0) (aA (pv 1) aB))))
  (aD (aM (bH KN rfl m.Y4 VP (aA (bR qB (bR qB (cG aG2 hr (aA (pv 0) (aA (pv 1) aB))) (cG aGS hr (aA (pv 0) (aA (pv 1) (aA (pv 2) aB))))) (cG aG1 hr (aA (pv 0) (aA (pv 2) aB)))) aB))))),?_⟩
 refine aG (σ:=[some (.ref h),some (.ref a),none]) rfl ?_;walk_at"cx";have hpn:(bB rz f (l+1 - f).toNat).length<=20100:=wW lr (by lia);have ln1:=MN ds f l rows;walk_at"go";refine⟨_,_,_,_,_,_,_,_,_,rfl,hh,nr,ndd,hin,h0,h1,h2,h3,lr,hS,hpl,hlen,λp1 H1 n1 S1 e1=> ?_⟩;walk_at"go";refine aDA (bU hh S1) ndd h0 ld (S1.seq hS) (lT hpl S1) hlen λp2 y2 H2 n2 S2 e2 k2=> ?_;have s02:=S1.trans S2;walk_at"go";refine aCE (bU hh s02) nr ndd hin h0 h1 h2 h3 lr (s02.seq hS) (lT hpl s02) hlen (S2 _ _ e1) λp3 y3 H3 n3 S3 e3 k3=> ?_;have s03:=s02.trans S3;have l2:y2.length=_:=cj k2;have l3:y3.length<=20100:=bo (si (cj k3)) (aAV hpn);walk_at"go";refine yB (S3 _ _ e2) e3 (by rw[bq];lia) λp4 H4 n4 S4 e4=> ?_;have s04:=s03.trans S4;walk_at"go";refine aDl (bU hh s04) nr h0 h1 h2 h3 lr ((S2.trans (S3.trans S4)) _ _ e1) λp5 y5 H5 n5 S5 e5 k5=> ?_;have l5:y5.length<=20100:=bo (si (cj k5)) (aAt hpn);walk_at"go";rename_i p6 H6 n6 S6 e6;have s06:=s04.trans (S5.trans S6);have kr:KRows H6 (y2++y3++y5) (d3 rz ps ds f l rows):=gF (gF (k2.same (S3.trans (S4.trans (S5.trans S6)))) (k3.same (S4.trans (S5.trans S6)))) (k5.same S6);refine WU (SqL.of e6) kr (by rw[cj kr];exact h64) (OZ nr ds f l rows) (by decide) λp7 ws H7 n7 S7 e7 hws=> ?_;refine k p7 ws H7 ?_ (s06.trans S7) e7 hws;cases hq:H p7 with
 | none=>rfl
 | some u =>
  have:=s06 _ _ hq;rw[n7]at this;cases this
theorem U9 (m:M w K mg):Fc P w K mg base "faults" 10 ["house","plan"] (C3 K m.aH (aN P w K mg base (some 1))):=⟨_,_,m.ZB,m.vB.F.kp,m.vB.b,UM m⟩
structure Hs (rz ps:List (Str×Int))(ds:List aI)(f l:Int):Prop where
 nr:(rz.map (·.1)).Nodup
 nd:(ds.map (·.1)).Nodup
 hin:∀d∈ds,mW (rz.map (·.1)) d
 f0:0<=f
 f1:f<=l
 f2:l<=f+6
 f3:f<=10
 lr:rz.length<=3
 ld:ds.length<=20
theorem Hs.few {ds:List aI}(h:Hs rz ps ds f l)(hr:rows.length<=1):(d3 rz ps ds f l rows).length<64:=by
 have h1:=MN ds f l rows;have hp:(bB rz f (l+1 - f).toNat).length<=24:=by
  have e:=kA rz f (l+1 - f).toNat;have hm:(l+1 - f).toNat * rz.length<=7 * 3:=qb (by have:=h.f2;lia) h.lr
  lia
 have h2:(lfK rz ps (goL ds f l rows) (goC ds f l rows) (goL ds f l rows) f l).length<=24:=by
  unfold lfK;rw[ao];exact bo (dq _ _) (bo (dq _ _) hp)
 have h3:(ffK rz ps (goL ds f l rows) (goC ds f l rows) f l).length<=24:=by
  unfold ffK;rw[ao];exact bo (dq _ _) hp
 unfold d3;rw[cb,cb]
 lia
inductive yH (K:W.Frag)(CN C:Addr)(D:aY)(vs:List V)(H:Hp)(Q:VK)(E:XK):Prop
 | mk (h a:Addr) (f l:Int) (rz ps:List (Str×Int)) (ds:List aI) (us:List V) (rows:List bA) (_:vs=[.ref h,.ref a]) (_:aW C D H h f l rz ps ds) (_:Hs rz ps ds f l) (_:SqL K H a us) (_:cJ H us rows) (_:rows.length<=1) (_:(d3 rz ps ds f l rows=[]->∀H',Same H H'->Q .non H')) (_:(d3 rz ps ds f l rows≠[]->Ref0 CN H E)):yH K CN C D vs H Q E
theorem JU {D:aY}{Q:VK}{E:XK}{h:Addr}{ds:List aI}{us:List V}(hh:aW C D H h f l rz ps ds)(hs:Hs rz ps ds f l)(hS:SqL K H a us)(hp:cJ H us rows)(hl:rows.length<=1)(k:d3 rz ps ds f l rows=[]->∀H',Same H H'->Q .non H')(k':d3 rz ps ds f l rows≠[]->Ref0 CN H E):yH K CN C D [.ref h,.ref a] H Q E:=⟨_,_,_,_,_,_,_,_,_,rfl,hh,hs,hS,hp,hl,k,k'⟩
theorem EK (m:M w K mg):aP P w K mg base (CXE P w) 11 m.oJ m.iP.d ["house","plan"] (yH K m.b2 m.aH (aN P w K mg base (some 1))):=by
 refine m.iP.F.okE aGf ?_ ?_;walk_at"w0";walk_at"w1";obtain⟨h,a,f,l,rz,ps,ds,us,rows,rfl,hh,hs,hS,hpl,hlen,k,k'⟩:=h;walk_at"g2";have nd:=aGf.nd;walk_at"hu";have aHr:= @U9 P w K mg base m;refine⟨_,(aD (a9 (aT yF (bH mV rfl m.u3 p8 (aA (cG aHr hr (aA (pv 0) (aA (pv 1) aB))) aB)) aF (aX _)) (aD (cX m.LH m.ZA eS (aA aL aB))) aQ)),?_⟩;refine aG (σ:=[some (.ref h),some (.ref a)]) rfl ?_;walk_at"cx";walk_at"g1";obtain⟨nr,ndn,hin,f0,f1,f2,f3,lr,ld⟩:=id hs;walk_at"g2";walk_at"go";refine aEm hh nr ndn hin f0 f1 (by lia) (by lia) (by lia) ld hS hpl (by lia) (hs.few hlen) λp ws H1 n1 S1 e1 hws=> ?_;have hwl:ws.length=(d3 rz ps ds f l rows).length:=(cj hws).trans (PK _).length_eq;walk_at"go";refine kC (λhc=> ?_) (λhc=> ?_)
 .walk_at"go";refine jM (k' λz=> ?_) S1;rw[z]at hwl;have hwl:ws.length=0:=hwl
  lia
 .walk_at"go";exact k (vp.mp (by lia)) _ S1
theorem lP (m:M w K mg):FcE P w K mg base "need_lawful" 11 ["house","plan"] (yH K m.b2 m.aH (aN P w K mg base (some 1))):=⟨_,_,m.HN,m.iP.F.kp,m.iP.b,EK m⟩
theorem vT (m:M w K mg):aP P w K mg base CX0 1 m.fZ m.gD.d ["self","name"] (spX K m.bE "name"):=by
 refine m.gD.F.ok aFB (λvs H Q E h=> ?_) (λcdv A outer s H vs Q E hr h=> ?_)
 .walk_at"g1";obtain⟨e,y,fv,rfl,he,xf,na,k⟩:=h;walk_at"g2";rfl
 .walk_at"g1";obtain⟨e,y,fv,rfl,he,xf,na,k⟩:=h;walk_at"g2";have nd:=aFB.nd;walk_at"hu";refine⟨_,(aD (EG (pv 0) (pv 1) rfl)),?_⟩;refine aG (σ:=[some (.ref e),some (y)]) rfl ?_;walk_at"cx";refine ET rfl rfl he xf na λdx n1 n2=> ?_;exact k dx n1 n2
theorem CF (m:M w K mg):XcE P w K mg base "Unknown" m.bE "name" :=⟨_,_,_,m.xN,m.RX,m.vA,m.DB,m.gD.b,vT m⟩
inductive wN (N:Addr)(vs:List V)(H:Hp)(_:VK)(E:XK):Prop
 | mk (part:Str) (i:Int) (_:vs=[.str part,.int i,.int 0]) (_:part.length<=1000) (_:i<0) (_:Ref0 N H E):wN N vs H _ E
theorem D9 (m:M w K mg):aP P w K mg base (CXE P w) 2 m.lC m.c9.d ["part","thing","least"] (wN m.bY):=by
 refine m.c9.F.okE aFv ?_ ?_;walk_at"w0";walk_at"w1";obtain⟨part,i,rfl,hp,hi,k⟩:=h;walk_at"g2";have nd:=aFv.nd;walk_at"hu";have aGj:= @zQ P w K mg base m;refine⟨_,(aD (a9 (PW.pt (rJ (eK (cA (cG aGj hr (aA (pv 1) aB)))) (qC (aT fM (pv 1) (pv 2) (aX _))))) (aD (cX m.BG m.LE eS (aA (ZS (Y1 (pv 0) (V7 (Y1 (pv 2) (V7 R8))))) aB))) aQ)),?_⟩;refine aG (σ:=[some (.str part),some (.int i),some (.int 0)]) rfl ?_;walk_at"cx";walk_at"go";refine aD4 (l:=0) rfl hp (by walk_at"sz") rfl (by decide) (by decide +kernel) (by walk_at"sz") λout=> ?_;exact⟨(by show 1<=sizeLine;decide),k _ (Same.refl _)⟩
theorem D7 (m:M w K mg):FcE P w K mg base "need_whole" 2 ["part","thing","least"] (wN m.bY):=⟨_,_,m.xI,m.c9.F.kp,m.c9.b,D9 m⟩
local macro_rules| `(tactic| walk_at"rd1")=> `(tactic| ((with_reducible refine' sK ?d ?e ?hn ?hs ?he ?hw ?_);(case e=>walk_at"hp");(case d=>assumption);(case hn=>assumption);(case hs=>assumption);(case he=>assumption);(case hw=>walk_at"sd");intro H' B' e'))
abbrev NU (q n s e a i0:V):List (Str×V):=cM "more" i0 (cM "turn" a (cM "inner" q (wM n s e (.int 1))))
structure InD (K:W.Frag)(H:Hp)(q:Addr)(n s:Str)(e:V):Prop where
 ex:∃D dxq fsq,DCls K D/\H q=some (.ins D dxq fsq)/\fsq.lookup ("name" :Str)=some (.str n)/\fsq.lookup ("start" :Str)=some (.str s)/\fsq.lookup ("end" :Str)=some e
 hn:bM n=true
 hs:bM s=true
 he:rE e
theorem InD.sm {n s:Str}{e:V}(x:InD K H q n s e)(sm:Same H H'):InD K H' q n s e:=by
 walk_at"g1";obtain⟨⟨D,dxq,fsq,a,b,c⟩,x1,x2,x3⟩:=x;walk_at"g2";exact⟨⟨D,dxq,fsq,a,sm _ _ b,c⟩,x1,x2,x3⟩
inductive uP (K:W.Frag)(N:Addr)(vs:List V)(H:Hp)(_:VK)(E:XK):Prop
 | mk (p q C dx:Addr) (n s:Str) (e:V) (t:Int) (_:vs=[.ref p,.ref q,.int t]) (_:DCls K C) (_:H p=some (.ins C dx [])) (_:InD K H q n s e) (_:t<0) (_:∀H',SameBut p H H'->E (.ref N) none H'):uP K N vs H _ E
theorem AD (m:M w K mg):aP P w K mg base (CXE P w) 4 m.kP m.kQ.d ["self","door","turn"] (uP K m.bY):=by
 refine m.kQ.F.okE aFS ?_ ?_;walk_at"w0";walk_at"w1";obtain⟨p,q,C,dx,n,st,e,t,rfl,dc,hp,hi,hx,k⟩:=h;walk_at"g2";have nd:=aFS.nd;walk_at"hu";have Fx_need_whole:=D7 (P:=P) (w:=w) (base:=base) m;have DD_Door___init___1:=iK (P:=P) (w:=w) (base:=base) m;refine⟨_,(aC (bQ (U8 DD_Door___init___1 hr (aA (pv 0) (aA (bO (pv 1) rfl) (aA (bO (pv 1) rfl) (aA (bO (pv 1) rfl) aB))))))
  (aC (bQ (cB Fx_need_whole hr b9 (aA aL (aA (pv 2) (aA aF aB)))))
  cY)),?_⟩
 refine aG (σ:=[some (.ref p),some (.ref q),some (.int t)]) rfl ?_;walk_at"cx";walk_at"g1";obtain⟨⟨D,dxq,fsq,dd,hq,l1,l2,l3⟩,hn,hs,he⟩:=hi;walk_at"g2";walk_at"go";refine AG ?_;walk_at"go";show cS K [.ref p,.str n,.str st,e,.int 1] _ _ _;walk_at"go";rename_i H1 B1 e1;exact⟨_,t,rfl,by walk_at"sz",hx,λH2 s2=>k _ (B1.trans s2.but)⟩
theorem UF (m:M w K mg):KcE P w K mg base "Shut" m.xK 4 [] (uP K m.bY):=⟨_,_,_,_,m.aD5,m.aB2,.nil,m.kQ.b,AD m⟩
theorem TH {N:Addr}{Q:VK}{E:XK}{n s:Str}{e:V}{t:Int}(ev:vs++dvs=[.ref q,.int t])(dc:DCls K C)(hi:InD K H q n s e)(ht:t<0)(k:Ref0 N H E):t9 C (uP K N) dvs E Q vs H:=by
 intro x dx nx nd0 ne;have s0:Same H (upd (upd H dx (.own x)) x (.ins C dx [])):=λb o e=>by
  rw[aJ (aO e nx),aJ (aO e nd0)];exact e
 rw[ev];exact⟨_,_,_,_,_,_,_,_,rfl,dc,aU,hi.sm s0,ht,λH' sb=>k _ λb o q=>sb b o (s0 b o q) (aO q nx)⟩
inductive rR (K:W.Frag)(vs:List V)(H:Hp)(Q:VK)(E:XK):Prop
 | mk (p q C dx:Addr) (n s:Str) (e:V) (_:vs=[.ref p,.ref q,.int 1,.int 1]) (_:DCls K C) (_:H p=some (.ins C dx [])) (_:InD K H q n s e) (_:∀H',SameBut p H H'->H' p=some (.ins C dx (NU (.ref q) (.str n) (.str s) e (.int 1) (.int 1)))->Q .non H'):rR K vs H Q E
theorem yY (m:M w K mg):aP P w K mg base CX0 4 m.jB m.jD.d ["self","door","turn","more"] (rR K):=by
 refine m.jD.F.ok aFL ?_ ?_;walk_at"w0";walk_at"w1";obtain⟨p,q,C,dx,n,st,e,rfl,dc,hp,hi,k⟩:=h;walk_at"g2";have nd:=aFL.nd;walk_at"hu";have aFz:= @vK P w K mg base m;have DD_Door___init___1:=iK (P:=P) (w:=w) (base:=base) m;refine⟨_,(aC (bQ (U8 DD_Door___init___1 hr (aA (pv 0) (aA (bO (pv 1) rfl) (aA (bO (pv 1) rfl) (aA (bO (pv 1) rfl) aB))))))
  (aC (bQ (cG aFz hr (aA aL (aA (pv 2) (aA aF aB)))))
  (aC (bQ (cG aFz hr (aA aL (aA (pv 3) (aA aF aB)))))
  (aC (eQ (pv 0) (pv 1) rfl)
  (aC (eQ (pv 0) (pv 2) rfl)
  (aD (eQ (pv 0) (pv 3) rfl))))))),?_⟩
 refine aG (σ:=[some (.ref p),some (.ref q),some (.int 1),some (.int 1)]) rfl ?_;walk_at"cx";walk_at"g1";obtain⟨⟨D,dxq,fsq,dd,hq,l1,l2,l3⟩,hn,hs,he⟩:=hi;walk_at"g2";walk_at"go";refine AG ?_;walk_at"go";show cS K [.ref p,.str n,.str st,e,.int 1] _ _ _;walk_at"go";exact k _ (by walk_at"sb") (by assumption)
theorem QD (m:M w K mg):Kc P w K mg base "Wider" m.o9 4 [] (rR K):=⟨_,_,_,_,m.aBY,m.ZD,.nil,m.jD.b,yY m⟩
theorem OD {Q:VK}{E:XK}{n s:Str}{e:V}(ev:vs++dvs=[.ref q,.int 1,.int 1])(dc:DCls K C)(hi:InD K H q n s e)(k:∀p dx H',Same H H'->H' p=some (.ins C dx (NU (.ref q) (.str n) (.str s) e (.int 1) (.int 1)))->Q (.ref p) H'):t9 C (rR K) dvs E Q vs H:=by
 intro x dx nx nd0 ne;have s0:Same H (upd (upd H dx (.own x)) x (.ins C dx [])):=λb o e=>by
  rw[aJ (aO e nx),aJ (aO e nd0)];exact e
 rw[ev];exact⟨_,_,_,_,_,_,_,rfl,dc,aU,hi.sm s0,λH' sb e=>⟨rfl,k _ _ _ (λb o q=>sb b o (s0 b o q) (aO q nx)) e⟩⟩
def NmD (d:aI):Prop:=bM d.1=true/\bM d.2.1=true/\rE d.2.2.1
def WdAt (H:Hp)(v:V)(n:Str):Prop:=∃q,v= .ref q/\H q=some (.tup [.str "wider",.str n,.int 1,.int 1])
theorem WdAt.sm {n:Str}(x:WdAt H v n)(s:Same H H'):WdAt H' v n:=x.imp λ_ h=>⟨h.1,s _ _ h.2⟩
theorem KB:∀{l:List Str},z∈l->∃j:Nat,l[j]? =some z/\z∉l.take j
 | y::l,h=>by
  by_cases e:y=z
  .subst e;exact⟨0,rfl,cz⟩
  .obtain⟨j,h1,h2⟩:=KB (l:=l) ((ba.mp h).resolve_left (dg e));exact⟨j+1,h1,λq=>by rw[List.take_succ_cons]at q;exact(ba.mp q).elim (λx=>e x.symm) h2⟩
theorem aBA (xs:List V)(i:Nat):uU xs none (some (i:Int))=xs.take i:=by
 unfold uU;rw[HT.sIx_none,HT.sIx_nat,List.drop_zero,Nat.sub_zero];rcases Nat.le_total i xs.length with h|h
 .rw[Nat.min_eq_left h]
 .rw[Nat.min_eq_right h,fg,qc h]
theorem UL (xs:List V)(i:Nat):uU xs (some (i:Int)) none=xs.drop i:=by
 unfold uU;rw[HT.sIx_none,HT.sIx_nat];rcases Nat.le_total i xs.length with h|h
 .rw[Nat.min_eq_left h,qc (by rw[vb];lia)]
 .rw[Nat.min_eq_right h,pz h,pz (ar _),yb]
theorem zL {F:α->β->Prop}:∀{l:List α}{m:List β},cg F l m->∀k:Nat,cg F (l.take k) (m.take k)
 | _,_,.nil,k=>by rw[yb,yb];exact .nil
 | _,_,.cons h t,0=> .nil
 | _,_,.cons h t,k+1=> .cons h (zL t k)
theorem zI {F:α->β->Prop}:∀{l:List α}{m:List β},cg F l m->∀k:Nat,cg F (l.drop k) (m.drop k)
 | _,_,.nil,k=>by rw[List.drop_nil,List.drop_nil];exact .nil
 | _,_,.cons h t,0=> .cons h t
 | _,_,.cons h t,k+1=>zI t k
inductive wJ (K:W.Frag)(D:aY)(N:Addr)(vs:List V)(H:Hp)(Q:VK)(E:XK):Prop
 | mk (a:Addr) (n:Str) (us:List V) (ds:List aI) (_:vs=[.ref a,.str n]) (_:SqL K H a us) (_:cg (D.at' H) us ds) (_:ds.length<=20) (_:(∀j:Nat,(ds.map (·.1))[j]? =some n->∀H',Same H H'->Q (.int j) H')) (_:(n∉ds.map (·.1)->Refd N n H E)):wJ K D N vs H Q E
theorem L7 (m:M w K mg):aP P w K mg base (CXE P w) 3 m.u5 m.o6.d ["doors","name"] (wJ K (aN P w K mg base none) m.bE):=by
 refine m.o6.F.okE aGL ?_ ?_;walk_at"w0";walk_at"w1";obtain⟨a,n,us,ds,rfl,hS,hd,hl,k,k2⟩:=h;walk_at"g2";have nd:=aGL.nd;walk_at"hu";have X_Unknown:=CF (P:=P) (w:=w) (base:=base) m;refine⟨_,(aC (j3 (i:=2) nd rfl (by walk_at"oi") (N:=["door"]) (nl:=1) (ci:=[]) rfl (blk (s.heap.objs.size+1) rfl rfl rfl (by kernel_rfl)) (b0 (pv 0)) (λ_ _ _ _=>(aS (i:=0) (show (["door"]:List Str).Nodup by decide +kernel) rfl (by walk_at"oi"))) (λ_ _ _ _=>dR) (λ_ _ _ _=>(o7 (K:=K) (pv 0) rfl)))
  (aC (a9 (aT xA (pv 1) (pv 2) (by with_unfolding_all rfl)) (aD (rQ X_Unknown hr CK (pv 1) rfl)) aQ)
  (aD (aM (oT kf PySem.F.slot_list_index PySem.F.type_list_index YD (pv 2) (aA (pv 1) aB)))))),?_⟩
 refine aG (σ:=[some (.ref a),some (.str n),none]) rfl ?_;walk_at"cx";have hul:=cj hd;walk_at"go";refine gE ((aN P w K mg base none).at' H) (λ_=>true) (λd y _=>y=V.str d.1) (λ_ _ _ _ h _=>h) (by rw[bq];lia) (rest:=[]) (by rfl) hS hd ?_ ?_ ?_
 .intro v x H2 _ _ _ R hR;exact hR _ (Same.refl _)
 .rintro v ⟨n1,st,e,lt⟩ H2 hv hm - s2 R hR;walk_at"g1";obtain⟨q,C9,dx,fs,fp,rfl,hq,dcC,l1,l2,l3,l4,l5,mcE,hfp,hlt⟩:=DoorAt.ex ((aN P w K mg base none).same hv s2);walk_at"g2";walk_at"go";exact hR _ _ rfl (Same.refl _)
 intro ys H1 S1 hys;rw[ya.mpr (λ_ _=>rfl)]at hys;obtain rfl:=nH hys;walk_at"go";rename_i p2 H2 n2 S2 e2;have e2':H2 p2=some (.lst ((ds.map (·.1)).map V.str)):=by rw[e2,fk];rfl
 refine FU (SqL.of e2') ?_
 by_cases hm:n∈ds.map (·.1)
 .obtain⟨j,hj,ht⟩:=KB hm;rw[decide_eq_true hm];walk_at"go";exact⟨_,_,_,j,rfl,rfl,e2',hj,ht,by rw[ao];lia,k j hj _ (S1.trans S2)⟩
 .rw[decide_eq_false hm];walk_at"go";refine rS ?_;walk_at"go";exact(k2 hm).go (S1.trans S2)
theorem L6 (m:M w K mg):FcE P w K mg base "place_of" 3 ["doors","name"] (wJ K (aN P w K mg base none) m.bE):=⟨_,_,m.R0,m.o6.F.kp,m.o6.b,L7 m⟩
inductive DJ (D:aY)(vs:List V)(H:Hp)(Q:VK)(E:XK):Prop
 | mk (u v:V) (d:aI) (n:Str) (_:vs=[u,v]) (_:D.at' H u d) (_:NmD d) (_:WdAt H v n) (_:∀p H',Same H H'->D.at' H' (.ref p) d->Q (.ref p) H'):DJ D vs H Q E
local macro_rules| `(tactic| walk_at"rd1")=> `(tactic| ((with_reducible refine' aC2 ?e ?l ?_);(case e=>walk_at"hp");(case l=>rfl)))
theorem CI (m:M w K mg):aP P w K mg base CX0 6 m.mE m.gR.d ["door","happening"] (DJ (aN P w K mg base none)):=by
 refine m.gR.F.ok aF6 (λvs H Q E h=> ?_) (λcdv A outer s H vs Q E hr h=> ?_)
 .walk_at"g1";obtain⟨u,v,d,n,rfl,hd,hnm,⟨q1,rfl,hq1⟩,k⟩:=h;walk_at"g2";rfl
 .walk_at"g1";obtain⟨u,v,d,n,rfl,hd,hnm,⟨q1,rfl,hq1⟩,k⟩:=h;walk_at"g2";have nd:=aF6.nd;walk_at"hu";have aHl:= @QD P w K mg base m;have aGN:=m.K6;refine⟨_,(aC (a9 (aT cN (dB kH (pv 1) aF (λ_ _=>rfl)) aL (aX _)) cY aQ)
   (aD (aM (yP aHl hr (aA (pv 0) (aA (dB kH (pv 1) aF (λ_ _=>rfl)) (aA (dB kH (pv 1) aF (λ_ _=>rfl)) aB))))))),?_⟩
  refine aG (σ:=[some (u),some (.ref q1)]) rfl ?_;walk_at"cx";walk_at"g1";obtain⟨n1,st,e,lt⟩:=d;walk_at"g2";walk_at"g1";obtain⟨q,C9,dx,fs,fp,rfl,hq,dcC,l1,l2,l3,l4,l5,mcE,hfp,hlt⟩:=DoorAt.ex hd;walk_at"g2";have hi:InD K H q n1 st e:=⟨⟨_,_,_,dcC,hq,l1,l2,l3⟩,hnm.1,hnm.2.1,hnm.2.2⟩
  walk_at"go";exact OD rfl aGN hi λp dx' H' S' e'=>k p H' S' ⟨p,_,dx',_,[],rfl,e',aGN,by walk_at"lk",by walk_at"lk",by walk_at"lk",by walk_at"lk",by walk_at"lk",zT m,(λx hx=>nomatch hx),λkl hk=>nomatch hk⟩
theorem BW (m:M w K mg):Fc P w K mg base "changed_door" 6 ["door","happening"] (DJ (aN P w K mg base none)):=⟨_,_,m.E5,m.gR.F.kp,m.gR.b,CI m⟩
inductive EU (D:aY)(UN:Addr)(vs:List V)(H:Hp)(Q:VK)(E:XK):Prop
 | mk (a:Addr) (v:V) (us:List V) (ds:List aI) (n:Str) (_:vs=[.ref a,v]) (_:H a=some (.lst us)) (_:cg (D.at' H) us ds) (_:(∀d∈ds,NmD d)) (_:ds.length<=20) (_:WdAt H v n) (_:(n∈ds.map (·.1)->∀p us' H',Same H H'->H' p=some (.lst us')->cg (D.at' H') us' ds->Q (.ref p) H')) (_:(n∉ds.map (·.1)->Refd UN n H E)):EU D UN vs H Q E
theorem EY (m:M w K mg):aP P w K mg base (CXE P w) 7 m.oK m.iR.d ["doors","happening"] (EU (aN P w K mg base none) m.bE):=by
 refine m.iR.F.okE aGg (λvs H Q E h=> ?_) (λcdv A outer s H vs Q E hr h=> ?_)
 .walk_at"g1";obtain⟨a,v,us,ds,n,rfl,hS,hd,hnm,hl,⟨q,rfl,hq⟩,k,k2⟩:=h;walk_at"g2";rfl
 .walk_at"g1";obtain⟨a,v,us,ds,n,rfl,hS,hd,hnm,hl,⟨q,rfl,hq⟩,k,k2⟩:=h;walk_at"g2";have nd:=aGg.nd;walk_at"hu";have aGU:= @BW P w K mg base m;have aHj:= @L6 P w K mg base m;refine⟨_,(aC (a9 (aT cN (dB kH (pv 1) aF (λ_ _=>rfl)) aL (aX _)) (aD (aM (pv 0))) aQ)
   (aC (a9 (aT cN (dB kH (pv 1) aF (λ_ _=>rfl)) aL (aX _)) cY aQ)
   (aC (bD (i:=2) nd rfl (by walk_at"oi") (cB aHj hr b9 (aA (pv 0) (aA (dB kH (pv 1) aF (λ_ _=>rfl)) aB))))
   (aD (aM (bR qB (bR qB (uG DZ (pv 0) xV (yL (pv 2))) (bJ (aA (cG aGU hr (aA (dB gH (pv 0) (pv 2) (λ_ _=>rfl)) (aA (pv 1) aB))) aB))) (uG DZ (pv 0) (yL (bR eN (pv 2) aF)) xV))))))),?_⟩
  refine aG (σ:=[some (.ref a),some (.ref q),none]) rfl ?_;walk_at"cx";have hul:=cj hd;walk_at"go";refine⟨a,n,us,ds,rfl,SqL.of hS,hd,by lia,λj hjn H1 S1=> ?_,k2⟩;have hmem:n∈ds.map (·.1):=bz hjn;obtain⟨d0,hj⟩:∃d0,ds[j]? =some d0:=by
   rw[dk]at hjn;cases e:ds[j]? with
   | none=>rw[e]at hjn;cases hjn
   | some d0=>exact⟨d0,rfl⟩
  have hjl:j<ds.length:=(ay.mp hj).1;have hS1:=S1 _ _ hS;walk_at"go";rename_i p2 H2 n2 S2 e2';have e2'':H2 p2=some (.lst (us.take j)):=by rw[e2'];exact congrArg (λz=>some (HO.lst z)) (aBA us j)
  have hS2:=S2 _ _ hS1;have s12:=S1.trans S2;have ht:=lR hd s12;obtain⟨u0,hu0⟩:∃u0,us[j]? =some u0:=⟨_,aq (by lia)⟩
  have hat:=L2.Paired.at2 ht hu0 hj;refine⟨a,us,_,_,rfl,rfl,SqL.of hS2,o8 hu0,?_⟩;walk_at"go";refine⟨_,_,_,n,rfl,hat,hnm d0 (bz hj),⟨q,rfl,s12 _ _ hq⟩,λp3 H3 S3 h3=> ?_⟩;have hS3:=S3 _ _ hS2;have e23:=S3 _ _ e2'';walk_at"go";rename_i p4 H4 n4 S4 e4;refine yB (S4 _ _ e23) e4 (by rw[bq,fm];simp only[cv,ip];lia) λp5 H5 n5 S5 e5=> ?_;have hS5:=S5 _ _ (S4 _ _ hS3);walk_at"go";rename_i p6 H6 n6 S6 e6;have e6':H6 p6=some (.lst (us.drop (j+1))):=by
   rw[e6];exact congrArg (λz=>some (HO.lst z)) (UL us (j+1))
  refine yB (S6 _ _ e5) e6' (by rw[bq,cb,fm,vb];simp only[cv,ip];lia) λp7 H7 n7 S7 e7=> ?_;have s37:=((S4.trans S5).trans S6).trans S7;have sA:=(s12.trans S3).trans s37;refine k hmem _ _ _ sA e7 ?_;have hT:=lR hd sA;have:=gF (gF (zL hT j) (.cons ((aN P w K mg base none).same h3 s37) .nil)) (zI hT (j+1));have ed:ds=ds.take j++[d0]++ds.drop (j+1):=by
   rw[me];exact((List.take_append_drop j ds).symm).trans (congrArg (ds.take j++·) (ua hjl▸by rw[aq hjl]at hj;rw[cp hj];rfl))
  rw[←ed]at this;exact this
theorem D6 (m:M w K mg):FcE P w K mg base "doors_after" 7 ["doors","happening"] (EU (aN P w K mg base none) m.bE):=⟨_,_,m.HQ,m.iR.F.kp,m.iR.b,EY m⟩
theorem DT (f:α->V):∀l:List α,cg (λ(v:V) (x:α)=>v=f x) (l.map f) l
 | []=> .nil
 | _::l=> .cons rfl (DT f l)
inductive AO (K:W.Frag)(C:Addr)(D:aY)(NT UN:Addr)(vs:List V)(H:Hp)(_:VK)(E:XK):Prop
 | mk (h a b:Addr) (f l t:Int) (rz ps:List (Str×Int)) (ds:List aI) (vh:List V) (_:vs=[.ref h,.ref a,.int t,.ref b]) (_:aW C D H h f l rz ps ds) (_:Hs rz ps ds f l) (_:(∀d∈ds,NmD d)) (_:SqL K H a []) (_:d3 rz ps ds f l []=[]) (_:SqL K H b vh) (_:((l<t/\Ref0 NT H E)∨(f<=t/\t<=l/\∃n v0 v1 vr z,vh=v0::v1::vr/\WdAt H v0 n/\n∈ds.map (·.1)/\WdAt H v1 z/\z∉ds.map (·.1)/\Refd UN z H E))):AO K C D NT UN vs H _ E
theorem d10 {d:aI}(x:(aN P w K mg base (some 1)).at' H v d):(aN P w K mg base none).at' H v d:=by
 walk_at"g1";obtain⟨p,C,dx,fs,fp,h1,h2,h3,h4,h5,h6,h7,h8,h9,h10,h11⟩:=x;walk_at"g2";exact⟨p,C,dx,fs,fp,h1,h2,h3,h4,h5,h6,h7,h8,h9,h10,λkl hk=>nomatch hk⟩
theorem FM {C:List Key->Int}(hL:∀k,L k=0)(hC:∀k,C k=0)(n:Nat):j7 ps L C z f n=dF ps z:=by
 induction n with
 | zero=>rfl
 | succ n ih =>
  show j7 ps L C z f n - L _+C _=_;rw[ih,hL,hC];lia
theorem aBB (m:M w K mg):aP P w K mg base (CXE P w) 13 m.DD m.xF ["house","plan","turn","happenings"] (AO K m.aH (aN P w K mg base (some 1)) m.bZ m.bE):=by
 refine m.nK.okE aGD ?_ ?_;walk_at"w0";walk_at"w1";obtain⟨h,a,b,f,l,t,rz,ps,ds,vh,rfl,hh,ho,hnm,hS,nf,hb,k⟩:=h;walk_at"g2";have nd:=aGD.nd;walk_at"hu";have aG0:= @D6 P w K mg base m;have aFr:= @lP P w K mg base m;have aFm:=m.a8;have aFU:= @lG P w K mg base m;have aFs:= @fG P w K mg base m;refine⟨_,(aC (bQ (cB aFr hr b9 (aA (pv 0) (aA (pv 1) aB))))
  (aC (a9 (PW.pt (rJ (aT fM (pv 2) (bO (pv 0) rfl) (aX _)) (qC (aT yF (pv 2) (bO (pv 0) rfl) (aX _))))) (aD (cX m.vC m.BF eS (aA aL aB))) aQ)
  (aC (bD (i:=4) nd rfl (by walk_at"oi") (AK (aT JM (pv 3) qJ (aX _)) (bJ aB) (pv 3)))
  (aC (j3 (i:=5) nd rfl (by walk_at"oi") (N:=["name","house"]) (nl:=1) (ci:=[0]) rfl (blk (s.heap.objs.size+1) rfl rfl rfl (by kernel_rfl)) (b0 (m8 1 hr (pv 0))) (λ_ _ _ _=>(aS (i:=0) (show (["name","house"]:List Str).Nodup by decide +kernel) rfl (by walk_at"oi"))) (λ_ _ _ _=>dR) (λ_ _ _ _=>(SY (P:=P) (w:=w) (K:=K) (mg:=mg) (base:=base) 1 hr (pv 1) (aA (pv 0) aB))))
  (aC (dS yD rfl (b0 (pv 4)) (aS (i:=6) nd rfl (by walk_at"oi")) (aD (bD (i:=5) nd rfl (by walk_at"oi") (cB aG0 hr b9 (aA (pv 5) (aA (pv 6) aB))))))
  cY))))),?_⟩
 refine aG (σ:=[some (.ref h),some (.ref a),some (.int t),some (.ref b),none,none,none,none,none]) rfl ?_;walk_at"cx";walk_at"g1";obtain⟨dnr,dnd,din,f0,f1,f2,f3,lr,ld⟩:=id ho;walk_at"g2";walk_at"g1";obtain⟨dx,qs,qp,qd,nk,kvs,e1,_⟩:=id hh.ex;walk_at"g2";walk_at"go";refine JU hh ho hS (.nil:cJ H [] []) (gi _) (λ_ H1 S1=> ?_) λz=>absurd nf z;have hh1:=bU hh S1;have e11:=S1 _ _ e1;rcases k with⟨c2,k⟩|⟨c1,c2,n,v0,v1,vr,z,rfl,w0,hn,w1,hz,k⟩
 .have c1:¬t<f:=by lia
  walk_at"go";exact jM k S1
 have c1:¬t<f:=by lia
 have c2:¬l<t:=by lia
 walk_at"go";refine D0 hh1 λpD H3 n3 S3 eD=> ?_;walk_at"go";refine gE (α:=aI) (xs:=ds) (vs:=(ds.map (·.1)).map V.str) (λv d=>v= .str d.1) (λ_=>true) (λd y H=>(aN P w K mg base none).at' H y d) (λ_ _ _ _ h s=>(aN P w K mg base none).same h s) (by rw[bq];lia) (rest:=[some (.ref h)]) (by rfl) (SqL.of eD) (by rw[fk];exact DT _ ds) ?_ ?_ ?_
 .exact λv x H1 _ _ s1 R hR=>hR _ (Same.refl _)
 .rintro _ d G rfl hm - s R hR;have e1G:=(S3.trans s) _ _ e11;walk_at"go";refine wG (bU hh1 (S3.trans s)) dnd hm λv hv=> ?_;exact hR _ _ (d10 hv) (Same.refl _)
 intro ys H4 s4 hys;rw[iY]at hys;have hdd:cg ((aN P w K mg base none).at' H4) ys ds:=mM hys;walk_at"go";rename_i pE H5 n5 S5 eE;have s15:Same H1 H5:=S3.trans (s4.trans S5);have s05:Same H H5:=S1.trans s15;let Pv1:Nat->St->Hp->Prop:=λi σ' G=>i<=1/\∃(pE:Addr) (us:List V) (x6:Option V),Same H5 G/\G pE=some (.lst us)/\cg ((aN P w K mg base none).at' G) us ds/\σ'=[some (.ref h),some (.ref a),some (.int t),some (.ref b),some (.ref b),some (.ref pE),x6,none,none];refine eU (v0::v1::vr) Pv1 ⟨by decide,pE,ys,none,Same.refl _,eE,lR hdd S5,rfl⟩ (λi σ' G _ q=>by obtain⟨_,_,_,_,s,_⟩:=q;exact(s05.trans s).seq hb) ?_ ?_
 .rintro i x _ G hx hq_;walk_at"g1";obtain⟨hi,pE,us,x6,sG,eG,hG,rfl⟩:=hq_;walk_at"g2";have s0G:=s05.trans sG;walk_at"go";rcases (show i=0∨i=1 by lia) with rfl|rfl
  .cases hx;refine⟨_,_,us,ds,n,rfl,eG,hG,hnm,by lia,w0.sm s0G,λ_ p2 us2 G2 s2 e2 h2=> ?_,λq=>absurd hn q⟩;walk_at"go";exact⟨by decide,p2,us2,_,sG.trans s2,e2,h2,rfl⟩
  .cases hx;exact⟨_,_,us,ds,z,rfl,eG,hG,hnm,by lia,w1.sm s0G,λq=>absurd q hz,λ_=>k.sm s0G⟩
 rintro _ H6 ⟨hi,_⟩;exact absurd hi (by show ¬vr.length+2<=1;lia)
theorem MP (m:M w K mg):FcE P w K mg base "anew" 13 ["house","plan","turn","happenings"] (AO K m.aH (aN P w K mg base (some 1)) m.bZ m.bE):=⟨_,_,m.VW,m.nK.kp,m.aEa,aBB m⟩
theorem Dup.not (h:Dup ss z):¬ss.Nodup:=λn=>by
 walk_at"g1";obtain⟨i,a1,a2,_⟩:=h;walk_at"g2";exact tQ n a1 a2
theorem Odd.not {rs:List Str}(h:Odd rs ss z):¬∀y∈ss,y∈rs:=λn=>by
 walk_at"g1";obtain⟨i,a1,a2,_⟩:=h;walk_at"g2";exact a2 (n z (bz a1))
theorem MR {ds:List aI}(nd:(rz.map (·.1)).Nodup)(hf:pH rz ps)(p0:∀z,0<=dF ps z):d3 rz ps ds f l []=[]:=by
 have h2:lfK rz ps (goL ds f l []) (goC ds f l []) (goL ds f l []) f l=[]:=by
  unfold lfK;rw[qe.mpr];rfl;intro x hx z;have z:=of_decide_eq_true z;rw[FM (L:=goL ds f l []) (C:=goC ds f l []) (λk=>rfl) (λk=>rfl)]at z;have:=p0 x.1;have z:(0:Int)>dF ps x.1:=z
  lia
 have h3:ffK rz ps (goL ds f l []) (goC ds f l []) f l=[]:=by
  unfold ffK;rw[qe.mpr];rfl;intro x hx z;have z:=of_decide_eq_true z;rw[FM (L:=goL ds f l []) (C:=goC ds f l []) (λk=>rfl) (λk=>rfl)]at z;obtain⟨hz,_⟩:=pairsN_mem.mp (show (x.1,x.2)∈_ from hx);obtain⟨e,he,q⟩:=bg.mp hz;have h1:=hf.2 e he;rw[←q,tG nd he]at z
  lia
 unfold d3;rw[h2,h3];rfl
inductive yE (C:Addr)(D:aY)(N:Addr)(vs:List V)(H:Hp)(_:VK)(E:XK):Prop
 | mk (h:Addr) (z:Str) (f l:Int) (rz ps:List (Str×Int)) (ds:List aI) (_:vs=[.ref h,.str z]) (_:aW C D H h f l rz ps ds) (_:z∉rz.map (·.1)) (_:Refd N z H E):yE C D N vs H _ E
theorem aDQ {N:Addr}{D:aY}{Q:VK}{E:XK}{h:Addr}{ds:List aI}(hh:aW C D H h f l rz ps ds)(hz:z∉rz.map (·.1))(k:Refd N z H E):yE C D N [.ref h,.str z] H Q E:=⟨_,_,_,_,_,_,_,rfl,hh,hz,k⟩
theorem QP (hz:z∉rz.map (·.1)):(aZ (szK rz) (.inr z)).isSome=false:=by
 rw[mU];rfl;intro e he q;unfold szK at he;obtain⟨x,hx,rfl⟩:=bg.mp he;exact hz (bg.mpr ⟨x,hx,kg q⟩)
theorem vP (m:M w K mg):aP P w K mg base (CXE P w) 5 m.d7 m.cV.d ["self","room"] (yE m.aH (aN P w K mg base (some 1)) m.bN):=by
 refine m.cV.F.okE aFn ?_ ?_;walk_at"w0";walk_at"w1";obtain⟨h,z,f,l,rz,ps,ds,rfl,hh,hz,k⟩:=h;walk_at"g2";have nd:=aFn.nd;walk_at"hu";have Fx_need_rooms:=tI (P:=P) (w:=w) (base:=base) m;have aFm:=m.a8;refine⟨_,(aD (bQ (cB Fx_need_rooms hr b9 (aA (bJ (aA (pv 1) aB)) (aA (bO (pv 0) rfl) aB))))),?_⟩;refine aG (σ:=[some (.ref h),some (.str z)]) rfl ?_;walk_at"cx";walk_at"g1";obtain⟨dx,qs,qp,qd,nk,kvs,e1,e2,e3,e4,e5,e6,e7⟩:=hh.ex;walk_at"g2";walk_at"go";rename_i p H1 n1 S1 e8;exact JD (ss:=[z]) (SqL.of e8) (.inl (S1 _ _ e2)) (λh=>by
  have:=h z (.head _);rw[QP hz]at this;cases this) (λi y hi _ _=>by
  match i,hi with
  | 0,hi=>cases hi;exact k.sm S1
  | n+1,hi=>cases hi)
theorem vO (m:M w K mg):McE P w K mg base m.aH "need_room" 5 (yE m.aH (aN P w K mg base (some 1)) m.bN):=⟨_,_,_,m.a8.ic.cl,m.nL,m.cV.b,vP m⟩
local macro_rules| `(tactic| walk_at"rd1")=> `(tactic| first|(with_reducible refine aDc ?_)|((with_reducible refine' aAJ ?e ?l ?F ?_);(case e=>walk_at"hp");(case l=>walk_at"lk");(case F=>assumption)))
theorem vS (m:M w K mg):aP P w K mg base (CXE P w) 6 m.iB m.iC.d ["self","room"] (yE m.aH (aN P w K mg base (some 1)) m.bN):=by
 refine m.iC.F.okE aFJ ?_ ?_;walk_at"w0";walk_at"w1";obtain⟨h,z,f,l,rz,ps,ds,rfl,hh,hz,k⟩:=h;walk_at"g2";have nd:=aFJ.nd;walk_at"hu";have aFm:=m.a8;have aHh:=vO (P:=P) (w:=w) (base:=base) m;refine⟨_,(aC (bQ (CT 5 hr b9 (pv 0) (aA (pv 1) aB)))
  (aD (aM (yG (dA (N:=["name","door","room"]) (nl:=2) (ci:=[1]) rfl (blk (s.heap.objs.size+1) rfl rfl rfl (by kernel_rfl)) (T8 (bO (pv 0) rfl)) (λ_ _ _ _=>(jK (K:=K) (n:=2) rfl (bK (aS (i:=0) (show (["name","door","room"]:List Str).Nodup by decide +kernel) rfl (by walk_at"oi")) (bK (aS (i:=1) (show (["name","door","room"]:List Str).Nodup by decide +kernel) rfl (by walk_at"oi")) dI)))) (λ_ _ _ _=>(nJ (aT cN (o7 (K:=K) (pv 1) rfl) (pv 2) (aX _)))) (λ_ _ _ _=>(pv 0))))))),?_⟩
 refine aG (σ:=[some (.ref h),some (.str z)]) rfl ?_;walk_at"cx";walk_at"g1";obtain⟨dx,qs,qp,qd,nk,kvs,e1,e2,e3,e4,e5,e6,e7⟩:=hh.ex;walk_at"g2";walk_at"go";exact aDQ hh hz k
theorem vQ (m:M w K mg):McE P w K mg base m.aH "from_room" 6 (yE m.aH (aN P w K mg base (some 1)) m.bN):=⟨_,_,_,m.a8.ic.cl,m.xL,m.iC.b,vS m⟩
inductive IJ (C:Addr)(D:aY)(N:Addr)(vs:List V)(H:Hp)(_:VK)(E:XK):Prop
 | mk (h:Addr) (z:Str) (f l:Int) (rz ps:List (Str×Int)) (ds:List aI) (_:vs=[.ref h,.str z]) (_:aW C D H h f l rz ps ds) (_:z∉ds.map (·.1)) (_:Refd N z H E):IJ C D N vs H _ E
theorem aE0 {N:Addr}{D:aY}{Q:VK}{E:XK}{h:Addr}{ds:List aI}(hh:aW C D H h f l rz ps ds)(hz:z∉ds.map (·.1))(k:Refd N z H E):IJ C D N [.ref h,.str z] H Q E:=⟨_,_,_,_,_,_,_,rfl,hh,hz,k⟩
theorem Q3 {D:aY}{ds:List aI}(h:oX D H nk ds)(hz:z∉ds.map (·.1)):(aZ nk (.inr z)).isSome=false:=by
 rw[mU];rfl;intro e he q;have:e.1∈nk.map (·.1):=bg.mpr ⟨e,he,rfl⟩;rw[uN h,q]at this;obtain⟨x,hx,e⟩:=bg.mp this;cases e;exact hz hx
theorem DL (m:M w K mg):aP P w K mg base (CXE P w) 4 m.kT m.eW.d ["self","name"] (IJ m.aH (aN P w K mg base (some 1)) m.bE):=by
 refine m.eW.F.okE aFw ?_ ?_;walk_at"w0";walk_at"w1";obtain⟨h,z,f,l,rz,ps,ds,rfl,hh,hz,k⟩:=h;walk_at"g2";have nd:=aFw.nd;walk_at"hu";have X_Unknown:=CF (P:=P) (w:=w) (base:=base) m;have aFm:=m.a8;refine⟨_,(aC (a9 (wX (qZ hu1 (pv 1) (bO (pv 0) rfl)) (by with_unfolding_all rfl)) (aD (rQ X_Unknown hr CK (pv 1) rfl)) aQ)
  (aD (aM (fJ hu1 (bO (pv 0) rfl) (pv 1) (λ_ _=>rfl))))),?_⟩
 refine aG (σ:=[some (.ref h),some (.str z)]) rfl ?_;walk_at"cx";walk_at"g1";obtain⟨dx,qs,qp,qd,nk,kvs,e1,e2,e3,e4,e5,e6,e7⟩:=hh.ex;walk_at"g2";walk_at"go";refine oS (.inl e6) ?_;rw[Q3 e7 hz];walk_at"go";refine rS ?_;walk_at"go";exact k.go (Same.refl _)
theorem D5 (m:M w K mg):McE P w K mg base m.aH "door" 4 (IJ m.aH (aN P w K mg base (some 1)) m.bE):=⟨_,_,_,m.a8.ic.cl,m.vL,m.eW.b,DL m⟩
inductive IC (C:Addr)(D:aY)(N:Addr)(vs:List V)(H:Hp)(_:VK)(E:XK):Prop
 | mk (h:Addr) (z:Str) (t f l:Int) (rz ps:List (Str×Int)) (ds:List aI) (_:vs=[.ref h,.str z,.int t]) (_:aW C D H h f l rz ps ds) (_:z∉ds.map (·.1)) (_:Refd N z H E):IC C D N vs H _ E
theorem aFc {N:Addr}{D:aY}{Q:VK}{E:XK}{h:Addr}{t:Int}{ds:List aI}(hh:aW C D H h f l rz ps ds)(hz:z∉ds.map (·.1))(k:Refd N z H E):IC C D N [.ref h,.str z,.int t] H Q E:=⟨_,_,_,_,_,_,_,_,rfl,hh,hz,k⟩
theorem EE (m:M w K mg):aP P w K mg base (CXE P w) 5 m.kX m.eX.d ["self","name","turn"] (IC m.aH (aN P w K mg base (some 1)) m.bE):=by
 refine m.eX.F.okE aFx ?_ ?_;walk_at"w0";walk_at"w1";obtain⟨h,z,t,f,l,rz,ps,ds,rfl,hh,hz,k⟩:=h;walk_at"g2";have nd:=aFx.nd;walk_at"hu";have aFm:=m.a8;have aHw:=D5 (P:=P) (w:=w) (base:=base) m;refine⟨_,(aC (bD (i:=3) nd rfl (by walk_at"oi") (CT 4 hr b9 (pv 0) (aA (pv 1) aB)))
  (aC (a9 (PW.pt (rJ (aT fM (pv 2) (bO (pv 0) rfl) (aX _)) (qC (aT Z7 (pv 2) (bO (pv 0) rfl) (aX _))))) (aD (aM aF)) aQ)
  (aD (aM (kG 1 hr (pv 3) (aA (pv 2) aB)))))),?_⟩
 refine aG (σ:=[some (.ref h),some (.str z),some (.int t),none]) rfl ?_;walk_at"cx";walk_at"g1";obtain⟨dx,qs,qp,qd,nk,kvs,e1,e2,e3,e4,e5,e6,e7⟩:=hh.ex;walk_at"g2";walk_at"go";exact aE0 hh hz k
theorem EF (m:M w K mg):McE P w K mg base m.aH "lets" 5 (IC m.aH (aN P w K mg base (some 1)) m.bE):=⟨_,_,_,m.a8.ic.cl,m.vM,m.eX.b,EE m⟩
inductive uT (N:Addr)(vs:List V)(H:Hp)(_:VK)(E:XK):Prop
 | mk (part z:Str) (_:vs=[.str part,.str z]) (_:part.length<=1000) (_:z.length<=1000) (_:bM z=false) (_:Ref0 N H E):uT N vs H _ E
theorem aBM {N:Addr}{Q:VK}{E:XK}(hp:part.length<=1000)(hl:z.length<=1000)(hz:bM z=false)(k:Ref0 N H E):uT N [.str part,.str z] H Q E:=⟨_,_,rfl,hp,hl,hz,k⟩
theorem HG (m:M w K mg):aP P w K mg base (CXE P w) 2 m.mR m.dG.d ["part","thing"] (uT m.bY):=by
 refine m.dG.F.okE aFy ?_ ?_;walk_at"w0";walk_at"w1";obtain⟨part,z,rfl,hp,hl,hz,k⟩:=h;walk_at"g2";have nd:=aFy.nd;walk_at"hu";have aFK:= @uE P w K mg base m;refine⟨_,(aD (a9 (eK (cA (cG aFK hr (aA (pv 1) aB)))) (aD (cX m.BG m.LE eS (aA (ZS (Y1 (pv 0) (V7 R8))) aB))) aQ)),?_⟩;refine aG (σ:=[some (.str part),some (.str z)]) rfl ?_;walk_at"cx";walk_at"go";refine⟨.str z,_,rfl,.str z,(λy e=>by cases e;exact hl),λH' S'=> ?_⟩;rw[show nmB (.str z)=false from hz];walk_at"go";refine aDT rfl hp (by walk_at"sz") λout=> ?_;walk_at"go";exact⟨(by show 1<=sizeLine;decide),k _ S'⟩
theorem HF (m:M w K mg):FcE P w K mg base "need_name" 2 ["part","thing"] (uT m.bY):=⟨_,_,m.zR,m.dG.F.kp,m.dG.b,HG m⟩
inductive tX (N:Addr)(vs:List V)(H:Hp)(_:VK)(E:XK):Prop
 | mk (p:Addr) (z s:Str) (_:vs=[.ref p,.str z,.str s,.non,.int 1]) (_:z.length<=1000) (_:bM z=false) (_:Ref0 N H E):tX N vs H _ E
theorem yZ (m:M w K mg):aP P w K mg base (CXE P w) 3 m.dZ m.dD ["self","name","start","end","wide"] (tX m.bY):=by
 refine m.kS.okE aFq ?_ ?_;walk_at"w0";walk_at"w1";obtain⟨p,z,st,rfl,hl,hz,k⟩:=h;walk_at"g2";have nd:=aFq.nd;walk_at"hu";have Fx_need_name:=HF (P:=P) (w:=w) (base:=base) m;refine⟨_,(aC (bQ (cB Fx_need_name hr b9 (aA aL (aA (pv 1) aB))))
  cY),?_⟩
 refine aG (σ:=[some (.ref p),some (.str z),some (.str st),some (.non),some (.int 1)]) rfl ?_;walk_at"cx";walk_at"go";exact aBM (by walk_at"sz") hl hz k
theorem QO (m:M w K mg):KcE P w K mg base "Door" m.dY 3 [.non,.int 1] (tX m.bY):=by
 obtain⟨ds,h1,h2⟩:=m.nM;exact⟨_,_,_,_,m.DF,m.E3,h1,h2,yZ m⟩
theorem SV {N:Addr}{Q:VK}{E:XK}{s:Str}(hl:z.length<=1000)(hz:bM z=false)(k:Ref0 N H E):t9 C (tX N) [.non,.int 1] E Q [.str z,.str s] H:=by
 intro x dx nx nd0 ne;have s0:Same H (upd (upd H dx (.own x)) x (.ins C dx [])):=λb o e=>by
  rw[aJ (aO e nx),aJ (aO e nd0)];exact e
 exact⟨x,z,s,rfl,hl,hz,λH' s'=>k H' (s0.trans s')⟩
def sM (c:Nat):Bool:=decide (48<=c)&&decide (c<=57)
def wrB (x:Str):Bool:=decide (1<=x.length)&&decide (x.length<=60)&&x.cps.toList.all sM&&(decide (x= "0")|| !eJ x "0")
theorem aEh:("0" :Str).cps.toList=[48]:=by decide +kernel
theorem aEy:("9" :Str).cps.toList=[57]:=by decide +kernel
inductive IG (vs:List V)(H:Hp)(Q:VK)(E:XK):Prop
 | mk (x:Str) (_:vs=[.str x]) (_:x.length<=1000000) (_:∀H',Same H H'->Q (.bl (wrB x)) H'):IG vs H Q E
theorem aE2 {Q:VK}{E:XK}(hl:x.length<=1000000)(h:∀H',Same H H'->Q (.bl (wrB x)) H'):IG [.str x] H Q E:=⟨_,rfl,hl,h⟩
theorem vU (m:M w K mg):aP P w K mg base CX0 1 m.fY m.dX.d ["text"] (IG):=by
 refine m.dX.F.ok aFA ?_ ?_;walk_at"w0";walk_at"w1";obtain⟨x,rfl,hl,k⟩:=h;walk_at"g2";have nd:=aFA.nd;walk_at"hu";obtain⟨aHq,l9⟩:=m.l9;refine⟨_,(aC (a9 (PW.pt (rJ (eK (K0 BZ BZ aF (bH FW rfl m.u3 p8 (aA (pv 0) aB)) (NC rfl l9))) (qC (eK (cA (bH (KF rfl) rfl m.aAl VS (aA (dA (N:=["sign"]) (nl:=1) (ci:=[]) rfl (blk (s.heap.objs.size+1) rfl rfl rfl (by kernel_rfl)) (UH (pv 0)) (λ_ _ _ _=>(aS (i:=0) (show (["sign"]:List Str).Nodup by decide +kernel) rfl (by walk_at"oi"))) (λ_ _ _ _=>dR) (λ_ _ _ _=>(AV BU BU aL (pv 0) aL))) aB))))))) (aD (aM xZ)) aQ)
  (aD (aM (aEp (jQ cN (pv 0) aL (aX _)) (BX (BY (oT gp md sk F1 (pv 0) (aA aL aB)))))))),?_⟩
 refine aG (σ:=[some (.str x)]) rfl ?_;walk_at"cx";have hl':x.length<=sizeLine:=by rw[bq];lia
 walk_at"go"
 by_cases h2:1<=(x.length:Int)
 .rw[if_pos (decide_eq_true h2)];walk_at"go"
  by_cases h3:(x.length:Int)<=60
  .rw[decide_eq_true h3];walk_at"go";refine M4 x.cps.size (λi=> .bl (sM (x.cps.toList.getD i 0))) hl' (λH'=>H'=H) rfl (λ_ _=>rfl) (λi _ hi _=>hi) ?_ ?_ ?_ ?_ ?_
   .rintro i _ y H' hi rfl hq_;walk_at"g1";obtain⟨rfl,c,hc,rfl⟩:=hq_;walk_at"g2";refine⟨⟨rfl,λj v hv=> ?_⟩,rfl,?_⟩
    .match j,hv with
     | 0,hv=>cases hv
     | j+1,hv=>cases hv
    .have hc':x.cps.toList.getD i 0=c:=by
      rw[cf,wu,hc];rfl
     refine⟨_,rfl,_,_,rfl,rfl,_,rfl,?_⟩;rw[aEh,hc'];refine AW (λh4=>⟨_,_,rfl,rfl,?_,rfl⟩) (λh4=>⟨?_,rfl⟩)
     .have h4':48<=c:=by rw[show (⟨#[c]⟩:Str).cps.toList=[c] from rfl,le1]at h4;exact of_decide_eq_true h4
      rw[aEy,show (⟨#[c]⟩:Str).cps.toList=[c] from rfl,le1];unfold sM;rw[decide_eq_true h4',rf]
     .have h4':¬48<=c:=by rw[show (⟨#[c]⟩:Str).cps.toList=[c] from rfl,le1]at h4;exact λz=>h4 (decide_eq_true z)
      unfold sM;rw[decide_eq_false h4',mh]
   .exact λ_ _ _ _ f q=>f _ _ q
   .rintro σ H Q Q' f hq_;walk_at"g1";obtain⟨v,e,i,j,e1,e2,k,e3,q⟩:=hq_;walk_at"g2";refine⟨v,e,i,j,e1,e2,k,e3,?_⟩;revert q
    split
    .rintro hq_;walk_at"g1";obtain⟨i,j,e1,e2,q⟩:=hq_;walk_at"g2";exact⟨i,j,e1,e2,f _ _ q⟩
    .exact λq=>f _ _ q
   .exact λ_ _ _ _ _ f q=>f _ _ q
   .rintro _ rfl p hp;refine⟨p,(fz x.cps.size).map (λi=>sM (x.cps.toList.getD i 0)),rfl,SqL.of ?_,?_⟩
    .rw[aU,fk];rfl
    .have e:=v8 sM 0 x.cps.toList;rw[fj]at e;rw[e];have sm:=lU (o:= .lst ((fz x.cps.size).map λi=>V.bl (sM (x.cps.toList.getD i 0)))) hp;have e2:wrB x=(x.cps.toList.all sM&&(decide (x= "0")|| !eJ x "0")):=by
      unfold wrB;rw[decide_eq_true (show 1<=x.length by lia),decide_eq_true (show x.length<=60 by lia)];rfl
     have kk:=k _ sm;rw[e2]at kk;cases hd:x.cps.toList.all sM with
     | true =>
      rw[hd]at kk;walk_at"go"
      by_cases h0:x= "0"
      .rw[if_pos (decide_eq_true h0)];rw[decide_eq_true h0]at kk;exact kk
      .rw[if_neg (by simpa using h0)];rw[decide_eq_false h0]at kk;rw[rf,Bool.false_or]at kk;walk_at"go";exact⟨_,_,rfl,rfl,_,rfl,kk⟩
     | false =>
      rw[hd]at kk;walk_at"go";exact kk
  .rw[decide_eq_false h3];have kk:=k _ (Same.refl _);rw[show wrB x=false by unfold wrB;rw[decide_eq_false (show ¬x.length<=60 by lia),Bool.and_false];rfl]at kk;walk_at"go";exact kk
 .rw[if_neg (by simpa using h2)];have kk:=k _ (Same.refl _);rw[show wrB x=false by unfold wrB;rw[decide_eq_false (show ¬1<=x.length by lia)];rfl]at kk;walk_at"go";exact kk
theorem vR (m:M w K mg):Fc P w K mg base "is_written_whole" 1 ["text"] (IG):=⟨_,_,m.xU,m.dX.F.kp,m.dX.b,vU m⟩
inductive jV (K:W.Frag)(N:Addr)(vs:List V)(H:Hp)(Q:VK)(E:XK):Prop
 | mk (x:V) (n:String) (_:vs=[x]) (_:BTy K H x n) (_:(n= "str" ->Q .non H)) (_:(n≠ "str" ->E (.ref N) none H)):jV K N vs H Q E
theorem KM {N:Addr}{Q:VK}{E:XK}(h:Q .non H):jV K N [.str x] H Q E:=⟨_,_,rfl,.str x,λ_=>h,λz=>absurd rfl z⟩
theorem KK (m:M w K mg):aP P w K mg base (CXE P w) 1 m.sP m.mQ.d ["thing"] (jV K m.aV):=by
 refine m.mQ.F.okE aGB ?_ ?_;walk_at"w0";walk_at"w1";obtain⟨x,n,rfl,b,k,k2⟩:=h;walk_at"g2";have nd:=aGB.nd;walk_at"hu";refine⟨_,(aD (a9 (eK (cA (bH qG rfl m.bL bF (aA (pv 0) (aA (yM rfl m.yU sZ) aB))))) (aD (cX m.fD m.mF eS (aA aL aB))) aQ)),?_⟩;refine aG (σ:=[some (x)]) rfl ?_;walk_at"cx";refine⟨_,rfl,_,_,_,_,_,rfl,b.ty,rfl,C5 b "str" (.inr (.inr rfl)),_,rfl,?_⟩
 by_cases hn:n= "str"
 .subst hn;walk_at"go";exact k rfl
 .have k2:=k2 hn;have hb:isB n "str" =false:=by cases b<;>first|exact absurd rfl hn|rfl
  rw[hb];walk_at"go";exact⟨(by show 1<=sizeLine;decide),k2⟩
theorem kE (m:M w K mg):FcE P w K mg base "need_text" 1 ["thing"] (jV K m.aV):=⟨_,_,m.MI,m.mQ.F.kp,m.mQ.b,KK m⟩
local macro_rules| `(tactic| walk_at"rd1")=> `(tactic| first|(with_reducible refine KM ?_))
def iT (x:Str):Int:=(NumText.digitsVal x.cps.toList:Nat)
theorem aC3 (h:wrB x=true):PySem.intText? x=some (iT x)/\x.length<=60:=by
 unfold wrB at h;simp only[cq,decide_eq_true_eq]at h;walk_at"g1";obtain⟨⟨⟨h1,h2⟩,h3⟩,_⟩:=h;walk_at"g2";refine⟨intText_digits (λc hc=> ?_) (λz=> ?_) (by lia),h2⟩
 .have:=gh.mp h3 c hc;unfold sM at this
  simpa using this
 .have:x.length=0:=by
   have e:x.length=x.cps.toList.length:=by rw[fj];rfl
   rw[e,z];rfl
  lia
inductive rA (N:Addr)(vs:List V)(H:Hp)(Q:VK)(E:XK):Prop
 | mk (x:Str) (_:vs=[.str x]) (_:x.length<=1000000) (_:(wrB x=true->∀H',Same H H'->Q (.int (iT x)) H')) (_:(wrB x=false->∀H',Same H H'->E (.ref N) none H')):rA N vs H Q E
theorem IS {N:Addr}{Q:VK}{E:XK}(hl:x.length<=1000000)(h:wrB x=true->∀H',Same H H'->Q (.int (iT x)) H')(h2:wrB x=false->∀H',Same H H'->E (.ref N) none H'):rA N [.str x] H Q E:=⟨_,rfl,hl,h,h2⟩
theorem GS (m:M w K mg):aP P w K mg base (CXE P w) 2 m.qP m.kR.d ["text"] (rA m.aV):=by
 refine m.kR.F.okE aGm ?_ ?_;walk_at"w0";walk_at"w1";obtain⟨x,rfl,hl,k,k2⟩:=h;walk_at"g2";have nd:=aGm.nd;walk_at"hu";have aGC:= @vR P w K mg base m;have aFo:= @kE P w K mg base m;refine⟨_,(aC (bQ (cB aFo hr b9 (aA (pv 0) aB)))
  (aC (a9 (eK (cA (cG aGC hr (aA (pv 0) aB)))) (aD (cX m.fD m.mF eS (aA aL aB))) aQ)
  (aD (aM (fV R4 rfl m.aAh TB (aA (pv 0) aB)))))),?_⟩
 refine aG (σ:=[some (.str x)]) rfl ?_;walk_at"cx";walk_at"go";refine aE2 hl λH1 S1=> ?_;cases e:wrB x with
 | true =>
  walk_at"go";obtain⟨hv,h60⟩:=aC3 e;exact⟨x,_,rfl,hv,by lia,k e _ S1⟩
 | false =>
  walk_at"go";exact⟨(by show 1<=sizeLine;decide),k2 e _ S1⟩
theorem vG (m:M w K mg):FcE P w K mg base "read_whole" 2 ["text"] (rA m.aV):=⟨_,_,m.LB,m.kR.F.kp,m.kR.b,GS m⟩
inductive A3 (N:Addr)(vs:List V)(H:Hp)(Q:VK)(E:XK):Prop
 | mk (x:Str) (_:vs=[.str x]) (_:x.length<=1000) (_:(bM x=true->∀H',Same H H'->Q (.str x) H')) (_:(bM x=false->∀H',Same H H'->E (.ref N) none H')):A3 N vs H Q E
theorem J7 (m:M w K mg):aP P w K mg base (CXE P w) 2 m.sS m.mT.d ["text"] (A3 m.aV):=by
 refine m.mT.F.okE aGx ?_ ?_;walk_at"w0";walk_at"w1";obtain⟨x,rfl,hl,k,k2⟩:=h;walk_at"g2";have nd:=aGx.nd;walk_at"hu";have aFK:= @uE P w K mg base m;refine⟨_,(aC (a9 (eK (cA (cG aFK hr (aA (pv 0) aB)))) (aD (cX m.fD m.mF eS (aA aL aB))) aQ)
  (aD (aM (pv 0)))),?_⟩
 refine aG (σ:=[some (.str x)]) rfl ?_;walk_at"cx";walk_at"go";refine⟨.str x,_,rfl,.str x,λz e=>(by cases e;exact hl),λH1 S1=> ?_⟩;cases e:bM x with
 | true =>
  rw[show nmB (.str x)=true from e];walk_at"go";exact k e _ S1
 | false =>
  rw[show nmB (.str x)=false from e];walk_at"go";exact⟨(by show 1<=sizeLine;decide),k2 e _ S1⟩
theorem JN (m:M w K mg):FcE P w K mg base "read_name" 2 ["text"] (A3 m.aV):=⟨_,_,m.MJ,m.mT.F.kp,m.mT.b,J7 m⟩
inductive zY (N:Addr)(vs:List V)(H:Hp)(Q:VK)(E:XK):Prop
 | mk (f x:Str) (_:vs=[.str f,.str x]) (_:x.length<=1000) (_:((f= "name" /\(bM x=true->∀H',Same H H'->Q (.str x) H')/\(bM x=false->∀H',Same H H'->E (.ref N) none H'))∨(f≠ "name" /\(wrB x=true->∀H',Same H H'->Q (.int (iT x)) H')/\(wrB x=false->∀H',Same H H'->E (.ref N) none H')))):zY N vs H Q E
theorem JV (m:M w K mg):aP P w K mg base (CXE P w) 3 m.sN m.mS.d ["form","word"] (zY m.aV):=by
 refine m.mS.F.okE aGy ?_ ?_;walk_at"w0";walk_at"w1";obtain⟨f,x,rfl,hl,hc⟩:=h;walk_at"g2";have nd:=aGy.nd;walk_at"hu";have aHd:= @JN P w K mg base m;have aFY:= @vG P w K mg base m;refine⟨_,(aD (aM (AK (aT cN (pv 0) aL (aX _)) (cB aHd hr b9 (aA (pv 1) aB)) (cB aFY hr b9 (aA (pv 1) aB))))),?_⟩;refine aG (σ:=[some (.str f),some (.str x)]) rfl ?_;walk_at"cx";walk_at"go";rcases hc with⟨hf,k,k2⟩|⟨hf,k,k2⟩
 .rw[decide_eq_true hf];walk_at"go";exact⟨x,rfl,hl,k,k2⟩
 .rw[decide_eq_false hf];walk_at"go";exact IS (by lia) k k2
theorem KZ (m:M w K mg):FcE P w K mg base "read_part" 3 ["form","word"] (zY m.aV):=⟨_,_,m.MK,m.mS.F.kp,m.mS.b,JV m⟩
def SE (f x:Str)(v:V):Prop:=(f= "name" /\bM x=true/\v= .str x)∨(f≠ "name" /\wrB x=true/\v= .int (iT x))
inductive wR (K:W.Frag)(N:Addr)(vs:List V)(H:Hp)(Q:VK)(E:XK):Prop
 | mk (p q:Addr) (fs ws:List Str) (_:vs=[.ref p,.ref q]) (_:H p=some (.tup (fs.map V.str))) (_:H q=some (.lst (ws.map V.str))) (_:((fs.length≠ws.length/\∀H',Same H H'->E (.ref N) none H')∨∃(f x y:Str) (v:V),fs=[f,"number"]/\ws=[x,y]/\x.length<=1000/\y.length<=1000/\SE f x v/\wrB y=true/\∀r H',H r=none->Same H H'->H' r=some (.tup [v,.int (iT y)])->Q (.ref r) H')):wR K N vs H Q E
theorem G0 (m:M w K mg):aP P w K mg base (CXE P w) 4 m.qS m.kW.d ["forms","words"] (wR K m.aV):=by
 refine m.kW.F.okE aGu ?_ ?_;walk_at"w0";walk_at"w1";obtain⟨p,q,fs,ws,rfl,hp,hq,h⟩:=h;walk_at"g2";have nd:=aGu.nd;walk_at"hu";have aHe:= @KZ P w K mg base m;refine⟨_,(aC (a9 (aT ZO (bH mV rfl m.u3 p8 (aA (pv 0) aB)) (bH mV rfl m.u3 p8 (aA (pv 1) aB)) (aX _)) (aD (cX m.fD m.mF eS (aA aL aB))) aQ)
  (aD (aM (fV GQ rfl m.aB0 V6 (aA (KR (N:=["form","word"]) (nl:=2) (ci:=[]) O7 rfl (blk (s.heap.objs.size+1) rfl rfl rfl (by kernel_rfl)) (aDk rfl m.aEV (aA (pv 0) (aA (pv 1) aB))) (λ_ _ _ _=>(jK (K:=K) (n:=2) rfl (bK (aS (i:=0) (show (["form","word"]:List Str).Nodup by decide +kernel) rfl (by walk_at"oi")) (bK (aS (i:=1) (show (["form","word"]:List Str).Nodup by decide +kernel) rfl (by walk_at"oi")) dI)))) (λ_ _ _ _=>dR) (λ_ _ _ _=>(cB aHe hr QW (aA (pv 0) (aA (pv 1) aB))))) aB))))),?_⟩
 refine aG (σ:=[some (.ref p),some (.ref q)]) rfl ?_;walk_at"cx";walk_at"go";refine⟨p,_,rfl,.inr (SqT.of hp),?_⟩;walk_at"go";rw[ao,ao];rcases h with⟨hne,k⟩|⟨f,x,y,v,rfl,rfl,hx,hy,hf,hw,k⟩
 .rw[decide_eq_false (by lia)];walk_at"go";exact⟨(by show 1<=sizeLine;decide),k _ (Same.refl _)⟩
 .rw[decide_eq_true (by rfl)];walk_at"go";unfold aCy;walk_at"go";refine⟨p,q,_,_,rfl,SqT.of hp,SqL.of hq,?_⟩;refine aD2 (λi u _=>(i=0->u=v)/\(i=1->u= .int (iT y))) (λ_ _ _ _ h _=>h) (by show 2<=sizeLine;decide) (rest:=[]) (by rfl) (SqT.of hp) (SqL.of hq) rfl ?_ ?_
  .intro i u v' H1 hu hv s1 R hR;walk_at"go"
   match i,hu,hv with
   | 0,hu,hv =>
    cases hu;cases hv;refine⟨_,_,rfl,hx,?_⟩;rcases hf with⟨e1,e2,e3⟩|⟨e1,e2,e3⟩
    .exact .inl ⟨e1,λ_ H2 s2=>hR _ _ ⟨λ_=>e3.symm,λh=>absurd h (by decide)⟩ s2,λz=>by rw[e2]at z;cases z⟩
    .exact .inr ⟨e1,λ_ H2 s2=>hR _ _ ⟨λ_=>e3.symm,λh=>absurd h (by decide)⟩ s2,λz=>by rw[e2]at z;cases z⟩
   | 1,hu,hv =>
    cases hu;cases hv;exact⟨_,_,rfl,hy,.inr ⟨by decide,λ_ H2 s2=>hR _ _ ⟨λh=>absurd h (by decide),λ_=>rfl⟩ s2,λz=>by rw[hw]at z;cases z⟩⟩
   | i+2,hu,hv=>cases hu
  .intro zs H1 s1 hzl hzs;obtain⟨v1,v2,rfl⟩:∃v1 v2,zs=[v1,v2]:=by
    match zs,hzl with
    | [x,y],_=>exact⟨x,y,rfl⟩
   obtain rfl:=(hzs 0 v1 rfl).1 rfl;obtain rfl:=(hzs 1 v2 rfl).2 rfl;walk_at"go";rename_i q2 H2 n2 S2 e2;have s3:=s1.trans S2;refine⟨q2,_,rfl,.inl ⟨SqL.of e2,λl hl3=> ?_⟩⟩;refine k l _ ?_ (s3.trans (lU hl3)) aU;cases hq':H l with
   | none=>rfl
   | some u=>rw[s3 _ _ hq']at hl3;cases hl3
theorem vJ (m:M w K mg):FcE P w K mg base "read_parts" 4 ["forms","words"] (wR K m.aV):=⟨_,_,m.LM,m.kW.F.kp,m.kW.b,G0 m⟩
theorem zH {γ:Type}{F:α->β->Prop}{G:γ->β->Prop}{f:α->γ}(h:∀a b,F a b->G (f a) b):∀{as:List α}{bs:List β},cg F as bs->cg G (as.map f) bs
 | _,_,.nil=> .nil
 | _,_,.cons a t=> .cons (h _ _ a) (zH h t)
theorem OG:("\n" :Str)=⟨#[10]⟩:=by decide +kernel
theorem IF:(" " :Str)=⟨#[32]⟩:=by decide +kernel
theorem pN {Q:VK}(c:Nat)(hy:y=⟨#[c]⟩)(hz:z.length<=1000000)(h:∀p H',H p=none->Same H H'->H' p=some (.lst ((gr z y).map V.str))->Q (.ref p) H'):TD (.str z) [.str y] H Q:=by
 subst hy;exact⟨z,c,rfl,rfl,hz,eO h⟩
local macro_rules| `(tactic| walk_at"rd1")=> `(tactic| first|(with_reducible refine aAm ?_)|(with_reducible refine WM ?_)|(with_reducible refine WX ?_))
inductive A1 (K:W.Frag)(CN C:Addr)(D:aY)(vs:List V)(H:Hp)(_:VK)(E:XK):Prop
 | mk (h a:Addr) (f l t:Int) (rz ps:List (Str×Int)) (ds:List aI) (us:List V) (rows:List bA) (_:vs=[.ref h,.ref a,.int t,.non]) (_:aW C D H h f l rz ps ds) (_:Hs rz ps ds f l) (_:SqL K H a us) (_:cJ H us rows) (_:rows.length<=1) (_:d3 rz ps ds f l rows≠[]) (_:Ref0 CN H E):A1 K CN C D vs H _ E
theorem XO (m:M w K mg):aP P w K mg base (CXE P w) 13 m.DD m.xF ["house","plan","turn","happenings"] (A1 K m.b2 m.aH (aN P w K mg base (some 1))):=by
 refine m.nK.okE aGD ?_ ?_;walk_at"w0";walk_at"w1";obtain⟨h,a,f,l,t,rz,ps,ds,us,rows,rfl,hh,hs,hS,hpl,hlen,hf,k⟩:=h;walk_at"g2";have nd:=aGD.nd;walk_at"hu";have aFr:= @lP P w K mg base m;refine⟨_,(aC (bQ (cB aFr hr b9 (aA (pv 0) (aA (pv 1) aB))))
  cY),?_⟩
 refine aG (σ:=[some (.ref h),some (.ref a),some (.int t),some (.non),none,none,none,none,none]) rfl ?_;walk_at"cx";walk_at"go";exact JU hh hs hS hpl hlen (λz=>absurd z hf) λ_=>k
theorem L5 (m:M w K mg):FcW P w K mg base "anew" 13 [.non] ["house","plan","turn","happenings"] (A1 K m.b2 m.aH (aN P w K mg base (some 1))):=by
 obtain⟨ds,h1,h2⟩:=m.V0;exact⟨_,_,_,m.VW,m.nK.kp,h1,h2,XO m⟩
inductive xB (K:W.Frag)(CN C:Addr)(D:aY)(vs:List V)(H:Hp)(_:VK)(E:XK):Prop
 | mk (h a:Addr) (f l:Int) (rz ps:List (Str×Int)) (ds:List aI) (us:List V) (rows:List bA) (_:vs=[.ref h,.ref a]) (_:aW C D H h f l rz ps ds) (_:Hs rz ps ds f l) (_:SqL K H a us) (_:cJ H us rows) (_:rows.length<=1) (_:d3 rz ps ds f l rows≠[]) (_:Ref0 CN H E):xB K CN C D vs H _ E
theorem W2 (m:M w K mg):aP P w K mg base (CXE P w) 12 m.FD m.yR.d ["house","plan"] (xB K m.b2 m.aH (aN P w K mg base (some 1))):=by
 refine m.yR.F.okE aG4 ?_ ?_;walk_at"w0";walk_at"w1";obtain⟨h,a,f,l,rz,ps,ds,us,rows,rfl,hh,hs,hS,hpl,hlen,hf,k⟩:=h;walk_at"g2";have nd:=aG4.nd;walk_at"hu";have aFr:= @lP P w K mg base m;refine⟨_,(aC (bQ (cB aFr hr b9 (aA (pv 0) (aA (pv 1) aB))))
  cY),?_⟩
 refine aG (σ:=[some (.ref h),some (.ref a),none,none,none,none]) rfl ?_;walk_at"cx";walk_at"go";exact JU hh hs hS hpl hlen (λz=>absurd z hf) λ_=>k
theorem XA (m:M w K mg):FcE P w K mg base "walks" 12 ["house","plan"] (xB K m.b2 m.aH (aN P w K mg base (some 1))):=⟨_,_,m.aB1,m.yR.F.kp,m.yR.b,W2 m⟩
inductive AE (K:W.Frag)(N:Addr)(vs:List V)(H:Hp)(_:VK)(E:XK):Prop
 | mk (x:Str) (ws:List Str) (_:vs=[.str x]) (_:x.length<=1000000) (_:x≠ "") (_:gr x "\n" =[x]) (_:gr x " " =ws) (_:ws.length=2) (_:Ref0 N H E):AE K N vs H _ E
theorem JK (m:M w K mg):aP P w K mg base (CXE P w) 6 m.sQ m.mP.d ["text"] (AE K m.aV):=by
 refine m.mP.F.okE aGv ?_ ?_;walk_at"w0";walk_at"w1";obtain⟨x,ws,rfl,hl,hne,h1,h2,hw,k⟩:=h;walk_at"g2";have nd:=aGv.nd;walk_at"hu";have aFo:= @kE P w K mg base m;have aFR:= @vJ P w K mg base m;refine⟨_,(aC (bQ (cB aFo hr b9 (aA (pv 0) aB)))
  (aC (bD (i:=1) nd rfl (by walk_at"oi") (AK (aT cN (pv 0) aL (aX _)) (bJ aB) (oT gp gc je pG (pv 0) (aA aL aB))))
  (aC (L8 (i:=2) nd rfl (by walk_at"oi") (N:=["row"]) (nl:=1) (ci:=[]) O7 rfl (blk (s.heap.objs.size+1) rfl rfl rfl (by kernel_rfl)) (b0 (pv 1)) (λ_ _ _ _=>(aS (i:=0) (show (["row"]:List Str).Nodup by decide +kernel) rfl (by walk_at"oi"))) (λ_ _ _ _=>dR) (λ_ _ _ _=>(cB aFR hr QW (aA (bI (aA aL (aA aL (aA aL aB)))) (aA (IU (K:=K) rfl gp gc je pG (pv 0) (aA aL aB)) aB)))))
  cY))),?_⟩
 refine aG (σ:=[some (.str x),none,none]) rfl ?_;walk_at"cx";walk_at"go";refine pN 10 OG hl λp1 H1 n1 S1 e1=> ?_;rw[h1]at e1;walk_at"go";refine gE (α:=Str) (xs:=[x]) (λv r=>v= .str x) (λ_=>true) (λ_ _ _=>False) (λ_ _ _ _ h _=>h) (by show 1<=sizeLine;decide) (rest:=[]) (by rfl) (SqL.of e1) (.cons rfl .nil) ?_ ?_ ?_
 .intro v ws H2 _ _ _ R hR;exact hR _ (Same.refl _)
 .rintro _ r H2 rfl hm - s2 R hR;walk_at"go";rename_i p3 H3 n3 S3 e3;refine pN 32 IF hl λq4 H4 n4 S4 e4=> ?_;rw[h2]at e4;walk_at"go";exact⟨p3,q4,["number","name","number"],ws,rfl,S4 _ _ e3,e4,.inl ⟨by rw[hw];decide,λH5 S5=>k _ ((((S1.trans s2).trans S3).trans S4).trans S5)⟩⟩
 .intro ys H2 s2 hys;cases hys with
  | cons h _=>exact h.elim
theorem KJ (m:M w K mg):FcE P w K mg base "read_plan" 6 ["text"] (AE K m.aV):=⟨_,_,m.ML,m.mP.F.kp,m.mP.b,JK m⟩
def QI (f x y:Str)(v:V):Prop:=x.length<=1000/\y.length<=1000/\SE f x v/\wrB y=true
def RowG (f first:Str)(H:Hp)(ws:List Str)(u:V):Prop:=∃x y v q,ws=[first,x,y]/\QI f x y v/\u= .ref q/\H q=some (.tup [v,.int (iT y)])
theorem RowG.same {f:Str}{ws:List Str}{u:V}(h:RowG f first H ws u)(s:Same H H'):RowG f first H' ws u:=let ⟨x,y,v,q,a,b,c,d⟩:=h;⟨x,y,v,q,a,b,c,s _ _ d⟩
def DV (rs:List Str)(WS:List (List Str)):Prop:=cg (λr ws=>gr r " " =ws/\r.length<=1000000) rs WS
inductive IK (K:W.Frag)(vs:List V)(H:Hp)(Q:VK)(E:XK):Prop
 | mk (a p:Addr) (rs:List Str) (WS:List (List Str)) (first f:Str) (_:vs=[.ref a,.str first,.ref p]) (_:SqL K H a (rs.map V.str)) (_:H p=some (.tup [.str f,.str "number"])) (_:DV rs WS) (_:(∀ws∈WS,∃h t,ws=h::t)) (_:rs.length<=10) (_:(∀ws∈WS,ws.head? =some first->∃x y v,ws=[first,x,y]/\QI f x y v)) (_:∀r us H',H r=none->Same H H'->H' r=some (.lst us)->cg (RowG f first H') (WS.filter λws=>decide (ws.head? =some first)) us->Q (.ref r) H'):IK K vs H Q E
theorem XE {Q:VK}{E:XK}{rs:List Str}{WS:List (List Str)}{f:Str}(hS:SqL K H a (rs.map V.str))(hp:H p=some (.tup [.str f,.str "number"]))(hW:DV rs WS)(h1:∀ws∈WS,∃h t,ws=h::t)(hl:rs.length<=10)(hg:∀ws∈WS,ws.head? =some first->∃x y v,ws=[first,x,y]/\QI f x y v)
  (k:∀r us H',H r=none->Same H H'->H' r=some (.lst us)->cg (RowG f first H') (WS.filter λws=>decide (ws.head? =some first)) us->Q (.ref r) H'):IK K [.ref a,.str first,.ref p] H Q E:=⟨_,_,_,_,_,_,rfl,hS,hp,hW,h1,hl,hg,k⟩
theorem aAa {F:α->β->Prop}{G:β->α->Prop}(h:∀a b,F a b->G b a):∀{as:List α}{bs:List β},cg F as bs->cg G bs as
 | _,_,.nil=> .nil
 | _,_,.cons a t=> .cons (h _ _ a) (aAa h t)
theorem aBI (s:Same H H')(h:H' p=none):H p=none:=by
 cases e:H p with
 | none=>rfl
 | some u=>rw[s _ _ e]at h;cases h
theorem C4 (m:M w K mg):aP P w K mg base (CXE P w) 5 m.mI m.gM.d ["rows","first_word","forms"] (IK K):=by
 refine m.gM.F.okE aF3 ?_ ?_;walk_at"w0";walk_at"w1";obtain⟨a,p,rs,WS,first,f,rfl,hS,hp,hW,h1,hl,hg,k⟩:=h;walk_at"g2";have nd:=aF3.nd;walk_at"hu";have aFR:= @vJ P w K mg base m;refine⟨_,(aC (j3 (i:=3) nd rfl (by walk_at"oi") (N:=["row"]) (nl:=1) (ci:=[]) rfl (blk (s.heap.objs.size+1) rfl rfl rfl (by kernel_rfl)) (b0 (pv 0)) (λ_ _ _ _=>(aS (i:=0) (show (["row"]:List Str).Nodup by decide +kernel) rfl (by walk_at"oi"))) (λ_ _ _ _=>dR) (λ_ _ _ _=>(IU (K:=K) rfl gp gc je pG (pv 0) (aA aL aB))))
  (aD (aM (KR (N:=["words","forms","first_word"]) (nl:=1) (ci:=[2,1]) O7 rfl (blk (s.heap.objs.size+1) rfl rfl rfl (by kernel_rfl)) (b0 (pv 3)) (λ_ _ _ _=>(aS (i:=0) (show (["words","forms","first_word"]:List Str).Nodup by decide +kernel) rfl (by walk_at"oi"))) (λ_ _ _ _=>(nJ (aT cN (dB (YV (K:=K)) (pv 0) aF (λ_ _=>rfl)) (pv 2) (aX _)))) (λ_ _ _ _=>(cB aFR hr QW (aA (pv 1) (aA (uG (WG K rfl) (pv 0) (yL aF) xV) aB)))))))),?_⟩
 refine aG (σ:=[some (.ref a),some (.str first),some (.ref p),none]) rfl ?_;walk_at"cx";have hWl:=cj hW;walk_at"go";refine gE (α:=List Str) (xs:=WS) (λv ws=>∃r,v= .str r/\gr r " " =ws/\r.length<=1000000) (λ_=>true) (λws y H=>∃q,y= .ref q/\H q=some (.lst (ws.map V.str))) (λ_ _ _ _ ⟨q,h1,h2⟩ s=>⟨q,h1,s _ _ h2⟩) (by rw[bq];lia) (rest:=[]) (by rfl) hS (zH (λr ws h=>⟨r,rfl,h⟩) hW) ?_ ?_ ?_
 .intro v ws H2 _ _ _ R hR;exact hR _ (Same.refl _)
 .rintro v ws H2 ⟨r,rfl,hs,hrl⟩ hm - s2 R hR;walk_at"go";refine pN 32 IF hrl λq4 H4 n4 S4 e4=> ?_;rw[hs]at e4;exact hR _ _ ⟨q4,rfl,e4⟩ S4
 intro ys H1 s1 hys;rw[ya.mpr (λ_ _=>rfl)]at hys;walk_at"go";rename_i p2 H2 n2 S2 e2;have s02:=s1.trans S2;refine gE (α:=List Str) (xs:=WS) (vs:=ys) (λv ws=>∃q,v= .ref q/\H2 q=some (.lst (ws.map V.str))) (λws=>decide (ws.head? =some first)) (λws y G=>RowG f first G ws y) (λ_ _ _ _ h s=>h.same s) (by rw[bq];lia) (rest:=[some (.ref p),some (.str first)]) (by rfl) (SqL.of e2) (aAa (λ_ _ h=>h.imp λq z=>⟨z.1,S2 _ _ z.2⟩) hys) ?_ ?_ ?_
 .rintro v ws G ⟨q,rfl,hq⟩ hm s R hR;obtain⟨h,t,rfl⟩:=h1 ws hm;have hqG:=s _ _ hq;have hR':=hR _ (Same.refl _);walk_at"go";refine⟨q,_,_,_,rfl,rfl,SqL.of hqG,o8 (j:=0) rfl,?_⟩;walk_at"go";rw[show decide (h=first)=decide ((h::t).head? =some first) from decide_eq_decide.mpr ⟨λe=>by rw[e];rfl,λe=>cp e⟩];exact hR'
 .rintro v ws G ⟨q,rfl,hq⟩ hm hc s R hR;walk_at"g1";obtain⟨x,y,w',rfl,hgd⟩:=hg ws hm (of_decide_eq_true hc);walk_at"g2";have hqG:=s _ _ hq;have hpG:=s _ _ (s02 _ _ hp);walk_at"go";rename_i q4 H4 n4 S4 e4;have e4':H4 q4=some (.lst (([x,y]:List Str).map V.str)):=e4;exact⟨p,q4,[f,"number"],[x,y],rfl,S4 _ _ hpG,e4',.inr ⟨f,x,y,w',rfl,rfl,hgd.1,hgd.2.1,hgd.2.2.1,hgd.2.2.2,λr G' hn s' er=>hR _ _ ⟨x,y,w',r,rfl,hgd,rfl,er⟩ (S4.trans s')⟩⟩
 intro us H3 s3 hus;walk_at"go";rename_i r H4 n4 S4 e4;exact k r us H4 (aBI (s02.trans s3) n4) ((s02.trans s3).trans S4) e4 (Paired.imp' (λ_ _ h=>h.same S4) hus)
theorem CD (m:M w K mg):FcE P w K mg base "parts_behind" 5 ["rows","first_word","forms"] (IK K):=⟨_,_,m.E6,m.gM.F.kp,m.gM.b,C4 m⟩
def WSz (z:Str):List (List Str):=[["turns","0","4"],["room",z,"1"],["room",z,"2"]]
theorem ES {K:W.Frag}{T:Addr}{E:XK}{dd:Option Addr}(h:W.exmOne K (.ref C) (.ref T)=some true)(k:Ref0 CN H E):OR K T CN (OX (tC (.str z)) DS) E σ (.ref C) dd H :=
 ⟨C,rfl,.inl ⟨h,λea hn=>⟨(by show 1<=sizeLine;decide),(by
  cases dd with
  | none=>exact⟨_,aU,λ_ q=>q.un⟩
  | some dx=>exact⟨_,aU,λ_ q=>q.un⟩),k _ (lU hn)⟩⟩⟩
theorem IR {t:List Str}{l:List (List Str)}:((first::t)::l).filter (λws=>decide (ws.head? =some first))=(first::t)::l.filter λws=>decide (ws.head? =some first):=ke (decide_eq_true rfl)
theorem tJ {h:Str}{t:List Str}{l:List (List Str)}(e:h≠first):((h::t)::l).filter (λws=>decide (ws.head? =some first))=l.filter λws=>decide (ws.head? =some first):=om λz=>e (cp (of_decide_eq_true z))
theorem YU {a b:Str}{u:V}(h:RowG "number" first H [first,a,b] u):∃q,u= .ref q/\H q=some (.tup [.int (iT a),.int (iT b)]):=by
 walk_at"g1";obtain⟨x,y,v,q,e,g,rfl,eq⟩:=h;walk_at"g2";obtain⟨rfl,rfl⟩:a=x/\b=y:=by
  injection e with _ e;injection e with e1 e;injection e with e2 _;exact⟨e1,e2⟩
 rcases g.2.2.1 with⟨z,_⟩|⟨_,_,rfl⟩
 .exact absurd z (by decide +kernel)
 .exact⟨q,rfl,eq⟩
theorem FT {a b:Str}{u:V}(h:RowG "name" first H [first,a,b] u):∃q,u= .ref q/\H q=some (.tup [.str a,.int (iT b)]):=by
 walk_at"g1";obtain⟨x,y,v,q,e,g,rfl,eq⟩:=h;walk_at"g2";obtain⟨rfl,rfl⟩:a=x/\b=y:=by
  injection e with _ e;injection e with e1 e;injection e with e2 _;exact⟨e1,e2⟩
 rcases g.2.2.1 with⟨_,_,rfl⟩|⟨z,_⟩
 .exact⟨q,rfl,eq⟩
 .exact absurd rfl z
inductive CY (K:W.Frag)(N:Addr)(vs:List V)(H:Hp)(_:VK)(E:XK):Prop
 | mk (a:Addr) (rs:List Str) (z:Str) (_:vs=[.ref a]) (_:SqL K H a (rs.map V.str)) (_:DV rs (WSz z)) (_:bM z=true) (_:(∀r∈rs,eJ r "way " =false)) (_:Ref0 N H E):CY K N vs H _ E
theorem GL (m:M w K mg):aP P w K mg base (CXC P w) 8 m.qO m.k8.d ["rows"] (CY K m.aV):=by
 refine m.k8.F.okQ aGn ?_ ?_;walk_at"w0";walk_at"w1";obtain⟨a,rs,z,rfl,hS,hW,hz,hw,k⟩:=h;walk_at"g2";have nd:=aGn.nd;walk_at"hu";have aFC:= @CD P w K mg base m;have aGA:= @BK P w K mg base m;refine⟨_,(aC (bD (i:=1) nd rfl (by walk_at"oi") (cB aFC hr nG (aA (pv 0) (aA aL (aA (bI (aA aL (aA aL aB))) aB)))))
  (aC (a9 (aT ZO (bH mV rfl m.u3 p8 (aA (pv 1) aB)) aF (aX _)) (aD pI) aQ)
  (aC (bD (i:=2) nd rfl (by walk_at"oi") (cB aFC hr nG (aA (pv 0) (aA aL (aA (bI (aA aL (aA aL aB))) aB)))))
  (aC (j3 (i:=3) nd rfl (by walk_at"oi") (N:=["row"]) (nl:=1) (ci:=[]) rfl (blk (s.heap.objs.size+1) rfl rfl rfl (by kernel_rfl)) (b0 (pv 0)) (λ_ _ _ _=>(aS (i:=0) (show (["row"]:List Str).Nodup by decide +kernel) rfl (by walk_at"oi"))) (λ_ _ _ _=>(nJ (cA (IU (K:=K) rfl gp md sk F1 (pv 0) (aA aL aB))))) (λ_ _ _ _=>aAy))
  (aC (bD (i:=4) nd rfl (by walk_at"oi") (cB aFC hr nG (aA (pv 0) (aA aL (aA (bI (aA aL (aA aL aB))) aB)))))
  (aD (MU ZT rfl rfl rfl m.C8 m.fD m.mF (MX (aCF aGA hr (aA (pv 2) (aA (pv 3) (aA (pv 4) (aA (dB kH (dB gH (pv 1) aF (λ_ _=>rfl)) aF (λ_ _=>rfl)) (aA (dB kH (dB gH (pv 1) aF (λ_ _=>rfl)) aF (λ_ _=>rfl)) aB))))))) (λea=>(aA aL aB))))))))),?_⟩
 refine aG (σ:=[some (.ref a),none,none,none,none]) rfl ?_;walk_at"cx";have hrl:rs.length=3:=cj hW;have w0:wrB "0" =true:=by decide +kernel
 have w4:wrB "4" =true:=by decide +kernel
 have w1:wrB "1" =true:=by decide +kernel
 have w2:wrB "2" =true:=by decide +kernel
 have v0:iT "0" =0:=by decide +kernel
 have v4:iT "4" =4:=by decide +kernel
 have v1:iT "1" =1:=by decide +kernel
 have v2:iT "2" =2:=by decide +kernel
 have hzl:=wF hz;have hne:∀ws∈WSz z,∃h t,ws=h::t:=λws hws=>by
  rcases ba.mp hws with rfl|hws
  .exact⟨_,_,rfl⟩
  rcases ba.mp hws with rfl|hws
  .exact⟨_,_,rfl⟩
  cases bj.mp hws;exact⟨_,_,rfl⟩
 have sm1:∀s:Str,s.length<=1->s.length<=1000:=λs h=>by lia
 walk_at"go";rename_i pA HA nA SA eA;refine XE (rs:=rs) (WS:=WSz z) (SA.seq hS) eA hW hne (by lia) (λws hws hh=> ?_) λpT usT HT nT ST eT hT=> ?_
 .rcases ba.mp hws with rfl|hws
  .exact⟨"0","4",.int 0,rfl,by decide +kernel,by decide +kernel,.inr ⟨by decide +kernel,w0,by rw[v0]⟩,w4⟩
  rcases ba.mp hws with rfl|hws
  .exact absurd (cp hh) (by decide +kernel)
  cases bj.mp hws;exact absurd (cp hh) (by decide +kernel)
 unfold WSz at hT;rw[IR,tJ (by decide +kernel),tJ (by decide +kernel)]at hT;obtain⟨qt,rfl,et⟩:∃qt,usT=[.ref qt]/\HT qt=some (.tup [.int 0,.int 4]):=by
  cases hT with
  | cons h h2 =>
   cases h2;obtain⟨q,rfl,e⟩:=YU h;rw[v0,v4]at e;exact⟨q,rfl,e⟩
 have hST:=(SA.trans ST).seq hS;walk_at"go"
 first|rw[if_neg (show ¬(!decide ((([V.ref qt].length:Nat):Int)=1))=true from(by show ¬(!decide (((1:Nat):Int)=1))=true;decide))]|skip
 walk_at"go";rename_i pB HB nB SB eB;refine XE (rs:=rs) (WS:=WSz z) (SB.seq hST) eB hW hne (by lia) (λws hws hh=> ?_) λpR usR HR nR SR eR hR=> ?_
 .rcases ba.mp hws with rfl|hws
  .exact absurd (cp hh) (by decide +kernel)
  rcases ba.mp hws with rfl|hws
  .exact⟨z,"1",.str z,rfl,by lia,by decide +kernel,.inl ⟨rfl,hz,rfl⟩,w1⟩
  cases bj.mp hws;exact⟨z,"2",.str z,rfl,by lia,by decide +kernel,.inl ⟨rfl,hz,rfl⟩,w2⟩
 unfold WSz at hR;rw[tJ (by decide +kernel),IR,IR]at hR;obtain⟨q1,q2,rfl,eq1,eq2⟩:∃q1 q2,usR=[.ref q1,.ref q2]/\HR q1=some (.tup [.str z,.int 1])/\HR q2=some (.tup [.str z,.int 2]):=by
  cases hR with
  | cons h h2 =>
   cases h2 with
   | cons h3 h4 =>
    cases h4;obtain⟨q,rfl,e⟩:=FT h;obtain⟨q',rfl,e'⟩:=FT h3;rw[v1]at e;rw[v2]at e';exact⟨q,q',rfl,e,e'⟩
 have hSR:=(SB.trans SR).seq hST;walk_at"go";refine gE (α:=Str) (xs:=rs) (vs:=rs.map V.str) (λv r=>v= .str r) (λr=>eJ r "way ") (λ_ _ _=>False) (λ_ _ _ _ h _=>h) (by rw[bq];lia) (rest:=[]) (by rfl) hSR (DT _ rs) ?_ ?_ ?_
 .rintro _ r G rfl hm s R hR;walk_at"go";exact⟨_,_,rfl,rfl,_,rfl,hR _ (Same.refl _)⟩
 .rintro _ r G rfl hm hc;rw[hw r hm]at hc;cases hc
 intro usD HD sD hD;obtain rfl:usD=[]:=by
  rw[qe.mpr (λr hr z=>by rw[hw r hr]at z;cases z)]at hD;cases hD;rfl
 have hSD:=sD.seq hSR;walk_at"go";rename_i pD HD2 nD SD eD pC HC nC SC eC;refine XE (rs:=rs) (WS:=WSz z) (SC.seq (SD.seq hSD)) eC hW hne (by lia) (λws hws hh=> ?_) λpP usP HP nP SP eP hP=> ?_
 .rcases ba.mp hws with rfl|hws
  .exact absurd (cp hh) (by decide +kernel)
  rcases ba.mp hws with rfl|hws
  .exact absurd (cp hh) (by decide +kernel)
  cases bj.mp hws;exact absurd (cp hh) (by decide +kernel)
 unfold WSz at hP;rw[tJ (by decide +kernel),tJ (by decide +kernel),tJ (by decide +kernel)]at hP;obtain rfl:usP=[]:=by cases hP;rfl
 have sRP:Same HR HP:=sD.trans (SD.trans (SC.trans SP));have sTP:Same HT HP:=(SB.trans SR).trans sRP;have s0P:Same H HP:=(SA.trans ST).trans sTP;have etP:=sTP _ _ et;have eTP:=sTP _ _ eT;have eRP:=sRP _ _ eR;have eDP:=(SC.trans SP) _ _ eD;walk_at"go";have nn:¬(([(z,(1:Int)),(z,2)]:List (Str×Int)).map (·.1)).Nodup:=λnd=>(eg.mp nd).1 (.head _);refine eY (rz:=[(z,1),(z,2)]) (ds:=[]) (ps:=[]) (us:=[]) rfl m.a8 eRP (.cons ⟨q1,rfl,sRP _ _ eq1⟩ (.cons ⟨q2,rfl,sRP _ _ eq2⟩ .nil)) (SqL.of eDP) .nil (SqL.of eP) .nil (λ_ h=>nomatch h) (by show 2<=20;decide) (by show 0<=20;decide) (by show 0<=40;decide) ?_;exact⟨λz=>by rcases z with z|z<;>lia,λ_ _ y hy=>λH' dx s e=>ES m.oQ (λG sG=>k G ((s0P.trans s).trans sG)),λ_ _ nd=>absurd nd nn,λ_ _ nd=>absurd nd nn,λ_ _ nd=>absurd nd nn,λ_ _ nd=>absurd nd nn⟩
theorem HH (m:M w K mg):FcQ P w K mg base "made_house" 8 ["rows"] (CY K m.aV):=⟨_,_,m.LN,m.k8.F.kp,m.k8.b,GL m⟩
theorem AT (m:M w K mg):aP P w K mg base (CXC P w) 9 m.lE m.fP.d ["rows"] (CY K m.aV):=by
 refine m.fP.F.okQ aFQ ?_ ?_;walk_at"w0";walk_at"w1";obtain⟨a,rs,z,rfl,hS,hW,hz,hw,k⟩:=h;walk_at"g2";have nd:=aFQ.nd;walk_at"hu";have aG6:= @HH P w K mg base m;refine⟨_,(aC (bD (i:=1) nd rfl (by walk_at"oi") (HW aG6 hr uZ (aA (pv 0) aB)))
  cY),?_⟩
 refine aG (σ:=[some (.ref a),none]) rfl ?_;walk_at"cx";walk_at"go";exact⟨a,rs,z,rfl,hS,hW,hz,hw,k⟩
theorem AH (m:M w K mg):FcQ P w K mg base "house_of_rows" 9 ["rows"] (CY K m.aV):=⟨_,_,m.DA,m.fP.F.kp,m.fP.b,AT m⟩
inductive Q0 (K:W.Frag)(N:Addr)(vs:List V)(H:Hp)(_:VK)(E:XK):Prop
 | mk (x:Str) (rs:List Str) (z:Str) (_:vs=[.str x]) (_:x.length<=1000000) (_:gr x "\n" =rs) (_:DV rs (WSz z)) (_:bM z=true) (_:(∀r∈rs,eJ r "way " =false)) (_:Ref0 N H E):Q0 K N vs H _ E
theorem HJ (m:M w K mg):aP P w K mg base (CXC P w) 10 m.qN m.kO.d ["text"] (Q0 K m.aV):=by
 refine m.kO.F.okQ aGs ?_ ?_;walk_at"w0";walk_at"w1";obtain⟨x,rs,z,rfl,hl,hx,hW,hz,hw,k⟩:=h;walk_at"g2";have nd:=aGs.nd;walk_at"hu";have aGO:= @AH P w K mg base m;have aFo:= @kE P w K mg base m;refine⟨_,(aC (bQ (cB aFo hr nG (aA (pv 0) aB)))
  (aD (aM (HW aGO hr uZ (aA (oT gp gc je pG (pv 0) (aA aL aB)) aB))))),?_⟩
 refine aG (σ:=[some (.str x)]) rfl ?_;walk_at"cx";walk_at"go";refine pN 10 OG hl λp1 H1 n1 S1 e1=> ?_;rw[hx]at e1;walk_at"go";exact⟨p1,rs,z,rfl,SqL.of e1,hW,hz,hw,λG s=>k G (S1.trans s)⟩
theorem GP (m:M w K mg):FcQ P w K mg base "read_house" 10 ["text"] (Q0 K m.aV):=⟨_,_,m.K8,m.kO.F.kp,m.kO.b,HJ m⟩
def FKs:List Key:=[.inr "plan",.inr "out",.inr "cut",.inr "all",.inr "lost",.inr "walks",.inr "anew",.inr "shut",.inr "wider",.inr "found",.inr "keep"]
structure O4 (x h:Str)(t:List Str):Prop where
 hl:x.length<=1000000
 hx:gr x " " =h::t
 h1:h≠ "house"
 h2:h≠ "bound"
 h3:(.inr h:Key)∉FKs
inductive JW (N:Addr)(vs:List V)(H:Hp)(_:VK)(E:XK):Prop
 | mk (x h:Str) (t:List Str) (_:vs=[.str x]) (_:O4 x h t) (_:Ref0 N H E):JW N vs H _ E
theorem LP (m:M w K mg):aP P w K mg base (CXE P w) 2 m.u9 m.oZ.d ["row"] (JW m.aV):=by
 refine m.oZ.F.okE aGK ?_ ?_;walk_at"w0";walk_at"w1";obtain⟨x,h,t,rfl,ho,k⟩:=h;walk_at"g2";have nd:=aGK.nd;walk_at"hu";refine⟨_,(aC (bD (i:=1) nd rfl (by walk_at"oi") (oT gp gc je pG (pv 0) (aA aL aB)))
  (aC (a9 (aT cN (dB gH (pv 1) aF (λ_ _=>rfl)) aL (aX _)) cY aQ)
  (aC (a9 (aT cN (dB gH (pv 1) aF (λ_ _=>rfl)) aL (aX _)) cY aQ)
  (aC (a9 (aT (aA5 m.Y9) (dB gH (pv 1) aF (λ_ _=>rfl)) (dM rfl m.aB4) (by with_unfolding_all rfl)) (aD (cX m.fD m.mF eS (aA aL aB))) aQ)
  cY)))),?_⟩
 refine aG (σ:=[some (.str x),none]) rfl ?_;walk_at"cx";walk_at"g1";obtain⟨hl,hx,h1,h2,h3⟩:=ho;walk_at"g2";walk_at"go";refine pN 32 IF hl λp1 H1 n1 S1 e1=> ?_;rw[hx]at e1;have e1':H1 p1=some (.lst (V.str h::t.map V.str)):=e1;walk_at"go";refine⟨p1,_,_,_,rfl,rfl,SqL.of e1',o8 (j:=0) rfl,?_⟩;walk_at"go";refine⟨p1,_,_,_,rfl,rfl,SqL.of e1',o8 (j:=0) rfl,?_⟩;walk_at"go";refine⟨p1,_,_,_,rfl,rfl,SqL.of e1',o8 (j:=0) rfl,?_⟩;walk_at"go";refine⟨.inr h,rfl,rfl,h3,?_⟩;walk_at"go";exact⟨(by show 1<=sizeLine;decide),k _ S1⟩
theorem LU (m:M w K mg):FcE P w K mg base "order_of" 2 ["row"] (JW m.aV):=⟨_,_,m.RV,m.oZ.F.kp,m.oZ.b,LP m⟩
inductive DR (K:W.Frag)(N:Addr)(vs:List V)(H:Hp)(_:VK)(E:XK):Prop
 | mk (v:V) (_:vs=[v]) (_:((∃n,BTy K H v n/\n≠ "str")∨∃x h t,v= .str x/\O4 x h t)) (_:Ref0 N H E):DR K N vs H _ E
theorem GX (m:M w K mg):aP P w K mg base (CXC P w) 4 m.qQ m.kU.d ["row"] (DR K m.cE):=by
 refine m.kU.F.okQ aGr ?_ ?_;walk_at"w0";walk_at"w1";obtain⟨v,rfl,hv,k⟩:=h;walk_at"g2";have nd:=aGr.nd;walk_at"hu";have aFo:= @kE P w K mg base m;have aHi:= @LU P w K mg base m;refine⟨_,(aD (MU ZT rfl rfl rfl m.fD m.OA m.aB3 (aDu (ZV aFo hr (aA (pv 0) aB)) (MX (ZV aHi hr (aA (pv 0) aB)))) (λea=>(aA aL aB)))),?_⟩;refine aG (σ:=[some (v)]) rfl ?_;walk_at"cx";rcases hv with⟨n,b,hn⟩|⟨x,h,t,rfl,ho⟩
 .walk_at"go";exact⟨v,n,rfl,b,λz=>absurd z hn,λ_=>ES m.jH k⟩
 .walk_at"go";exact⟨x,h,t,rfl,ho,λG s=>ES m.jH (λG' s'=>k G' (s.trans s'))⟩
theorem GT (m:M w K mg):FcQ P w K mg base "read_order" 4 ["row"] (DR K m.cE):=⟨_,_,m.LG,m.kU.F.kp,m.kU.b,GX m⟩
inductive EC (K:W.Frag)(vs:List V)(H:Hp)(Q:VK)(E:XK):Prop
 | mk (p C dx:Addr) (_:vs=[.ref p]) (_:DCls K C) (_:H p=some (.ins C dx [])) (_:∀H',SameBut p H H'->H' p=some (.ins C dx (cM "house" .non []))->Q .non H'):EC K vs H Q E
theorem zS (m:M w K mg):aP P w K mg base CX0 1 m.k6 m.lB.d ["self"] (EC K):=by
 refine m.lB.F.ok aFX ?_ ?_;walk_at"w0";walk_at"w1";obtain⟨p,C,dx,rfl,dc,hp,k⟩:=h;walk_at"g2";have nd:=aFX.nd;walk_at"hu";refine⟨_,(aD (eQ (pv 0) qJ rfl)),?_⟩;refine aG (σ:=[some (.ref p)]) rfl ?_;walk_at"cx";walk_at"go";exact k _ (by walk_at"sb") (by assumption)
theorem VN (m:M w K mg):Kc P w K mg base "Desk" m.iL 1 [] (EC K):=⟨_,_,_,_,m.aD7,m.aBZ,.nil,m.lB.b,zS m⟩
inductive BS (K:W.Frag)(N:Addr)(vs:List V)(H:Hp)(_:VK)(E:XK):Prop
 | mk (p:Addr) (v:V) (_:vs=[.ref p,v]) (_:((∃n,BTy K H v n/\n≠ "str")∨∃x h t,v= .str x/\O4 x h t)) (_:Ref0 N H E):BS K N vs H _ E
theorem LO (m:M w K mg):aP P w K mg base (CXC P w) 5 m.u8 m.u4.d ["self","row"] (BS K m.cE):=by
 refine m.u4.F.okQ aGH ?_ ?_;walk_at"w0";walk_at"w1";obtain⟨p,v,rfl,hv,k⟩:=h;walk_at"g2";have nd:=aGH.nd;walk_at"hu";have aHc:= @GT P w K mg base m;refine⟨_,(aC (bD (i:=2) nd rfl (by walk_at"oi") (HW aHc hr uZ (aA (pv 1) aB)))
  cY),?_⟩
 refine aG (σ:=[some (.ref p),some (v),none]) rfl ?_;walk_at"cx";walk_at"go";exact⟨v,rfl,hv,k⟩
theorem MD (m:M w K mg):McQ P w K mg base m.iL "say" 5 (BS K m.cE):=⟨_,_,_,m.N9.ic.cl,m.MM,m.u4.b,LO m⟩
def nmL:List Str:=["a","ab","abc","abcd","abcde","abcdef","abcdefg"]
def QZ (z:Str):Str:= "turns 0 4\nroom " ++z++ " 1\nroom " ++z++ " 2"
def tR (z:Str):List Str:=["turns 0 4","room " ++z++ " 1","room " ++z++ " 2"]
def okN (z:Str):Bool:=bM z&& !bM (z++ "A")&&decide (z≠ "strange")&&decide (z≠ "other")&&decide (z≠ "house")&&decide (z≠ "bound")&&decide (z.length<=7)&&FKs.all (λk=>decide (k≠ .inr z))&&decide (gr (QZ z) "\n" =tR z)&&decide ((tR z).map (λr=>gr r " ")=WSz z)&&(tR z).all (λr=> !eJ r "way " &&decide (r.length<=1000))&&decide ((QZ z).length<=1000)
theorem aBb:nmL.all okN=true:=by decide +kernel
structure NmG (z:Str):Prop where
 nm:bM z=true
 bad:bM (z++ "A")=false
 s:z≠ "strange"
 o:z≠ "other"
 h:z≠ "house"
 b:z≠ "bound"
 len:z.length<=7
 k:(.inr z:Key)∉FKs
 t1:gr (QZ z) "\n" =tR z
 t2:DV (tR z) (WSz z)
 t3:∀r∈tR z,eJ r "way " =false
 t4:(QZ z).length<=1000
theorem UR:∀{rs:List Str}{WS:List (List Str)},rs.map (λr=>gr r " ")=WS->(∀r∈rs,r.length<=1000)->DV rs WS
 | [],_,rfl,_=> .nil
 | r::rs,_,rfl,h=> .cons ⟨rfl,bo (h r (.head _)) (by decide)⟩ (UR rfl λx hx=>h x (.tail _ hx))
theorem nmG (h:z∈nmL):NmG z:=by
 have:=gh.mp aBb z h;unfold okN at this;simp only[cq,pj,decide_eq_true_eq,gh]at this;walk_at"g1";obtain⟨⟨⟨⟨⟨⟨⟨⟨⟨⟨⟨h1,h2⟩,h3⟩,h4⟩,h5⟩,h6⟩,h7⟩,h8⟩,h9⟩,h10⟩,h11⟩,h12⟩:=this;walk_at"g2";exact⟨h1,h2,h3,h4,h5,h6,h7,λz'=>h8 _ z' rfl,h9,UR h10 λr hr=>(h11 r hr).2,λr hr=>(h11 r hr).1,h12⟩
def jX (ns:List Int)(k:Int):Int:=ns.getD k.toNat 0
inductive x8 (K:W.Frag)(vs:List V)(H:Hp)(Q:VK)(E:XK):Prop
 | mk (a:Addr) (ns:List Int) (k:Int) (_:vs=[.ref a,.int k]) (_:SqL K H a (ns.map V.int)) (_:0<=k) (_:Q (.int (jX ns k)) H):x8 K vs H Q E
theorem aCB {Q:VK}{E:XK}{ns:List Int}{i:Int}(hS:SqL K H a (ns.map V.int))(hi:0<=i)(h:Q (.int (jX ns i)) H):x8 K [.ref a,.int i] H Q E:=⟨_,_,_,rfl,hS,hi,h⟩
theorem B0 (m:M w K mg):aP P w K mg base CX0 1 m.mD m.gN.d ["_law_script","_law_k"] (x8 K):=by
 refine m.gN.F.ok aF1 ?_ ?_;walk_at"w0";walk_at"w1";obtain⟨a,ns,i,rfl,hS,hi,k⟩:=h;walk_at"g2";have nd:=aF1.nd;walk_at"hu";refine⟨_,(aC (a9 (aT fM (pv 1) (bH mV rfl m.u3 p8 (aA (pv 0) aB)) (aX _)) (aD (aM (dB gH (pv 0) (pv 1) (λ_ _=>rfl)))) aQ)
  (aD (aM aF))),?_⟩
 refine aG (σ:=[some (.ref a),some (.int i)]) rfl ?_;walk_at"cx";walk_at"go";rw[ao];refine kC (λh1=> ?_) (λh1=> ?_)
 .have hlt:i.toNat<ns.length:=by lia
  have e:=o8 (xs:=ns.map V.int) (j:=i.toNat) (v:= .int (jX ns i)) (by
   rw[dk,aq hlt];unfold jX;rw[cf,aq hlt];rfl)
  rw[show ((i.toNat:Nat):Int)=i by lia]at e;exact⟨_,rfl,_,rfl,a,_,i,_,rfl,rfl,hS,e,k⟩
 .have e:jX ns i=0:=by
   unfold jX;rw[cf,wt (by lia)];rfl
  rw[e]at k;exact k
theorem BO (m:M w K mg):Fc P w K mg base "_law_cell_at" 1 ["_law_script","_law_k"] (x8 K):=⟨_,_,m.E1,m.gN.F.kp,m.gN.b,B0 m⟩
local macro_rules| `(tactic| walk_at"rd1")=> `(tactic| ((with_reducible refine' aCB ?e ?s ?_);(case e=>walk_at"hp");(case s=>walk_at"sd")))
theorem sT {n st:Str}{e:V}(m:M w K mg)(h:H p=some (.ins m.dY dx (wM (.str n) (.str st) e (.int wd)))):(aN P w K mg base (some 1)).at' H (.ref p) (n,st,e,λ_=>wd) :=
 ⟨p,_,dx,_,[],rfl,h,m.mG,by walk_at"lk",by walk_at"lk",by walk_at"lk",by walk_at"lk",by walk_at"lk",CJ m,(λ_ z=>nomatch z),λkl hk=>by
  cases hk;exact⟨_,KA m,λH' t Q hp _ ht k=>LZ hp m.mG (by walk_at"lk") (k _ (Same.refl _))⟩⟩
theorem IM (z y:Str)(n:Int):dF [(z,n)] y=if z=y then n else 0:=by
 rw[show [(z,n)]=[]++[(z,n)] from rfl,wP];show 0+_=_;rw[Int.zero_add]
inductive Q4 (C:Addr)(D:aY)(vs:List V)(H:Hp)(Q:VK)(E:XK):Prop
 | mk (z:Str) (n:Int) (_:vs=[.str z,.int n]) (_:bM z=true) (_:0<=n) (_:n<100000000000) (_:∀h H',Same H H'->aW C D H' h 0 4 [(z,n+3)] [(z,n)] [(z,z,.non,λ_=>1)]->Q (.ref h) H'):Q4 C D vs H Q E
theorem GJ (m:M w K mg):aP P w K mg base CX0 8 m.qT m.kN.d ["_law_name","_law_number"] (Q4 m.aH (aN P w K mg base (some 1))):=by
 refine m.kN.F.ok aGl ?_ ?_;walk_at"w0";walk_at"w1";obtain⟨z,n,rfl,hz,n0,n1,k⟩:=h;walk_at"g2";have nd:=aGl.nd;walk_at"hu";have aHp:= @UQ P w K mg base m;have aFp:= @tY P w K mg base m;have aFm:=m.a8;have aGY:=m.mG;refine⟨_,(aD (aM (jT aFp hr aDY (aA (bJ (aA (bI (aA (pv 0) (aA (bR eN (pv 1) aF) aB))) aB)) (aA (bJ (aA (yP aHp hr (aA (pv 0) (aA (pv 0) (aA qJ (aA aF aB))))) aB)) (aA (bJ (aA (bI (aA (pv 0) (aA (pv 1) aB))) aB)) (aA aF aB))))))),?_⟩;refine aG (σ:=[some (.str z),some (.int n)]) rfl ?_;walk_at"cx";have eo:rE .non:= .inl rfl;walk_at"go";rename_i t1 H1 n1' S1 e1 p1 H2 n2 S2 e2 q3 dx3 H3 n3 S3 e3 p3 H4 n4 S4 e4 t5 H5 n5 S5 e5 p5 H6 n6 S6 e6;have s16:Same H1 H6:=S2.trans (S3.trans (S4.trans (S5.trans S6)));have s36:Same H3 H6:=S4.trans (S5.trans S6);have hd:(aN P w K mg base (some 1)).at' H6 (.ref q3) (z,z,.non,λ_=>1):=sT (P:=P) (w:=w) (base:=base) m (s36 _ _ e3);refine eY (rz:=[(z,n+3)]) (ds:=[(z,z,.non,λ_=>1)]) (ps:=[(z,n)]) (us:=[.ref q3]) rfl aFm ((S3.trans s36) _ _ e2) (.cons ⟨t1,rfl,s16 _ _ e1⟩ .nil) (SqL.of ((S5.trans S6) _ _ e4)) (.cons (d10 hd) .nil) (SqL.of e6) (.cons ⟨t5,rfl,S6 _ _ e5⟩ .nil) (λd hd=>by cases bj.mp hd;exact .inl rfl) (by show 1<=20;decide) (by show 1<=20;decide) (by show 1<=40;decide) ?_;have nd1:([z]:List Str).Nodup:=eg.mpr ⟨cz,ij⟩;have hsp:∀x∈dJ [(z,z,.non,λ_=>1)] [(z,n)],x∈([(z,n+3)]:List (Str×Int)).map (·.1):=λx hx=>by
  rcases ba.mp hx with rfl|hx
  .exact .head _
  .exact hx
 have hft:pH [(z,n+3)] [(z,n)]:=by
  refine⟨λp hp=> ?_,λe he=> ?_⟩
  .cases bj.mp hp;exact n0
  .cases bj.mp he;show dF [(z,n)] z<=n+3;rw[IM,if_pos rfl]
   lia
 refine⟨λz=>by rcases z with z|z<;>lia,λ_ _ y hy=>absurd nd1 hy.not,λ_ _ _ y hy=>absurd nd1 hy.not,λ_ _ _ _ y hy=>absurd hsp hy.not,λ_ _ _ _ _ hf=>absurd hft hf,λ_ _ _ _ _ _ h HI nI SI hU=> ?_⟩;exact k h HI (S1.trans (s16.trans SI)) (hU.house (.cons ((aN P w K mg base (some 1)).same hd SI) .nil))
theorem vF (m:M w K mg):Fc P w K mg base "_law_house" 8 ["_law_name","_law_number"] (Q4 m.aH (aN P w K mg base (some 1))):=⟨_,_,m.LI,m.kN.F.kp,m.kN.b,GJ m⟩
structure RW (ND NH NP NT NX NW TW NR UN:Addr)(j:Int)(H:Hp)(E:XK):Prop where
 r0:j=0->Ref0 ND H E
 r1:j=1->Ref0 NH H E
 r2:j=2->Ref0 NP H E
 r3:j=3->Ref0 NT H E
 r4:j=4->Ref0 NX H E
 r5:j=5->Ref0 NW H E
 r6:j=6->Refd TW "strange" H E
 r7:j=7->Refd NR "strange" H E
 r8:j=8->Refd UN "strange" H E
theorem Ref0.sm' {E:XK}(x:Ref0 C H E)(s:Same H H1):Ref0 C H1 E:=λH2 s2=>x H2 (s.trans s2)
theorem RW.sm {ND NP NX NW UN:Addr}{E:XK}(x:RW ND NH NP NT NX NW TW NR UN j H E)(s:Same H H1):RW ND NH NP NT NX NW TW NR UN j H1 E :=
 ⟨λe=>(x.r0 e).sm' s,λe=>(x.r1 e).sm' s,λe=>(x.r2 e).sm' s,λe=>(x.r3 e).sm' s,λe=>(x.r4 e).sm' s,λe=>(x.r5 e).sm' s,λe=>(x.r6 e).sm s,λe=>(x.r7 e).sm s,λe=>(x.r8 e).sm s⟩
inductive kB (ND NH NP NT NX NW TW NR UN:Addr)(lo hi:Int)(vs:List V)(H:Hp)(_:VK)(E:XK):Prop
 | mk (j:Int) (o:Bool) (z:Str) (n:Int) (_:vs=[.int j,.bl o,.str z,.int n]) (_:lo<=j) (_:j<hi) (_:NmG z) (_:0<=n) (_:n<100000000000) (_:RW ND NH NP NT NX NW TW NR UN j H E):kB ND NH NP NT NX NW TW NR UN lo hi vs H _ E
theorem hs1 (z:Str)(n:Int):Hs [(z,n+3)] [(z,n)] [(z,z,.non,λ_=>1)] 0 4 :=
 ⟨eg.mpr ⟨cz,ij⟩,eg.mpr ⟨cz,ij⟩,λd hd=>by cases bj.mp hd;exact⟨.head _,.inl rfl⟩,by decide,by decide,by decide,by decide,by show 1<=3;decide,by show 1<=20;decide⟩
theorem N4 {ds:List aI}{t k:Int}{n:Str}(h:fB ds f l t n<k):d3 rz ps ds f l [(t,n,k)]≠[]:=λz=>by
 unfold d3 at z;have z:=(vy.mp (vy.mp z).1).1;have:dfK ds f l [(t,n,k)]=[flK "door" (n,t)]:=by
  unfold dfK;show ((([.inl t,.inr n],V.int (0+k))::([]:List (List Key×V))).filter (dfB ds f l)).map _=_;rw[ke (show dfB ds f l ([.inl t,.inr n],V.int (0+k))=true from decide_eq_true (show (0+k:Int)>fB ds f l t n by lia))];rfl
 rw[this]at z;cases z
theorem aCw (z y:Str)(t:Int):fB [(z,z,.non,λ_=>1)] 0 4 t y<=1:=by
 unfold fB
 split
 .rename_i d e;have hd:=mx e;cases bj.mp hd;unfold pQ
  split
  .exact Int.le_refl 1
  .decide
 .decide
theorem aDv (h:z≠y)(t:Int):fB [(z,z,.non,λ_=>1)] 0 4 t y=0:=by
 unfold fB;rw[zJ (λq=>h (bj.mp q).symm)]
theorem aCN {n:Int}(h:0<=n):pH [(z,n+3)] [(z,n)]:=by
 refine⟨λp hp=> ?_,λe he=> ?_⟩
 .cases bj.mp hp;exact h
 .cases bj.mp he;show dF [(z,n)] z<=n+3;rw[IM,if_pos rfl]
  lia
theorem NA {n:Int}(h:0<=n)(y:Str):0<=dF [(z,n)] y:=by
 rw[IM]
 split<;>lia
theorem aEc (a b y:Str)(n k:Int):dF [(a,n),(b,k)] y=(if a=y then n else 0)+if b=y then k else 0:=by
 rw[show [(a,n),(b,k)]=[(a,n)]++[(b,k)] from rfl,wP,IM]
theorem aCM (h:bM z=true):∀d∈[((z,z,.non,λ_=>1):aI)],NmD d:=λd hd=>by
 cases bj.mp hd;exact⟨h,h,.inl rfl⟩
theorem wZ (m:M w K mg):aP P w K mg base (CXE P w) 15 m.hZ m.eF.d ["_law_way","_law_other","_law_name","_law_number"] (kB m.bY m.bW m.b2 m.bZ m.aV m.cE m.b5 m.bN m.bE 0 4):=by
 refine m.eF.F.okE aFF ?_ ?_;walk_at"w0";walk_at"w1";obtain⟨j,o,z,n,rfl,j0,j4,hg,n0,n1,k⟩:=h;walk_at"g2";have nd:=aFF.nd;walk_at"hu";have FW_anew_1:=L5 (P:=P) (w:=w) (base:=base) m;have aFV:= @vF P w K mg base m;have nK:= @MP P w K mg base m;have Kx_Door_2:=QO (P:=P) (w:=w) (base:=base) m;have aHA:= @XA P w K mg base m;have aFT:= @F9 P w K mg base m;have aGA:= @BK P w K mg base m;have aFp:= @tY P w K mg base m;have aHv:= @UF P w K mg base m;have aFm:=m.a8;have aGY:=m.mG;have aHm:=m.aB5;have aFs:= @fG P w K mg base m;refine⟨_,(aC (bD (i:=4) nd rfl (by walk_at"oi") (cG aFV hr (aA (pv 2) (aA (pv 3) aB))))
  (aC (a9 (PW.pt (pZ (aT cN (pv 0) aF (aX _)) (lY (cA (pv 1))))) (aD (aM (jT aHv hr b9 (aA (kG 1 hr (pv 4) (aA (pv 2) aB)) (aA (bR CO (Z1 VE aF) (pv 3)) aB))))) aQ)
  (aC (a9 (aT cN (pv 0) aF (aX _)) (aD (aM (jT Kx_Door_2 hr b9 (aA (bR fH (pv 2) aL) (aA (pv 2) aB))))) aQ)
  (aC (a9 (PW.pt (pZ (aT cN (pv 0) aF (aX _)) (lY (cA (pv 1))))) (aD (aM (jT aFp hr b9 (aA (bJ (aA (bI (aA (pv 2) (aA (bR CO (Z1 VE aF) (pv 3)) aB))) aB)) (aA (bJ aB) (aA (bJ aB) (aA aF aB))))))) aQ)
  (aC (a9 (aT cN (pv 0) aF (aX _)) (aD (aM (jT aFp hr b9 (aA (bJ (aA (bI (aA (pv 2) (aA (pv 3) aB))) aB)) (aA (bJ aB) (aA (bJ (aA (bI (aA (pv 2) (aA (pv 3) aB))) (aA (bI (aA (pv 2) (aA aF aB))) aB))) (aA aF aB))))))) aQ)
  (aC (a9 (PW.pt (pZ (aT cN (pv 0) aF (aX _)) (lY (cA (pv 1))))) (aD (aM (aEx FW_anew_1 hr b9 (aA (pv 4) (aA (bJ (aA (bI (aA aF (aA (pv 2) (aA (bR eN (pv 3) aF) aB)))) aB)) (aA aF aB)))))) aQ)
  (aC (a9 (aT cN (pv 0) aF (aX _)) (aD (aM (cB aHA hr b9 (aA (pv 4) (aA (bJ (aA (bI (aA aF (aA aL (aA (bR eN aF (pv 3)) aB)))) aB)) aB))))) aQ)
  (aC (a9 (cA (pv 1)) (aD (aM (cB nK hr b9 (aA (pv 4) (aA (bJ aB) (aA (bR eN aF (pv 3)) (aA (bJ (aA (bI (aA aL (aA aL (aA aF aB)))) aB)) aB))))))) aQ)
  (aD (aM (jT aGA hr b9 (aA (bJ (aA (bI (aA (pv 2) (aA aF aB))) aB)) (aA (bJ (aA (yP aFT hr (aA (pv 2) (aA aL aB))) aB)) (aA (bJ aB) (aA (pv 3) (aA (bR eN (pv 3) aF) aB)))))))))))))))),?_⟩
 refine aG (σ:=[some (.int j),some (.bl o),some (.str z),some (.int n),none]) rfl ?_;walk_at"cx";have hzl:=hg.len;have hz:=hg.nm;walk_at"go";refine⟨z,n,rfl,hz,n0,n1,λh H1 S1 hh=> ?_⟩;have k1:=k.sm S1;walk_at"g1";obtain⟨dx,qs,qp,qd,nk,kvs,eh,_⟩:=id hh.ex;walk_at"g2";have nd1:([z]:List Str).Nodup:=eg.mpr ⟨cz,ij⟩;have nno:∀y∈([]:List Str),y∈([z]:List Str):=λ_ h=>nomatch h;have eo:rE .non:= .inl rfl;have nst:bM "strange" =true:=by decide +kernel
 have hj:j=0∨j=1∨j=2∨j=3:=by lia
 clear S1 k;rcases hj with rfl|rfl|rfl|rfl
 .cases o with
  | true =>
   walk_at"go";refine wG (d:=(z,z,.non,λ_=>1)) hh nd1 (.head _) λv hv=> ?_;walk_at"g1";obtain⟨q,C9,dx',fs,fp,rfl,hq,dcC,l1,l2,l3,_⟩:=DoorAt.ex hv;walk_at"g2";have hi:InD K H1 q z z .non:=⟨⟨_,_,_,dcC,hq,l1,l2,l3⟩,hz,hz,.inl rfl⟩
   walk_at"go";exact TH rfl aHm hi (by lia) (k1.r0 rfl)
  | false =>
   walk_at"go";exact SV (by walk_at"sz") hg.bad (k1.r0 rfl)
 .cases o with
  | true =>
   walk_at"go";rename_i t1 G1 m1 T1 f1 p1 G2 m2 T2 f2 p2 G3 m3 T3 f3 p3 G4 m4 T4 f4;refine eY (rz:=[(z,-1 - n)]) (ds:=[]) (ps:=[]) (us:=[]) rfl aFm ((T3.trans T4) _ _ f2) (.cons ⟨t1,rfl,(T2.trans (T3.trans T4)) _ _ f1⟩ .nil) (SqL.of (T4 _ _ f3)) .nil (SqL.of f4) .nil (λ_ h=>nomatch h) (by show 1<=20;decide) (by show 0<=20;decide) (by show 0<=40;decide) ?_;refine⟨λz=>by rcases z with z|z<;>lia,λ_ _ y hy=>absurd nd1 hy.not,λ_ _ _ y hy=>absurd ij hy.not,λ_ _ _ _ y hy=>absurd nno hy.not,λ_ _ _ _ _ _=>(k1.r1 rfl).sm' (T1.trans (T2.trans (T3.trans T4))),λ_ _ _ _ _ hf=> ?_⟩;have:=hf.2 _ (.head _);have:(0:Int)<= -1 - n:=this
   lia
  | false =>
   walk_at"go";rename_i t1 G1 m1 T1 f1 p1 G2 m2 T2 f2 p2 G3 m3 T3 f3 t4 G4 m4 T4 f4 t5 G5 m5 T5 f5 p6 G6 m6 T6 f6;have s36:Same G3 G6:=T4.trans (T5.trans T6);refine eY (rz:=[(z,n)]) (ds:=[]) (ps:=[(z,n),(z,1)]) (us:=[]) rfl aFm ((T3.trans s36) _ _ f2) (.cons ⟨t1,rfl,(T2.trans (T3.trans s36)) _ _ f1⟩ .nil) (SqL.of (s36 _ _ f3)) .nil (SqL.of f6) (.cons ⟨t4,rfl,(T5.trans T6) _ _ f4⟩ (.cons ⟨t5,rfl,T6 _ _ f5⟩ .nil)) (λ_ h=>nomatch h) (by show 1<=20;decide) (by show 0<=20;decide) (by show 2<=40;decide) ?_;have hsp:∀y∈dJ [] [(z,n),(z,1)],y∈([(z,n)]:List (Str×Int)).map (·.1):=λy hy=>by
    rcases ba.mp hy with rfl|hy
    .exact .head _
    .exact hy
   refine⟨λz=>by rcases z with z|z<;>lia,λ_ _ y hy=>absurd nd1 hy.not,λ_ _ _ y hy=>absurd ij hy.not,λ_ _ _ _ y hy=>absurd hsp hy.not,λ_ _ _ _ _ _=>(k1.r1 rfl).sm' (T1.trans (T2.trans (T3.trans s36))),λ_ _ _ _ _ hf=> ?_⟩;have:=hf.2 _ (.head _);have:dF [(z,n),(z,1)] z<=n:=this;rw[aEc,if_pos rfl,if_pos rfl]at this
   lia
 .cases o with
  | true =>
   walk_at"go";refine AG ?_;walk_at"go";rename_i t1 G1 m1 T1 f1 p1 G2 m2 T2 f2;exact⟨h,p1,0,4,9,_,_,_,[.ref t1],[(1,z,n+4)],rfl,bU hh (T1.trans T2),hs1 z n,SqL.of f2,.cons ⟨t1,rfl,T2 _ _ f1⟩ .nil,ar _,N4 (by have:=aCw z z 1;lia),(k1.r2 rfl).sm' (T1.trans T2)⟩
  | false =>
   walk_at"go";rename_i t1 G1 m1 T1 f1 p1 G2 m2 T2 f2;exact⟨h,p1,0,4,_,_,_,[.ref t1],[(0,"strange",1+n)],rfl,bU hh (T1.trans T2),hs1 z n,SqL.of f2,.cons ⟨t1,rfl,T2 _ _ f1⟩ .nil,ar _,N4 (by have:=aDv hg.s 0;lia),(k1.r2 rfl).sm' (T1.trans T2)⟩
 .cases o with
  | true =>
   walk_at"go";rename_i p1 G1 m1 T1 f1 t2 G2 m2 T2 f2 p3 G3 m3 T3 f3;have s13:=T1.trans (T2.trans T3);exact⟨h,p1,p3,0,4,5+n,_,_,_,[.ref t2],rfl,bU hh s13,hs1 z n,aCM hz,SqL.of ((T2.trans T3) _ _ f1),MR nd1 (aCN n0) (NA n0),SqL.of f3,.inl ⟨by lia,(k1.r3 rfl).sm' s13⟩⟩
  | false =>
   walk_at"go";rename_i t1 G1 m1 T1 f1 p1 G2 m2 T2 f2 q3 dx3 G3 m3 T3 f3 p4 G4 m4 T4 f4 p5 G5 m5 T5 f5;have s35:Same G3 G5:=T4.trans T5;have hd:(aN P w K mg base (some 1)).at' G5 (.ref q3) (z,"strange",.non,λ_=>1):=sT (P:=P) (w:=w) (base:=base) m (s35 _ _ f3);refine eY (rz:=[(z,1)]) (ds:=[(z,"strange",.non,λ_=>1)]) (ps:=[]) (us:=[.ref q3]) rfl aFm ((T3.trans s35) _ _ f2) (.cons ⟨t1,rfl,(T2.trans (T3.trans s35)) _ _ f1⟩ .nil) (SqL.of (T5 _ _ f4)) (.cons (d10 hd) .nil) (SqL.of f5) .nil (λd hd=>by cases bj.mp hd;exact .inl rfl) (by show 1<=20;decide) (by show 1<=20;decide) (by show 0<=40;decide) ?_;exact⟨λ_=>(k1.r3 rfl).sm' (T1.trans (T2.trans (T3.trans s35))),λ_ h1=>by lia,λ_ h1=>by lia,λ_ h1=>by lia,λ_ h1=>by lia,λ_ h1=>by lia⟩
theorem wY (m:M w K mg):FcE P w K mg base "_law_of_numbers" 15 ["_law_way","_law_other","_law_name","_law_number"] (kB m.bY m.bW m.b2 m.bZ m.aV m.cE m.b5 m.bN m.bE 0 4):=⟨_,_,m.zA,m.eF.F.kp,m.eF.b,wZ m⟩
theorem M8 {c:Nat}(h:noC c x)(h':noC c y):noC c (x++y):=by
 unfold noC;rw[sV,fc];rintro (a|a)
 .exact h a
 .exact h' a
theorem IX {c:Nat}(hz:noC c z):∀{ys:List Str},(∀y∈ys,noC c y)->noC c (ml z ys)
 | [],_=>λh=>absurd h (cz)
 | [y],h=>h y (.head _)
 | y::y2::r,h=>M8 (M8 (h y (.head _)) hz) (IX hz (ys:=y2::r) λw hw=>h w (.tail _ hw))
def DK (x:Str):Prop:=noC 32 x/\noC 10 x/\x.length<=100
def WsG (ws:List Str):Prop:=ws≠[]/\ws.length<=10/\∀x∈ws,DK x
theorem aB9 {t:Int}(h0:0<=t)(h1:t<10^60):DK (toString t):=by
 have hl:=aBF h0 h1 (by decide);obtain⟨n,rfl⟩:∃n:Nat,t=n:=⟨t.toNat,by lia⟩
 exact⟨λh=>by have:=CP n _ h;lia,λh=>by have:=CP n _ h;lia,by lia⟩
theorem aBo (h:bM x=true):DK x:=by
 have hl:=wF h;unfold bM at h;simp only[cq]at h;have h2:=gh.mp h.2;have:∀c∈x.cps.toList,97<=c:=λc hc=>by
  have:=h2 c hc;unfold sgB at this;simp only[cq,decide_eq_true_eq]at this;exact this.1
 exact⟨λh=>by have:=this _ h;lia,λh=>by have:=this _ h;lia,by lia⟩
theorem TV:noC 10 (" " :Str):=by unfold noC;decide +kernel
theorem XR {ws:List Str}(h:WsG ws):noC 10 (ml " " ws):=IX TV λy hy=>(h.2.2 y hy).2.1
theorem SZ {ws:List Str}(h:WsG ws):gr (ml " " ws) " " =ws:=by
 rw[IF];exact CU h.1 λp hp=>(h.2.2 p hp).1
theorem MS:("0" :Str)=⟨#[48]⟩:=by decide +kernel
theorem starts0:eJ x "0" =true↔x.cps.toList[0]? =some 48:=by
 rw[MS,←StrLaws.subAt_one x 48 0];unfold eJ;rw[cq,decide_eq_true_eq]
theorem aAK (x:Str):x.length=x.cps.toList.length:=by rw[fj];rfl
theorem U1 (h:1<=x.length):wrB ("0" ++x)=false:=by
 cases e:wrB ("0" ++x) with
 | false=>rfl
 | true =>
  unfold wrB at e;simp only[cq,Bool.or_eq_true,decide_eq_true_eq,pj]at e;rcases e.2 with e2|e2
  .have:=congrArg Str.length e2;rw[cO]at this;have h0:("0" :Str).length=1:=by decide
   lia
  .have:eJ ("0" ++x) "0" =true:=starts0.mpr (by rw[sV,MS];rfl);rw[this]at e2;cases e2
theorem FN (hx:DK x)(hy:DK y):gr (x++ " " ++y) "\n" =[x++ " " ++y]/\gr (x++ " " ++y) " " =[x,y]:=by
 have hg:WsG [x,y]:=⟨(λz=>nomatch z),by show 2<=10;decide,λw hw=>by
  rcases ba.mp hw with rfl|hw
  .exact hx
  .cases bj.mp hw;exact hy⟩
 have e:ml " " [x,y]=x++ " " ++y:=rfl;refine⟨?_,?_⟩
 .rw[OG];exact RK (e▸XR hg)
 .exact e▸SZ hg
theorem TF {X:Cx}{k k':Nat}{sp:Sp}{p pos:Pos}(F:Kc X.prog X.w X.K X.mg X.base x C k dvs sp)(hr:Room k' X.A)(hk:k+1<=k':=by decide)(hg:Gl X x:=by rfl)(hdb:(x==("__debug__" :Str))=false:=by decide):PE X (.Call (.Name x p) [] [] pos) (tN C sp dvs E0 DS):=by
 walk_at"g1";obtain⟨f,fd,ps,ds,hm,M,hd,hb,G⟩:=F.ex;walk_at"g2";exact WC M G (hr.mono hk) hg hm hb hd yQ hdb
theorem aAr {n:Int}(h:0<=n):1<=(tP n).length:=by
 obtain⟨k,rfl⟩:∃k:Nat,n=k:=⟨n.toNat,by lia⟩
 have:=aC8 k;cases e:(tP (k:Int)).length with
 | zero =>
  exfalso
  apply this
  have e2:(toString (k:Int):Str).cps.toList.length=0:=by rw[←aAK];exact e
  exact vp.mp e2
 | succ=>lia
theorem AR (m:M w K mg):aP P w K mg base (CXC P w) 8 m.kY m.fO.d ["_law_way","_law_other","_law_name","_law_number"] (kB m.bY m.bW m.b2 m.bZ m.aV m.cE m.b5 m.bN m.bE 4 6):=by
 refine m.fO.F.okQ aF0 ?_ ?_;walk_at"w0";walk_at"w1";obtain⟨j,o,z,n,rfl,j4,j6,hg,n0,n1,k⟩:=h;walk_at"g2";have nd:=aF0.nd;walk_at"hu";have aHf:= @KJ P w K mg base m;have aFY:= @vG P w K mg base m;have aG7:= @VN P w K mg base m;have aGV:=m.N9;have aGo:= @MD P w K mg base m;refine⟨_,(aC (a9 (PW.pt (pZ (aT cN (pv 0) aF (aX _)) (lY (cA (pv 1))))) (aD (aM (cB aHf hr nG (aA (bR fH (bR fH (fV wU rfl m.yU sZ (aA (pv 3) aB)) aL) (pv 2)) aB)))) aQ)
  (aC (a9 (aT cN (pv 0) aF (aX _)) (aD (aM (cB aFY hr nG (aA (bR fH aL (fV wU rfl m.yU sZ (aA (pv 3) aB))) aB)))) aQ)
  (aC (a9 (cA (pv 1)) (aD (aM (UI 5 hr uZ (TF aG7 hr) (aA (bR fH (bR fH (pv 2) aL) (fV wU rfl m.yU sZ (aA (pv 3) aB))) aB)))) aQ)
  (aD (aM (UI 5 hr uZ (TF aG7 hr) (aA (pv 3) aB))))))),?_⟩
 refine aG (σ:=[some (.int j),some (.bl o),some (.str z),some (.int n)]) rfl ?_;walk_at"cx";have hzl:=hg.len;have wn:=aB9 (t:=n) n0 (Int.lt_trans n1 (by decide));have wz:=aBo hg.nm;have wn:DK (tP n):=wn;have ln:=wn.2.2;have lp:1<=(tP n).length:=aAr n0;obtain⟨tw1,tw2⟩:=FN wn wz;obtain⟨_,tw3⟩:=FN wz wn;have hj:j=4∨j=5:=by lia
 rcases hj with rfl|rfl
 .cases o with
  | true =>
   walk_at"go";refine⟨_,_,rfl,?_,λe=> ?_,tw1,tw2,rfl,k.r4 rfl⟩
   .rw[cO,cO];have:(" " :Str).length=1:=by decide
    lia
   .have:=congrArg Str.length e;rw[cO,cO]at this;have h0:("" :Str).length=0:=by decide
    lia
  | false =>
   walk_at"go";refine IS ?_ (λh=>by rw[U1 lp]at h;cases h) λ_ H' s=>k.r4 rfl H' s;rw[cO];have:("0" :Str).length=1:=by decide
   lia
 .have mk:∀(H1:Hp) (v:V),Same H H1->((∃n,BTy K H1 v n/\n≠ "str")∨∃x h t,v= .str x/\O4 x h t)->∀p,BS K m.cE [.ref p,v] H1 Q E:=λH1 v s hv p=>⟨p,v,rfl,hv,(k.r5 rfl).sm' s⟩
  cases o with
  | true =>
   walk_at"go";unfold YT;walk_at"go";intro x dx nx nd0 ne;have s0:Same H (upd (upd H dx (.own x)) x (.ins m.iL dx [])):=λb o e=>by
    rw[aJ (aO e nx),aJ (aO e nd0)];exact e
   refine⟨x,m.iL,dx,rfl,aGV,aU,λH' sb e=>⟨rfl,x,_,_,_,_,rfl,e,by walk_at"lk",aGo,?_⟩⟩;have s1:Same H H':=λb o e=>sb b o (s0 b o e) (aO e nx);walk_at"go";refine mk _ _ s1 (.inr ⟨_,z,[tP n],rfl,?_,tw3,hg.h,hg.b,hg.k⟩) _;rw[cO,cO];have:(" " :Str).length=1:=by decide
   lia
  | false =>
   walk_at"go";unfold YT;walk_at"go";intro x dx nx nd0 ne;have s0:Same H (upd (upd H dx (.own x)) x (.ins m.iL dx [])):=λb o e=>by
    rw[aJ (aO e nx),aJ (aO e nd0)];exact e
   refine⟨x,m.iL,dx,rfl,aGV,aU,λH' sb e=>⟨rfl,x,_,_,_,_,rfl,e,by walk_at"lk",aGo,?_⟩⟩;have s1:Same H H':=λb o e=>sb b o (s0 b o e) (aO e nx);walk_at"go";exact mk _ _ s1 (.inl ⟨_,.int n,by decide⟩) _
theorem z9 (m:M w K mg):FcQ P w K mg base "_law_of_texts" 8 ["_law_way","_law_other","_law_name","_law_number"] (kB m.bY m.bW m.b2 m.bZ m.aV m.cE m.b5 m.bN m.bE 4 6):=⟨_,_,m.C7,m.fO.F.kp,m.fO.b,AR m⟩
theorem aBK (h:Dup ["strange","strange"] y):y= "strange" :=by
 obtain⟨i,h1,_⟩:=h;rcases ba.mp (bz h1) with e|e
 .exact e
 .exact bj.mp e
theorem TK (hz:z≠ "strange")(h:Dup ["strange",z,"strange"] y):y= "strange" :=by
 walk_at"g1";obtain⟨i,h1,h2,_⟩:=h;walk_at"g2"
 match i,h1,h2 with
 | 0,_,h2=>cases h2
 | 1,h1,h2 =>
  cases h1;exact absurd (bj.mp h2) hz
 | 2,h1,_=>cases h1;rfl
 | i+3,h1,_=>cases h1
theorem aA7 (h:Odd [z] [z,"strange"] y):y= "strange" :=by
 walk_at"g1";obtain⟨i,h1,h2,_⟩:=h;walk_at"g2"
 match i,h1 with
 | 0,h1=>cases h1;exact absurd (.head _) h2
 | 1,h1=>cases h1;rfl
 | i+2,h1=>cases h1
theorem AB (m:M w K mg):aP P w K mg base (CXE P w) 15 m.kM m.fN.d ["_law_way","_law_other","_law_name","_law_number"] (kB m.bY m.bW m.b2 m.bZ m.aV m.cE m.b5 m.bN m.bE 6 9):=by
 refine m.fN.F.okE aFP ?_ ?_;walk_at"w0";walk_at"w1";obtain⟨j,o,z,n,rfl,j6,j9,hg,n0,n1,k⟩:=h;walk_at"g2";have nd:=aFP.nd;walk_at"hu";have aFV:= @vF P w K mg base m;have nK:= @MP P w K mg base m;have aFT:= @F9 P w K mg base m;have aFp:= @tY P w K mg base m;have aFm:=m.a8;have aGY:=m.mG;have aHg:=vQ (P:=P) (w:=w) (base:=base) m;have aHs:=EF (P:=P) (w:=w) (base:=base) m;refine⟨_,(aC (bD (i:=4) nd rfl (by walk_at"oi") (cG aFV hr (aA (pv 2) (aA (pv 3) aB))))
  (aC (a9 (PW.pt (pZ (aT cN (pv 0) aF (aX _)) (lY (cA (pv 1))))) (aD (aM (jT aFp hr b9 (aA (bJ (aA (bI (aA (pv 2) (aA aF aB))) aB)) (aA (bJ (aA (yP aFT hr (aA aL (aA (pv 2) aB))) (aA (yP aFT hr (aA aL (aA aL aB))) aB))) (aA (bJ (aA (bI (aA aL (aA aF aB))) aB)) (aA aF aB))))))) aQ)
  (aC (a9 (aT cN (pv 0) aF (aX _)) (aD (aM (jT aFp hr b9 (aA (bJ (aA (bI (aA aL (aA aF aB))) (aA (bI (aA (pv 2) (aA aF aB))) (aA (bI (aA aL (aA aF aB))) aB)))) (aA (bJ (aA (yP aFT hr (aA (pv 2) (aA aL aB))) aB)) (aA (bJ aB) (aA aF aB))))))) aQ)
  (aC (a9 (PW.pt (pZ (aT cN (pv 0) aF (aX _)) (lY (cA (pv 1))))) (aD (aM (jT aFp hr b9 (aA (bJ (aA (bI (aA (pv 2) (aA aF aB))) aB)) (aA (bJ aB) (aA (bJ (aA (bI (aA (pv 2) (aA aF aB))) (aA (bI (aA aL (aA (pv 3) aB))) aB))) (aA aF aB))))))) aQ)
  (aC (a9 (aT cN (pv 0) aF (aX _)) (aD (aM (CT 6 hr b9 (pv 4) (aA aL aB)))) aQ)
  (aC (a9 (cA (pv 1)) (aD (aM (cB nK hr b9 (aA (pv 4) (aA (bJ aB) (aA aF (aA (bJ (aA (bI (aA aL (aA (pv 2) (aA aF (aA aF aB))))) (aA (bI (aA aL (aA aL (aA aF (aA aF aB))))) (aA (bI (aA aL (aA aL (aA aF aB)))) aB)))) aB))))))) aQ)
  (aD (aM (CT 5 hr b9 (pv 4) (aA aL (aA aF aB))))))))))),?_⟩
 refine aG (σ:=[some (.int j),some (.bl o),some (.str z),some (.int n),none]) rfl ?_;walk_at"cx";have hzl:=hg.len;have hz:=hg.nm;walk_at"go";refine⟨z,n,rfl,hz,n0,n1,λh H1 S1 hh=> ?_⟩;have k1:=k.sm S1;walk_at"g1";obtain⟨dx,qs,qp,qd,nk,kvs,eh,_⟩:=id hh.ex;walk_at"g2";have nd1:([z]:List Str).Nodup:=eg.mpr ⟨cz,ij⟩;have hst:("strange" :Str)∉([z]:List Str):=λh=>hg.s (bj.mp h).symm;have eo:rE .non:= .inl rfl;have nst:bM "strange" =true:=by decide +kernel
 have not':bM "other" =true:=by decide +kernel
 have hj:j=6∨j=7∨j=8:=by lia
 clear S1 k;rcases hj with rfl|rfl|rfl
 .cases o with
  | true =>
   walk_at"go";rename_i t1 G1 m1 T1 f1 p1 G2 m2 T2 f2 q3 dx3 G3 m3 T3 f3 q4 dx4 G4 m4 T4 f4 p5 G5 m5 T5 f5 t6 G6 m6 T6 f6 p7 G7 m7 T7 f7;have s57:=T6.trans T7;have s47:=T5.trans s57;have s37:=T4.trans s47;have s17:=T2.trans (T3.trans s37);have hd1:(aN P w K mg base (some 1)).at' G7 (.ref q3) ("strange",z,.non,λ_=>1):=sT (P:=P) (w:=w) (base:=base) m (s37 _ _ f3);have hd2:(aN P w K mg base (some 1)).at' G7 (.ref q4) ("strange","other",.non,λ_=>1):=sT (P:=P) (w:=w) (base:=base) m (s47 _ _ f4);have nnd:¬(([("strange",z,.non,λ_=>1),("strange","other",.non,λ_=>1)]:List aI).map (·.1)).Nodup:=λnd=>(eg.mp nd).1 (.head _);refine eY (rz:=[(z,1)]) (ds:=[("strange",z,.non,λ_=>1),("strange","other",.non,λ_=>1)]) (ps:=[("other",1)]) (us:=[.ref q3,.ref q4]) rfl aFm ((T3.trans s37) _ _ f2) (.cons ⟨t1,rfl,s17 _ _ f1⟩ .nil) (SqL.of (s57 _ _ f5)) (.cons (d10 hd1) (.cons (d10 hd2) .nil)) (SqL.of f7) (.cons ⟨t6,rfl,T7 _ _ f6⟩ .nil) (λd hd=>by
    rcases ba.mp hd with rfl|hd
    .exact .inl rfl
    .cases bj.mp hd;exact .inl rfl) (by show 1<=20;decide) (by show 2<=20;decide) (by show 1<=40;decide) ?_
   exact⟨λz=>by rcases z with z|z<;>lia,λ_ _ y hy=>absurd nd1 hy.not,λ_ _ _ y hy=>by obtain rfl:=aBK hy;exact(k1.r6 rfl).sm (T1.trans s17),λ_ _ _ h=>absurd h nnd,λ_ _ _ h=>absurd h nnd,λ_ _ _ h=>absurd h nnd⟩
  | false =>
   walk_at"go";rename_i t1 G1 m1 T1 f1 t2 G2 m2 T2 f2 t3 G3 m3 T3 f3 p4 G4 m4 T4 f4 q5 dx5 G5 m5 T5 f5 p6 G6 m6 T6 f6 p7 G7 m7 T7 f7;have s57:=T6.trans T7;have s47:=T5.trans s57;have s37:=T4.trans s47;have s27:=T3.trans s37;have s17:=T2.trans s27;have hd1:(aN P w K mg base (some 1)).at' G7 (.ref q5) (z,"other",.non,λ_=>1):=sT (P:=P) (w:=w) (base:=base) m (s57 _ _ f5);have nnd:¬(([("strange",1),(z,2),("strange",3)]:List (Str×Int)).map (·.1)).Nodup:=λnd=>(eg.mp nd).1 (.tail _ (.head _));refine eY (rz:=[("strange",1),(z,2),("strange",3)]) (ds:=[(z,"other",.non,λ_=>1)]) (ps:=[]) (us:=[.ref q5]) rfl aFm (s47 _ _ f4) (.cons ⟨t1,rfl,s17 _ _ f1⟩ (.cons ⟨t2,rfl,s27 _ _ f2⟩ (.cons ⟨t3,rfl,s37 _ _ f3⟩ .nil))) (SqL.of (T7 _ _ f6)) (.cons (d10 hd1) .nil) (SqL.of f7) .nil (λd hd=>by cases bj.mp hd;exact .inl rfl) (by show 3<=20;decide) (by show 1<=20;decide) (by show 0<=40;decide) ?_;exact⟨λz=>by rcases z with z|z<;>lia,λ_ _ y hy=>by obtain rfl:=TK hg.s hy;exact(k1.r6 rfl).sm (T1.trans s17),λ_ _ h=>absurd h nnd,λ_ _ h=>absurd h nnd,λ_ _ h=>absurd h nnd,λ_ _ h=>absurd h nnd⟩
 .cases o with
  | true =>
   walk_at"go";rename_i t1 G1 m1 T1 f1 p1 G2 m2 T2 f2 p3 G3 m3 T3 f3 t4 G4 m4 T4 f4 t5 G5 m5 T5 f5 p6 G6 m6 T6 f6;have s46:=T5.trans T6;have s36:=T4.trans s46;have s16:=T2.trans (T3.trans s36);refine eY (rz:=[(z,1)]) (ds:=[]) (ps:=[(z,5),("strange",n)]) (us:=[]) rfl aFm ((T3.trans s36) _ _ f2) (.cons ⟨t1,rfl,s16 _ _ f1⟩ .nil) (SqL.of (s36 _ _ f3)) .nil (SqL.of f6) (.cons ⟨t4,rfl,s46 _ _ f4⟩ (.cons ⟨t5,rfl,T6 _ _ f5⟩ .nil)) (λ_ h=>nomatch h) (by show 1<=20;decide) (by show 0<=20;decide) (by show 2<=40;decide) ?_;have nsp:¬∀y∈dJ [] [(z,5),("strange",n)],y∈([(z,1)]:List (Str×Int)).map (·.1):=λh=>hst (h "strange" (.tail _ (.head _)));exact⟨λz=>by rcases z with z|z<;>lia,λ_ _ y hy=>absurd nd1 hy.not,λ_ _ _ y hy=>absurd ij hy.not,λ_ _ _ _ y hy=>by obtain rfl:=aA7 hy;exact(k1.r7 rfl).sm (T1.trans s16),λ_ _ _ _ h=>absurd h nsp,λ_ _ _ _ h=>absurd h nsp⟩
  | false =>
   walk_at"go";exact aDQ hh hst (k1.r7 rfl)
 .cases o with
  | true =>
   walk_at"go";rename_i p1 G1 m1 T1 f1 t2 G2 m2 T2 f2 t3 G3 m3 T3 f3 t4 G4 m4 T4 f4 p5 G5 m5 T5 f5;have s35:=T4.trans T5;have s25:=T3.trans s35;have s15:=T2.trans s25;exact⟨h,p1,p5,0,4,2,_,_,_,[.ref t2,.ref t3,.ref t4],rfl,bU hh (T1.trans s15),hs1 z n,aCM hz,SqL.of (s15 _ _ f1),MR nd1 (aCN n0) (NA n0),SqL.of f5,.inr ⟨by decide,by decide,z,_,_,_,"strange",rfl,⟨t2,rfl,s25 _ _ f2⟩,.head _,⟨t3,rfl,s35 _ _ f3⟩,hst,(k1.r8 rfl).sm (T1.trans s15)⟩⟩
  | false =>
   walk_at"go";exact aFc hh hst (k1.r8 rfl)
theorem AY (m:M w K mg):FcE P w K mg base "_law_of_names" 15 ["_law_way","_law_other","_law_name","_law_number"] (kB m.bY m.bW m.b2 m.bZ m.aV m.cE m.b5 m.bN m.bE 6 9):=⟨_,_,m.DC,m.fN.F.kp,m.fN.b,AB m⟩
theorem EM (m:M w K mg):aP P w K mg base (CXC P w) 16 m.oG m.iS.d ["_law_way","_law_other","_law_name","_law_number"] (kB m.bY m.bW m.b2 m.bZ m.aV m.cE m.b5 m.bN m.bE 0 9):=by
 refine m.iS.F.okQ aGe ?_ ?_;walk_at"w0";walk_at"w1";obtain⟨j,o,z,n,rfl,j0,j9,hg,n0,n1,k⟩:=h;walk_at"g2";have nd:=aGe.nd;walk_at"hu";have aGR:= @AY P w K mg base m;have aGF:= @wY P w K mg base m;have aGP:= @z9 P w K mg base m;refine⟨_,(aC (a9 (aT fM (pv 0) aF (aX _)) (aD (aM (cB aGF hr nG (aA (pv 0) (aA (pv 1) (aA (pv 2) (aA (pv 3) aB))))))) aQ)
  (aC (a9 (aT fM (pv 0) aF (aX _)) (aD (aM (HW aGP hr uZ (aA (pv 0) (aA (pv 1) (aA (pv 2) (aA (pv 3) aB))))))) aQ)
  (aD (aM (cB aGR hr nG (aA (pv 0) (aA (pv 1) (aA (pv 2) (aA (pv 3) aB))))))))),?_⟩
 refine aG (σ:=[some (.int j),some (.bl o),some (.str z),some (.int n)]) rfl ?_;walk_at"cx"
 by_cases c1:j<4
 .walk_at"go";exact⟨j,o,z,n,rfl,j0,c1,hg,n0,n1,k⟩
 by_cases c2:j<6
 .walk_at"go";exact⟨j,o,z,n,rfl,by lia,c2,hg,n0,n1,k⟩
 walk_at"go";exact⟨j,o,z,n,rfl,by lia,j9,hg,n0,n1,k⟩
theorem EJ (m:M w K mg):FcQ P w K mg base "_law_raised" 16 ["_law_way","_law_other","_law_name","_law_number"] (kB m.bY m.bW m.b2 m.bZ m.aV m.cE m.b5 m.bN m.bE 0 9):=⟨_,_,m.HU,m.iS.F.kp,m.iS.b,EM m⟩
theorem aBD {K:W.Frag}{Q:VK}{D:Addr}{b:Bool}(e:H a=some (.ext φ))(f:∀h,φ h->rN a C h)(k:ExcK K C)(i:W.kitOne K (.ref C) (.ref D)=some b)(h:Q (.bl b) H):W3 K [.ref a,.ref D] H Q:=⟨a,C,.ref D,D,b,rfl,⟨_,e,f⟩,k,⟨rfl,i⟩,h⟩
theorem YJ {K:W.Frag}{Q:VK}{n:String}{b:Bool}(e:H a=some (.ext φ))(f:∀h,φ h->rN a C h)(k:ExcK K C)(i:W.kitOne K (.ref C) (.type n)=some b)(h:Q (.bl b) H):ON K [.ref a,.ty n] H Q:=⟨a,C,n,b,rfl,⟨_,e,f⟩,k,i,h⟩
local macro_rules| `(tactic| walk_at"rd1")=> `(tactic| first|((with_reducible refine' aBD ?e ?f ?k ?i ?_);(case e=>walk_at"hp");(case f=>assumption);(case k=>assumption);(case i=>assumption))|((with_reducible refine' YJ ?e ?f ?k ?i ?_);(case e=>walk_at"hp");(case f=>assumption);(case k=>assumption);(case i=>assumption)))
def XQ (K:W.Frag)(C:Addr)(nm:Option Str)(H:Hp)(ea:Addr):Prop:=∃φ,H ea=some (.ext φ)/\(∀h,φ h->rN ea C h)/\∀z,nm=some z->∃dx,φ=ExcQ ea C dx/\H dx=some (.xd [("name",.str z)])/\pX K C/\NoAttr K C "name"
inductive AU (vs:List V)(H:Hp)(Q:VK)(E:XK):Prop
 | mk (j:Int) (o:Bool) (z:Str) (n:Int) (_:vs=[.int j,.bl o,.str z,.int n]) (_:0<=j) (_:j<9) (_:NmG z) (_:0<=n) (_:n<100000000000) (_:∀H',Same H H'->Q (.bl true) H'):AU vs H Q E
theorem YQ {t:TS}{D:d6}(P:St->Hp->Prop)(h1:∀σ' G,P σ' G->D.nx σ' G)(h2:∀D':d6,(∀σ' G,P σ' G->D'.nx σ' G)->t D' σ H):t D σ H:=h2 D h1
def X5 (j:Nat):List V:=[.bl (decide (j=0)),.bl (decide (j=1)),.bl (decide (j=2)),.bl (decide (j=3))]++[.bl (decide (j=4)),.bl (decide (j=5)),.bl (decide (j=6)),.bl (decide (j=7))]++[.bl (decide (j=8)),.bl (!true)]
theorem aDL {j:Nat}{i:Int}(h:(j:Int)=i)(hj:j<9):X5 j=(fz 10).map λk:Nat=>V.bl (decide ((k:Int)=i)):=by
 have e:∀k:Nat,decide ((k:Int)=i)=decide (j=k):=λk=>decide_eq_decide.mpr ⟨λz=>by lia,λz=>by lia⟩;have e9:decide (j=9)=false:=decide_eq_false (by lia);rw[se (g:=λk:Nat=>V.bl (decide (j=k))) λk _=>by rw[e k]];show X5 j=[.bl (decide (j=0)),.bl (decide (j=1)),.bl (decide (j=2)),.bl (decide (j=3)),.bl (decide (j=4)),.bl (decide (j=5)),.bl (decide (j=6)),.bl (decide (j=7)),.bl (decide (j=8)),.bl (decide (j=9))];rw[e9];rfl
theorem aBv (g:α->Bool)(l:List α):(l.map λd=>V.bl (g d)).all yJ=true:=by
 induction l with
 | nil=>rfl
 | cons a l ih=>exact ih
theorem GY (m:M w K mg):aP P w K mg base CX0 18 m.qU m.kZ.d ["_law_way","_law_other","_law_name","_law_number"] (AU):=by
 refine m.kZ.F.ok aGt ?_ ?_;walk_at"w0";walk_at"w1";obtain⟨j,o,z,n,rfl,j0,j9,hg,n0,n1,k⟩:=h;walk_at"g2";have nd:=aGt.nd;walk_at"hu";have aGZ:= @EJ P w K mg base m;refine⟨_,(aC (bD (i:=4) nd rfl (by walk_at"oi") (bJ aB))
  (aC (bD (i:=5) nd rfl (by walk_at"oi") qJ)
  (aC (N1 (i:=6) nd rfl rfl rfl rfl m.C8 (US aGZ hr (aA (pv 0) (aA (pv 1) (aA (pv 2) (aA (pv 3) aB))))) (λea=>(aC (bD (i:=4) nd rfl (by walk_at"oi") (bJ (aA (bH (cW K rfl) rfl m.bL bF (aA (pv 6) (aA (dM rfl m.BG) aB))) (aA (bH (cW K rfl) rfl m.bL bF (aA (pv 6) (aA (dM rfl m.rV) aB))) (aA (bH (cW K rfl) rfl m.bL bF (aA (pv 6) (aA (dM rfl m.LH) aB))) (aA (bH (cW K rfl) rfl m.bL bF (aA (pv 6) (aA (dM rfl m.vC) aB))) aB))))))
  (aC (bD (i:=4) nd rfl (by walk_at"oi") (bR qB (pv 4) (bJ (aA (bH (cW K rfl) rfl m.bL bF (aA (pv 6) (aA (dM rfl m.fD) aB))) (aA (bH (cW K rfl) rfl m.bL bF (aA (pv 6) (aA (dM rfl m.OA) aB))) (aA (bH (cW K rfl) rfl m.bL bF (aA (pv 6) (aA (dM rfl m.yT) aB))) (aA (bH (cW K rfl) rfl m.bL bF (aA (pv 6) (aA (dM rfl m.A9) aB))) aB)))))))
  (aC (bD (i:=4) nd rfl (by walk_at"oi") (bR qB (pv 4) (bJ (aA (bH (cW K rfl) rfl m.bL bF (aA (pv 6) (aA (dM rfl m.xN) aB))) (aA (BY (bH (OU K rfl) rfl m.bL bF (aA (pv 6) (aA (yM rfl m.K9 HK) aB)))) aB)))))
  (aD (a9 (PW.pt (rJ (cA (bH (cW K rfl) rfl m.bL bF (aA (pv 6) (aA (dM rfl m.yT) aB)))) (rJ (cA (bH (cW K rfl) rfl m.bL bF (aA (pv 6) (aA (dM rfl m.A9) aB)))) (qC (cA (bH (cW K rfl) rfl m.bL bF (aA (pv 6) (aA (dM rfl m.xN) aB)))))))) (aD (bD (i:=5) nd rfl (by walk_at"oi") (aCW K rfl (pv 6) rfl))) aQ)))))))
  (aC (a9 (aT (aCK hu9) (pv 4) (dA (N:=["_law_k","_law_way"]) (nl:=1) (ci:=[0]) rfl (blk (s.heap.objs.size+1) rfl rfl rfl (by kernel_rfl)) (GA rfl m.FB (aA aF aB)) (λ_ _ _ _=>(aS (i:=0) (show (["_law_k","_law_way"]:List Str).Nodup by decide +kernel) rfl (by walk_at"oi"))) (λ_ _ _ _=>dR) (λ_ _ _ _=>(jQ cN (pv 0) (pv 1) (aX _)))) (aX _)) (aD (aM xZ)) aQ)
  (aC (a9 (aT fM (pv 0) aF (aX _)) (aD (aM (jQ JM (pv 5) qJ (aX _)))) aQ)
  (aD (aM (JE (bH qG rfl m.bL bF (aA (pv 5) (aA (yM rfl m.yU sZ) aB))) (BX (jQ cN (pv 5) aL (aX _))))))))))),?_⟩
 refine aG (σ:=[some (.int j),some (.bl o),some (.str z),some (.int n),none,none,none]) rfl ?_;walk_at"cx";walk_at"go";rename_i p0 H0 m0 S0 e0;refine YQ (λσ' G=>Same H0 G/\∃(jn:Nat) (pk:Addr) (v:V),(jn:Int)=j/\jn<9/\G pk=some (.lst (X5 jn))/\((jn<6/\v= .non)∨(6<=jn/\v= .str "strange"))/\σ'=[some (.int j),some (.bl o),some (.str z),some (.int n),some (.ref pk),some v,none]) ?_ ?_
 .rintro _ G hq_;walk_at"g1";obtain⟨sG,jn,pk,v,hjn,jl,ek,hv,rfl⟩:=hq_;walk_at"g2";walk_at"go";refine W5 (λi=> .bl (decide ((i:Int)=j))) (by show 10<=sizeLine;decide) (rest:=[some (.int j)]) (by rfl) ?_ ?_
  .intro i H1 hi s1 R hR;rw[Int.zero_add];walk_at"go";exact hR _ (Same.refl _)
  intro H1 s1;walk_at"go";rename_i pr H2 m2 S2 e2;have ek2:H2 pk=some (.lst ((fz (Int.toNat 10)).map λi:Nat=>V.bl (decide ((i:Int)=j)))):=by
   rw[show Int.toNat 10=10 from rfl,←aDL hjn jl];exact(s1.trans S2) _ _ ek
  refine WR (SqL.of ek2) (SqL.of e2) (CH (aBv _ _)) ?_;have kk:=k _ (S0.trans (sG.trans (s1.trans S2)));walk_at"go";rcases hv with⟨c,rfl⟩|⟨c,rfl⟩
  .have c':j<6:=by lia
   walk_at"go";exact kk
  .have c':¬j<6:=by lia
   walk_at"go";rw[show decide (("strange" :Str)= "strange")=true from decide_eq_true rfl];exact kk
 intro D' hnx;unfold OK;walk_at"go";generalize hR:OS _ _ _ _ _ _=R;have main:∀(C:Addr) (jn:Nat) (nm:Option Str) (dd:Option Addr) (H2:Hp),W.exmOne K (.ref C) (.ref m.cU)=some true->ExcK K C->[m.bY,m.bW,m.b2,m.bZ,m.aV,m.cE,m.b5,m.bN,m.bE][jn]? =some C->(jn:Int)=j->Same H0 H2->((jn<6/\nm=none/\dd=none)∨∃dx,6<=jn/\nm=some ("strange" :Str)/\dd=some dx/\H2 dx=some (.xd [("name",.str "strange")])/\pX K C/\NoAttr K C "name")->R (.ref C) dd H2:=by
  intro C jn nm dd H2 hex ek hC hjn s2 hd;subst hR;refine⟨C,rfl,hex,λea hn=> ?_⟩;have sG:Same H2 (upd H2 ea (mO ea C dd)):=lU hn;have hX:XQ K C nm (upd H2 ea (mO ea C dd)) ea:=by
   rcases hd with⟨_,rfl,rfl⟩|⟨dx,_,rfl,rfl,h3,h4,h5⟩
   .exact⟨_,aU,λ_ q=>q,λz hz=>nomatch hz⟩
   .exact⟨_,aU,λ_ q=>q.at,λz' hz=>by cases hz;exact⟨dx,rfl,sG _ _ h3,h4,h5⟩⟩
  have hcs:(jn<6/\nm=none)∨(6<=jn/\nm=some ("strange" :Str)):=hd.imp (λh=>⟨h.1,h.2.1⟩) λ⟨_,h1,h2,_⟩=>⟨h1,h2⟩
  generalize upd H2 ea (mO ea C dd)=G at sG hX;walk_at"g1";obtain⟨φ,he,hf,hnm⟩:=hX;walk_at"g2";have jl:jn<9:=(ay.mp hC).1;have iv:=ixAll.ve m.ixA hC;have i0:=ixAll.at m.ixA hC (j:=0) rfl;have i1:=ixAll.at m.ixA hC (j:=1) rfl;have i2:=ixAll.at m.ixA hC (j:=2) rfl;have i3:=ixAll.at m.ixA hC (j:=3) rfl;have i4:=ixAll.at m.ixA hC (j:=4) rfl;have i5:=ixAll.at m.ixA hC (j:=5) rfl;have i6:=ixAll.at m.ixA hC (j:=6) rfl;have i7:=ixAll.at m.ixA hC (j:=7) rfl;have i8:=ixAll.at m.ixA hC (j:=8) rfl;clear hC;clear hd
  try dsimp only[List.set]
  walk_at"go";rename_i p1 G1 m1 T1 f1 p2 G2 m2 T2 f2 p3 G3 m3 T3 f3 p4 G4 m4 T4 f4 p5 G5 m5 T5 f5;have sG5:Same G G5:=T1.trans (T2.trans (T3.trans (T4.trans T5)));have s05:Same H0 G5:=s2.trans (sG.trans sG5);have he5:=sG5 _ _ he;rcases hcs with⟨c,rfl⟩|⟨c,rfl⟩
  .rw[if_neg (λz=>by have:=of_decide_eq_true z;lia)];walk_at"go";exact hnx _ _ ⟨s05,jn,p5,.non,hjn,jl,f5,.inl ⟨c,rfl⟩,rfl⟩
  .walk_at"g1";obtain⟨dx,rfl,hdx,xf,na⟩:=hnm _ rfl;walk_at"g2";have hdx5:=sG5 _ _ hdx;have fin:∀v,v=V.str "strange" ->D'.nx [some (.int j),some (.bl o),some (.str z),some (.int n),some (.ref p5),some v,none] G5:=λv hv=>hnx _ _ ⟨s05,jn,p5,v,hjn,jl,f5,.inr ⟨c,hv⟩,rfl⟩
   by_cases h6:jn=6
   .rw[if_pos (decide_eq_true h6)];walk_at"go";refine JZ rfl he5 hdx5 xf na rfl ?_;walk_at"go";exact fin _ rfl
   rw[if_neg (λz=>h6 (of_decide_eq_true z))];walk_at"go"
   by_cases h7:jn=7
   .rw[if_pos (decide_eq_true h7)];walk_at"go";refine JZ rfl he5 hdx5 xf na rfl ?_;walk_at"go";exact fin _ rfl
   rw[if_neg (λz=>h7 (of_decide_eq_true z))];walk_at"go";refine JZ rfl he5 hdx5 xf na rfl ?_;walk_at"go";exact fin _ rfl
 clear hR;refine⟨j,o,z,n,rfl,j0,j9,hg,n0,n1,?_⟩;refine⟨λe H2 s2=> ?_,λe H2 s2=> ?_,λe H2 s2=> ?_,λe H2 s2=> ?_,λe H2 s2=> ?_,λe H2 s2=> ?_,λe H2 dx s2 ed=> ?_,λe H2 dx s2 ed=> ?_,λe H2 dx s2 ed=> ?_⟩
 .exact main m.bY 0 none none H2 m.xE m.VZ rfl e.symm s2 (.inl ⟨by decide,rfl,rfl⟩)
 .exact main m.bW 1 none none H2 m.vX m.R1 rfl e.symm s2 (.inl ⟨by decide,rfl,rfl⟩)
 .exact main m.b2 2 none none H2 m.xJ m.VV rfl e.symm s2 (.inl ⟨by decide,rfl,rfl⟩)
 .exact main m.bZ 3 none none H2 m.xM m.V1 rfl e.symm s2 (.inl ⟨by decide,rfl,rfl⟩)
 .exact main m.aV 4 none none H2 m.xS m.GE rfl e.symm s2 (.inl ⟨by decide,rfl,rfl⟩)
 .exact main m.cE 5 none none H2 m.zB m.Y8 rfl e.symm s2 (.inl ⟨by decide,rfl,rfl⟩)
 .exact main m.b5 6 _ _ H2 m.oQ m.BB.k rfl e.symm s2 (.inr ⟨dx,by decide,rfl,rfl,ed,m.BB,m.LK⟩)
 .exact main m.bN 7 _ _ H2 m.xP m.xT.k rfl e.symm s2 (.inr ⟨dx,by decide,rfl,rfl,ed,m.xT,m.GG⟩)
 .exact main m.bE 8 _ _ H2 m.vW m.vA.k rfl e.symm s2 (.inr ⟨dx,by decide,rfl,rfl,ed,m.vA,m.DB⟩)
theorem GN (m:M w K mg):Fc P w K mg base "_law_right" 18 ["_law_way","_law_other","_law_name","_law_number"] (AU):=⟨_,_,m.K7,m.kZ.F.kp,m.kZ.b,GY m⟩
theorem aA9 {K:W.Frag}{A B:Addr}(h1:W.kitOne K (.ref C) (.ref A)=some false)(h2:W.kitOne K (.ref C) (.ref B)=some false):W.kitAny K (.ref C) (([A,B]:List Addr).map av)=some false:=by
 show (match W.kitOne K (.ref C) (.ref A) with|some true=>some true|some false=>W.kitAny K (.ref C) [.ref B]|none=>none)=_;rw[h1];show (match W.kitOne K (.ref C) (.ref B) with|some true=>some true|some false=>W.kitAny K (.ref C) []|none=>none)=_;rw[h2];rfl
inductive Q2 (vs:List V)(H:Hp)(Q:VK)(E:XK):Prop
 | mk (z:Str) (_:vs=[.str z]) (_:NmG z) (_:∀H',Same H H'->Q (.bl true) H'):Q2 vs H Q E
theorem wK (m:M w K mg):aP P w K mg base CX0 12 m.iA m.d9.d ["_law_name"] (Q2):=by
 refine m.d9.F.ok aFH ?_ ?_;walk_at"w0";walk_at"w1";obtain⟨z,rfl,hg,k⟩:=h;walk_at"g2";have nd:=aFH.nd;walk_at"hu";have aHb:= @GP P w K mg base m;refine⟨_,(aC (N1 (i:=1) nd rfl rfl rfl rfl m.fD (US aHb hr (aA (bR fH (bR fH (bR fH (bR fH aL (pv 0)) aL) (pv 0)) aL) aB)) (λea=>(aD (aM (BY (bH (VO K rfl) rfl m.bL bF (aA (pv 1) (aA (bI (aA (dM rfl m.yT) (aA (dM rfl m.rV) aB))) aB))))))))
  (aD (aM xZ))),?_⟩
 refine aG (σ:=[some (.str z),none]) rfl ?_;walk_at"cx";have hzl:=hg.len;walk_at"go";unfold OK;walk_at"go";refine⟨_,tR z,z,rfl,bo hg.t4 (by decide),hg.t1,hg.t2,hg.nm,hg.t3,λH2 s2=>⟨m.aV,rfl,m.jH,λea hn=> ?_⟩⟩;have he:(upd H2 ea (mO ea m.aV none)) ea=some (.ext (rN ea m.aV)):=aU;have sG:Same H2 (upd H2 ea (mO ea m.aV none)):=lU hn;generalize upd H2 ea (mO ea m.aV none)=G at he sG
 try dsimp only[List.set]
 walk_at"go";rename_i tp G1 m1 T1 f1;refine⟨ea,tp,m.aV,[m.b5,m.bW],false,rfl,⟨_,T1 _ _ he,λ_ q=>q⟩,m.GE,f1,aA9 (ixAll.at m.ixA (i:=4) (j:=6) rfl rfl) (ixAll.at m.ixA (i:=4) (j:=1) rfl rfl),?_⟩;walk_at"go";exact k _ (s2.trans (sG.trans T1))
theorem v6 (m:M w K mg):Fc P w K mg base "_law_house_text" 12 ["_law_name"] (Q2):=⟨_,_,m.zE,m.d9.F.kp,m.d9.b,wK m⟩
inductive wV (K:W.Frag)(vs:List V)(H:Hp)(Q:VK)(E:XK):Prop
 | mk (a:Addr) (ns:List Int) (_:vs=[.ref a]) (_:SqL K H a (ns.map V.int)) (_:ns.length<=63) (_:∀H',Q (.bl true) H'):wV K vs H Q E
theorem YG {c:Int}:xw "abcdefgh" none (some (1+c%7))∈nmL:=by
 have h:c%7=0∨c%7=1∨c%7=2∨c%7=3∨c%7=4∨c%7=5∨c%7=6:=by lia
 rcases h with h|h|h|h|h|h|h<;>rw[h]<;>decide +kernel
theorem aDS (m:M w K mg):aP P w K mg base CX0 20 m.RU m.RZ ["_law_script"] (wV K):=by
 refine m.aEW.ok aHn ?_ ?_;walk_at"w0";walk_at"w1";obtain⟨a,ns,rfl,hS,hlen,k⟩:=h;walk_at"g2";have nd:=aHn.nd;walk_at"hu";have aGi:= @BO P w K mg base m;have aGG:= @v6 P w K mg base m;have aG9:= @GN P w K mg base m;refine⟨_,(aC (bD (i:=1) nd rfl (by walk_at"oi") (cG aGi hr (aA (pv 0) (aA aF aB))))
  (aC (bD (i:=2) nd rfl (by walk_at"oi") (uG aD1 aL xV (yL (bR eN aF (bR BL (pv 1) aF)))))
  (aC (bD (i:=3) nd rfl (by walk_at"oi") (bR BL (bR MZ (pv 1) aF) (dB gH (bJ (aA aF (aA (aBC 100000000000 (by decide) ⟨by decide,by decide,by decide⟩) aB))) (bR BL (bR MZ (pv 1) aF) aF) (λ_ _=>rfl))))
  (aC (dS gy rfl (GA rfl m.FB (aA aF aB)) (aS (i:=4) nd rfl (by walk_at"oi")) (aD (a9 (eK (cA (cG aG9 hr (aA (pv 4) (aA (jQ cN (bR BL (cG aGi hr (aA (pv 0) (aA (bR eN aF (pv 4)) aB))) aF) aF (aX _)) (aA (pv 2) (aA (pv 3) aB))))))) (aD (aM xZ)) aQ)))
  (aD (aM (cG aGG hr (aA (pv 2) aB)))))))),?_⟩
 refine aG (σ:=[some (.ref a),none,none,none,none]) rfl ?_;walk_at"cx";walk_at"go";rename_i hl1 p1 H1 m1 S1 e1 v hv h0 h1;have hsl:=YG (c:=jX ns 0);generalize xw "abcdefgh" none (some (1+jX ns 0%7))=z at hsl hl1 ⊢;have hg:=nmG hsl;have n1:jX ns 0/7%v<100000000000:=by rcases hv with⟨_,rfl⟩|⟨_,rfl⟩<;>lia
 generalize jX ns 0/7%v=n at h0 h1 n1 ⊢;have hS1:=S1.seq hS;let Pv1:Nat->St->Hp->Prop:=λi σ' G=>Same H1 G/\∃x,σ'=[some (.ref a),some (.int (jX ns 0)),some (.str z),some (.int n),x];refine MO Pv1 ⟨Same.refl _,_,rfl⟩ ?_ ?_
 .rintro i _ G hi ⟨sG,x,rfl⟩;have hSG:=sG.seq hS1;have hi':i<9:=hi;walk_at"go";refine⟨_,_,z,n,rfl,by lia,by lia,hg,h0,n1,λG1 s1=> ?_⟩;walk_at"go";exact⟨sG.trans s1,_,rfl⟩
 rintro _ G ⟨sG,x,rfl⟩;walk_at"go";exact⟨z,rfl,hg,λG1 _=>k _⟩
end
theorem all_mk {l:W.OpenLaw}{h:Heap}{fa:Addr}(X:K.In h)(G:h.Ns ah mg)(hfa:mg "law" =some (.ref fa))
  {f0:Addr}
  {f1:Addr}
  {f2:Addr}
  {f3:Addr}
  {f4:Addr}
  {f5:Addr}
  {f6:Addr}
  {f7:Addr}
  {f8:Addr}
  {f9:Addr}
  {f10:Addr}
  {f11:Addr}
  {f12:Addr}
  {f13:Addr}
  {f14:Addr}
  {f15:Addr}
  {f16:Addr}
  {f17:Addr}
  {f18:Addr}
  {f19:Addr}
  {f20:Addr}
  {f21:Addr}
  {f22:Addr}
  {f23:Addr}
  {f24:Addr}
  {f25:Addr}
  {f26:Addr}
  {f27:Addr}
  {f28:Addr}
  {f29:Addr}
  {f30:Addr}
  {f31:Addr}
  {f32:Addr}
  {f33:Addr}
  {f34:Addr}
  {f35:Addr}
  {f36:Addr}
  {f37:Addr}
  {f38:Addr}
  {f39:Addr}
  {f40:Addr}
  {f41:Addr}
  {f42:Addr}
  {f43:Addr}
  {f44:Addr}
  {f45:Addr}
  {f46:Addr}
  {f47:Addr}
  {C48:Addr}
  {C49:Addr}
  {C50:Addr}
  {C51:Addr}
  {C52:Addr}
  {C53:Addr}
  {C54:Addr}
  {C55:Addr}
  {C56:Addr}
  {C57:Addr}
  {C58:Addr}
  {C59:Addr}
  {C60:Addr}
  {C61:Addr}
  {C62:Addr}
  {C63:Addr}
  {C64:Addr}
  {C65:Addr}
  {C66:Addr}
  {f67:Addr}
  {f68:Addr}
  {f69:Addr}
  {f70:Addr}
  {f71:Addr}
  {f72:Addr}
  {f73:Addr}
  {f74:Addr}
  {f75:Addr}
  {f76:Addr}
  {f77:Addr}
  {f78:Addr}
  {f79:Addr}
  {f80:Addr}
  {f81:Addr}
  {f82:Addr}
  {f83:Addr}
  {f84:Addr}
  {f85:Addr}
  {f86:Addr}
  {f87:Addr}
  {zaa zab:Option Addr}{zac:Array (Option af)}{zad zae zaf zag zah zai:af}
  {T97:Addr}
  {zaj:af}{zak:Option Addr}{zal:Nat}{zam:Array (Option af)}
  {zan zao:Option Addr}{zap:Array (Option af)}{zaq zar zas zat zau zav:af}
  {zaw zax:Option Addr}{zay:Array (Option af)}{zaz zba zbb zbc zbd zbe:af}
  {zbf:Addr}
  {zbg:Tok}
  {zbh:af}{zbi:Option Addr}{zbj:Nat}{zbk:Array (Option af)}
  {zbl zbm:Option Addr}{zbn:Array (Option af)}{zbo zbp zbq zbr zbs zbt:af}
  {zbu:Addr}
  {zbv:Tok}
  {zbw:af}{zbx:Option Addr}{zby:Nat}{zbz:Array (Option af)}
  {zca:Tok}
  {zcb:Tok}
  {zcc:Addr}{zcd:Nat}{zce zcf zcg zch zci zcj zck zcl zcm zcn zco:Int}{zcp zcq zcr zcs zct zcu zcv zcw zcx zcy zcz:Tok}{zda zdb zdc zdd zde zdf zdg zdh zdi zdj zdk:Addr}
  (y0:W.nsIn K ah "is_whole" =some (some (.ref f0)))
  (y1:W.nsIn K ah "is_name" =some (some (.ref f1)))
  (y2:W.nsIn K ah "need_name" =some (some (.ref f2)))
  (y3:W.nsIn K ah "need_whole" =some (some (.ref f3)))
  (y4:W.nsIn K ah "need_turns" =some (some (.ref f4)))
  (y5:W.nsIn K ah "need_each_once" =some (some (.ref f5)))
  (y6:W.nsIn K ah "rooms_spoken_of" =some (some (.ref f6)))
  (y7:W.nsIn K ah "need_rooms" =some (some (.ref f7)))
  (y8:W.nsIn K ah "added_people" =some (some (.ref f8)))
  (y9:W.nsIn K ah "need_space" =some (some (.ref f9)))
  (y10:W.nsIn K ah "added_up" =some (some (.ref f10)))
  (y11:W.nsIn K ah "rows_that_count" =some (some (.ref f11)))
  (y12:W.nsIn K ah "leaving" =some (some (.ref f12)))
  (y13:W.nsIn K ah "coming" =some (some (.ref f13)))
  (y14:W.nsIn K ah "there" =some (some (.ref f14)))
  (y15:W.nsIn K ah "most_through" =some (some (.ref f15)))
  (y16:W.nsIn K ah "door_faults" =some (some (.ref f16)))
  (y17:W.nsIn K ah "leave_faults" =some (some (.ref f17)))
  (y18:W.nsIn K ah "full_faults" =some (some (.ref f18)))
  (y19:W.nsIn K ah "faults" =some (some (.ref f19)))
  (y20:W.nsIn K ah "need_lawful" =some (some (.ref f20)))
  (y21:W.nsIn K ah "place_of" =some (some (.ref f21)))
  (y22:W.nsIn K ah "changed_door" =some (some (.ref f22)))
  (y23:W.nsIn K ah "doors_after" =some (some (.ref f23)))
  (y24:W.nsIn K ah "anew" =some (some (.ref f24)))
  (y25:W.nsIn K ah "need_text" =some (some (.ref f25)))
  (y26:W.nsIn K ah "is_written_whole" =some (some (.ref f26)))
  (y27:W.nsIn K ah "read_whole" =some (some (.ref f27)))
  (y28:W.nsIn K ah "read_name" =some (some (.ref f28)))
  (y29:W.nsIn K ah "read_part" =some (some (.ref f29)))
  (y30:W.nsIn K ah "read_parts" =some (some (.ref f30)))
  (y31:W.nsIn K ah "parts_behind" =some (some (.ref f31)))
  (y32:W.nsIn K ah "made_house" =some (some (.ref f32)))
  (y33:W.nsIn K ah "house_of_rows" =some (some (.ref f33)))
  (y34:W.nsIn K ah "read_house" =some (some (.ref f34)))
  (y35:W.nsIn K ah "read_plan" =some (some (.ref f35)))
  (y36:W.nsIn K ah "order_of" =some (some (.ref f36)))
  (y37:W.nsIn K ah "read_order" =some (some (.ref f37)))
  (y38:W.nsIn K ah "walks" =some (some (.ref f38)))
  (y39:W.nsIn K ah "_law_cell_at" =some (some (.ref f39)))
  (y40:W.nsIn K ah "_law_house" =some (some (.ref f40)))
  (y41:W.nsIn K ah "_law_of_numbers" =some (some (.ref f41)))
  (y42:W.nsIn K ah "_law_of_texts" =some (some (.ref f42)))
  (y43:W.nsIn K ah "_law_of_names" =some (some (.ref f43)))
  (y44:W.nsIn K ah "_law_raised" =some (some (.ref f44)))
  (y45:W.nsIn K ah "_law_right" =some (some (.ref f45)))
  (y46:W.nsIn K ah "_law_house_text" =some (some (.ref f46)))
  (y47:W.nsIn K ah "law" =some (some (.ref f47)))
  (y48:W.nsIn K ah "Door" =some (some (.ref C48)))
  (y49:W.nsIn K ah "Since" =some (some (.ref C49)))
  (y50:W.nsIn K ah "Until" =some (some (.ref C50)))
  (y51:W.nsIn K ah "Beat" =some (some (.ref C51)))
  (y52:W.nsIn K ah "Marked" =some (some (.ref C52)))
  (y53:W.nsIn K ah "Shut" =some (some (.ref C53)))
  (y54:W.nsIn K ah "Wider" =some (some (.ref C54)))
  (y55:W.nsIn K ah "House" =some (some (.ref C55)))
  (y56:W.nsIn K ah "Desk" =some (some (.ref C56)))
  (y57:W.nsIn K ah "OutError" =some (some (.ref C57)))
  (y58:W.nsIn K ah "NoDoor" =some (some (.ref C58)))
  (y59:W.nsIn K ah "NoHouse" =some (some (.ref C59)))
  (y60:W.nsIn K ah "NoPlan" =some (some (.ref C60)))
  (y61:W.nsIn K ah "NoTurn" =some (some (.ref C61)))
  (y62:W.nsIn K ah "NoText" =some (some (.ref C62)))
  (y63:W.nsIn K ah "NoRow" =some (some (.ref C63)))
  (y64:W.nsIn K ah "Twice" =some (some (.ref C64)))
  (y65:W.nsIn K ah "NoRoom" =some (some (.ref C65)))
  (y66:W.nsIn K ah "Unknown" =some (some (.ref C66)))
  (y67:Mk K C48 f70)
  (y68:Mk K C53 f73)
  (y69:Mk K C54 f74)
  (y70:Mk K C55 f75)
  (y71:Mk K C56 f86)
  (y72:Meth K C48 "lets" f71)
  (y73:Meth K C48 "is_exit" f72)
  (y74:Meth K C49 "is_exit" f72)
  (y75:Meth K C50 "is_exit" f72)
  (y76:Meth K C51 "is_exit" f72)
  (y77:Meth K C52 "is_exit" f72)
  (y78:Meth K C53 "is_exit" f72)
  (y79:Meth K C54 "is_exit" f72)
  (y80:Meth K C55 "rooms" f76)
  (y81:Meth K C55 "doors" f77)
  (y82:Meth K C55 "need_room" f78)
  (y83:Meth K C55 "holds" f79)
  (y84:Meth K C55 "found" f80)
  (y85:Meth K C55 "into" f81)
  (y86:Meth K C55 "from_room" f82)
  (y87:Meth K C55 "door" f83)
  (y88:Meth K C55 "lets" f84)
  (y89:Meth K C55 "pairs" f85)
  (y90:Meth K C56 "say" f87)
  (y91:W.findIn K (.ref C64) "__init__" =some (some (.ref f67)))
  (y92:W.findIn K (.ref C65) "__init__" =some (some (.ref f68)))
  (y93:W.findIn K (.ref C66) "__init__" =some (some (.ref f69)))
  (y94:FnL K "is_whole" "is_whole" tT f0)
  (y95:FnL K "is_name" "is_name" wT f1)
  (y96:FnL K "need_name" "need_name" sL f2)
  (y97:FnL K "need_whole" "need_whole" pK f3)
  (y98:FnL K "need_turns" "need_turns" qK f4)
  (y99:FnL K "need_each_once" "need_each_once" i9 f5)
  (zdl:FnL K "rooms_spoken_of" "rooms_spoken_of" g6 f6)
  (zdm:FnL K "need_rooms" "need_rooms" pJ f7)
  (zdn:FnL K "added_people" "added_people" lK f8)
  (zdo:FnL K "need_space" "need_space" qH f9)
  (zdp:FnL K "added_up" "added_up" uJ f10)
  (zdq:FnL K "rows_that_count" "rows_that_count" g0 f11)
  (zdr:FnL K "leaving" "leaving" wD f12)
  (zds:FnL K "coming" "coming" AS f13)
  (zdt:FnL K "there" "there" EL f14)
  (zdu:FnL K "most_through" "most_through" l7 f15)
  (zdv:FnL K "door_faults" "door_faults" nS f16)
  (zdw:FnL K "leave_faults" "leave_faults" lV f17)
  (zdx:FnL K "full_faults" "full_faults" nQ f18)
  (zdy:FnL K "faults" "faults" AF f19)
  (zdz:FnL K "need_lawful" "need_lawful" nO f20)
  (zea:FnL K "place_of" "place_of" uC f21)
  (zeb:FnL K "changed_door" "changed_door" lJ f22)
  (zec:FnL K "doors_after" "doors_after" nU f23)
  (zed:K.lookup f24=some ⟨zad,zaa,.func (W.fnOf "anew" "anew" (dP wB) (cZ wB) (aE wB) (.ref T97) zae zaf zag zab zah zai),zac⟩)
  (zee:W.codeIn K zah "anew" =true)
  (zef:W.keepIn K (.ref f24)=true)
  (zeg:K.lookup T97=some ⟨zaj,zak,.seq #[.none] zal,zam⟩)
  (zeh:FnL K "need_text" "need_text" rY f25)
  (zei:FnL K "is_written_whole" "is_written_whole" fT f26)
  (zej:FnL K "read_whole" "read_whole" qE f27)
  (zek:FnL K "read_name" "read_name" sI f28)
  (zel:FnL K "read_part" "read_part" sJ f29)
  (zem:FnL K "read_parts" "read_parts" qA f30)
  (zen:FnL K "parts_behind" "parts_behind" lI f31)
  (zeo:FnL K "made_house" "made_house" pV f32)
  (zep:FnL K "house_of_rows" "house_of_rows" kI f33)
  (zeq:FnL K "read_house" "read_house" p9 f34)
  (zer:FnL K "read_plan" "read_plan" rZ f35)
  (zes:FnL K "order_of" "order_of" uY f36)
  (zet:FnL K "read_order" "read_order" qF f37)
  (zeu:FnL K "walks" "walks" ER f38)
  (zev:FnL K "_law_cell_at" "_law_cell_at" l6 f39)
  (zew:FnL K "_law_house" "_law_house" qD f40)
  (zex:FnL K "_law_of_numbers" "_law_of_numbers" gW f41)
  (zey:FnL K "_law_of_texts" "_law_of_texts" j1 f42)
  (zez:FnL K "_law_of_names" "_law_of_names" kF f43)
  (zfa:FnL K "_law_raised" "_law_raised" nW f44)
  (zfb:FnL K "_law_right" "_law_right" pO f45)
  (zfc:FnL K "_law_house_text" "_law_house_text" gS f46)
  (zfd:K.lookup f47=some ⟨zaq,zan,.func (W.fnOf "law" "law" (dP rK) (cZ rK) (aE rK) .none zar zas zat zao zau zav),zap⟩)
  (zfe:W.codeIn K zau "law" =true)
  (zff:W.keepIn K (.ref f47)=true)
  (zfg:FnL K "__init__" "Twice.__init__" iZ f67)
  (zfh:FnL K "__init__" "NoRoom.__init__" hJ f68)
  (zfi:FnL K "__init__" "Unknown.__init__" fU f69)
  (zfj:K.lookup f70=some ⟨zaz,zaw,.func (W.fnOf "__init__" "Door.__init__" (dP dQ) (cZ dQ) (aE dQ) (.ref zbf) zba zbb zbc zax zbd zbe),zay⟩)
  (zfk:W.codeIn K zbd "Door.__init__" =true)
  (zfl:W.keepIn K (.ref f70)=true)
  (zfm:K.lookup zbf=some ⟨zbh,zbi,.seq #[.none,.int 1 zbg] zbj,zbk⟩)
  (zfn:FnL K "lets" "Door.lets" r9 f71)
  (zfo:FnL K "is_exit" "Door.is_exit" lO f72)
  (zfp:FnL K "__init__" "Shut.__init__" kK f73)
  (zfq:FnL K "__init__" "Wider.__init__" iX f74)
  (zfr:K.lookup f75=some ⟨zbo,zbl,.func (W.fnOf "__init__" "House.__init__" (dP dO) (cZ dO) (aE dO) (.ref zbu) zbp zbq zbr zbm zbs zbt),zbn⟩)
  (zfs:W.codeIn K zbs "House.__init__" =true)
  (zft:W.keepIn K (.ref f75)=true)
  (zfu:K.lookup zbu=some ⟨zbw,zbx,.seq #[.int 0 zbv] zby,zbz⟩)
  (zfv:FnL K "rooms" "House.rooms" vH f76)
  (zfw:FnL K "doors" "House.doors" nX f77)
  (zfx:FnL K "need_room" "House.need_room" gZ f78)
  (zfy:FnL K "holds" "House.holds" nN f79)
  (zfz:FnL K "found" "House.found" nV f80)
  (zga:FnL K "into" "House.into" wQ f81)
  (zgb:FnL K "from_room" "House.from_room" gX f82)
  (zgc:FnL K "door" "House.door" pU f83)
  (zgd:FnL K "lets" "House.lets" qI f84)
  (zge:FnL K "pairs" "House.pairs" nY f85)
  (zgf:FnL K "__init__" "Desk.__init__" jY f86)
  (zgg:FnL K "say" "Desk.say" uH f87)
  (zgh:DCls K C48)
  (zgi:DCls K C49)
  (zgj:DCls K C50)
  (zgk:DCls K C51)
  (zgl:DCls K C52)
  (zgm:DCls K C53)
  (zgn:DCls K C54)
  (zgo:DCls K C55)
  (zgp:DCls K C56)
  (zgq:W.specialIn K (.ref C48) "__getattribute__" =some (some (.builtin "type.__getattribute__")))
  (zgr:W.readsIn K C48 (.type "type")=true)
  (zgs:W.findCls K (.ref C48) (.type "type") "__init__" =some (.val (.ref f70)))
  (zgt:W.nsIn K ah "ValueError" =some none)
  (zgu:W.nsIn K ah "any" =some none)
  (zgv:W.nsIn K ah "sorted" =some none)
  (zgw:W.nsIn K ah "range" =some none)
  (zgx:W.nsIn K ah "int" =some none)
  (zgy:W.nsIn K ah "tuple" =some none)
  (zgz:W.nsIn K ah "isinstance" =some none)
  (zha:W.nsIn K ah "str" =some none)
  (zhb:W.nsIn K ah "all" =some none)
  (zhc:W.nsIn K ah "dict" =some none)
  (zhd:W.nsIn K ah "list" =some none)
  (zhe:W.nsIn K ah "len" =some none)
  (zhf:W.nsIn K ah "bool" =some none)
  (zhg:W.nsIn K ah "zip" =some none)
  (zhh:W.nsIn K ah "LONGEST_NAME" =some (some (.int 8 zca)))
  (zhi:W.nsIn K ah "MOST_FIGURES" =some (some (.int 60 zcb)))
  (zhj:W.excIn K C58 bmV "ValueError.__new__" =true)
  (zhk:ExcK K C58)
  (zhl:W.excIn K C59 bmV "ValueError.__new__" =true)
  (zhm:ExcK K C59)
  (zhn:W.excIn K C60 bmV "ValueError.__new__" =true)
  (zho:ExcK K C60)
  (zhp:W.excIn K C61 bmV "ValueError.__new__" =true)
  (zhq:ExcK K C61)
  (zhr:W.excIn K C62 bmV "ValueError.__new__" =true)
  (zhs:ExcK K C62)
  (zht:W.excIn K C63 bmV "ValueError.__new__" =true)
  (zhu:ExcK K C63)
  (zhv:t7 K C64 f67=true)
  (zhw:ExcK K C64)
  (zhx:eV K C64=true)
  (zhy:W.findIn K (.ref C64) "__setattr__" =some (some (.builtin "object.__setattr__")))
  (zhz:W.findIn K (.ref C64) "name" =some none)
  (zia:t7 K C65 f68=true)
  (zib:ExcK K C65)
  (zic:eV K C65=true)
  (zid:W.findIn K (.ref C65) "__setattr__" =some (some (.builtin "object.__setattr__")))
  (zie:W.findIn K (.ref C65) "name" =some none)
  (zif:t7 K C66 f69=true)
  (zig:ExcK K C66)
  (zih:eV K C66=true)
  (zii:W.findIn K (.ref C66) "__setattr__" =some (some (.builtin "object.__setattr__")))
  (zij:W.findIn K (.ref C66) "name" =some none)
  (zik:W.exmOne K (.ref C58) (.ref C57)=some true)
  (zil:W.exmOne K (.ref C59) (.ref C57)=some true)
  (zim:W.exmOne K (.ref C60) (.ref C57)=some true)
  (zin:W.exmOne K (.ref C61) (.ref C57)=some true)
  (zio:W.exmOne K (.ref C62) (.ref C57)=some true)
  (ziq:W.exmOne K (.ref C63) (.ref C57)=some true)
  (zir:W.exmOne K (.ref C64) (.ref C57)=some true)
  (zis:W.exmOne K (.ref C65) (.ref C57)=some true)
  (zit:W.exmOne K (.ref C66) (.ref C57)=some true)
  (ziu:W.exmOne K (.ref C62) (.ref C62)=some true)
  (ziv:ixAll K [C58,C59,C60,C61,C62,C63,C64,C65,C66]=true)
  (ziw:W.nsIn K ah "FORMS" =some (some (.ref zcc)))
  (zix:K.lookup zcc=some ⟨.type "dict",none,.dict #[⟨zce,.str "plan" zcp,.ref zda⟩,⟨zcf,.str "out" zcq,.ref zdb⟩,⟨zcg,.str "cut" zcr,.ref zdc⟩,⟨zch,.str "all" zcs,.ref zdd⟩,⟨zci,.str "lost" zct,.ref zde⟩,⟨zcj,.str "walks" zcu,.ref zdf⟩,⟨zck,.str "anew" zcv,.ref zdg⟩,⟨zcl,.str "shut" zcw,.ref zdh⟩,⟨zcm,.str "wider" zcx,.ref zdi⟩,⟨zcn,.str "found" zcy,.ref zdj⟩,⟨zco,.str "keep" zcz,.ref zdk⟩] zcd,#[]⟩)
  (ziy:(zcc==gq)=false)
  (ziz:zce=ow w "plan")
  (zja:zcf=ow w "out")
  (zjb:zcg=ow w "cut")
  (zjc:zch=ow w "all")
  (zjd:zci=ow w "lost")
  (zje:zcj=ow w "walks")
  (zjf:zck=ow w "anew")
  (zjg:zcl=ow w "shut")
  (zjh:zcm=ow w "wider")
  (zji:zcn=ow w "found")
  (zjj:zco=ow w "keep") :
  ∃fd:jz,(∀(s:aj) (v:af),BindsTo s fd ⟨[v],[]⟩ [("_law_script",v)])/\∀base:Heap,K.In base->base.Ns ah mg->aP l.prog w K mg base CX0 20 fa fd ["_law_script"] (wV K):=by
 have e:=hfa.symm.trans (W.mg_of X G y47);cases e;exact⟨(W.fnOf "law" "law" (dP rK) (cZ rK) (aE rK) .none zar zas zat zao zau zav),λs v=> .of_eq rfl,λbase _ _=>aDS ⟨f0,y94.x1 λ_ _ _ _ _ _ _=>rfl,
  f1,y95.x1 λ_ _ _ _ _ _ _=>rfl,
  f2,y96.x2 λ_ _ _ _ _ _ _ _=>rfl,
  f3,y97.x3 λ_ _ _ _ _ _ _ _ _=>rfl,
  f4,y98.x2 λ_ _ _ _ _ _ _ _=>rfl,
  f5,y99.x1 λ_ _ _ _ _ _ _=>rfl,
  f6,zdl.x2 λ_ _ _ _ _ _ _ _=>rfl,
  f7,zdm.x2 λ_ _ _ _ _ _ _ _=>rfl,
  f8,zdn.x2 λ_ _ _ _ _ _ _ _=>rfl,
  f9,zdo.x2 λ_ _ _ _ _ _ _ _=>rfl,
  f10,zdp.x1 λ_ _ _ _ _ _ _=>rfl,
  f11,zdq.x2 λ_ _ _ _ _ _ _ _=>rfl,
  f12,zdr.x2 λ_ _ _ _ _ _ _ _=>rfl,
  f13,zds.x2 λ_ _ _ _ _ _ _ _=>rfl,
  f14,zdt.x2 λ_ _ _ _ _ _ _ _=>rfl,
  f15,zdu.x3 λ_ _ _ _ _ _ _ _ _=>rfl,
  f16,zdv.x2 λ_ _ _ _ _ _ _ _=>rfl,
  f17,zdw.x3 λ_ _ _ _ _ _ _ _ _=>rfl,
  f18,zdx.x2 λ_ _ _ _ _ _ _ _=>rfl,
  f19,zdy.x2 λ_ _ _ _ _ _ _ _=>rfl,
  f20,zdz.x2 λ_ _ _ _ _ _ _ _=>rfl,
  f21,zea.x2 λ_ _ _ _ _ _ _ _=>rfl,
  f22,zeb.x2 λ_ _ _ _ _ _ _ _=>rfl,
  f23,zec.x2 λ_ _ _ _ _ _ _ _=>rfl,
  f24,_,tD zed zee zef,(lL (ds:=[]) 4 zeg (by rintro us h;obtain _|⟨_,_|⟨_,_|⟨_,_|⟨_,_|⟨_,us⟩⟩⟩⟩⟩:=us<;>first|(cases h;done)|exact⟨_,rfl,rfl⟩)),
  f25,zeh.x1 λ_ _ _ _ _ _ _=>rfl,
  f26,zei.x1 λ_ _ _ _ _ _ _=>rfl,
  f27,zej.x1 λ_ _ _ _ _ _ _=>rfl,
  f28,zek.x1 λ_ _ _ _ _ _ _=>rfl,
  f29,zel.x2 λ_ _ _ _ _ _ _ _=>rfl,
  f30,zem.x2 λ_ _ _ _ _ _ _ _=>rfl,
  f31,zen.x3 λ_ _ _ _ _ _ _ _ _=>rfl,
  f32,zeo.x1 λ_ _ _ _ _ _ _=>rfl,
  f33,zep.x1 λ_ _ _ _ _ _ _=>rfl,
  f34,zeq.x1 λ_ _ _ _ _ _ _=>rfl,
  f35,zer.x1 λ_ _ _ _ _ _ _=>rfl,
  f36,zes.x1 λ_ _ _ _ _ _ _=>rfl,
  f37,zet.x1 λ_ _ _ _ _ _ _=>rfl,
  f38,zeu.x2 λ_ _ _ _ _ _ _ _=>rfl,
  f39,zev.x2 λ_ _ _ _ _ _ _ _=>rfl,
  f40,zew.x2 λ_ _ _ _ _ _ _ _=>rfl,
  f41,zex.x4 λ_ _ _ _ _ _ _ _ _ _=>rfl,
  f42,zey.x4 λ_ _ _ _ _ _ _ _ _ _=>rfl,
  f43,zez.x4 λ_ _ _ _ _ _ _ _ _ _=>rfl,
  f44,zfa.x4 λ_ _ _ _ _ _ _ _ _ _=>rfl,
  f45,zfb.x4 λ_ _ _ _ _ _ _ _ _ _=>rfl,
  f46,zfc.x1 λ_ _ _ _ _ _ _=>rfl,
  fa,_,tD zfd zfe zff,(.all (by rintro us h;obtain _|⟨_,_|⟨_,us⟩⟩:=us<;>first|(cases h;done)|rfl)),
  f67,zfg.x2 λ_ _ _ _ _ _ _ _=>rfl,
  f68,zfh.x2 λ_ _ _ _ _ _ _ _=>rfl,
  f69,zfi.x2 λ_ _ _ _ _ _ _ _=>rfl,
  f70,_,tD zfj zfk zfl,(lL (ds:=[]) 5 zfm (by rintro us h;obtain _|⟨_,_|⟨_,_|⟨_,_|⟨_,_|⟨_,_|⟨_,us⟩⟩⟩⟩⟩⟩:=us<;>first|(cases h;done)|exact⟨_,rfl,rfl⟩)),
  f71,zfn.x2 λ_ _ _ _ _ _ _ _=>rfl,
  f72,zfo.x1 λ_ _ _ _ _ _ _=>rfl,
  f73,zfp.x3 λ_ _ _ _ _ _ _ _ _=>rfl,
  f74,zfq.x4 λ_ _ _ _ _ _ _ _ _ _=>rfl,
  f75,_,tD zfr zfs zft,(lL (ds:=[]) 6 zfu (by rintro us h;obtain _|⟨_,_|⟨_,_|⟨_,_|⟨_,_|⟨_,_|⟨_,_|⟨_,us⟩⟩⟩⟩⟩⟩⟩:=us<;>first|(cases h;done)|exact⟨_,rfl,rfl⟩)),
  f76,zfv.x1 λ_ _ _ _ _ _ _=>rfl,
  f77,zfw.x1 λ_ _ _ _ _ _ _=>rfl,
  f78,zfx.x2 λ_ _ _ _ _ _ _ _=>rfl,
  f79,zfy.x2 λ_ _ _ _ _ _ _ _=>rfl,
  f80,zfz.x2 λ_ _ _ _ _ _ _ _=>rfl,
  f81,zga.x2 λ_ _ _ _ _ _ _ _=>rfl,
  f82,zgb.x2 λ_ _ _ _ _ _ _ _=>rfl,
  f83,zgc.x2 λ_ _ _ _ _ _ _ _=>rfl,
  f84,zgd.x3 λ_ _ _ _ _ _ _ _ _=>rfl,
  f85,zge.x1 λ_ _ _ _ _ _ _=>rfl,
  f86,zgf.x1 λ_ _ _ _ _ _ _=>rfl,
  f87,zgg.x2 λ_ _ _ _ _ _ _ _=>rfl,
  W.mg_of X G y0,
  W.mg_of X G y1,
  W.mg_of X G y2,
  W.mg_of X G y3,
  W.mg_of X G y4,
  W.mg_of X G y5,
  W.mg_of X G y6,
  W.mg_of X G y7,
  W.mg_of X G y8,
  W.mg_of X G y9,
  W.mg_of X G y10,
  W.mg_of X G y11,
  W.mg_of X G y12,
  W.mg_of X G y13,
  W.mg_of X G y14,
  W.mg_of X G y15,
  W.mg_of X G y16,
  W.mg_of X G y17,
  W.mg_of X G y18,
  W.mg_of X G y19,
  W.mg_of X G y20,
  W.mg_of X G y21,
  W.mg_of X G y22,
  W.mg_of X G y23,
  W.mg_of X G y24,
  W.mg_of X G y25,
  W.mg_of X G y26,
  W.mg_of X G y27,
  W.mg_of X G y28,
  W.mg_of X G y29,
  W.mg_of X G y30,
  W.mg_of X G y31,
  W.mg_of X G y32,
  W.mg_of X G y33,
  W.mg_of X G y34,
  W.mg_of X G y35,
  W.mg_of X G y36,
  W.mg_of X G y37,
  W.mg_of X G y38,
  W.mg_of X G y39,
  W.mg_of X G y40,
  W.mg_of X G y41,
  W.mg_of X G y42,
  W.mg_of X G y43,
  W.mg_of X G y44,
  W.mg_of X G y45,
  W.mg_of X G y46,
  W.mg_of X G y47,
  ⟨[.none],.cons rfl (.nil),lL 3 zeg (by rintro us h;obtain _|⟨_,_|⟨_,_|⟨_,_|⟨_,us⟩⟩⟩⟩:=us<;>first|(cases h;done)|exact⟨_,rfl,rfl⟩)⟩,
  ⟨[.int 1 zbg],.cons ⟨_,rfl⟩ (.nil),lL 4 zfm (by rintro us h;obtain _|⟨_,_|⟨_,_|⟨_,_|⟨_,_|⟨_,us⟩⟩⟩⟩⟩:=us<;>first|(cases h;done)|exact⟨_,rfl,rfl⟩)⟩,
  ⟨[.none,.int 1 zbg],.cons rfl (.cons ⟨_,rfl⟩ (.nil)),lL 3 zfm (by rintro us h;obtain _|⟨_,_|⟨_,_|⟨_,_|⟨_,us⟩⟩⟩⟩:=us<;>first|(cases h;done)|exact⟨_,rfl,rfl⟩)⟩,
  ⟨[.int 0 zbv],.cons ⟨_,rfl⟩ (.nil),lL 5 zfu (by rintro us h;obtain _|⟨_,_|⟨_,_|⟨_,_|⟨_,_|⟨_,_|⟨_,us⟩⟩⟩⟩⟩⟩:=us<;>first|(cases h;done)|exact⟨_,rfl,rfl⟩)⟩,
  C48,W.mg_of X G y48,
  C49,W.mg_of X G y49,
  C50,W.mg_of X G y50,
  C51,W.mg_of X G y51,
  C52,W.mg_of X G y52,
  C53,W.mg_of X G y53,
  C54,W.mg_of X G y54,
  C55,W.mg_of X G y55,
  C56,W.mg_of X G y56,
  C57,W.mg_of X G y57,
  C58,W.mg_of X G y58,
  C59,W.mg_of X G y59,
  C60,W.mg_of X G y60,
  C61,W.mg_of X G y61,
  C62,W.mg_of X G y62,
  C63,W.mg_of X G y63,
  C64,W.mg_of X G y64,
  C65,W.mg_of X G y65,
  C66,W.mg_of X G y66,
  zgh,
  y67,
  y72,
  y73,
  zgi,
  y74,
  zgj,
  y75,
  zgk,
  y76,
  zgl,
  y77,
  zgm,
  y68,
  y78,
  zgn,
  y69,
  y79,
  zgo,
  y70,
  y80,
  y81,
  y82,
  y83,
  y84,
  y85,
  y86,
  y87,
  y88,
  y89,
  zgp,
  y71,
  y90,
  ⟨zgq,zgr,zgs⟩,
  zhj,
  zhk,
  zhl,
  zhm,
  zhn,
  zho,
  zhp,
  zhq,
  zhr,
  zhs,
  zht,
  zhu,
  zhv,⟨zhw,zhx,zhy⟩,zhz,
  zia,⟨zib,zic,zid⟩,zie,
  zif,⟨zig,zih,zii⟩,zij,
  zik,
  zil,
  zim,
  zin,
  zio,
  ziq,
  zir,
  zis,
  zit,
  ziu,
  ziv,
  W.mg_none_of X G zgt,
  W.mg_none_of X G zgu,
  W.mg_none_of X G zgv,
  W.mg_none_of X G zgw,
  W.mg_none_of X G zgx,
  W.mg_none_of X G zgy,
  W.mg_none_of X G zgz,
  W.mg_none_of X G zha,
  W.mg_none_of X G zhb,
  W.mg_none_of X G zhc,
  W.mg_none_of X G zhd,
  W.mg_none_of X G zhe,
  W.mg_none_of X G zhf,
  W.mg_none_of X G zhg,
  zcc,W.mg_of X G ziw,⟨[(.inr "plan",.ref zda),(.inr "out",.ref zdb),(.inr "cut",.ref zdc),(.inr "all",.ref zdd),(.inr "lost",.ref zde),(.inr "walks",.ref zdf),(.inr "anew",.ref zdg),(.inr "shut",.ref zdh),(.inr "wider",.ref zdi),(.inr "found",.ref zdj),(.inr "keep",.ref zdk)],⟨ziy,_,_,_,[(.inr "plan",.ref zda),(.inr "out",.ref zdb),(.inr "cut",.ref zdc),(.inr "all",.ref zdd),(.inr "lost",.ref zde),(.inr "walks",.ref zdf),(.inr "anew",.ref zdg),(.inr "shut",.ref zdh),(.inr "wider",.ref zdi),(.inr "found",.ref zdj),(.inr "keep",.ref zdk)],zix,⟨rfl,rfl,rfl⟩,rfl,λP=>⟨λe he=>(by
   simp only[List.mem_toArray,ba,cz,or_false]at he;rcases he with rfl|rfl|rfl|rfl|rfl|rfl|rfl|rfl|rfl|rfl|rfl
   .exact⟨.inr "plan",bP _ zcp,ziz⟩
   .exact⟨.inr "out",bP _ zcq,zja⟩
   .exact⟨.inr "cut",bP _ zcr,zjb⟩
   .exact⟨.inr "all",bP _ zcs,zjc⟩
   .exact⟨.inr "lost",bP _ zct,zjd⟩
   .exact⟨.inr "walks",bP _ zcu,zje⟩
   .exact⟨.inr "anew",bP _ zcv,zjf⟩
   .exact⟨.inr "shut",bP _ zcw,zjg⟩
   .exact⟨.inr "wider",bP _ zcx,zjh⟩
   .exact⟨.inr "found",bP _ zcy,zji⟩
   .exact⟨.inr "keep",bP _ zcz,zjj⟩),(.cons (bP _ zcp) rfl (.cons (bP _ zcq) rfl (.cons (bP _ zcr) rfl (.cons (bP _ zcs) rfl (.cons (bP _ zct) rfl (.cons (bP _ zcu) rfl (.cons (bP _ zcv) rfl (.cons (bP _ zcw) rfl (.cons (bP _ zcx) rfl (.cons (bP _ zcy) rfl (.cons (bP _ zcz) rfl .nil)))))))))))⟩,(by simp only[dm,yn];decide +kernel),(.cons ⟨rfl,rfl⟩ (.cons ⟨rfl,rfl⟩ (.cons ⟨rfl,rfl⟩ (.cons ⟨rfl,rfl⟩ (.cons ⟨rfl,rfl⟩ (.cons ⟨rfl,rfl⟩ (.cons ⟨rfl,rfl⟩ (.cons ⟨rfl,rfl⟩ (.cons ⟨rfl,rfl⟩ (.cons ⟨rfl,rfl⟩ (.cons ⟨rfl,rfl⟩ .nil)))))))))))⟩,rfl⟩,
  ⟨zca,W.mg_of X G zhh⟩,
  ⟨zcb,W.mg_of X G zhi⟩⟩⟩
theorem walk {l:W.OpenLaw}{q:ef}{loose:List Str}{XP:(Str->Option af)->Heap->Prop}{YP:gd->Heap->Prop}{d:DefRec}{K:Params->W.Frag}(hn:l.most=some 63)(hdf:d.params.defaults=[])
  (hY:∀(w:gd) (h:Heap),YP w h->(K w.params).In h)
  (F:∀(w:gd) (mg:Str->Option af) (fa:Addr) (h:Heap),(K w.params).In h->h.Ns ah mg->mg d.name=some (.ref fa) →
   ∃fd:jz,(∀(s:aj) (u:af),BindsTo s fd ⟨[u],[]⟩ [("_law_script",u)])/\∀base:Heap,(K w.params).In base->base.Ns ah mg->aP l.prog w (K w.params) mg base CX0 20 fa fd ["_law_script"] (wV (K w.params))) :
  W.WalkO q loose XP YP l.row.toRowW d [] (λf vs=>PySem.call f vs) :=
 L2.walk_of (n:=63) (k:=20) (x:= "_law_script") (CX:=λ_=>CX0) (sp:=λw=>wV (K w.params)) hn (by decide) hdf ⟨rfl,by decide,by decide⟩ hY F (λ_ _ a ns hl _ hS=>⟨a,ns,rfl,hS,hl,λ_=>rfl⟩) λ_ _ _ _ _ z=>z
end Prf
open PySem.W PyProof.Rows
set_option maxRecDepth 100000 in
set_option maxHeartbeats 0 in
theorem PySem.Challenge.cw_firstout_k77_nine_refusals_holds : PySem.Challenge.rw_firstout_k77_nine_refusals.Holds := by
 refine Hd ?_
 k_fill
 refine Prf.walk (l:=PySem.Challenge.rw_firstout_k77_nine_refusals) rfl rfl (λw h Y=>W.kIn_of Y) ?F
 case F =>
  intro w mg fa h KX G hmg;refine' Prf.all_mk KX G hmg ?_ ?_ ?_ ?_ ?_ ?_ ?_ ?_ ?_ ?_ ?_ ?_ ?_ ?_ ?_ ?_ ?_ ?_ ?_ ?_ ?_ ?_ ?_ ?_ ?_ ?_ ?_ ?_ ?_ ?_ ?_ ?_ ?_ ?_ ?_ ?_ ?_ ?_ ?_ ?_ ?_ ?_ ?_ ?_ ?_ ?_ ?_ ?_ ?_ ?_ ?_ ?_ ?_ ?_ ?_ ?_ ?_ ?_ ?_ ?_ ?_ ?_ ?_ ?_ ?_ ?_ ?_ ?_ ?_ ?_ ?_ ?_ ?_ ?_ ?_ ?_ ?_ ?_ ?_ ?_ ?_ ?_ ?_ ?_ ?_ ?_ ?_ ?_ ?_ ?_ ?_ ?_ ?_ ?_ ?_ ?_ ?_ ?_ ?_ ?_ ?_ ?_ ?_ ?_ ?_ ?_ ?_ ?_ ?_ ?_ ?_ ?_ ?_ ?_ ?_ ?_ ?_ ?_ ?_ ?_ ?_ ?_ ?_ ?_ ?_ ?_ ?_ ?_ ?_ ?_ ?_ ?_ ?_ ?_ ?_ ?_ ?_ ?_ ?_ ?_ ?_ ?_ ?_ ?_ ?_ ?_ ?_ ?_ ?_ ?_ ?_ ?_ ?_ ?_ ?_ ?_ ?_ ?_ ?_ ?_ ?_ ?_ ?_ ?_ ?_ ?_ ?_ ?_ ?_ ?_ ?_ ?_ ?_ ?_ ?_ ?_ ?_ ?_ ?_ ?_ ?_ ?_ ?_ ?_ ?_ ?_ ?_ ?_ ?_ ?_ ?_ ?_ ?_ ?_ ?_ ?_ ?_ ?_ ?_ ?_ ?_ ?_ ?zhj ?_ ?zhl ?_ ?zhn ?_ ?zhp ?_ ?zhr ?_ ?zht ?_ ?zhv ?_ ?zhx ?_ ?_ ?zia ?_ ?zic ?_ ?_ ?zif ?_ ?zih ?_ ?_ ?_ ?_ ?_ ?_ ?_ ?_ ?_ ?_ ?_ ?_ ?ziv ?_ ?_ ?ziy ?ziz ?zja ?zjb ?zjc ?zjd ?zje ?zjf ?zjg ?zjh ?zji ?zjj
  any_goals first|k_is|(apply L2.FnL.mk<;>k_is)|exact L2.FnL.mk (by k_is) (by k_is) (by k_is)|(apply L2.Meth.mk<;>k_is)|(apply L2.Mk.mk<;>k_is)|(apply L2.exm_mk<;>k_is)|(apply L2.kit_ne<;>first|k_is|rfl)|(apply L2.kit_vt L2.kitMeta_ValueError;k_is)|(apply L2.ExcK.mk<;>first|k_is|exact⟨_,by k_is⟩)|(refine' Prf.DCls.mk (L2.ICls.mk (L2.Cls.mk ?_ ?_ ?_ ?_) ?_ ?_ ?_ ?_) ?_<;>first|k_is|kernel_rfl)|skip
  (case zhj=>k_exc)
  (case zhl=>k_exc)
  (case zhn=>k_exc)
  (case zhp=>k_exc)
  (case zhr=>k_exc)
  (case zht=>k_exc)
  (case zhv=>kernel_rfl)
  (case zhx=>kernel_rfl)
  (case zia=>kernel_rfl)
  (case zic=>kernel_rfl)
  (case zif=>kernel_rfl)
  (case zih=>kernel_rfl)
  (case ziv=>kernel_rfl)
  (case ziy=>rfl)
  (case ziz=>rfl)
  (case zja=>rfl)
  (case zjb=>rfl)
  (case zjc=>rfl)
  (case zjd=>rfl)
  (case zje=>rfl)
  (case zjf=>rfl)
  (case zjg=>rfl)
  (case zjh=>rfl)
  (case zji=>rfl)
  (case zjj=>rfl)
