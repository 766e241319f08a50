import PyProof.Rows.All
import Wide.All
import OpenK.AllK
import Wide.FinOn
import Lean
import PyProof.EqAt
import PyProof.EqKinds
import PyProof.TupleCall
import KE.KSortTup
import PyProof.Rows.DictUnroll
import PyProof.DictItems
import KE.LcSums
import PyProof.IsiH_list
import KE.KDictOf
import PyProof.DictWalks
import PyProof.ListRange
import PyProof.EnumStmt
import PyProof.EnumMake
import KE.KDictSum
import PyProof.StrOps2
import PyProof.Rows.CallKwBuiltin
import KE.KRevSl
import PyProof.Rows.Range3
import KE.KStateDown
import PySem.Challenge.RW_firstout_k84_whole_names_and_order
open List renaming mem_cons_of_mem->ab,length_map->ae,mem_map->ag,getElem?_eq_getElem->ah,length_append->ao,getD_eq_getElem?_getD->au,getElem?_eq_some_iff->av,map_append->aw,mem_of_getElem?->ay,mem_cons->az,length_cons->bb,mem_append->bh,size_toArray->bj,map_cons->bo,mem_append_right->bp,getElem?_map->bq,map_map->bw,mem_singleton->bz,mem_filter->cg,nodup_cons->cm,take_length->cp,append_assoc->cq,length_take->cw,filter_cons_of_neg->cx,filter_cons_of_pos->da,sum_cons->dh,append_nil->dj,length_filter_le->du,map_congr_left->dw,range->el,lookup_cons->fe,mem_iff_getElem?->fg,filter_append->fh,mem_append_left->fj,length_range->fk,getElem?_append_left->ft,mem_cons_self->fw,any_cons->fz,getElem?_append_right->gh,not_mem_nil->gi,pairwise_map->gk,mem_range->gr,nodup_append->ib,take_of_length_le->iq,sum_append->iu,cons_append->iy,lookup->jb,take_append_of_le_length->jd,all_eq_true->jk,pairwise_cons->jq,take_append_drop->jr,mem_of_find?_eq_some->ju,countP_cons_of_pos->ki,mem_reverse->kj,Nodup->kx,length_set->la,find?_cons->lg,all_cons->lq,getElem?_eq_none->lz,nodup_range->mz,map_reverse->ng,pairwise_iff_getElem->nh,length_nil->oa,getElem?_drop->oj,length->oq,countP_cons_of_neg->ou,range_succ_eq_map->ox,nodup_nil->oy,take_succ->pj,filter_eq_nil_iff->pq,length_replicate->pw,getElem_mem->qi,getElem?_set_ne->qq,of_mem_zip->qz,filter_map->rj,filterMap_cons->rn,getElem_of_mem->rq,length_reverse->sd,any_map->se,replicate->tw,find?_eq_none->ug,drop_eq_getElem_cons->ui,foldl_append->va,reverse_cons->vb,getElem?_take_of_lt->vd,filterMap_cons_some->vj,filterMap_cons_none->vk,getElem?_replicate->vx,any_eq_true->wc,getElem?_set_self->wj,range_succ->wy,find?_some->xf,getElem?_modify->yc,mem_iff_getElem->ye,filter_sublist->yl,map_take->ym
open PySem renaming wpAny_bind->af,Value->ak,wpAny_pure->ax,Shared->ba,mainGlobals->bf,Paired->bu,wpAny->cb,model->ck,starEach->cy,bootBuiltins->fm,wpAny_mono->fq,Program->gd,compareOp->gg,wpAny_truthy_bool->gj,wpAny_newObj_type->gw,World->gx,FuncData->gy,mem_of_lookup->ia,wpAny_holding->ie,sysModules->ij,wpAny_call_entry->ik,wpAny_typeNameOfWhole_itemiter->iz,wpAny_typeNameOfWhole_keyiter->jc,assignEach->je,backTo->jl,wpAny_Call_Name_kw->jn,wpAny_fieldsOf->jo,rawInt->js,wpAny_typeNameOf_itemiter->jt,wpAny_passesOwn->jv,sliceBounds->jx,wpAny_dictEntries->jy,attributeBase->jz,wpAny_typeNameOf_keyiter->ka,Around->ke,wpAny_callSpecial?_slot->kg,wpAny_isInstance->kh,tupleKind_room_in1->ko,wpAny_isOneOf_itemiter->kq,wpAny_setField_rec->ku,binaryOp->ky,wpAny_dictEpoch->lh,wpAny_pyIter_list->ma,keywordEach->mh,firstArgMember->mj,codeAny->mr,DictEntry->my,behindInMarks->ni,IsItemIter->oh,cLine->om,wpAny_Call_method0_late->ot,NameKind->ow,wpAny_notOrdered_dict->qa,wpAny_isOneOf_keyiter->qb,builtinLookup_eq_fast->qc,wpAny_execs_cons->qe,pyNext->qf,getMethod->qg,unsetMember->qt,wpAny_execs_nil->qw,wpAny_AugAssign_SubscriptAny->qx,letOwnedTupleGo->qy,Scope->rm,evalArgs_none->rp,wpAny_typeOf->sf,cellsFrom->tj,Arguments->tm,wpAny_newFunctionEnv_cells->tz,typeLookup->ua,backToKw->ub,holding->uk,foldedSetIterable->um,slot_list_getitem->uq,Builtin->ux,wpAny_pyIter_slot->uy,wpAny_getItem_list_slice->vf,wpAny_comprehension_free->vg,wpAny_attempt->vi,plainId_quiet->vm,tupleKind->vt,Operator->vv,builtinsNs->wg,codeAny_mono->wm,wpAny_specialOf->wz,typeLookup_type->xc,wpAny_ite_split->xg,wpAny_updateSeq->xh,assign->xl,IsRangeIter->xm,subscripted->xt,callWith->xv,wpAny_setField->xw,wpAny_throw->xy,wpAny_field->yb,standAt->yg,swapsWith->yh,getItem->yi,callerA->yj,valueAt->yk,Within->yx
open PySem.Heap renaming get?_push_of_some->aj,lt_size->bc,get?_push_size->be,get?_update_other->gm,SameBut->ip,get?_update_self->iw,ExtBut->uu,size_push->xp
open Nat renaming le_refl->aq,lt_of_lt_of_le->bt,ne_of_lt->cf,le_trans->dy,lt_irrefl->ee,zero_le->et,not_lt_zero->jf,mul_le_mul->ml,le_of_lt->mq,lt_succ_self->mw,lt_of_succ_lt_succ->oz,min_eq_right->qj,add_mul->qu,strongRecOn->rh,min_eq_left->rl,zero_add->si,add_zero->su,lt_of_le_of_lt->uc,lt_or_eq_of_le->uh,le_succ->uo,lt_succ_of_lt->ur,lt_trichotomy->uz,zero_mul->wx,mul_le_mul_right->yf,ne_of_gt->yz,le_of_eq->za,lt_trans->zd
open Bool renaming false_ne_true->bg,and_eq_true->dz,false_eq_true->gb,false_and->kf,eq_iff_iff->kz,true_and->lu,or_false->ql
open PySem.Paired renaming length->bx
open Option renaming map_eq_some_iff->cj,map_some->rg,isSome_map->uw,isSome_iff_exists->vc,getD_some->vy
open PySem.PassesOwn renaming never->cn
open PySem.Value renaming ref->cu,none->fu,int->mn,type->oe,str->sy,bool->tp,float->zf
open PySem.F renaming plainAttrs_list->df,slot_list_append->dm,type_list_append->dq,slot_dict_get->px,slot_list_extend->vp,type_list_extend->vq,args_dict_get_3->vz,entry_dict_get->wq
open Option.some renaming inj->dg
open Ne renaming symm->fb
open Int renaming toNat_natCast->fc,le_refl->gc,zero_add->gp,add_zero->ja,emod_nonneg->jw,fdiv_eq_ediv_of_nonneg->me,emod_lt_of_pos->og
open Array renaming length_toList->gf,mem_toList_iff->mf,getD_eq_getD_getElem?->sg,getD->ud,perm_iff_toList_perm->uf,getElem?_eq_none->wt,empty_append->yv,append_empty->yw
open PySem.Builtin renaming bitNot->gu,bitXor->xo,bitAnd->yd
open PySem.NameKind renaming free->gv,cell->qm
open False renaming elim->gz
open PySem.Builtin.Dict_items renaming ownsTuple->ig,ownedTupleIsFree->nv,ownedTupleFields->ny,pairFromOwner->ph
open Sum.inr renaming inj->ir
open PySem.Obj renaming mapSeq->ix,data_mapFields->ue,isFreed_of_fields->xj
open PySem.Builtin.Int renaming intBits->jg
open PyProof.Rows renaming callWith_type1->jh,seqObj->lx,SortKind->mi,AllBare->uj,subscriptTail->ve,envOfC->wo,Subscript_->yr
open PySem.Calls renaming callWith_builtin->ji,Name_function_global->tq,spliced_cons->tu,evalArgs_plain->xu
open PySem.Builtin.List renaming listExtendWith->jj,listTooLong->nj,listLengthHint->sk,listSameRef->vn,listUpdate->wa,listItems->wu
open True renaming intro->jm
open PySem.Heap.SameBut renaming update->kb
open Sum renaming inr->km,inl->nz
open ForInStep renaming yield->lb
open PySem.Str renaming empty->ll,ofString->mx
open PySem.W renaming kas_place->ls,kas_asc->qo
open PySem.Builtin.Dict renaming showsAll->ly,updateFrom->wb
open Sum.inl renaming inj->md
open PySem.SeqAt renaming EqAt->qh
open PySem.SeqAt.EqAt renaming same->rf,int_str->yo,str_int->yq,of_refs->yu
open List.cons renaming inj->vh
open List.Pairwise renaming imp_of_mem->vo,imp->ze
open PySem.Builtin.Range renaming rangeSize->vw
open Or renaming inr->we,inl->xk
open PyProof renaming noPylong_small->wk
open List.Perm renaming of_eq->xi
open PySem.Around renaming frames_deeper->xq,under_plainId->ya,under->zb
open PySem.W.Looks renaming of_pure->yn
open PySem.Heap.IsSliceOf renaming new->yt
open PySem.Code renaming isFrame->zc
open PySem.Data renaming fields->zg
open PySem.Heap.DictOf renaming new->zh
namespace PySem.W.Fast
def tw11567125132187419873:=()
def tw3734269863259040225:=()
def tw4467081309364699523:=()
def tw11026914780912263747:=()
def tw9915055008866217539:=()
def tw5237330593340931716:=()
def tw369615588016229062:=()
def tw18312952769173580904:=()
def tw7408529106634132041:=()
def tw9577221689991544876:=()
def tw9730923131409196812:=()
def tw10167517501643948012:=()
def tw16316683100144136493:=()
def tw8301374963053657168:=()
def tw204581534800522001:=()
def tw13009768098286759378:=()
def tw10656244751535497972:=()
def tw17372915627576573109:=()
def tw5460234819163400502:=()
def tw15616714722162860534:=()
def tw7737317155614444182:=()
def tw16462722387233099832:=()
def tw14524771319615826072:=()
def tw1636765033897244249:=()
def tw7585926547777564139:=()
def tw13406936505475032582:=()
def tw9060469448897883859:=()
def tw15430211188331502055:=()
def tw598661973551443485:=()
def tw7045546902636889938:=()
def tw6752376320518183794:=()
def tw9374147374182929973:=()
def tw12951146880807332276:=()
def tw9410660153478916591:=()
def tw15207972003649497583:=()
def tw5053257444733535496:=()
def tw15358829067467656970:=()
def tw7910817411635712373:=()
def tw12755355310959645596:=()
def tw8444490570383370945:=()
def tw15075413064297521015:=()
def tw11198677485311479302:=()
def tw9303425213630375671:=()
def tw932839701382126404:=()
def tw13204502685143906251:=()
def tw11180085928943697514:=()
def tw4294121098546088505:=()
def tw14596227407062228660:=()
def tw1481269170072490936:=()
def tw12237165301827050023:=()
def tw10649698331244477973:=()
def tw6117092108582614317:=()
def tw5552146100710929737:=()
def tw9905467191254301608:=()
def tw4011263021365370002:=()
def tw11661073158102212216:=()
def tw6293947913752725406:=()
def tw16141273964683229145:=()
def tw15146090830453311553:=()
def tw10648913371336843661:=()
def tw17631713960575983305:=()
def tw10728401808887245761:=()
def tw12755269033228781528:=()
def tw1657286581356270758:=()
def tw5289957669054539693:=()
def tw2666536584640529693:=()
def tw89423446311418852:=()
def tw16862254861477619431:=()
def tw1920155765784394687:=()
def tw6393163527302796154:=()
def tw12393642965991253485:=()
def tw15365022598415193600:=()
def tw15347780136920609810:=()
def tw8809933186728811684:=()
def tw7619646592127020464:=()
def tw12991067942425146991:=()
def tw16725951422909751056:=()
def tw2102290797668226704:=()
def tw9342574882339046977:=()
def tw11592443234617683067:=()
def tw8250829534773339891:=()
def tw9645704449145132273:=()
def tw10159971127153157196:=()
def tw2757926471388395657:=()
def tw12489205136027049247:=()
def tw4112106135443822352:=()
def tw11725713662302140645:=()
def tw16897219148822318882:=()
def tw6207226920484485889:=()
def tw9947901338402844434:=()
def tw4326088168741690928:=()
def tw17438898341694343243:=()
def tw6045607818681585676:=()
def tw5193067896182230997:=()
def tw1582835368904187997:=()
def tw9194025582370704679:=()
def tw11603645131992285556:=()
def tw2481606690502087860:=()
def tw431266175827130335:=()
def tw1201430047610551906:=()
def tw323993215337299673:=()
def tw3744110612235440106:=()
def tw2401553014128245674:=()
def tw10398100380535675962:=()
def tw4626206062178549697:=()
def tw14909489701158730890:=()
def tw17133608913367462611:=()
def tw5928475831766996267:=()
def tw12074782096863972505:=()
def tw13483597036242069648:=()
def tw5159081714248710743:=()
def tw6217063308819569043:=()
def tw22890985037797345:=()
def tw16735663496123205195:=()
def tw16372916986799642910:=()
def tw12731962622191309719:=()
def tw12602169454555143105:=()
def tw4257392078363345450:=()
def tw496680118753188446:=()
def tw10575672063899987400:=()
def tw5115847678937250926:=()
def tw12300715169434500280:=()
def tw13741132782280658785:=()
def tw2534248383107648255:=()
def tw10522195122677914828:=()
def tw5479290112047985776:=()
def tw11086214088203030027:=()
def tw7299675752289941820:=()
def tw10024598740637404952:=()
def tw304071605428257195:=()
def tw6820601719976514796:=()
def tw7248047483732751373:=()
def tw8431078314488616540:=()
def tw16982236198045723295:=()
def tw4055657590084818591:=()
def tw15080233343251937198:=()
def tw752309493573505999:=()
def tw9397992782587701313:=()
def tw13481354607445603633:=()
def tw2135443730016600033:=()
def tw10559864031442870467:=()
def tw17698873334845665219:=()
def tw4615753865455560553:=()
def tw8289436342779204946:=()
def tw2806995777995707361:=()
def tw11005185839543188982:=()
def tw7583382769759437190:=()
def tw16787840100696843357:=()
def tw16484993374210014619:=()
def tw1418681536455208558:=()
def tw16394066235193972287:=()
def tw3916159212044247442:=()
def tw387439790479957101:=()
def tw10892850981084353459:=()
def tw13419441094197480568:=()
def tw12452475169183555992:=()
def tw3295395965478462921:=()
def tw3308756349952263345:=()
def tw14922882792299429112:=()
def tw3025924177216630634:=()
def tw9996752279911235038:=()
def tw16763370284205821586:=()
def tw2116002689477479486:=()
def tw5242141373946115960:=()
def tw10416886348249460504:=()
def tw5238784176856702629:=()
def tw633429788054339590:=()
def tw12560576568223723876:=()
def tw4445660797612290844:=()
def tw14934617861945131722:=()
def tw14025773146718535969:=()
def tw10549030491357802159:=()
def tw420794995584789516:=()
def tw7911063814479093998:=()
def tw12420845972832131349:=()
def tw4276042797286649023:=()
def tw18409915274878720077:=()
def tw9686571353478904260:=()
def tw8380542875564810192:=()
def tw15266246386196399194:=()
def tw17901907568995438091:=()
def tw9145728823192038419:=()
def tw8488148530782752315:=()
def tw14500407802481584704:=()
def tw4480861232665335862:=()
def tw1170794847349536160:=()
def tw7887006049477442251:=()
def tw17616915975482423178:=()
def tw6067546655771122598:=()
def tw15324617568453624883:=()
def tw9742642107149158002:=()
def tw11178815834820077671:=()
def tw1088226810338624258:=()
def tw4541862127622728768:=()
def tw174895468759145135:=()
def tw12361212498645193051:=()
def tw10602247990006231027:=()
def tw11780453118533408713:=()
def tw13812030498527599545:=()
def tw4301039691594357847:=()
def tw4260195127326698062:=()
def tw10361190304325668953:=()
def tw4338364056520345201:=()
def tw962717552067784302:=()
def tw5994529042007277769:=()
def tw8822569870374370628:=()
def tw17132101013554962748:=()
def tw4480567476229075767:=()
def tw249464487131791309:=()
def tw53823427883231860:=()
def tw2827510501374652039:=()
def tw15457410012486755277:=()
def tw1827874412402892913:=()
def tw16996851390377713645:=()
def tw15341724336707077576:=()
def tw10483840861423138476:=()
def tw13656043819184500746:=()
def tw7662048354138755969:=()
def tw17425749883618863065:=()
def tw2813507996445089836:=()
def tw11305703666621393968:=()
def tw12570237992138145054:=()
def tw602514209755087823:=()
def tw11894211215547005320:=()
def tw11742666704378051101:=()
def tw6343195401117723719:=()
def tw179404740847820643:=()
def tw14027222096437546460:=()
def tw14134830969710889782:=()
def tw14994006178905365161:=()
def tw10469879719237114114:=()
def tw11418061333565009302:=()
def tw6600838373070852959:=()
def tw2394800884946272557:=()
def tw15235258172114500836:=()
def tw2329368931609108422:=()
def tw432868210817004797:=()
def tw10976602773075292189:=()
def tw4185759437262646694:=()
def tw1781360731106406297:=()
def tw12697758696560842367:=()
def tw12845764376067009816:=()
def tw11502241478075677930:=()
def tw18304769826906812260:=()
def tw4589290840193596816:=()
def tw2972002477450386755:=()
def tw2782399006283927715:=()
def tw9011467391326826158:=()
def tw1734498034326719504:=()
def tw3090363404294228027:=()
def tw14380137693309614991:=()
def tw10819417647425350510:=()
def tw3100056090222521327:=()
def tw13605260591816769190:=()
def tw10423101411284415097:=()
def tw3763043867088669218:=()
def tw12159527277905154181:=()
def tw2618059702453038435:=()
def tw18196032833863160249:=()
def tw14198565058054750794:=()
def tw10812648117547225242:=()
def tw16536017045538591096:=()
def tw1506663611300258975:=()
def tw8204483670946079483:=()
def tw13709064694440425158:=()
def tw5159421713710458958:=()
def tw18060229835865738796:=()
def tw13238481782982842285:=()
def tw11258109193409006867:=()
def tw6281153458629126766:=()
def tw8349008541768578726:=()
def tw536790249093341272:=()
def tw16427389157946516622:=()
def tw8007861524918308788:=()
def tw15369077234044071730:=()
def tw5727609382469369280:=()
def tw1660815840564049178:=()
def tw5438525884200808224:=()
def tw5366865736747690181:=()
def tw6827267869230461102:=()
def tw6467512248334298288:=()
def tw9445608125117167716:=()
def tw17444369763018492121:=()
def tw4096453156004670379:=()
def tw11692649008490373595:=()
def tw16858325607895960823:=()
def tw10253282081875693468:=()
def tw11830081932497243833:=()
def tw15524295428713305155:=()
def tw44567407439670047:=()
def tw11409441635852293465:=()
def tw4984594139862827020:=()
def tw16534652048767631176:=()
def tw4853467393153327163:=()
def tw15984871867329897137:=()
def tw10833235417348416458:=()
def tw12239791795071677286:=()
def tw3682013743705549239:=()
def tw13550545202544898753:=()
def tw2288885268674156425:=()
def tw4113047337057562454:=()
def tw9801498183689249130:=()
def tw1074131884540699070:=()
def tw18436537713278896727:=()
def tw4410812809674970966:=()
def tw13615140215776668231:=()
def tw6511258445035066291:=()
def tw3636036462712873249:=()
def tw10020786513543227715:=()
def tw12338699784943176041:=()
def tw7679405061983867947:=()
def tw13089500736524491784:=()
def tw9813078701538184049:=()
def tw2158574095682192702:=()
def tw6314962960430438372:=()
def tw17366081572034362014:=()
def tw7785872511484215374:=()
def tw12836181727548693419:=()
def tw2267925161518101510:=()
def tw7302058939289180959:=()
def tw84619918285467816:=()
def tw18283231390084992770:=()
def tw15938693321567874867:=()
def tw9641970052505758086:=()
def tw15105116596850442743:=()
def tw6701221965760035375:=()
def tw17433417765456520707:=()
def tw4035619461985715772:=()
def tw6480608553596005449:=()
def tw3541561934532063126:=()
def tw704612915473858894:=()
def tw8401301656133479968:=()
def tw14334711927201489514:=()
def tw5739776157543137368:=()
def tw4592665034013366733:=()
def tw11675826230963417100:=()
def tw82390795654590395:=()
def tw13943572682135299791:=()
def tw1163176937282326847:=()
def tw1302449797485494369:=()
def tw9769961897887550150:=()
def tw5682751217758179932:=()
def tw2072867119740885746:=()
def tw9775492577680679856:=()
def tw16728060912264887519:=()
def tw5476992756312607017:=()
def tw12096985291327604412:=()
def tw17726304046960226394:=()
def tw8705335837238207605:=()
def tw800798753830885565:=()
def tw4247325560931655616:=()
def tw5368601222343222831:=()
def tw2407804650245558537:=()
def tw18426437451390927768:=()
def tw11382554707268970497:=()
def tw9508359074205828454:=()
def tw12155285588709097535:=()
def tw1220830294391292622:=()
def tw11072708920351736181:=()
def tw1370626132557121772:=()
def tw659448587806890800:=()
def tw11407912623362767752:=()
def tw9395103768557753521:=()
def tw13156209080064759386:=()
def tw17481429144433516654:=()
def tw4628725971898943230:=()
def tw12526943593324173025:=()
def tw4150593539323818783:=()
def tw13088388763394543810:=()
def tw8041303317079835280:=()
def tw10225033076191750725:=()
def tw4659377097700059490:=()
def tw11595938716627236421:=()
def tw3070867063561469948:=()
def tw8784884788544486365:=()
def tw3336174428287584594:=()
def tw13856534799353251804:=()
def tw3225282723867579659:=()
def tw14760498652487196435:=()
def tw13000055048188719025:=()
def tw269076661083138488:=()
def tw11429058838594792183:=()
def tw14274139137338781680:=()
def tw13253406620447108243:=()
def tw18175230939484750743:=()
def tw11568174807163450825:=()
def tw433449533723322577:=()
def tw6899194855856401096:=()
def tw6670494376639640517:=()
def tw5372823430787530100:=()
def tw10960071324468994664:=()
def tw13823123396154914327:=()
def tw276236428408223388:=()
def tw12354876776164004547:=()
end PySem.W.Fast
set_option compiler.extract_closed false
local macro_rules| `(tactic| tm_at"b")=> `(tactic| first|exact xk rfl|exact we rfl)
set_option Elab.async false
set_option maxRecDepth 100000 in
set_option maxHeartbeats 0 in
open PySem PySem.W PyProof.Rows in
open_top Hd for PySem.Challenge.rw_firstout_k84_whole_names_and_order
set_option linter.all false
set_option maxRecDepth 100000
namespace L2
open PySem PySem.Spec PyProof.Rows
abbrev Key:=Sum Int Str
def BL:Key->ak->Bool
 | .inl k,v=>ak.isInt k v
 | .inr x,v=>ak.isStrOf x v
def aGY(w:gx):Key->Int
 | .inl k=>hashInt k
 | .inr x=>hashStr w x
theorem dB:∀{k:Key}{v:ak},BL k v=true->(∃i t,k=nz i/\v=mn i t)∨(∃x t,k=km x/\v=sy x t)
 | .inl i,v,h=>by
  obtain⟨t,e⟩:=ak.isInt_shape (k:=i) (v:=v) h;exact .inl ⟨i,t,rfl,e⟩
 | .inr x,v,h=>by
  obtain⟨t,e⟩:=ak.isStrOf_shape (x:=x) (v:=v) h;exact .inr ⟨x,t,rfl,e⟩
theorem XA(i:Int)(t:Tok):BL (.inl i) (.int i t)=true:=by simp[BL,ak.isInt]
theorem XY(x:Str)(t:Tok):BL (.inr x) (.str x t)=true:=by simp[BL,ak.isStrOf]
theorem aEG(a b:Int):decide ((nz a:Key)=nz b)=(a==b):=by
 by_cases e:a=b
 .subst e;simp
 .have h:¬(nz a:Key)=nz b:=λq=>e (md q);rw[decide_eq_false h];exact(beq_eq_false_iff_ne.mpr e).symm
theorem aFy(a b:Str):decide ((km a:Key)=km b)=decide (a=b):=by
 by_cases e:a=b
 .subst e;simp
 .have h:¬(km a:Key)=km b:=λq=>e (ir q);rw[decide_eq_false h,decide_eq_false e]
theorem aE0(a:Int)(b:Str):decide ((nz a:Key)=km b)=false:=decide_eq_false (λq=>nomatch q)
theorem aFQ(a:Str)(b:Int):decide ((km a:Key)=nz b)=false:=decide_eq_false (λq=>nomatch q)
def b9(prog:gd)(w:gx):PySem.KeyKind prog w Key where
 is:=BL
 hash:=aGY w
 inj:=λv a b ha hb=>by
  rcases dB ha with⟨i,t,rfl,rfl⟩|⟨x,t,rfl,rfl⟩
  .rcases dB hb with⟨j,u,rfl,e⟩|⟨y,u,rfl,e⟩
   .injection e with e1 _;rw[e1]
   .exact nomatch e
  .rcases dB hb with⟨j,u,rfl,e⟩|⟨y,u,rfl,e⟩
   .exact nomatch e
   .injection e with e1 _;rw[e1]
 byValue:=λk v h=>by
  rcases dB h with⟨i,t,rfl,rfl⟩|⟨x,t,rfl,rfl⟩<;>rfl
 pyHash:=λhv h=>by
  rcases dB hv with⟨i,t,rfl,rfl⟩|⟨x,t,rfl,rfl⟩
  .exact wpAny_pyHash_int h
  .exact wpAny_pyHash_str h
 eqBool:=λhu hv h=>by
  rcases dB hu with⟨i,t,rfl,rfl⟩|⟨x,t,rfl,rfl⟩
  .rcases dB hv with⟨j,u,rfl,rfl⟩|⟨y,u,rfl,rfl⟩
   .rw[aEG]at h;exact wpAny_eqBool_int h
   .rw[aE0]at h;exact yo i t y u _ _ _ _ h
  .rcases dB hv with⟨j,u,rfl,rfl⟩|⟨y,u,rfl,rfl⟩
   .rw[aFQ]at h;exact yq x t j u _ _ _ _ h
   .rw[aFy]at h;exact wpAny_eqBool_str h
 «strs»:=λk x t v h=>by
  rcases dB h with⟨i,u,rfl,e⟩|⟨y,u,rfl,e⟩
  .exact nomatch e
  .injection e with e1 _;subst e1;cases v<;>rfl
theorem O2(prog:gd)(w:gx)(i:Int)(t:Tok):(b9 prog w).is (.inl i) (.int i t)=true:=XA i t
theorem O1(prog:gd)(w:gx)(x:Str)(t:Tok):(b9 prog w).is (.inr x) (.str x t)=true:=XY x t
inductive V where
 | non|bl (b:Bool)|int (i:Int)|str (x:Str)|byt (b:Array UInt8)|flt (b:UInt64)|ref (a:Addr)|ty (n:String)
 deriving DecidableEq
def RelV:V->ak->Prop
 | .non,u=>u=fu
 | .bl b,u=>u=tp b
 | .int i,u=>∃t,u=mn i t
 | .str x,u=>∃t,u=sy x t
 | .byt b,u=>∃t,u=ak.bytes b t
 | .flt b,u=>∃t,u=zf b t
 | .ref a,u=>u=cu a
 | .ty n,u=>u=oe n
abbrev Vals:List V->List ak->Prop:=bu RelV
variable {vs xs:List V}
theorem Vals.length{us:List ak}(r:Vals xs us):xs.length=us.length:=bx r
theorem Vals.get:∀{xs:List V}{us:List ak}{i:Nat}{x:V},Vals xs us->xs[i]? =some x->∃u,us[i]? =some u/\RelV x u
 | _,_,_,_,.nil,e=>by simp at e
 | _,_,0,_,.cons r _,e=>by simp at e;subst e;exact⟨_,rfl,r⟩
 | _,_,i+1,x,.cons _ t,e=>by
  obtain⟨u,h1,h2⟩:=Vals.get (i:=i) (x:=x) t (by simpa using e);exact⟨u,by simpa using h1,h2⟩
variable {u:ak}{v:V}
theorem Vals.set{x:V}(r:RelV x u):∀{xs:List V}{us:List ak} (i:Nat),Vals xs us->Vals (xs.set i x) (us.set i u)
 | _,_,_,.nil=> .nil
 | _,_,0,.cons _ t=> .cons r t
 | _,_,i+1,.cons q t=> .cons q (Vals.set r i t)
theorem Vals.append:∀{xs ys:List V}{us ws:List ak},Vals xs us->Vals ys ws->Vals (xs++ys) (us++ws)
 | _,_,_,_,.nil,s=>s
 | _,_,_,_,.cons r t,s=> .cons r (Vals.append t s)
theorem Vals.take:∀{xs:List V}{us:List ak} (n:Nat),Vals xs us->Vals (xs.take n) (us.take n)
 | _,_,0,_=> .nil
 | _,_,_+1,.nil=> .nil
 | _,_,n+1,.cons r t=> .cons r (Vals.take n t)
theorem Vals.drop:∀{xs:List V}{us:List ak} (n:Nat),Vals xs us->Vals (xs.drop n) (us.drop n)
 | _,_,0,r=>r
 | _,_,_+1,.nil=> .nil
 | _,_,n+1,.cons _ t=>Vals.drop n t
def RelO:Option V->Option ak->Prop
 | some v,some u=>RelV v u
 | none,none=>True
 | _,_=>False
variable {α β:Type}
def KV{κ:Type}:List (κ×V)->List (κ×ak)->Prop:=bu λ(p:κ×V) (q:κ×ak)=>p.1=q.1/\RelV p.2 q.2
def kV:Key->V
 | .inl i=> .int i
 | .inr x=> .str x
inductive HO where
  | lst (xs:List V)
  | tup (xs:List V)
  | dK (kvs:List (Key×V))|dT (kvs:List (List Key×V))
  | set (S:Int->Bool) (n:Nat)
  | ins (C dx:Addr) (fs:List (Str×V))
  | own (x:Addr)
  | xd (fs:List (Str×V))
  | met (f x:Addr)
  | rng (lo hi:Int)
  | frz (o:Obj) (u:HO)
  | tbl (ps:Array ak)
  | ext (φ:Heap->Prop)
abbrev Hp:=Addr->Option HO
def upd(H:Hp)(a:Addr)(o:HO):Hp:=λb=>if b=a then some o else H b
variable {H H':Hp}{C a dx it:Addr}
theorem aR{o:HO}:upd H a o a=some o:=by unfold upd;rw[if_pos rfl]
theorem aI{b:Addr}{o:HO}(h:b≠a):upd H a o b=H b:=by unfold upd;rw[if_neg h]
theorem aDI{o u:HO}:upd (upd H a o) a u=upd H a u:=by
 funext b;unfold upd;split<;>rfl
theorem aGG{b:Addr}{o u:HO}(h:H a=some o)(h':H b=some u)(d:o≠u):a≠b:=by
 intro e;subst e;rw[h]at h';exact d (dg h')
theorem bA{b:Addr}{o:HO}(h:H a=some o)(h':H b=none):a≠b:=by
 intro e;subst e;rw[h]at h';cases h'
section
variable (P:gd)(w:gx)
def ObjOk(H:Hp)(h:Heap)(a:Addr):HO->Prop
 | .lst xs=>xs.length<=sizeLine/\∃(its:List ak) (n:Nat),Vals xs its/\h.get? a=some { cls:= .type "list",data:= .seq its.toArray n }
 | .tup xs=>xs.length<=sizeLine/\∃its:List ak,Vals xs its/\IsTup h a its.toArray
 | .dK kvs=>kvs.length<=sizeLine/\(a==ij)=false/\∃vs,KV kvs vs/\h.DictOf (b9 P w) a vs
 | .dT kvs=>kvs.length<=sizeLine/\(a==ij)=false/\∃xs:List (List Key×Addr×ak),
   bu (λ(p:List Key×V) (q:List Key×Addr×ak)=>p.1=q.1/\H q.2.1=some (.tup (p.1.map kV))/\RelV p.2 q.2.2) kvs xs ∧
   ∃o es ep,h.get? a=some o/\o.ExactDict/\o.data= .dict es ep/\es.toList=xs.map (entryOfKey (vt (b9 P w)))/\(xs.map (·.1)).Nodup
 | .set S n=>h.SetOf (intKind P w) a S n
 | .ins C dx fs=>H dx=some (.own a)/\fs.length<=1000/\dx≠a/\h.get? a=some (W.instObj C dx) ∧
   ∃mA,h.Ns1 dx mA/\(∀f,RelO (fs.lookup f) (mA f))/\yx mA (fs.map (·.1))
 | .own _=>∃o,h.get? a=some o
 | .xd fs=>∃mA,h.Ns1 a mA/\∀f,RelO (fs.lookup f) (mA f)
 | .rng lo hi=>∃t u v,h.get? a=some { cls:= .type "range",data:= .fields #[.int lo t,.int hi u,.int 1 v] }
 | .frz o u=>h.get? a=some o/\ObjOk H h a u
 | .tbl ps=>h.get? a=some { cls:= .none,data:= .fields ps }
 | .met f x=>h.get? a=some (W.methodObj (.ref f) (.ref x))
 | .ext φ=>φ h/\(∃o,h.get? a=some o)/\∀h1 h2:Heap,φ h1->(∀o,h1.get? a=some o->h2.get? a=some o)->φ h2
def HOk(H:Hp)(h:Heap):Prop:=∀a o,H a=some o->ObjOk P w H h a o
end
variable {P prog:gd}{w:gx}{base h h':Heap}
section
variable {o:HO}
theorem ObjOk.lt(x:ObjOk P w H h a o):a<h.objs.size:=by
 cases o with
 | lst xs=>obtain⟨_,_,_,_,e⟩:=x;exact bc e
 | tup xs=>obtain⟨_,_,_,p⟩:=x;exact p.lt
 | dK kvs=>obtain⟨_,_,_,_,o,_,_,e,_⟩:=x;exact bc e
 | dT kvs=>obtain⟨_,_,_,_,o,_,_,e,_⟩:=x;exact bc e
 | set S n=>obtain⟨o,_,_,_,e,_⟩:=x;exact bc e
 | ins C dx fs=>obtain⟨_,_,_,e,_⟩:=x;exact bc e
 | own y=>obtain⟨_,e⟩:=x;exact bc e
 | xd fs=>obtain⟨_,⟨_,_,_,e,_⟩,_⟩:=x;exact bc e
 | rng lo hi=>obtain⟨_,_,_,e⟩:=x;exact bc e
 | frz ob u=>obtain⟨e,_⟩:=x;exact bc e
 | tbl ps=>exact bc (show h.get? a=some _ from x)
 | met f y=>exact bc (show h.get? a=some _ from x)
 | ext φ=>obtain⟨_,⟨_,e⟩,_⟩:=x;exact bc e
theorem Paired.mapP{F G:α->β->Prop}:∀{l₁:List α}{l₂:List β},bu F l₁ l₂->(∀a b,F a b->G a b)->bu G l₁ l₂
 | _,_,.nil,_=> .nil
 | _,_,.cons r t,f=> .cons (f _ _ r) (Paired.mapP t f)
theorem Paired.imp'{α:Type}{F G:α->β->Prop}(f:∀a b,F a b->G a b){l₁:List α}{l₂:List β}(r:bu F l₁ l₂):bu G l₁ l₂:=Paired.mapP r f
theorem ObjOk.stay(x:ObjOk P w H h a o)(k:∀b u,(b=a∨H b=some (.own a))->h.get? b=some u->h'.get? b=some u)
  (ho:∀b,H b=some (.own a)->H' b=some (.own a))(ht:∀b xs,H b=some (.tup xs)->H' b=some (.tup xs)):ObjOk P w H' h' a o:=by
 induction o with
 | lst xs=>obtain⟨z,its,n,r,e⟩:=x;exact⟨z,its,n,r,k _ _ (.inl rfl) e⟩
 | tup xs=>obtain⟨z,its,r,ob,e,c⟩:=x;exact⟨z,its,r,ob,k _ _ (.inl rfl) e,c⟩
 | dK kvs=>obtain⟨z,y,vs,r,ob,es,ep,e,c⟩:=x;exact⟨z,y,vs,r,ob,es,ep,k _ _ (.inl rfl) e,c⟩
 | dT kvs =>
  obtain⟨z,y,xs,r,ob,es,ep,e,c⟩:=x;exact⟨z,y,xs,Paired.mapP r λp q z=>⟨z.1,ht _ _ z.2.1,z.2.2⟩,ob,es,ep,k _ _ (.inl rfl) e,c⟩
 | set S n=>obtain⟨ob,es,ep,t,e,c⟩:=x;exact⟨ob,es,ep,t,k _ _ (.inl rfl) e,c⟩
 | ins C dx fs =>
  obtain⟨d,z,ne,e,mA,⟨od,es,ep,e2,c⟩,r⟩:=x;exact⟨ho _ d,z,ne,k _ _ (.inl rfl) e,mA,⟨od,es,ep,k _ _ (.inr d) e2,c⟩,r⟩
 | own y=>obtain⟨ob,e⟩:=x;exact⟨ob,k _ _ (.inl rfl) e⟩
 | xd fs=>obtain⟨mA,⟨od,es,ep,e,c⟩,r⟩:=x;exact⟨mA,⟨od,es,ep,k _ _ (.inl rfl) e,c⟩,r⟩
 | rng lo hi=>obtain⟨t,u,v,e⟩:=x;exact⟨t,u,v,k _ _ (.inl rfl) e⟩
 | frz ob u ih=>obtain⟨e,q⟩:=x;exact⟨k _ _ (.inl rfl) e,ih q⟩
 | tbl ps =>
  have e:h.get? a=some { cls:= .none,data:= .fields ps }:=x;show h'.get? a=some { cls:= .none,data:= .fields ps };exact k a _ (.inl rfl) e
 | met f y =>
  have e:h.get? a=some (W.methodObj (.ref f) (.ref y)):=x;show h'.get? a=some (W.methodObj (.ref f) (.ref y));exact k a _ (.inl rfl) e
 | ext φ=>obtain⟨p,⟨o,e⟩,st⟩:=x;exact⟨st _ _ p λo q=>k _ _ (.inl rfl) q,⟨o,k _ _ (.inl rfl) e⟩,st⟩
theorem HOk.lt(x:HOk P w H h)(e:H a=some o):a<h.objs.size:=(x a o e).lt
theorem HOk.fresh(x:HOk P w H h)(e:h.objs.size<=a):H a=none:=by
 cases q:H a with
 | none=>rfl
 | some u=>exact absurd (bt (x.lt q) e) (ee _)
theorem HOk.kept(x:HOk P w H h)(k:∀b u,h.get? b=some u->h'.get? b=some u):HOk P w H h':=λa o e =>
 (x a o e).stay (λb u _ q=>k b u q) (λ_ q=>q) λ_ _ q=>q
theorem HOk.laid(x:HOk P w H h)(k:∀b u,h.get? b=some u->h'.get? b=some u)(hp:h.objs.size<=a)(new:ObjOk P w (upd H a o) h' a o):HOk P w (upd H a o) h':=λb u e=>by
 have hn:=x.fresh hp
 by_cases hb:b=a
 .subst hb;rw[aR]at e;cases e;exact new
 .rw[aI hb]at e;exact(x b u e).stay (λc v _ q=>k c v q) (λc q=>by rw[aI (bA q hn)];exact q) λc xs q=>by rw[aI (bA q hn)];exact q
end
def Rd(H:Hp)(a:Addr)(u:HO):Prop:=H a=some u∨∃o,H a=some (.frz o u)
theorem Rd.ok{u:HO}(r:Rd H a u)(x:HOk P w H h):ObjOk P w H h a u:=by
 rcases r with r|⟨o,r⟩
 .exact x a u r
 .obtain⟨_,q⟩:=x a _ r;exact q
def Mut:Option HO->Prop
 | some (.lst _)=>True
 | some (.dK _)=>True
 | some (.dT _)=>True
 | some (.set _ _)=>True
 | some (.ins _ _ _)=>True
 | some (.ext _)=>True
 | _=>False
section
variable {x e:Addr}{o':HO}
theorem HOk.write(ok:HOk P w H h)(mu:Mut (H x))(he:e=x∨H e=some (.own x))(k:∀b u,b≠e->h.get? b=some u->h'.get? b=some u)(heo:∃u,h'.get? e=some u)
  (new:ObjOk P w (upd H x o') h' x o'):HOk P w (upd H x o') h':=λb u q=>by
 have nown:∀c y,H c=some (.own y)->c≠x:=λc y r z=>by subst z;rw[r]at mu;exact mu
 have ntup:∀c xs,H c=some (.tup xs)->c≠x:=λc xs r z=>by subst z;rw[r]at mu;exact mu
 by_cases hb:b=x
 .subst hb;rw[aR]at q;cases q;exact new
 .rw[aI hb]at q
  by_cases hbe:b=e
  .have q':H b=some (.own x):=by
    rcases he with z|z
    .exact absurd (hbe.trans z) hb
    .rw[hbe];exact z
   rw[q]at q';cases q';obtain⟨v,hv⟩:=heo;exact⟨v,by rw[hbe];exact hv⟩
  .refine(ok b u q).stay (λc v hc r=>k c v ?_ r) (λc r=>by rw[aI (nown c b r)];exact r) λc xs r=>by rw[aI (ntup c xs r)];exact r
   rcases hc with rfl|hc
   .exact hbe
   .rintro rfl;rcases he with z|z
    .exact nown c b hc z
    .rw[hc]at z;cases z;exact hb rfl
end
structure Un(fs ex:List Addr)(H H':Hp)(h h':Heap):Prop where
 keep:∀b o,h.get? b=some o->H b=none->b∉fs->b∉ex->h'.get? b=some o
 slot:∀b o,h.get? b=some o->H b=none->b∈fs->b∉ex->∃sl,h'.get? b=some { o with slots:=sl }
 free:∀b o,h.get? b=some o->H b=none->b∉ex->H' b=none
 there:∀b o,h.get? b=some o->b∉ex->∃o',h'.get? b=some o'
 tups:∀b xs,H b=some (.tup xs)->H' b=some (.tup xs)
 frzs:∀b o u,H b=some (.frz o u)->H' b=some (.frz o u)
 tbls:∀b ps,H b=some (.tbl ps)->∃more,H' b=some (.tbl (ps++more))
variable {o:Obj}{ch:List Addr}
section
variable {fs fs' ex ex':List Addr}{H1 H2:Hp}{h1 h2:Heap}{x e:Addr}{o:HO}
theorem Un.any(u:Un fs ex H H1 h h1){b:Addr}{ob:Obj}(q:h.get? b=some ob)(n:H b=none)(hx:b∉ex):∃sl,h1.get? b=some { ob with slots:=sl }:=by
 by_cases hb:b∈fs
 .exact u.slot b ob q n hb hx
 .exact⟨ob.slots,u.keep b ob q n hb hx⟩
theorem Un.kept(k:∀b u,h.get? b=some u->h'.get? b=some u):Un fs ex H H h h' :=
 ⟨λb ob q _ _ _=>k b ob q,λb ob q _ _ _=>⟨ob.slots,k b ob q⟩,λ_ _ _ n _=>n,λb ob q _=>⟨ob,k b ob q⟩,λ_ _ q=>q,λ_ _ _ q=>q,λ_ ps q=>⟨#[],by rw[q];simp⟩⟩
theorem Un.refl:Un fs ex H H h h:=Un.kept λ_ _ q=>q
theorem Un.laid(k:∀b u,h.get? b=some u->h'.get? b=some u)(hp:h.objs.size<=a)(hn:H a=none):Un fs ex H (upd H a o) h h' where
 keep:=λb u q _ _ _=>k b u q
 slot:=λb u q _ _ _=>⟨u.slots,k b u q⟩
 free:=λb u q n _=>by rw[aI (cf (bt (bc q) hp))];exact n
 there:=λb u q _=>⟨u,k b u q⟩
 tups:=λb xs q=>by rw[aI (bA q hn)];exact q
 frzs:=λb u xs q=>by rw[aI (bA q hn)];exact q
 tbls:=λb ps q=>⟨#[],by rw[aI (bA q hn),q];simp⟩
theorem Un.write(mu:Mut (H x))(he:e=x∨H e=some (.own x))(k:∀b u,b≠e->h.get? b=some u->h'.get? b=some u)(heo:∃u,h'.get? e=some u):Un fs ex H (upd H x o) h h':=by
 have hx:∀b,H b=none->b≠x:=λb n z=>by subst z;rw[n]at mu;exact mu
 have hb:∀b,H b=none->b≠e:=λb n z=>by
  subst z;rcases he with r|r
  .exact hx b n r
  .rw[n]at r;cases r
 have hm:∀b u,H b=some u->¬Mut (some u)->b≠x:=λb u q nm z=>by subst z;rw[q]at mu;exact nm mu
 refine⟨λb u q n _ _=>k b u (hb b n) q,λb u q n _ _=>⟨u.slots,k b u (hb b n) q⟩,λb u q n _=>by rw[aI (hx b n)];exact n,λb u q _=> ?_,
  λb xs q=>by rw[aI (hm b _ q λz=>z)];exact q,λb u xs q=>by rw[aI (hm b _ q λz=>z)];exact q,λb ps q=>⟨#[],by rw[aI (hm b _ q λz=>z),q];simp⟩⟩
 by_cases hbe:b=e
 .subst hbe;exact heo
 .exact⟨u,k b u hbe q⟩
end
def trk(h:Heap)(H:Hp):List Addr:=(el h.objs.size).filter λa=>(H a).isSome
def sT(h:Heap)(H:Hp):Heap:=W.hideAll h (trk h H)
theorem X4(h:Heap)(H:Hp):(sT h H).objs.size=h.objs.size:=W.hideAll_size _ _
theorem aAn{b:Addr}(e:h.get? b=some o)(n:H b=none):(sT h H).get? b=some o :=
 W.hideAll_get _ e λhm=>by
  have q:(H b).isSome=true:=(cg.mp hm).2;rw[n]at q;simp at q
theorem aCM{b:Addr}(e:(sT h H).get? b=some o):h.get? b=some o/\H b=none:=by
 have e':h.get? b=some o:=W.of_hideAll (trk h H) e;refine⟨e',?_⟩;cases q:H b with
 | none=>rfl
 | some x =>
  have hm:b∈trk h H:=cg.mpr ⟨gr.mpr (bc e'),by simp[q]⟩;have z:(sT h H).get? b=none:=W.hideAll_none (trk h H) hm;rw[z]at e;cases e
structure Mod(K:W.Frag)(mg:Str->Option ak)(base:Heap):Prop where
 kin:K.In base
 glob:base.Ns bf mg
 blt:∃mb,base.Ns wg mb/\∀x:Str,x≠ "__name__" ->mb x=fm x
 nolimit:base.NoLimit
structure Cx where
 prog:gd
 w:gx
 K:W.Frag
 mg:Str->Option ak
 base:Heap
 A:ke
 N:List Str
 s₀:ba
 H₀:Hp
 env:Env
 outer:List Env
 stack:List Env
 ex:List Addr
 fn:Str->Bool
 calm:Bool
 pn:List (Addr×Obj)
 xe:ak->ba->Prop
def frs(l:List Env):List Addr:=l.filterMap (·.frame)
abbrev Cx.fs(X:Cx):List Addr:=frs X.outer
def Vis(sc:rm)(x:Str):Prop:=sc.names.lookup x=some .local∨sc.names.lookup x=some .cell∨sc.names.lookup x=some .free
def Loc(sc:rm)(x:Str):Prop:=sc.names.lookup x=some .local∨sc.names.lookup x=some .cell
def aGQ(env:Env)(h:Heap)(m:Str->Option ak)(x:Str)(u:ak):Prop :=
 (env.kindOf x=some .local/\m x=some u)∨((env.kindOf x=some .cell∨env.kindOf x=some .free)/\∃c,env.cells.lookup x=some c/\h.IsCell c (some u))
structure Cx.Ok(X:Cx):Prop where
 mod:Mod X.K X.mg X.base
 kind:X.env.scope.kind= .function
 glob:X.env.globals=bf
 blt:X.env.builtins=wg
 above:X.s₀.heap.objs.size<=X.env.locals
 inj:∀x y c,X.env.cells.lookup x=some c->X.env.cells.lookup y=some c->x=y
 has:∀x,(X.env.kindOf x=some .cell∨X.env.kindOf x=some .free)->∃c,X.env.cells.lookup x=some c
 cab:∀x c,X.fn x=true->X.env.cells.lookup x=some c->X.s₀.heap.objs.size<=c
 hd:X.calm=true->X.A.handled=none
 frames:X.A.frames=some X.stack
 stk:X.stack=X.outer∨(X.stack=X.env::X.outer/\X.env.frame=some X.env.locals)
 exf:∀b∈X.ex,b≠X.env.locals/\∀x c,X.env.cells.lookup x=some c->c≠b
 bs:∀b o,X.base.get? b=some o->X.s₀.heap.get? b=some o/\X.H₀ b=none
 bsz:X.base.objs.size<=X.s₀.heap.objs.size
 noex:∀b o,X.base.get? b=some o->b∉X.ex
 exfs:∀b∈X.ex,b∉X.fs
 funs:X.s₀.heap.FunFrames X.base X.outer
 frf:∀b∈X.fs,X.H₀ b=none
structure Inv(X:Cx)(pins:List (Addr×Obj))(σ:List (Option V))(H:Hp)(s:ba):Prop where
 ok:X.Ok
 os:s.os=X.s₀.os
 bare:uj s.gens
 base:Un X.fs X.ex X.H₀ H X.s₀.heap s.heap
 loc:∃m,s.heap.Ns X.env.locals m/\∀(i:Nat) (x:Str) (v:V),X.N[i]? =some x->σ[i]? =some (some v)->Vis X.env.scope x->∃u,RelV v u/\aGQ X.env s.heap m x u
 cell:∀x c,X.env.cells.lookup x=some c->∃v,s.heap.IsCell c v
 free:H X.env.locals=none
 freeC:∀x c,X.env.cells.lookup x=some c->H c=none
 pin:∀p∈X.pn++pins,s.heap.get? p.1=some p.2/\H p.1=none/\p.1≠X.env.locals/\p.1∉X.fs/\∀v,p.2.data≠ .cell v
 hok:HOk X.prog X.w H s.heap
 len:σ.length=X.N.length
variable {g':Array GenState}{j n t':Nat}{d':Drawn}{N:List Str}{m name qual x:Str}{A:ke}{E:ak->ba->Prop}{s s':ba}{X:Cx}{pins:List (Addr×Obj)}
section
variable {σ:List (Option V)}
theorem Cx.Ok.nofr(ok:X.Ok){b:Addr}(e:X.base.get? b=some o):b∉X.fs:=λhb=>by
 have:=(ok.funs.mem hb).1;rw[e]at this;cases this
theorem Inv.bs(I:Inv X pins σ H s):∀b o,X.base.get? b=some o->s.heap.get? b=some o/\H b=none:=λb o e =>
 ⟨I.base.keep b o (I.ok.bs b o e).1 (I.ok.bs b o e).2 (I.ok.nofr e) (I.ok.noex b o e),I.base.free b o (I.ok.bs b o e).1 (I.ok.bs b o e).2 (I.ok.noex b o e)⟩
theorem Inv.bk(I:Inv X pins σ H s):∀b o,X.base.get? b=some o->s.heap.get? b=some o:=λb o e=>(I.bs b o e).1
theorem Inv.mod(I:Inv X pins σ H s):Mod X.K X.mg X.base:=I.ok.mod
theorem Inv.kIn(I:Inv X pins σ H s):X.K.In s.heap:=I.ok.mod.kin.keeps I.bk
theorem Inv.lt(I:Inv X pins σ H s):X.env.locals<s.heap.objs.size:=let ⟨_,hn,_⟩:=I.loc;hn.lt
theorem Inv.sz(I:Inv X pins σ H s):X.s₀.heap.objs.size<=s.heap.objs.size:=dy I.ok.above (mq I.lt)
theorem Inv.nofs(I:Inv X pins σ H s)(h:s.heap.objs.size<=a):a∉X.fs:=λhb=>by
 obtain⟨_,o,ho,_⟩:=I.ok.funs.mem hb;exact absurd (bt (bc ho) (dy I.sz h)) (ee _)
theorem Inv.cne(I:Inv X pins σ H s):∀x c,X.env.cells.lookup x=some c->c≠X.env.locals:=λx c e z=>by
 obtain⟨v,o,ho,hd⟩:=I.cell x c e;obtain⟨m,⟨o',es,ep,ho',hd',_⟩,_⟩:=I.loc;rw[z,ho']at ho;cases ho;rw[hd']at hd;cases hd
theorem Inv.funs(I:Inv X pins σ H s):s.heap.FunFrames X.base X.outer:=by
 have all:∀(l:List Env),(∀b∈frs l,b∈X.fs)->X.s₀.heap.FunFrames X.base l->s.heap.FunFrames X.base l:=by
  intro l
  induction l with
  | nil=>intro _ _;trivial
  | cons env r ih =>
   intro hs hl;obtain⟨hk,⟨L,o,hf,hn,ho,hd⟩,hr⟩:=hl;have hL:L∈X.fs:=hs L (by unfold frs;rw[rn,hf];exact fw);obtain⟨sl,e⟩:=I.base.slot L o ho (I.ok.frf L hL) hL λz=>I.ok.exfs L z hL;exact⟨hk,⟨L,_,hf,hn,e,hd⟩,ih (λb hb=>hs b (by unfold frs;rw[rn,hf];exact ab _ hb)) hr⟩
 exact all X.outer (λ_ hb=>hb) I.ok.funs
theorem Inv.stack(I:Inv X pins σ H s):s.heap.FunFrames X.base X.stack:=by
 rcases I.ok.stk with e|⟨e,hf⟩
 .rw[e];exact I.funs
 .rw[e];obtain⟨m,hn,_⟩:=I.loc;refine .cons (by rw[I.ok.kind];decide) hf hn ?_ I.funs;exact Heap.get?_none_of_le (dy I.ok.bsz I.ok.above)
theorem Inv.stkSub(I:Inv X pins σ H s):∀b∈frs X.stack,b∈X.env.locals::X.fs:=λb hb=>by
 rcases I.ok.stk with e|⟨e,hf⟩
 .rw[e]at hb;exact ab _ hb
 .rw[e]at hb;unfold frs at hb;rw[rn,hf]at hb;exact hb
theorem Inv.stkFree(I:Inv X pins σ H s):∀b∈frs X.stack,H b=none:=λb hb=>by
 rcases az.mp (I.stkSub b hb) with e|hb
 .rw[e];exact I.free
 .obtain⟨_,o,ho,_⟩:=I.ok.funs.mem hb;exact I.base.free b o ho (I.ok.frf b hb) λz=>I.ok.exfs b z hb
theorem Inv.step(I:Inv X pins σ H s)
  (hch:∀b∈ch,(b∈X.ex∨X.s₀.heap.objs.size<=b)/\b≠X.env.locals/\(∀x c,X.env.cells.lookup x=some c->c≠b)/\∀p∈X.pn++pins,p.1≠b)
  (keep:∀b o,b≠X.env.locals->b∉X.fs->b∉ch->s.heap.get? b=some o->H b=none->h'.get? b=some o)
  (slot:∀b o,b≠X.env.locals->b∈X.fs->b∉ch->s.heap.get? b=some o->H b=none->∃sl,h'.get? b=some { o with slots:=sl })(free:∀b o,b∉ch->s.heap.get? b=some o->H b=none->H' b=none)
  (there:∀b o,b∉ch->s.heap.get? b=some o->∃o',h'.get? b=some o')
  (tups:∀b xs,H b=some (.tup xs)->H' b=some (.tup xs))(frzs:∀b o u,H b=some (.frz o u)->H' b=some (.frz o u))(tbls:∀b ps,H b=some (.tbl ps)->∃more,H' b=some (.tbl (ps++more)))
  (ns:∀m,s.heap.Ns X.env.locals m->h'.Ns X.env.locals m)(hok:HOk X.prog X.w H' h')(hg:uj g') :
  Inv X pins σ H' { s with heap:=h',gens:=g',drawn:=d',toks:=t' }:=by
 have neL:∀b o,X.s₀.heap.get? b=some o->b≠X.env.locals:=λb o e=>cf (bt (bc e) I.ok.above);have neC:∀b o,X.s₀.heap.get? b=some o->b∉X.ex->b∉ch:=λb o e hx hb=>by
  rcases (hch b hb).1 with z|z
  .exact hx z
  .exact absurd (bt (bc e) z) (ee _)
 have cellK:∀x c,X.env.cells.lookup x=some c->∀v,s.heap.IsCell c v->h'.IsCell c v:=λx c e v ⟨o,ho,hd⟩=>by
  have nch:c∉ch:=λz=>(hch c z).2.2.1 x c e rfl
  by_cases hc:c∈X.fs
  .obtain⟨sl,q⟩:=slot c o (I.cne x c e) hc nch ho (I.freeC x c e);exact⟨_,q,hd⟩
  .exact⟨o,keep c o (I.cne x c e) hc nch ho (I.freeC x c e),hd⟩
 refine⟨I.ok,I.os,hg,⟨λb o e n hb hx=> ?_,λb o e n hb hx=> ?_,λb o e n hx=> ?_,λb o e hx=> ?_,λb xs e=>tups b xs (I.base.tups b xs e),λb o xs e=>frzs b o xs (I.base.frzs b o xs e),λb ps e=> ?_⟩,?_,λx c e=> ?_,?_,λx c e=> ?_,λp hp=> ?_,hok,I.len⟩
 .exact keep b o (neL b o e) hb (neC b o e hx) (I.base.keep b o e n hb hx) (I.base.free b o e n hx)
 .obtain⟨sl,e1⟩:=I.base.slot b o e n hb hx;obtain⟨sl',e2⟩:=slot b _ (neL b o e) hb (neC b o e hx) e1 (I.base.free b o e n hx);exact⟨sl',e2⟩
 .obtain⟨o',e1⟩:=I.base.there b o e hx;exact free b o' (neC b o e hx) e1 (I.base.free b o e n hx)
 .obtain⟨o',e1⟩:=I.base.there b o e hx;exact there b o' (neC b o e hx) e1
 .obtain⟨m1,e1⟩:=I.base.tbls b ps e;obtain⟨m2,e2⟩:=tbls b _ e1;exact⟨m1++m2,by rw[e2,Array.append_assoc]⟩
 .obtain⟨m,hn,hl⟩:=I.loc;refine⟨m,ns m hn,λi x v e1 e2 e3=> ?_⟩;obtain⟨u,r,l⟩:=hl i x v e1 e2 e3;refine⟨u,r,?_⟩;rcases l with l|⟨k,c,e,z⟩
  .exact .inl l
  .exact .inr ⟨k,c,e,cellK x c e _ z⟩
 .obtain⟨v,z⟩:=I.cell x c e;exact⟨v,cellK x c e v z⟩
 .obtain⟨m,⟨o,_,_,ho,_⟩,_⟩:=I.loc;exact free _ o (λz=>(hch _ z).2.1 rfl) ho I.free
 .obtain⟨v,o,ho,hd⟩:=I.cell x c e;exact free c o (λz=>(hch c z).2.2.1 x c e rfl) ho (I.freeC x c e)
 .obtain⟨e,n,ne,nf,d⟩:=I.pin p hp;have nch:p.1∉ch:=λz=>(hch p.1 z).2.2.2 p hp rfl;exact⟨keep p.1 p.2 ne nf nch e n,free p.1 p.2 nch e n,ne,nf,d⟩
theorem Inv.un(I:Inv X pins σ H s)(u:Un X.fs [] H H' s.heap h')(hok:HOk X.prog X.w H' h'):Inv X pins σ H' { s with heap:=h',toks:=t' }:=by
 obtain⟨m,⟨o,es,ep,ho,r⟩,_⟩:=id I.loc;obtain⟨sl,hL⟩:=u.any ho I.free (by simp);exact I.step (g':=s.gens) (d':=s.drawn) (ch:=[]) (λ_ z=>nomatch z) (λb o _ hb _ e n=>u.keep b o e n hb (by simp)) (λb o _ hb _ e n=>u.slot b o e n hb (by simp)) (λb o _ e n=>u.free b o e n (by simp)) (λb o _ e=>u.there b o e (by simp)) u.tups u.frzs u.tbls (λm' hm=>by
  obtain⟨o',es',ep',ho',r'⟩:=hm;rw[ho]at ho';cases ho';exact⟨_,es',ep',hL,r'⟩) hok I.bare
theorem Inv.call(I:Inv X pins σ H s)(u:Un (frs X.stack) ch H H' s.heap h')(hok:HOk X.prog X.w H' h')(hg:uj g')
  (hch:∀b∈ch,(b∈X.ex∨X.s₀.heap.objs.size<=b)/\b≠X.env.locals/\(∀x c,X.env.cells.lookup x=some c->c≠b)/\∀p∈X.pn++pins,p.1≠b) :
  Inv X pins σ H' { s with heap:=h',gens:=g',drawn:=d',toks:=t' }:=by
 obtain⟨m,⟨o,es,ep,ho,r⟩,_⟩:=id I.loc;obtain⟨sl,hL⟩:=u.any ho I.free λz=>(hch _ z).2.1 rfl;exact I.step (ch:=ch) hch (λb o hL hb hc e n=>u.keep b o e n (λz=>(az.mp (I.stkSub b z)).elim hL hb) hc) (λb o _ _ hc e n=>u.any e n hc) (λb o hc e n=>u.free b o e n hc) (λb o hc e=>u.there b o e hc) u.tups u.frzs u.tbls (λm' hm=>by
  obtain⟨o',es',ep',ho',r'⟩:=hm;rw[ho]at ho';cases ho';exact⟨_,es',ep',hL,r'⟩) hok hg
theorem Inv.turned(I:Inv X pins σ H s)(k:∀b o,b≠it->s.heap.get? b=some o->h'.get? b=some o)(hn:H it=none)(hL:it≠X.env.locals)
  (h1:it∈X.ex∨X.s₀.heap.objs.size<=it)(h2:∀x c,X.env.cells.lookup x=some c->c≠it)(h3:∀p∈X.pn++pins,p.1≠it):Inv X pins σ H { s with heap:=h',toks:=t' }:=by
 have nit:∀b u,H b=some u->b≠it:=λb u e z=>by rw[z,hn]at e;cases e
 refine I.step (g':=s.gens) (d':=s.drawn) (ch:=[it]) (λb hb=> ?_) (λb o _ _ hc e _=>k b o (λz=>hc (by simp[z])) e) (λb o _ _ hc e _=>⟨o.slots,k b o (λz=>hc (by simp[z])) e⟩) (λ_ _ _ _ n=>n)
  (λb o hc e=>⟨o,k b o (λz=>hc (by simp[z])) e⟩) (λ_ _ e=>e) (λ_ _ _ e=>e) (λb ps e=>⟨#[],by rw[e];simp⟩) (λm hm=> ?_) (λb u e=> ?_) I.bare
 .have e:b=it:=by simpa using hb
  subst e;exact⟨h1,hL,h2,h3⟩
 .obtain⟨o,es,ep,ho,r⟩:=hm;exact⟨o,es,ep,k _ o (fb hL) ho,r⟩
 .refine(I.hok b u e).stay (λc v hc q=>k c v ?_ q) (λ_ q=>q) λ_ _ q=>q;rcases hc with z|z
  .rw[z];exact nit b u e
  .exact nit c _ z
theorem Inv.tok(I:Inv X pins σ H s)(t:Nat):Inv X pins σ H { s with toks:=t }:=I.un (h':=s.heap) (t':=t) Un.refl I.hok
theorem Inv.kept(I:Inv X pins σ H s)(k:∀b u,s.heap.get? b=some u->h'.get? b=some u):Inv X pins σ H { s with heap:=h',toks:=t' }:=I.un (Un.kept k) (I.hok.kept k)
theorem Inv.laid{o:HO}(I:Inv X pins σ H s)(k:∀b u,s.heap.get? b=some u->h'.get? b=some u)(hp:s.heap.objs.size<=a)(new:ObjOk X.prog X.w (upd H a o) h' a o):
  Inv X pins σ (upd H a o) { s with heap:=h',toks:=t' }:=I.un (Un.laid k hp (I.hok.fresh hp)) (I.hok.laid k hp new)
theorem Inv.write{x e:Addr}{o:HO}(I:Inv X pins σ H s)(mu:Mut (H x))(he:e=x∨H e=some (.own x))(k:∀b u,b≠e->s.heap.get? b=some u->h'.get? b=some u)(heo:∃u,h'.get? e=some u)
  (new:ObjOk X.prog X.w (upd H x o) h' x o):Inv X pins σ (upd H x o) { s with heap:=h',toks:=t' }:=I.un (Un.write mu he k heo) (I.hok.write mu he k heo new)
theorem Inv.weak{σ':List (Option V)}(I:Inv X pins σ H s)(hl:σ'.length=σ.length)(w:∀(i:Nat) v,σ'[i]? =some (some v)->σ[i]? =some (some v)):Inv X pins σ' H s :=
 ⟨I.ok,I.os,I.bare,I.base,let ⟨m,hn,hl'⟩:=I.loc;⟨m,hn,λi x v e1 e2 e3=>hl' i x v e1 (w i v e2) e3⟩,I.cell,I.free,I.freeC,I.pin,I.hok,hl.trans I.len⟩
theorem Inv.pins_of{pins':List (Addr×Obj)}(I:Inv X pins σ H s)(h:∀p∈pins',s.heap.get? p.1=some p.2/\H p.1=none/\p.1≠X.env.locals/\p.1∉X.fs/\∀v,p.2.data≠ .cell v):Inv X pins' σ H s :=
 ⟨I.ok,I.os,I.bare,I.base,I.loc,I.cell,I.free,I.freeC,λp hp=>(bh.mp hp).elim (λz=>I.pin p (fj _ z)) (h p),I.hok,I.len⟩
theorem OH(hN:N.Nodup){i:Nat}(a:N[i]? =some x)(b:N[j]? =some x):i=j:=by
 obtain⟨h1,e1⟩:=av.mp a;obtain⟨h2,e2⟩:=av.mp b;exact(List.getElem_inj hN).mp (e1.trans e2.symm)
theorem WC{M:Model}{i:Nat}{Q:Unit->ba->Prop}(I:Inv X pins σ H s)(hN:X.N.Nodup)(hi:X.N[i]? =some x)(hx:Loc X.env.scope x)(r:RelV v u)
  (h:∀s',Inv X pins (σ.set i (some v)) H s'->(∃a,ip a s.heap s'.heap/\(a=X.env.locals∨X.env.cells.lookup x=some a))->Q () s')(hf:X.fn x=true∨X.env.scope.names.lookup x=some .local:=by first|exact .inl rfl|exact .inr rfl|assumption):cb M A (storeName X.env x u) Q E s:=by
 obtain⟨m,hn,hl⟩:=id I.loc;have hcls:(X.env.scope.kind== .class||(X.env.scope.kind== .module&&X.env.locals !=X.env.globals))=false:=by rw[I.ok.kind];rfl
 have hiσ:i<σ.length:=by rw[I.len];exact(av.mp hi).1
 have cne:=I.cne;have tracked:∀{a:Addr}{h':Heap},(∃o,s.heap.get? a=some o/\H a=none)->ip a s.heap h'->HOk X.prog X.w H h':=λ{a h'} ha hs b ob e=>by
  obtain⟨_,_,hfree⟩:=ha;refine(I.hok b ob e).stay (λc w' hc q=>(hs.2 c ?_).trans q) (λ_ q=>q) λ_ _ q=>q;rintro rfl;rcases hc with rfl|hc
  .rw[hfree]at e;cases e
  .rw[hfree]at hc;cases hc
 rcases hx with hk|hk
 .refine wpAny_storeName_local hk hn (λh' hn' hs=> ?_) hcls;obtain⟨oL,_,_,hoL,_⟩:=id hn;refine h _ ⟨I.ok,I.os,I.bare,⟨λb o e n hb hx=> ?_,λb o e n hb hx=> ?_,I.base.free,λb o e hx=> ?_,I.base.tups,I.base.frzs,I.base.tbls⟩,⟨_,hn',λj y v' e1 e2 e3=> ?_⟩,λy c e=> ?_,I.free,I.freeC,λp hp=> ?_,tracked ⟨oL,hoL,I.free⟩ hs,by simpa using I.len⟩ ⟨_,hs,.inl rfl⟩
  .exact(hs.2 b (cf (bt (bc e) I.ok.above))).trans (I.base.keep b o e n hb hx)
  .obtain⟨sl,e1⟩:=I.base.slot b o e n hb hx;exact⟨sl,(hs.2 b (cf (bt (bc e) I.ok.above))).trans e1⟩
  .obtain⟨o',e1⟩:=I.base.there b o e hx;exact⟨o',(hs.2 b (cf (bt (bc e) I.ok.above))).trans e1⟩
  .by_cases hj:j=i
   .subst hj;rw[hi]at e1;cases e1;rw[wj hiσ]at e2;cases e2;exact⟨u,r,.inl ⟨hk,by simp⟩⟩
   .rw[qq (fb hj)]at e2;obtain⟨u',r',q⟩:=hl j y v' e1 e2 e3;refine⟨u',r',?_⟩;rcases q with⟨k,e⟩|⟨k,c,e,z⟩
    .refine .inl ⟨k,?_⟩;have:y≠x:=λe=>hj (OH hN e1 (e▸hi));simp[this,e]
    .exact .inr ⟨k,c,e,z.sameBut hs (cne y c e)⟩
  .obtain⟨w',z⟩:=I.cell y c e;exact⟨w',z.sameBut hs (cne y c e)⟩
  .obtain⟨e,n,ne,nf,d⟩:=I.pin p hp;exact⟨(hs.2 p.1 ne).trans e,n,ne,nf,d⟩
 .have hfn:X.fn x=true:=by
   rcases hf with z|z
   .exact z
   .rw[z]at hk;cases hk
  obtain⟨c,hc⟩:=I.ok.has x (.inl hk);obtain⟨w',z⟩:=I.cell x c hc;refine wpAny_storeName_cell I.ok.kind hk hc z (λh' hc' hs=> ?_);obtain⟨oc,hoc,hocd⟩:=id z;refine h { s with heap:=h' } ⟨I.ok,I.os,I.bare,⟨λb o e n hb hx=> ?_,λb o e n hb hx=> ?_,I.base.free,λb o e hx=> ?_,I.base.tups,I.base.frzs,I.base.tbls⟩,⟨m,hn.sameBut hs (fb (cne x c hc)),λj y v' e1 e2 e3=> ?_⟩,λy c' e=> ?_,I.free,I.freeC,λp hp=> ?_,tracked ⟨oc,hoc,I.freeC x c hc⟩ hs,by simpa using I.len⟩ ⟨c,hs,.inr hc⟩
  .exact(hs.2 b (cf (bt (bc e) (I.ok.cab x c hfn hc)))).trans (I.base.keep b o e n hb hx)
  .obtain⟨sl,e1⟩:=I.base.slot b o e n hb hx;exact⟨sl,(hs.2 b (cf (bt (bc e) (I.ok.cab x c hfn hc)))).trans e1⟩
  .obtain⟨o',e1⟩:=I.base.there b o e hx;exact⟨o',(hs.2 b (cf (bt (bc e) (I.ok.cab x c hfn hc)))).trans e1⟩
  .by_cases hj:j=i
   .subst hj;rw[hi]at e1;cases e1;rw[wj hiσ]at e2;cases e2;exact⟨u,r,.inr ⟨.inl hk,c,hc,hc'⟩⟩
   .rw[qq (fb hj)]at e2;obtain⟨u',r',q⟩:=hl j y v' e1 e2 e3;refine⟨u',r',?_⟩;rcases q with q|⟨k,c',e,z'⟩
    .exact .inl q
    .refine .inr ⟨k,c',e,z'.sameBut hs ?_⟩;rintro rfl;exact hj (OH hN e1 (I.ok.inj _ _ _ e hc▸hi))
  .by_cases hcc:c'=c
   .subst hcc;exact⟨_,hc'⟩
   .obtain⟨w2,z2⟩:=I.cell y c' e;exact⟨w2,z2.sameBut hs hcc⟩
  .obtain⟨e,n,ne,nf,d⟩:=I.pin p hp;refine⟨(hs.2 p.1 ?_).trans e,n,ne,nf,d⟩;intro q;rw[q,hoc]at e;have q':oc=p.2:=dg e;exact d w' (by rw[←q'];exact hocd)
theorem D3{M:Model}{i:Nat}{Q:Unit->ba->Prop}(I:Inv X pins σ H s)(hN:X.N.Nodup)(hi:X.N[i]? =some x)(hx:Loc X.env.scope x)(r:RelV v u)
  (h:∀s',Inv X pins (σ.set i (some v)) H s'->Q () s')(hf:X.fn x=true∨X.env.scope.names.lookup x=some .local:=by first|exact .inl rfl|exact .inr rfl|assumption):cb M A (storeName X.env x u) Q E s :=
 WC I hN hi hx r (λs' I' _=>h s' I') hf
theorem Inv.call'(I:Inv X pins σ H s)(ho:s'.os=s.os)(u:Un (frs X.stack) ch H H' s.heap s'.heap)(hok:HOk X.prog X.w H' s'.heap)(hg:uj s'.gens)
  (hch:∀b∈ch,(b∈X.ex∨X.s₀.heap.objs.size<=b)/\b≠X.env.locals/\(∀x c,X.env.cells.lookup x=some c->c≠b)/\∀p∈X.pn++pins,p.1≠b):Inv X pins σ H' s':=by
 obtain⟨h',g',d',t',o'⟩:=s';have e:o'=s.os:=ho;subst e;exact I.call (g':=g') (t':=t') (d':=d') u hok hg hch
end
abbrev XK:=ak->Option Addr->Hp->Prop
abbrev St:=List (Option V)
abbrev VK:=V->Hp->Prop
abbrev TE:=St->Hp->VK->Prop
abbrev TT:=St->Hp->(Bool->Hp->Prop)->Prop
abbrev TA:=St->Hp->(List V->Hp->Prop)->Prop
structure gX where
 nx:St->Hp->Prop
 rt:VK
 bk:St->Hp->Prop:=λ_ _=>False
 ct:St->Hp->Prop:=λ_ _=>False
abbrev TS:=gX->St->Hp->Prop
def EP(X:Cx)(pins:List (Addr×Obj))(σ:St)(Q:VK)(u:ak)(s':ba):Prop:=∃v H',Inv X pins σ H' s'/\RelV v u/\Q v H'
def TP(X:Cx)(pins:List (Addr×Obj))(σ:St)(Q:Bool->Hp->Prop)(b:Bool)(s':ba):Prop:=∃H',Inv X pins σ H' s'/\Q b H'
def AP(X:Cx)(pins:List (Addr×Obj))(σ:St)(Q:List V->Hp->Prop)(us:List ak)(s':ba):Prop:=∃vs H',Inv X pins σ H' s'/\Vals vs us/\Q vs H'
def SP(X:Cx)(pins:List (Addr×Obj))(D:gX)(f:Flow)(s':ba):Prop :=
 match f with
 | .next=>∃σ' H',Inv X pins σ' H' s'/\D.nx σ' H'
 | .brk=>∃σ' H',Inv X pins σ' H' s'/\D.bk σ' H'
 | .cont=>∃σ' H',Inv X pins σ' H' s'/\D.ct σ' H'
 | .ret u=>∃v σ' H',Inv X pins σ' H' s'/\RelV v u/\D.rt v H'
def PE(X:Cx)(e:Expr)(t:TE):Prop :=
 ∀(pins:List (Addr×Obj)) (s:ba) (σ:St) (H:Hp) (Q:VK),Inv X pins σ H s->t σ H Q->cb (ck X.prog X.w) X.A (eval e X.env) (EP X pins σ Q) X.xe s
def PT(X:Cx)(e:Expr)(t:TT):Prop :=
 ∀(pins:List (Addr×Obj)) (s:ba) (σ:St) (H:Hp) (Q:Bool->Hp->Prop),Inv X pins σ H s->t σ H Q->cb (ck X.prog X.w) X.A (isTrue e X.env (eval e X.env)) (TP X pins σ Q) X.xe s
def PW(X:Cx)(e:Expr)(t:TT):Prop :=
 ∀(whole:Sem ak) (pins:List (Addr×Obj)) (s:ba) (σ:St) (H:Hp) (Q:Bool->Hp->Prop),Inv X pins σ H s->t σ H Q->cb (ck X.prog X.w) X.A (isTrue e X.env whole) (TP X pins σ Q) X.xe s
variable {e tg:Expr}
theorem PW.pt{t:TT}(h:PW X e t):PT X e t:=h _
def PA(X:Cx)(es:List Expr)(t:TA):Prop :=
 ∀(pos:Pos) (pins:List (Addr×Obj)) (s:ba) (σ:St) (H:Hp) (Q:List V->Hp->Prop),Inv X pins σ H s->t σ H Q->cb (ck X.prog X.w) X.A (spliced (jl pos (cy es X.env))) (AP X pins σ Q) X.xe s
def PS(X:Cx)(st:Stmt)(t:TS):Prop :=
 ∀(pins:List (Addr×Obj)) (s:ba) (σ:St) (H:Hp) (D:gX),Inv X pins σ H s->t D σ H->cb (ck X.prog X.w) X.A (exec st X.env) (SP X pins D) X.xe s
def PSs(X:Cx)(st:List Stmt)(t:TS):Prop :=
 ∀(pins:List (Addr×Obj)) (s:ba) (σ:St) (H:Hp) (D:gX),Inv X pins σ H s->t D σ H->cb (ck X.prog X.w) X.A (execs st X.env) (SP X pins D) X.xe s
theorem thn{α:Type}{t:Sem α}{Q Q':α->ba->Prop}{M:Model}(h:cb M A t Q E s)(hQ:∀a s,Q a s->Q' a s):cb M A t Q' E s:=fq h hQ λ_ _ x=>x
variable {apos pos pos' tpos:Pos}{σ:St}{op op':CmpOp}{es:List Expr}{ta te:TE}
section
def jI(i:Nat):TE:=λσ H Q=>∃v,σ[i]? =some (some v)/\Q v H
def tC(v:V):TE:=λ_ H Q=>Q v H
theorem X6{i:Nat}(hN:X.N[i]? =some x)(hv:Vis X.env.scope x)(hd:(x==("__debug__" :Str))=false:=by decide)(hcd:(x==("__classdict__" :Str))=false:=by decide):PE X (.Name x pos) (jI i):=by
 intro pins s σ H Q I h;obtain⟨v,e,h⟩:=h;obtain⟨m,hn,hl⟩:=I.loc;obtain⟨u,r,l⟩:=hl i x v hN e hv;have fin:EP X pins σ Q u s:=⟨v,H,I,r,h⟩
 rcases l with⟨hk,hm⟩|⟨hk,c,hc,hcell⟩
 .exact wpAny_Name (wpAny_loadName_local I.ok.kind hk hn hm fin) hd
 .rcases hk with hk|hk
  .exact wpAny_Name (wpAny_loadName_cell I.ok.kind hk hc hcell fin) hd
  .exact wpAny_Name (wpAny_loadName_free I.ok.kind hk hc hcell fin hcd) hd
theorem aD{i j pos}:PE X (.Constant (.int i) j pos) (tC (.int i)):=λ_ _ _ H _ I h=>wpAny_Constant_int ⟨.int i,H,I.tok _,⟨_,rfl⟩,h⟩
theorem A8{b j pos}:PE X (.Constant (.bool b) j pos) (tC (.bl b)):=λ_ _ _ H _ I h=>Constant_bool ⟨.bl b,H,I,rfl,h⟩
theorem pB{j pos}:PE X (.Constant .none j pos) (tC .non):=λ_ _ _ H _ I h=>Constant_none ⟨.non,H,I,rfl,h⟩
theorem fK{x j pos}:PE X (.Constant (.str x) j pos) (tC (.str x)):=λ_ _ _ H _ I h=>Calls.Constant_str ⟨.str x,H,I.tok _,⟨_,rfl⟩,h⟩
def Gl(X:Cx)(x:Str):Prop:=X.env.kindOf x=some .globalImplicit
theorem rF{Q:ak->ba->Prop}(I:Inv X pins σ H s)(hg:Gl X x)(hm:X.mg x=some u)(h:Q u s)
  (hd:(x==("__debug__" :Str))=false:=by decide):cb (ck X.prog X.w) X.A (eval (.Name x pos) X.env) Q E s :=
 tq I.ok.kind hg (Calls.loadGlobal_global (by rw[I.ok.glob];exact I.mod.glob.keeps I.bk) hm h) hd
theorem vL{Q:ak->ba->Prop}(I:Inv X pins σ H s)(hg:Gl X x)(hm:X.mg x=none)(hv:fm x=some u)(h:Q u s)
  (hn:x≠ "__name__" :=by decide)(hd:(x==("__debug__" :Str))=false:=by decide):cb (ck X.prog X.w) X.A (eval (.Name x pos) X.env) Q E s:=by
 obtain⟨mb,h1,h2⟩:=I.mod.blt;exact tq I.ok.kind hg (Calls.loadGlobal_builtin (by rw[I.ok.glob];exact I.mod.glob.keeps I.bk) hm (by rw[I.ok.blt];exact h1.keeps I.bk) ((h2 x hn).trans hv) h) hd
theorem aDk(hg:Gl X x)(hm:X.mg x=some u)(r:RelV v u)(hd:(x==("__debug__" :Str))=false:=by decide):PE X (.Name x pos) (tC v) :=
 λ_ _ _ H _ I h=>rF I hg hm ⟨v,H,I,r,h⟩ hd
theorem aCa(hg:Gl X x)(hm:X.mg x=none)(hv:fm x=some u)(r:RelV v u)(hn:x≠ "__name__" :=by decide)(hd:(x==("__debug__" :Str))=false:=by decide):PE X (.Name x pos) (tC v) :=
 λ_ _ _ H _ I h=>vL I hg hm hv ⟨v,H,I,r,h⟩ hn hd
variable {a b:Expr}{tb:TE}
def PC(X:Cx)(op:CmpOp)(a b:Expr)(t:TE):Prop :=
 ∀(pins:List (Addr×Obj)) (s:ba) (σ:St) (H:Hp) (Q:VK),Inv X pins σ H s->t σ H Q →
  cb (ck X.prog X.w) X.A (eval a X.env) (λv s₁=>cb (ck X.prog X.w) X.A (eval b X.env) (λu s₂=>cb (ck X.prog X.w) X.A (gg op v u) (EP X pins σ Q) X.xe s₂) X.xe s₁) X.xe s
def tB(t:TE):TT:=λσ H Q=>t σ H λx H1=>∃c,x= .bl c/\Q c H1
theorem aD5{t:TE}(h:PC X op a b t)(h1:ni op b=false:=by first|exact nobehind _ (by decide) (by decide)|rfl):PE X (.Compare a [op] [b] pos) t:=λpins s σ H Q I hw=>wpAny_Compare1 (h pins s σ H Q I hw) h1
theorem sM{t:TE}(h:PC X op a b t)(h1:ni op b=false:=by first|exact nobehind _ (by decide) (by decide)|rfl):PT X (.Compare a [op] [b] pos) (tB t):=by
 intro pins s σ H Q I hw;refine wpAny_isTrue_Compare1 (thn (h pins s σ H _ I hw) λv s1 h1=>thn h1 λu s2 h2=>thn h2 ?_) h1;rintro c s3 ⟨x,H1,I1,r1,q1⟩;obtain⟨d,rfl,q⟩:=q1;cases r1;exact gj ⟨H1,I1,q⟩
theorem kA{t:TE}(h:PE X e t)(he:∀whole,isTrue e X.env whole=(do let v ←whole;yg e.pos;uk [v] (truthy v)):=by intro _;rfl):PT X e (tB t):=by
 intro pins s σ H Q I hw;refine isTrue_plain (thn (h pins s σ H _ I hw) ?_) (he _);rintro v s1 ⟨x,H1,I1,r1,q1⟩;obtain⟨d,rfl,q⟩:=q1;cases r1;exact gj ⟨H1,I1,q⟩
variable {tA tB':TT}{rest:List Expr}
def aEp(t u:TT):TT:=λσ H Q=>t σ H λc H1=>if c=true then u σ H1 Q else Q false H1
def tOr(t u:TT):TT:=λσ H Q=>t σ H λc H1=>if c=true then Q true H1 else u σ H1 Q
def aD6(t:TT):TT:=λσ H Q=>t σ H λc H1=>Q (!c) H1
theorem BD(ha:PT X a tA):PW X (.BoolOp .And [a] pos) tA:=by
 intro wh pins s σ H Q I h;refine isTrue_and (thn (ha pins s σ H Q I h) λc s1 e=> ?_);cases c with
 | true=>exact isTrue_and_nil e
 | false=>exact e
theorem EN(ha:PT X a tA):PW X (.BoolOp .Or [a] pos) tA:=by
 intro wh pins s σ H Q I h;refine isTrue_or (thn (ha pins s σ H Q I h) λc s1 e=> ?_);cases c with
 | false=>exact isTrue_or_nil e
 | true=>exact e
theorem E9(ha:PT X a tA)(hb:PW X (.BoolOp .And (b::rest) pos) tB'):PW X (.BoolOp .And (a::b::rest) pos) (aEp tA tB'):=by
 intro wh pins s σ H Q I h;refine isTrue_and (thn (ha pins s σ H _ I h) ?_);rintro c s1 ⟨H1,I1,q1⟩;cases c with
 | true=>exact hb wh pins s1 σ H1 Q I1 q1
 | false=>exact⟨H1,I1,q1⟩
theorem KW(ha:PT X a tA)(hb:PW X (.BoolOp .Or (b::rest) pos) tB'):PW X (.BoolOp .Or (a::b::rest) pos) (tOr tA tB'):=by
 intro wh pins s σ H Q I h;refine isTrue_or (thn (ha pins s σ H _ I h) ?_);rintro c s1 ⟨H1,I1,q1⟩;cases c with
 | true=>exact⟨H1,I1,q1⟩
 | false=>exact hb wh pins s1 σ H1 Q I1 q1
theorem AF(ha:PT X a tA):PT X (.UnaryOp .Not a pos) (aD6 tA):=by
 intro pins s σ H Q I h;exact isTrue_not (ha pins s σ H (λc H1=>Q (!c) H1) I h)
def aBA(ta tb:TE):TE:=λσ H Q=>ta σ H λx H1=>∃c,x= .bl c/\if c=true then tb σ H1 Q else Q (.bl false) H1
def aE6(ta tb:TE):TE:=λσ H Q=>ta σ H λx H1=>∃c,x= .bl c/\if c=true then Q (.bl true) H1 else tb σ H1 Q
def aGa(ta:TE):TE:=λσ H Q=>ta σ H λx H1=>∃c,x= .bl c/\Q (.bl (!c)) H1
theorem ES{op}{t:TE}(h:PE X a t):PE X (.BoolOp op [a] pos) t:=λpins s σ H Q I hw=>BoolOp_one (h pins s σ H Q I hw)
theorem NH(ha:PE X a ta)(hb:PE X (.BoolOp .And (b::rest) pos) tb):PE X (.BoolOp .And (a::b::rest) pos) (aBA ta tb):=by
 intro pins s σ H Q I h;refine BoolOp_and (thn (ha pins s σ H _ I h) ?_);rintro v s1 ⟨x,H1,I1,r1,q1⟩;obtain⟨c,rfl,q1⟩:=q1;cases r1;refine gj ?_;cases c with
 | true=>exact hb pins s1 σ H1 Q I1 q1
 | false=>exact⟨.bl false,H1,I1,rfl,q1⟩
theorem aGH(ha:PE X a ta)(hb:PE X (.BoolOp .Or (b::rest) pos) tb):PE X (.BoolOp .Or (a::b::rest) pos) (aE6 ta tb):=by
 intro pins s σ H Q I h;refine BoolOp_or (thn (ha pins s σ H _ I h) ?_);rintro v s1 ⟨x,H1,I1,r1,q1⟩;obtain⟨c,rfl,q1⟩:=q1;cases r1;refine gj ?_;cases c with
 | false=>exact hb pins s1 σ H1 Q I1 q1
 | true=>exact⟨.bl true,H1,I1,rfl,q1⟩
theorem aFg(ha:PE X a ta):PE X (.UnaryOp .Not a pos) (aGa ta):=by
 intro pins s σ H Q I h;refine UnaryOp_ (thn (ha pins s σ H _ I h) ?_);rintro v s1 ⟨x,H1,I1,r1,q1⟩;obtain⟨c,rfl,q1⟩:=q1;cases r1;exact not_of (gj ⟨.bl (!c),H1,I1,rfl,q1⟩)
def tIf(t:TT)(ta tb:TE):TE:=λσ H Q=>t σ H λc H1=>if c=true then ta σ H1 Q else tb σ H1 Q
theorem xN{c:Expr}(hc:PT X c tA)(ha:PE X a ta)(hb:PE X b tb):PE X (.IfExp c a b pos) (tIf tA ta tb):=by
 intro pins s σ H Q I h;refine wpAny_IfExp (thn (hc pins s σ H _ I h) ?_);rintro d s1 ⟨H1,I1,q1⟩;cases d with
 | true=>exact ha pins s1 σ H1 Q I1 q1
 | false=>exact hb pins s1 σ H1 Q I1 q1
end
def SqL(K:W.Frag)(H:Hp)(a:Addr)(xs:List V):Prop :=
 Rd H a (.lst xs) ∨
  ∃(o:Obj) (its:Array ak) (n:Nat),K.lookup a=some o/\o.cls= .type "list" /\o.dict=none/\o.data= .seq its n/\its.size<=sizeLine/\Vals xs its.toList
def SqT(K:W.Frag)(H:Hp)(a:Addr)(xs:List V):Prop :=
 Rd H a (.tup xs) ∨
  ∃(o:Obj) (its:Array ak) (n:Nat),K.lookup a=some o/\o.cls= .type "tuple" /\o.data= .seq its n/\its.size<=sizeLine/\Vals xs its.toList
def aG2:ak->Option V
 | .none=>some .non
 | .bool b=>some (.bl b)
 | .int i _=>some (.int i)
 | .str x _=>some (.str x)
 | .bytes b _=>some (.byt b)
 | .float b _=>some (.flt b)
 | .ref a=>some (.ref a)
 | .type n=>some (.ty n)
 | _=>none
theorem RelV.abs{x:V}(r:RelV x u):aG2 u=some x:=by
 cases x with
 | non=>cases r;rfl
 | bl _=>cases r;rfl
 | int _=>obtain⟨t,rfl⟩:=r;rfl
 | str _=>obtain⟨t,rfl⟩:=r;rfl
 | byt _=>obtain⟨t,rfl⟩:=r;rfl
 | flt _=>obtain⟨t,rfl⟩:=r;rfl
 | ref _=>cases r;rfl
 | ty _=>cases r;rfl
theorem RelV.inj{x y:V}(r:RelV x u)(q:RelV y u):x=y:=dg (r.abs.symm.trans q.abs)
theorem Vals.inj:∀{xs ys:List V}{us:List ak},Vals xs us->Vals ys us->xs=ys
 | _,_,_,.nil,.nil=>rfl
 | _,_,_,.cons r t,.cons r' t'=>by rw[r.inj r',Vals.inj t t']
variable {K:W.Frag}
section
variable {ys:List V}
theorem SqL.of(h:H a=some (.lst xs)):SqL K H a xs:= .inl (.inl h)
theorem SqT.of(h:H a=some (.tup xs)):SqT K H a xs:= .inl (.inl h)
theorem Inv.list(I:Inv X pins σ H s)(h:SqL X.K H a xs):∃its:List ak,Vals xs its/\PlainL s.heap a its.toArray/\xs.length<=sizeLine:=by
 rcases h with h|⟨o,its,n,hk,hc,hd,hs,hz,r⟩
 .obtain⟨z,its,n,r,e⟩:=h.ok I.hok;exact⟨its,r,⟨_,n,e,rfl,rfl,rfl⟩,z⟩
 .refine⟨its.toList,r,⟨o,n,I.kIn a o hk,hc,hd,by simpa using hs⟩,?_⟩;have e:=r.length;simp only[gf]at e
  lia
theorem Inv.tuple(I:Inv X pins σ H s)(h:SqT X.K H a xs):∃its:List ak,Vals xs its/\IsTup s.heap a its.toArray/\xs.length<=sizeLine:=by
 rcases h with h|⟨o,its,n,hk,hc,hs,hz,r⟩
 .obtain⟨z,its,r,p⟩:=h.ok I.hok;exact⟨its,r,p,z⟩
 .refine⟨its.toList,r,⟨o,I.kIn a o hk,hc,n,by simpa using hs⟩,?_⟩;have e:=r.length;simp only[gf]at e
  lia
theorem Inv.list_inj(I:Inv X pins σ H s)(h:SqL X.K H a xs)(h':SqL X.K H a ys):xs=ys:=by
 obtain⟨its,r,⟨o,n,e,_,_,d⟩,_⟩:=I.list h;obtain⟨its',r',⟨o',n',e',_,_,d'⟩,_⟩:=I.list h';rw[e]at e';cases e';rw[d]at d';injection d' with d1 _;have:its=its':=by simpa using congrArg Array.toList d1
 subst this;exact r.inj r'
end
abbrev Cx.wish(X:Cx)(E:ak->ba->Prop):Cx:={ X with xe:=E }
abbrev Cx.nox(X:Cx):Cx:=X.wish λ_ _=>False
theorem Cx.Ok.wish(ok:X.Ok)(E:ak->ba->Prop):(X.wish E).Ok :=
 ⟨ok.mod,ok.kind,ok.glob,ok.blt,ok.above,ok.inj,ok.has,ok.cab,ok.hd,ok.frames,ok.stk,ok.exf,ok.bs,ok.bsz,ok.noex,ok.exfs,ok.funs,ok.frf⟩
theorem Cx.Ok.unwish(ok:(X.wish E).Ok):X.Ok :=
 ⟨ok.mod,ok.kind,ok.glob,ok.blt,ok.above,ok.inj,ok.has,ok.cab,ok.hd,ok.frames,ok.stk,ok.exf,ok.bs,ok.bsz,ok.noex,ok.exfs,ok.funs,ok.frf⟩
variable {tb:TS}
theorem Inv.wish(I:Inv X pins σ H s)(E:ak->ba->Prop):Inv (X.wish E) pins σ H s:=⟨I.ok.wish E,I.os,I.bare,I.base,I.loc,I.cell,I.free,I.freeC,I.pin,I.hok,I.len⟩
theorem Inv.unwish(I:Inv (X.wish E) pins σ H s):Inv X pins σ H s:=⟨I.ok.unwish,I.os,I.bare,I.base,I.loc,I.cell,I.free,I.freeC,I.pin,I.hok,I.len⟩
theorem SP.unwish{D:gX}{f:Flow}(h:SP (X.wish E) pins D f s'):SP X pins D f s':=by
 cases f with
 | next=>obtain⟨σ',H',I,q⟩:=h;exact⟨σ',H',I.unwish,q⟩
 | brk=>obtain⟨σ',H',I,q⟩:=h;exact⟨σ',H',I.unwish,q⟩
 | cont=>obtain⟨σ',H',I,q⟩:=h;exact⟨σ',H',I.unwish,q⟩
 | ret u=>obtain⟨v,σ',H',I,r,q⟩:=h;exact⟨v,σ',H',I.unwish,r,q⟩
theorem PE.nox{t:TE}(h:PE X.nox e t):PE X e t:=λpins s σ H Q I hw =>
 fq (h pins s σ H Q (I.wish _) hw) (λ_ _ ⟨v,H',I',r,q⟩=>⟨v,H',I'.unwish,r,q⟩) λ_ _ z=>gz z
theorem PSs.nox{st:List Stmt}{t:TS}(h:PSs X.nox st t):PSs X st t:=λpins s σ H D I hw =>
 fq (h pins s σ H D (I.wish _) hw) (λ_ _ q=>q.unwish) λ_ _ z=>gz z
section
variable {st:Stmt}{rest:List Stmt}{t u:TS}
def aBo:TS:=λD σ H=>D.nx σ H
def NQ(t u:TS):TS:=λD σ H=>t { D with nx:=u D } σ H
theorem bK:PSs X [] aBo:=λ_ _ σ H _ I h=>qw ⟨σ,H,I,h⟩
theorem aB(h1:PS X st t)(h2:PSs X rest u):PSs X (st::rest) (NQ t u):=by
 intro pins s σ H D I h;refine qe (thn (h1 pins s σ H { D with nx:=u D } I h) λf s1 q=> ?_);cases f with
 | next =>
  obtain⟨σ',H',I',q⟩:=q;exact h2 pins s1 σ' H' D I' q
 | ret v=>exact q
 | brk=>exact q
 | cont=>exact q
theorem aE(h1:PS X st t):PSs X [st] t:=by
 intro pins s σ H D I h;refine qe (thn (h1 pins s σ H D I h) λf s1 q=> ?_);cases f with
 | next=>exact qw q
 | ret v=>exact q
 | brk=>exact q
 | cont=>exact q
theorem Inv.quiet(I:Inv X pins σ H s):interactive X.env=false:=by simp[interactive,I.ok.kind]
def aBh(te:TE):TS:=λD σ H=>te σ H λ_ H1=>D.nx σ H1
theorem aY(he:PE X e te)(hs:yh e none pos.line X.env=pure false:=by rfl):PS X (.Expr e pos) (aBh te):=by
 intro pins s σ H D I h;refine wpAny_Expr_any (thn (he pins s σ H _ I h) ?_) I.quiet hs;rintro v s1 ⟨x,H1,I1,r1,q1⟩;exact⟨σ,H1,I1,q1⟩
def aFp(te:TE):TS:=λD σ H=>te σ H D.rt
theorem aS(he:PE X e te):PS X (.Return (some e) pos) (aFp te):=by
 intro pins s σ H D I h;refine wpAny_Return_some (thn (he pins s σ H _ I h) ?_);rintro v s1 ⟨x,H1,I1,r1,q1⟩;exact⟨x,σ,H1,I1,r1,q1⟩
def SN(c:TT)(t u:TS):TS:=λD σ H=>c σ H λb H1=>if b=true then t D σ H1 else u D σ H1
theorem b8{c:Expr}{a b:List Stmt}{tc:TT}(hc:PT X c tc)(ha:PSs X a t)(hb:PSs X b u):PS X (.If c a b pos) (SN tc t u):=by
 intro pins s σ H D I h;refine wpAny_If (thn (hc pins s σ H _ I h) ?_);rintro d s1 ⟨H1,I1,q1⟩;cases d with
 | true=>exact ha pins s1 σ H1 D I1 q1
 | false=>exact hb pins s1 σ H1 D I1 q1
def aEP:TS:=λ_ _ _=>False
theorem gW:PS X st aEP:=λ_ _ _ _ _ _ h=>h.elim
end
abbrev TG:=V->St->Hp->(St->Hp->Prop)->Prop
abbrev TGs:=List V->St->Hp->(St->Hp->Prop)->Prop
def PG(X:Cx)(target:Expr)(t:TG):Prop :=
 ∀(pins:List (Addr×Obj)) (s:ba) (σ:St) (H:Hp) (v:V) (u:ak) (Q:St->Hp->Prop),Inv X pins σ H s->RelV v u->t v σ H Q →
  cb (ck X.prog X.w) X.A (xl target X.env u) (λ_ s'=>∃σ' H',Inv X pins σ' H' s'/\Q σ' H') X.xe s
def PGs(X:Cx)(ts:List Expr)(t:TGs):Prop :=
 ∀(pins:List (Addr×Obj)) (s:ba) (σ:St) (H:Hp) (vs:List V) (us:List ak) (Q:St->Hp->Prop),Inv X pins σ H s->Vals vs us->t vs σ H Q →
  cb (ck X.prog X.w) X.A (assignInOrder ((je ts X.env).map (·.2)) us) (λ_ s'=>∃σ' H',Inv X pins σ' H' s'/\Q σ' H') X.xe s
abbrev R9:=V->V->V->Hp->(Hp->Prop)->Prop
def aFa(X:Cx)(t:R9):Prop :=
 ∀(pins:List (Addr×Obj)) (s:ba) (σ:St) (H:Hp) (o i v:V) (ov iv u:ak) (Q:Hp->Prop),Inv X pins σ H s->RelV o ov->RelV i iv->RelV v u->t o i v H Q →
  cb (ck X.prog X.w) X.A (setItem ov iv u) (λ_ s'=>∃H',Inv X pins σ H' s'/\Q H') X.xe s
abbrev TIp:=V->V->Hp->VK->Prop
def PIp(X:Cx)(op:vv)(t:TIp):Prop :=
 ∀(pins:List (Addr×Obj)) (s:ba) (σ:St) (H:Hp) (x y:V) (v u:ak) (Q:VK),Inv X pins σ H s->RelV x v->RelV y u->t x y H Q →
  cb (ck X.prog X.w) X.A (inplaceOp op v u) (EP X pins σ Q) X.xe s
variable {g:TG}
def cF(i:Nat):TG:=λv σ H Q=>Q (σ.set i (some v)) H
theorem aL{i:Nat}(hN:X.N.Nodup)(hi:X.N[i]? =some x)(hx:Loc X.env.scope x)(hf:X.fn x=true∨X.env.scope.names.lookup x=some .local:=by first|exact .inl rfl|exact .inr rfl|assumption):PG X (.Name x pos) (cF i):=by
 intro pins s σ H v u Q I r h;exact wpAny_assign_Name (D3 I hN hi hx r (λs' I'=>⟨_,H,I',h⟩) hf)
def L1:TGs:=λvs σ H Q=>vs=[]/\Q σ H
def qT(t:TG)(u:TGs):TGs:=λvs σ H Q=>∃v r,vs=v::r/\t v σ H λσ' H'=>u r σ' H' Q
theorem dY:PGs X [] L1:=by
 intro pins s σ H vs us Q I r h;obtain⟨e,h⟩:=h;subst e;cases r;exact assignInOrder_nil ⟨σ,H,I,h⟩
theorem aX{t:TG}{u:TGs}(h1:PG X e t)(h2:PGs X es u)
  (hs:(je (e::es) X.env).map (·.2)=xl e X.env::(je es X.env).map (·.2):=by rfl):PGs X (e::es) (qT t u):=by
 intro pins s σ H vs us Q I r h;obtain⟨v,vr,e1,h⟩:=h;subst e1;cases r with
 | cons r rr =>
  rw[hs];refine assignInOrder_cons (thn (h1 pins s σ H _ _ _ I r h) ?_);rintro _ s1 ⟨σ1,H1,I1,q1⟩;exact h2 pins s1 σ1 H1 _ _ Q I1 rr q1
def F9(K:W.Frag)(n:Nat)(t:TGs):TG:=λv σ H Q=>∃a xs,v= .ref a/\SqT K H a xs/\xs.length=n/\t xs σ H Q
theorem v7{k:Nat}{t:TGs}(hc:X.calm=true)(h:PGs X es t)
  (hn:(je es X.env).length=n:=by rfl)(hst:(je es X.env).findIdx? (·.1)=none:=by rfl):PG X (.Tuple es k pos) (F9 X.K n t):=by
 intro pins s σ H v u Q I r hw;obtain⟨a,xs,e1,hq,hl,hw⟩:=hw;subst e1;cases r;obtain⟨its,rv,ht,hz⟩:=I.tuple hq;refine assign_Tuple_tuple (I.ok.hd hc) ht (by simp[hn,←hl,rv.length]) hst λh' hx=> ?_;have I1:Inv X pins σ H { s with heap:=h' }:=I.kept (t':=s.toks) λb o e=>hx b o (cf (bc e)) e;exact h pins _ σ H xs _ Q I1 (by simpa using rv) hw
def SX(te:TE)(g:TG):TS:=λD σ H=>te σ H λx H1=>g x σ H1 D.nx
theorem zI(he:PE X e te)(hg:PG X tg g)(hs:swapsWithSole [tg] e pos.line X.env=pure false:=by rfl)(hw:swappedStores [tg] e X.env=pure none:=by rfl)
  (h1:(je [tg] X.env).map (·.2)=[xl tg X.env]:=by rfl):PS X (.Assign [tg] e pos) (SX te g):=by
 intro pins s σ H D I h;refine wpAny_Assign_stores (thn (he pins s σ H _ I h) ?_) hs hw;rintro v s1 ⟨x,H1,I1,r1,q1⟩;rw[h1];exact thn (hg pins s1 σ H1 x v _ I1 r1 q1) λ_ s2 q=>q
theorem aO{i:Nat}(hN:X.N.Nodup)(hi:X.N[i]? =some x)(hx:Loc X.env.scope x)(he:PE X e te)(hs:yh e (some (.Name x pos')) pos.line X.env=pure false:=by rfl)(hf:X.fn x=true∨X.env.scope.names.lookup x=some .local:=by first|exact .inl rfl|exact .inr rfl|assumption):
  PS X (.Assign [.Name x pos'] e pos) (SX te (cF i)):=by
 intro pins s σ H D I h;refine wpAny_Assign_Name (thn (he pins s σ H _ I h) ?_) hs;rintro v s1 ⟨y,H1,I1,r1,q1⟩;exact D3 I1 hN hi hx r1 (λs2 I2=>⟨_,H1,I2,q1⟩) hf
def aFA(i:Nat)(te:TE)(ti:TIp):TS:=λD σ H=>∃x,σ[i]? =some (some x)/\te σ H λy H1=>ti x y H1 λz H2=>D.nx (σ.set i (some z)) H2
theorem VW{i:Nat}{op:vv}{ti:TIp}{pos':Pos}(hN:X.N.Nodup)(hi:X.N[i]? =some x)(hx:Loc X.env.scope x)(he:PE X e te)(ho:PIp X op ti)(hf:X.fn x=true∨X.env.scope.names.lookup x=some .local:=by first|exact .inl rfl|exact .inr rfl|assumption):
  PS X (.AugAssign (.Name x pos') op e pos) (aFA i te ti):=by
 intro pins s σ H D I h;obtain⟨v,e1,h⟩:=h;obtain⟨m,hn,hl⟩:=I.loc;have vis:Vis X.env.scope x:=by rcases hx with k|k;exact .inl k;exact .inr (.inl k)
 obtain⟨u,r,l⟩:=hl i x v hi e1 vis;refine wpAny_AugAssign_Name ?_;have go:cb (ck X.prog X.w) X.A (eval e X.env) (λw s₂=>cb (ck X.prog X.w) X.A (inplaceOp op u w) (λr s₃=>cb (ck X.prog X.w) X.A (storeName X.env x r) (λ_=>SP X pins D .next) X.xe s₃) X.xe s₂) X.xe s:=by
  refine thn (he pins s σ H _ I h) ?_;rintro w s1 ⟨y,H1,I1,r1,q1⟩;refine thn (ho pins s1 σ H1 v y u w _ I1 r r1 q1) ?_;rintro z s2 ⟨zv,H2,I2,r2,q2⟩;exact D3 I2 hN hi hx r2 (λs3 I3=>⟨_,H2,I3,q2⟩) hf
 rcases l with⟨hk,hm⟩|⟨hk,c,hc,hcell⟩
 .exact wpAny_loadName_local I.ok.kind hk hn hm go
 .rcases hk with hk|hk
  .exact wpAny_loadName_cell I.ok.kind hk hc hcell go
  .rcases hx with k|k
   .have:X.env.scope.names.lookup x=some .free:=hk;rw[k]at this;cases this
   .have:X.env.scope.names.lookup x=some .free:=hk;rw[k]at this;cases this
def aBg(to ti te:TE)(tget:V->V->Hp->VK->Prop)(tip:TIp)(tset:R9):TS:=λD σ H=>to σ H λo H1=>ti σ H1 λi H2=>tget o i H2 λx H3=>te σ H3 λy H4=>tip x y H4 λz H5=>tset o i z H5 λH6=>D.nx σ H6
def aFk(X:Cx)(t:V->V->Hp->VK->Prop):Prop :=
 ∀(pins:List (Addr×Obj)) (s:ba) (σ:St) (H:Hp) (o i:V) (ov iv:ak) (Q:VK),Inv X pins σ H s->RelV o ov->RelV i iv->t o i H Q →
  cb (ck X.prog X.w) X.A (yi ov iv) (EP X pins σ Q) X.xe s
theorem Q4{o i:Expr}{to ti:TE}{tget:V->V->Hp->VK->Prop}{tip:TIp}{tset:R9}{op:vv}(ho:PE X o to)(hi:PE X i ti)(hg:aFk X tget)(he:PE X e te)(hp:PIp X op tip)(hs:aFa X tset)
  (ha:∀ov iv new,augStore i ov iv new=(do uk [new,ov,iv] (setItem ov iv new);release [new,ov,iv] [];pure .next):=by intros;rfl):PS X (.AugAssign (.Subscript o i tpos) op e pos) (aBg to ti te tget tip tset):=by
 intro pins s σ H D I h;refine qx (thn (ho pins s σ H _ I h) ?_) ha;rintro ov s1 ⟨x1,H1,I1,r1,q1⟩;refine thn (hi pins s1 σ H1 _ I1 q1) ?_;rintro iv s2 ⟨x2,H2,I2,r2,q2⟩;refine thn (hg pins s2 σ H2 x1 x2 ov iv _ I2 r1 r2 q2) ?_;rintro old s3 ⟨x3,H3,I3,r3,q3⟩;refine thn (he pins s3 σ H3 _ I3 q3) ?_;rintro v s4 ⟨x4,H4,I4,r4,q4⟩;refine thn (hp pins s4 σ H4 x3 x4 old v _ I4 r3 r4 q4) ?_;rintro new s5 ⟨x5,H5,I5,r5,q5⟩;refine thn (hs pins s5 σ H5 x1 x2 x5 ov iv new _ I5 r1 r2 r5 q5) ?_;rintro _ s6 ⟨H6,I6,q6⟩;exact⟨σ,H6,I6,q6⟩
def ipI(f:Int->Int->Int):TIp:=λx y H Q=>∃i j,x= .int i/\y= .int j/\Q (.int (f i j)) H
theorem NO:PIp X .Add (ipI λi j=>i+j):=by
 intro pins s σ H x y v u Q I r1 r2 h;obtain⟨i,j,e1,e2,q⟩:=h;subst e1;subst e2;obtain⟨t,rfl⟩:=r1;obtain⟨t',rfl⟩:=r2;exact iadd_int ⟨.int _,H,I.tok _,⟨_,rfl⟩,q⟩
theorem aE3:PIp X .Sub (ipI λi j=>i - j):=by
 intro pins s σ H x y v u Q I r1 r2 h;obtain⟨i,j,e1,e2,q⟩:=h;subst e1;subst e2;obtain⟨t,rfl⟩:=r1;obtain⟨t',rfl⟩:=r2;exact isub_int ⟨.int _,H,I.tok _,⟨_,rfl⟩,q⟩
def WH(c:TT)(tb:TS):TS:=λD σ H=>∃W:Nat->St->Hp->Prop,(∃m,W m σ H)/\∀m σ H,W m σ H →
 c σ H λb H1=>if b=true then ∃N:St->Hp->Prop,(∀σ' H',N σ' H'->∃m',m'<m/\W m' σ' H')/\tb { D with nx:=N,ct:=N,bk:=D.nx } σ H1 else D.nx σ H1
theorem sV{c:Expr}{body:List Stmt}{tc:TT}(hp:PassesOwn (ck X.prog X.w) X.A X.env X.xe)(hc:PT X c tc)(hb:PSs X body tb):PS X (.While c body [] pos) (WH tc tb):=by
 intro pins s σ H D I h;obtain⟨W,⟨m0,w0⟩,turn⟩:=h;refine wpAny_While (codeAny_whileLoop (λn s'=>∃σ' H',Inv X pins σ' H' s'/\W n σ' H') ?_ m0 ⟨σ,H,I,w0⟩);rintro n s1 ⟨σ1,H1,I1,w1⟩;refine jv hp (thn (hc pins s1 σ1 H1 _ I1 (turn n σ1 H1 w1)) ?_);rintro b s2 ⟨H2,I2,q2⟩;cases b with
 | true =>
  obtain⟨N,hN,q2⟩:=q2;rw[if_pos rfl];refine jv hp (thn (hb pins s2 σ1 H2 _ I2 q2) λf s3 q3=> ?_);cases f with
  | next =>
   obtain⟨σ3,H3,I3,n3⟩:=q3;obtain⟨m',hm,w3⟩:=hN σ3 H3 n3;exact⟨m',hm,σ3,H3,I3,w3⟩
  | cont =>
   obtain⟨σ3,H3,I3,n3⟩:=q3;obtain⟨m',hm,w3⟩:=hN σ3 H3 n3;exact⟨m',hm,σ3,H3,I3,w3⟩
  | brk=>exact q3
  | ret v=>exact q3
 | false =>
  rw[if_neg bg];exact qw ⟨σ1,H2,I2,q2⟩
structure It where
 go:Nat->Hp->Prop
 yld:Nat->Hp->V->Hp->Prop
 stop:Nat->Hp->Prop
def sR(X:Cx)(pins:List (Addr×Obj))(H:Hp)(b:Addr):Prop :=
 H b=none/\b≠X.env.locals/\b∉X.fs/\(b∈X.ex∨X.s₀.heap.objs.size<=b)/\(∀x c,X.env.cells.lookup x=some c->c≠b)/\∀p∈X.pn++pins,p.1≠b
theorem Inv.fpOk{b:Addr}(I:Inv X pins σ H s)(hb:s.heap.objs.size<=b)(hn:H' b=none):sR X pins H' b:=by
 refine⟨hn,yz (bt I.lt hb),I.nofs hb,.inr (dy I.sz hb),λx c e z=> ?_,λp hp z=> ?_⟩
 .obtain⟨v,q⟩:=I.cell x c e;exact absurd (bt q.lt (by rw[z];exact hb)) (ee _)
 .exact absurd (bt (bc (I.pin p hp).1) (by rw[z];exact hb)) (ee _)
structure AN(P:gd)(w:gx)(K:W.Frag)(tg:Expr)(J:It)(fp:List Addr)(it:Addr)(tn:Nat->Heap->Prop):Prop where
 mem:it∈fp
 obj:∀i h,tn i h->∀b∈fp,∃o,h.get? b=some o/\∀v,o.data≠ .cell v
 keep:∀i h h',tn i h->(∀b∈fp,∀o,h.get? b=some o->h'.get? b=some o)->tn i h'
 item:∀(X:Cx),X.prog=P->X.w=w->X.K=K->X.calm=true->∀(i:Nat) (pins:List (Addr×Obj)) (s:ba) (σ:St) (H:Hp) (E:ak->ba->Prop),Inv X pins σ H s->(∀b∈fp,sR X pins H b)->tn i s.heap->J.go i H →
  cb (ck P w) X.A (qf (.ref it)) (λr s1=>∃u,r=some u ∧
   cb (ck P w) X.A (qy tg (.ref it) u) (λ_ s2=>∃x H',Inv X pins σ H' s2/\RelV x u/\J.yld i H x H'/\tn (i+1) s2.heap/\∀b∈fp,H' b=none) E s1) E s
 done:∀(X:Cx),X.prog=P->X.w=w->X.K=K->X.calm=true->∀(i:Nat) (pins:List (Addr×Obj)) (s:ba) (σ:St) (H:Hp) (E:ak->ba->Prop),Inv X pins σ H s->(∀b∈fp,sR X pins H b)->tn i s.heap->J.stop i H →
  cb (ck P w) X.A (qf (.ref it)) (λr s1=>r=none/\Inv X pins σ H s1) E s
 self:∀(A:ke) (i:Nat) (s:ba) (Q:ak->ba->Prop) (E:ak->ba->Prop),tn i s.heap->Q (.ref it) s->cb (ck P w) A (pyIter (.ref it)) Q E s
abbrev TI:=St->Hp->(It->Hp->Prop)->Prop
def PIE(X:Cx)(pins:List (Addr×Obj))(σ:St)(tg:Expr)(R:It->Hp->Prop)(itv:ak)(s2:ba):Prop :=
 ∃(it:Addr) (fp:List Addr) (tn:Nat->Heap->Prop) (J:It) (H':Hp),itv= .ref it/\Inv X pins σ H' s2/\AN X.prog X.w X.K tg J fp it tn/\tn 0 s2.heap/\(∀b∈fp,sR X pins H' b)/\R J H'
def PI(X:Cx)(tg iter:Expr)(wi:TI):Prop :=
 ∀(pins:List (Addr×Obj)) (s:ba) (σ:St) (H:Hp) (R:It->Hp->Prop),Inv X pins σ H s->wi σ H R →
  cb (ck X.prog X.w) X.A (eval iter X.env) (λv s1=>cb (ck X.prog X.w) X.A (pyIter v) (PIE X pins σ tg R) X.xe s1) X.xe s
theorem KS{M:Model}{n:String}{vs:Array ak}{Q:Unit->ba->Prop}(ho:s.heap.get? it=some o)(hc:o.cls= .type n)(hd:o.data= .fields vs)
  (hn:["enumerate","zip","dict_itemiterator","dict_reverseitemiterator","odict_iterator","itertools.zip_longest","itertools.pairwise"].contains n=false)(hQ:Q () s):cb M A (qy tg (.ref it) u) Q E s:=by
 unfold qy;cases tg<;>first
  | exact ax hQ
  | (cases u<;>first
    | exact ax hQ
    | (refine af (wpAny_load ho ?_);rw[hc,hd];show cb M A (if (["enumerate","zip","dict_itemiterator","dict_reverseitemiterator","odict_iterator","itertools.zip_longest","itertools.pairwise"].contains n&&vs[0]? ==some (js _))=true then _ else _) Q E s;rw[if_neg (by intro h;rw[hn,kf]at h;cases h)];exact ax hQ))
def Itl(K:W.Frag)(a:Addr):It :=
 ⟨λi H=>∃xs x,SqL K H a xs/\xs[i]? =some x,λi H x H'=>H'=H/\∀xs,SqL K H a xs->xs[i]? =some x,λi H=>∃xs,SqL K H a xs/\xs.length<=i⟩
def Itr(lo:Int)(n:Nat):It:=⟨λi _=>i<n,λi H x H'=>H'=H/\x= .int (lo+i),λi _=>n<=i⟩
theorem WU(a it:Addr):AN P w K tg (Itl K a) [it] it (λi h=>h.IsListIter it a i) where
 mem:=by simp
 obj:=λi h st b hb=>by
  have e:b=it:=by simpa using hb
  subst e;obtain⟨o,e,c,d⟩:=st;exact⟨o,e,λv z=>by rw[d]at z;cases z⟩
 keep:=λi h h' st k=>st.at λo e=>k it (by simp) o e
 item:=by
  intro X hP hw hK hc i pins s σ H E I hf st hg;subst hP hw hK;obtain⟨xs,x,hq,hx⟩:=hg;obtain⟨its,rv,p,hz⟩:=I.list hq;obtain⟨u,hu,ru⟩:=rv.get hx;obtain⟨f0,f1,f2,f3,f4,f5⟩:=hf it (by simp);refine wpAny_pyNext_list_item st p.isList (x:=u) (by simpa using hu) λh' st' sb=> ?_;have I1:Inv X pins σ H { s with heap:=h' }:=I.turned (t':=s.toks) (λb o hb e=>(sb.2 b hb).trans e) f0 f1 f3 f4 f5;obtain⟨o,e,c,d⟩:=id st';exact⟨u,rfl,KS (s:={ s with heap:=h' }) e c d (by decide) ⟨x,H,I1,ru,⟨rfl,λys hy=>by rw[I.list_inj hy hq];exact hx⟩,st',λb hb=>(hf b hb).1⟩⟩
 done:=by
  intro X hP hw hK hc i pins s σ H E I hf st hg;subst hP hw hK;obtain⟨xs,hq,hx⟩:=hg;obtain⟨its,rv,p,hz⟩:=I.list hq;obtain⟨f0,f1,f2,f3,f4,f5⟩:=hf it (by simp);have hl:=rv.length;exact wpAny_pyNext_list_end (I.ok.hd hc) st p.isList (by simp;lia) λh' eb=>⟨rfl,I.turned (t':=s.toks) (λb o hb e=>eb b o hb e) f0 f1 f3 f4 f5⟩
 self:=λ_ _ _ _ _ st h=>wpAny_pyIter_listiter st h
theorem TB(it:Addr)(lo:Int)(n:Nat):AN P w K tg (Itr lo n) [it] it (λi h=>xm h it (lo+(i:Nat) * 1) ((n:Int) - (i:Nat)) 1) where
 mem:=by simp
 obj:=λi h st b hb=>by
  have e:b=it:=by simpa using hb
  subst e;exact⟨_,st,λv z=>by
   have z':zg _=Data.cell v:=z;cases z'⟩
 keep:=λi h h' st k=>k it (by simp) _ st
 item:=by
  intro X hP hw hK hc i pins s σ H E I hf st hg;subst hP hw hK;obtain⟨f0,f1,f2,f3,f4,f5⟩:=hf it (by simp);have W:=Walks.range (prog:=X.prog) (w:=X.w) (I.ok.hd hc) it lo 1 n;refine W.item i s _ _ hg st λv h' tk hv st' kk=> ?_;obtain⟨t,rfl⟩:=hv;have I1:Inv X pins σ H { s with heap:=h',toks:=tk }:=I.turned (λb o hb e=>kk b o (by simpa using hb) e) f0 f1 f3 f4 f5;refine⟨_,rfl,KS (s:={ s with heap:=h',toks:=tk }) (n:= "range_iterator") st' rfl rfl (by decide) ⟨.int (lo+i),H,I1,⟨t,?_⟩,⟨rfl,rfl⟩,st',λb hb=>(hf b hb).1⟩⟩;rw[Int.mul_one]
 done:=by
  intro X hP hw hK hc i pins s σ H E I hf st hg;subst hP hw hK;obtain⟨f0,f1,f2,f3,f4,f5⟩:=hf it (by simp);exact wpAny_pyNext_range_end (I.ok.hd hc) st (by have:n<=i:=hg;lia) λh' eb=>⟨rfl,I.turned (t':=s.toks) (λb o hb e=>eb b o hb e) f0 f1 f3 f4 f5⟩
 self:=λ_ _ _ _ _ st h=>wpAny_pyIter_rangeiter st h
variable {i lo:Int}
def aBq(K:W.Frag)(tl:TE):TI:=λσ H R=>tl σ H λx H1=>∃a,x= .ref a/\(∃xs,SqL K H1 a xs)/\R (Itl K a) H1
theorem bN{l:Expr}{tl:TE}(hl:PE X l tl):PI X tg l (aBq X.K tl):=by
 intro pins s σ H R I h;refine thn (hl pins s σ H _ I h) ?_;rintro v s1 ⟨x,H1,I1,r1,q1⟩;obtain⟨a,e,⟨xs,hq⟩,q⟩:=q1;subst e;cases r1;obtain⟨its,rv,p,hz⟩:=I1.list hq;refine ma p.isList ?_;refine⟨s1.heap.objs.size,[s1.heap.objs.size],_,_,H1,rfl,I1.kept (t':=s1.toks) λb o e=>aj _ e,WU a _,⟨_,be _ rfl,rfl,rfl⟩,λb hb=> ?_,q⟩;have e:b=s1.heap.objs.size:=by simpa using hb
 subst e;exact I1.fpOk (aq _) (I1.hok.fresh (aq _))
theorem NV{R:It->Hp->Prop}{hi:Int}{t u v:Tok}{tk:Nat}(I:Inv X pins σ H s)(h1: -(2^62)<=lo)(h2:lo<2^62)(h3: -(2^62)<=hi)(h4:hi<2^62)
  (q:R (Itr lo (hi - lo).toNat) H):cb (ck X.prog X.w) X.A (pyIter (.ref s.heap.objs.size)) (PIE X pins σ tg R) E { s with heap:=s.heap.push { cls:= .type "range",data:= .fields #[.int lo t,.int hi u,.int 1 v] },toks:=tk }:=by
 refine wpAny_pyIter_range (IsRange.new ..) (small_one h1 h2 h3 h4) ?_;have I1:Inv X pins σ H { s with heap:=s.heap.push { cls:= .type "range",data:= .fields #[.int lo t,.int hi u,.int 1 v] },toks:=tk }:=I.kept λb o e=>aj _ e;refine⟨(s.heap.push { cls:= .type "range",data:= .fields #[.int lo t,.int hi u,.int 1 v] }).objs.size,[(s.heap.push { cls:= .type "range",data:= .fields #[.int lo t,.int hi u,.int 1 v] }).objs.size],_,_,H,rfl,
  I1.kept (t':=tk) λb o e=>aj _ e,TB _ lo (hi - lo).toNat,?_,λb hb=> ?_,q⟩
 .have e1:lo+((0:Nat):Int) * 1=lo:=by simp
  have e2:(((hi - lo).toNat:Nat):Int) - ((0:Nat):Int)=vw lo hi 1:=by rw[rangeSize_one];split<;>lia
  show xm _ _ (lo+((0:Nat):Int) * 1) ((((hi - lo).toNat:Nat):Int) - ((0:Nat):Int)) 1;rw[e1,e2];exact be _ rfl
 .have e:b=(s.heap.push { cls:= .type "range",data:= .fields #[.int lo t,.int hi u,.int 1 v] }).objs.size:=by simpa using hb
  subst e;exact I1.fpOk (aq _) (I1.hok.fresh (aq _))
def aBm(ta:TA):TI:=λσ H R=>ta σ H λvs H1=>∃j:Int,vs=[.int j]/\ -(2^62)<=j/\j<2^62/\R (Itr 0 j.toNat) H1
def aA9(ta:TA):TI:=λσ H R=>ta σ H λvs H1=>∃i j:Int,vs=[.int i,.int j]/\(-(2^62)<=i/\i<2^62/\ -(2^62)<=j/\j<2^62)/\R (Itr i (j - i).toNat) H1
theorem gM{a:Expr}{ta:TA}{p:Pos}(hg:Gl X "range")(hm:X.mg "range" =none)(ha:PA X [a] ta)(hs:cy [a] X.env=[(false,eval a X.env)]:=by rfl):PI X tg (.Call (.Name "range" p) [a] [] pos) (aBm ta):=by
 intro pins s σ H R I h;refine Call_ (vL I hg hm boot_range (jh (thn (ha pos pins s σ H _ I h) ?_) hs rfl));rintro us s1 ⟨vs,H1,I1,r1,q1⟩;obtain⟨j,e,q1,q2,q⟩:=q1;subst e;cases r1 with
 | cons r rr =>
  cases rr;obtain⟨t,rfl⟩:=r;exact call_range_1 (NV I1 (by lia) (by lia) q1 q2 (by simpa using q))
theorem JD{a b:Expr}{ta:TA}{p pos:Pos}(hg:Gl X "range")(hm:X.mg "range" =none)(ha:PA X [a,b] ta)(hs:cy [a,b] X.env=[(false,eval a X.env),(false,eval b X.env)]:=by rfl)(hs2:cy [b] X.env=[(false,eval b X.env)]:=by rfl):
  PI X tg (.Call (.Name "range" p) [a,b] [] pos) (aA9 ta):=by
 intro pins s σ H R I h;refine Call_ (vL I hg hm boot_range (jh (thn (ha pos pins s σ H _ I h) λus s1 ⟨vs,H1,I1,r1,q1⟩=> ?_) (by rw[hs,hs2]) (by rw[hs2];rfl)));obtain⟨i,j,e,⟨q1,q2,q3,q4⟩,q⟩:=q1;subst e;cases r1 with
 | cons r rr =>
  cases rr with
  | cons r' rr =>
   cases rr;obtain⟨t,rfl⟩:=r;obtain⟨t',rfl⟩:=r';exact call_range_2 (NV I1 q1 q2 q3 q4 q)
def aEu(wi:TI)(g:TG)(tb:TS):TS:=λD σ H=>wi σ H λJ H1=>∃W:Nat->Nat->St->Hp->Prop,(∃m,W 0 m σ H1)/\∀i m σ H,W i m σ H →
 (J.stop i H/\D.nx σ H)∨(J.go i H/\∃N:St->Hp->Prop,(∀σ' H',N σ' H'->∃m',m'<m/\W (i+1) m' σ' H')/\∀x H',J.yld i H x H'->g x σ H' λσ2 H2=>tb { D with nx:=N,ct:=N,bk:=D.nx } σ2 H2)
def oZ(fp:List Addr)(h:Heap):List (Addr×Obj):=fp.filterMap λb=>(h.get? b).map λo=>(b,o)
theorem lZ{fp:List Addr}{b:Addr}(hb:b∈fp)(e:h.get? b=some o):(b,o)∈oZ fp h:=List.mem_filterMap.mpr ⟨b,hb,by rw[e];rfl⟩
theorem JJ{fp:List Addr}{p:Addr×Obj}(hp:p∈oZ fp h):p.1∈fp/\h.get? p.1=some p.2:=by
 obtain⟨b,hb,e⟩:=List.mem_filterMap.mp hp;cases q:h.get? b with
 | none=>rw[q]at e;cases e
 | some o =>
  rw[q]at e;have e':(b,o)=p:=dg e;subst e';exact⟨hb,q⟩
theorem Inv.pinned{fp:List Addr}(I:Inv X pins σ H s)(hf:∀b∈fp,sR X pins H b)(ho:∀b∈fp,∃o,s.heap.get? b=some o/\∀v,o.data≠ .cell v):Inv X (pins++oZ fp s.heap) σ H s :=
 I.pins_of λp hp=>(bh.mp hp).elim (λz=>I.pin p (bp _ z)) λz=>by
  obtain⟨hb,e⟩:=JJ z;obtain⟨f0,f1,f2,_⟩:=hf p.1 hb;obtain⟨o,e',d⟩:=ho p.1 hb;rw[e]at e';cases e';exact⟨e,f0,f1,f2,d⟩
theorem Inv.unpinned{pl:List (Addr×Obj)}(I:Inv X (pins++pl) σ H s):Inv X pins σ H s:=I.pins_of λp hp=>I.pin p (bp _ (fj _ hp))
theorem cO{iter:Expr}{body:List Stmt}{wi:TI}(hp:PassesOwn (ck X.prog X.w) X.A X.env X.xe)(hc:X.calm=true)(hi:PI X tg iter wi)(hg:PG X tg g)(hb:PSs X body tb)
  (hs:∀x,um iter X.env x=pure x:=by intro _;rfl):PS X (.For tg iter body [] pos) (aEu wi g tb):=by
 intro pins s σ H D I h;refine wpAny_For (thn (hi pins s σ H _ I h) λv s1 h1=>thn h1 λitv s2 h2=> ?_) hs;obtain⟨it,fp,tn,J,H2,e,I2,T,st2,f2,W,⟨m0,w0⟩,turn⟩:=h2;subst e;have stat:∀{H':Hp},(∀b∈fp,H' b=none)->∀b∈fp,sR X pins H' b:=λhn b hb=>⟨hn b hb,(f2 b hb).2⟩
 refine codeAny_forLoop_any (λn s'=>∃i σ' H',Inv X pins σ' H' s'/\tn i s'.heap/\(∀b∈fp,H' b=none)/\W i n σ' H') ?_ m0 ⟨0,σ,H2,I2,st2,λb hb=>(f2 b hb).1,w0⟩;rintro n s3 ⟨i,σ3,H3,I3,st3,fr3,w3⟩;rcases turn i n σ3 H3 w3 with⟨stop,qn⟩|⟨go,N,hN,step⟩
 .refine jv hp (thn (T.done X rfl rfl rfl hc i pins s3 σ3 H3 X.xe I3 (stat fr3) st3 stop) ?_);rintro r s4 ⟨hr,I4⟩;subst hr;exact qw ⟨σ3,H3,I4,qn⟩
 .refine jv hp (thn (T.item X rfl rfl rfl hc i pins s3 σ3 H3 X.xe I3 (stat fr3) st3 go) ?_);rintro r s4 ⟨u,hr,h4⟩;subst hr;refine jv hp (thn h4 ?_);rintro _ s5 ⟨x,H5,I5,r5,y5,st5,fr5⟩;have I5':=I5.pinned (stat fr5) (T.obj _ _ st5);refine jv hp (thn (hg _ s5 σ3 H5 x u _ I5' r5 (step x H5 y5)) ?_);rintro _ s6 ⟨σ6,H6,I6,q6⟩;refine jv hp (thn (hb _ s6 σ6 H6 _ I6 q6) λf s7 q7=> ?_);have again:∀{σ7:St}{H7:Hp},Inv X (pins++oZ fp s5.heap) σ7 H7 s7->N σ7 H7->∃m,m<n/\∃i σ' H',Inv X pins σ' H' s7/\tn i s7.heap/\(∀b∈fp,H' b=none)/\W i m σ' H':=λ{σ7 H7} I7 n7=>by
   obtain⟨m',hm,w7⟩:=hN σ7 H7 n7;refine⟨m',hm,i+1,σ7,H7,I7.unpinned,T.keep _ _ _ st5 λb hb o e=>(I7.pin (b,o) (bp _ (bp _ (lZ hb e)))).1,λb hb=> ?_,w7⟩;obtain⟨o,e,d⟩:=T.obj _ _ st5 b hb;exact(I7.pin (b,o) (bp _ (bp _ (lZ hb e)))).2.1
  cases f with
  | next=>obtain⟨σ7,H7,I7,n7⟩:=q7;exact again I7 n7
  | cont=>obtain⟨σ7,H7,I7,n7⟩:=q7;exact again I7 n7
  | brk=>obtain⟨σ7,H7,I7,q7⟩:=q7;exact⟨σ7,H7,I7.unpinned,q7⟩
  | ret v=>obtain⟨x7,σ7,H7,I7,r7,q7⟩:=q7;exact⟨x7,σ7,H7,I7.unpinned,r7,q7⟩
theorem YT{D:gX}(Pv:Nat->St->Hp->Prop)(h0:Pv 0 σ H)(hl:∀i σ H,i<=xs.length->Pv i σ H->SqL K H a xs)
  (hs:∀i x σ H,xs[i]? =some x->Pv i σ H->g x σ H λσ2 H2=>tb { D with nx:=Pv (i+1),ct:=Pv (i+1),bk:=D.nx } σ2 H2)(hd:∀σ H,Pv xs.length σ H->D.nx σ H) :
  ∃W:Nat->Nat->St->Hp->Prop,(∃m,W 0 m σ H)/\∀i m σ H,W i m σ H →
   ((Itl K a).stop i H/\D.nx σ H)∨((Itl K a).go i H/\∃N:St->Hp->Prop,(∀σ' H',N σ' H'->∃m',m'<m/\W (i+1) m' σ' H')/\∀x H',(Itl K a).yld i H x H'->g x σ H' λσ2 H2=>tb { D with nx:=N,ct:=N,bk:=D.nx } σ2 H2):=by
 refine⟨λi m σ H=>m=xs.length - i/\i<=xs.length/\Pv i σ H,⟨xs.length,by simp,et _,h0⟩,?_⟩;rintro i m σ H ⟨rfl,hi,p⟩;have q:=hl i σ H hi p
 by_cases hlt:i<xs.length
 .refine .inr ⟨⟨xs,xs[i],q,by simp[hlt]⟩,Pv (i+1),λσ' H' p'=>⟨xs.length - (i+1),by lia,rfl,hlt,p'⟩,λx H' y=> ?_⟩;obtain⟨e,y⟩:=y;subst e;exact hs i x σ _ (y xs q) p
 .have e:i=xs.length:=by lia
  subst e;exact .inl ⟨⟨xs,q,aq _⟩,hd σ H p⟩
theorem W2{D:gX}(Pv:Nat->St->Hp->Prop)(h0:Pv 0 σ H)
  (hs:∀i σ H,i<n->Pv i σ H->g (.int (lo+i)) σ H λσ2 H2=>tb { D with nx:=Pv (i+1),ct:=Pv (i+1),bk:=D.nx } σ2 H2)(hd:∀σ H,Pv n σ H->D.nx σ H) :
  ∃W:Nat->Nat->St->Hp->Prop,(∃m,W 0 m σ H)/\∀i m σ H,W i m σ H →
   ((Itr lo n).stop i H/\D.nx σ H)∨((Itr lo n).go i H/\∃N:St->Hp->Prop,(∀σ' H',N σ' H'->∃m',m'<m/\W (i+1) m' σ' H')/\∀x H',(Itr lo n).yld i H x H'->g x σ H' λσ2 H2=>tb { D with nx:=N,ct:=N,bk:=D.nx } σ2 H2):=by
 refine⟨λi m σ H=>m=n - i/\i<=n/\Pv i σ H,⟨n,by simp,et _,h0⟩,?_⟩;rintro i m σ H ⟨rfl,hi,p⟩
 by_cases hlt:i<n
 .refine .inr ⟨hlt,Pv (i+1),λσ' H' p'=>⟨n - (i+1),by lia,rfl,hlt,p'⟩,λx H' y=> ?_⟩;obtain⟨e,y⟩:=y;subst e y;exact hs i σ _ hlt p
 .have e:i=n:=by lia
  subst e;exact .inl ⟨aq _,hd σ H p⟩
abbrev R2:=V->V->Hp->VK->Prop
def OpR(X:Cx)(f:ak->ak->Sem ak)(r:R2):Prop :=
 ∀(pins:List (Addr×Obj)) (s:ba) (σ:St) (H:Hp) (x y:V) (v u:ak) (Q:VK),Inv X pins σ H s->RelV x v->RelV y u->r x y H Q →
  cb (ck X.prog X.w) X.A (f v u) (EP X pins σ Q) X.xe s
def UnR(X:Cx)(f:ak->Sem ak)(r:V->Hp->VK->Prop):Prop :=
 ∀(pins:List (Addr×Obj)) (s:ba) (σ:St) (H:Hp) (x:V) (v:ak) (Q:VK),Inv X pins σ H s->RelV x v->r x H Q →
  cb (ck X.prog X.w) X.A (f v) (EP X pins σ Q) X.xe s
def dZ(X:Cx)(f:ak)(r:List V->Hp->VK->Prop):Prop :=
 ∀(pins:List (Addr×Obj)) (s:ba) (σ:St) (H:Hp) (xs:List V) (us:List ak) (Q:VK),Inv X pins σ H s->Vals xs us->r xs H Q →
  cb (ck X.prog X.w) X.A (call f us) (EP X pins σ Q) X.xe s
def tOp(r:R2)(ta tb:TE):TE:=λσ H Q=>ta σ H λx H1=>tb σ H1 λy H2=>r x y H2 Q
def tUn(r:V->Hp->VK->Prop)(ta:TE):TE:=λσ H Q=>ta σ H λx H1=>r x H1 Q
def rI(C:Int->Int->Prop)(g:Int->Int->V):R2:=λx y H Q=>∃i j,x= .int i/\y= .int j/\C i j/\Q (g i j) H
def rI0(g:Int->Int->V):R2:=λx y H Q=>∃i j,x= .int i/\y= .int j/\Q (g i j) H
def rU(g:Int->V):V->Hp->VK->Prop:=λx H Q=>∃i,x= .int i/\Q (g i) H
variable {r':R2}
section
variable {a b c:Expr}{tb tc:TE}
theorem aAC(ha:PE X a ta)(hb:PE X b tb){R:V->V->Hp->Prop}(I:Inv X pins σ H s)
  (h:ta σ H λx H1=>tb σ H1 λy H2=>R x y H2){Q:ak->ba->Prop}{f:ak->ak->Sem ak}
  (hf:∀v u s2 x y H2,Inv X pins σ H2 s2->RelV x v->RelV y u->R x y H2->cb (ck X.prog X.w) X.A (f v u) Q X.xe s2) :
  cb (ck X.prog X.w) X.A (eval a X.env) (λv s₁=>cb (ck X.prog X.w) X.A (eval b X.env) (λu s₂=>cb (ck X.prog X.w) X.A (f v u) Q X.xe s₂) X.xe s₁) X.xe s:=by
 refine thn (ha pins s σ H _ I h) ?_;rintro v s1 ⟨x,H1,I1,r1,q1⟩;refine thn (hb pins s1 σ H1 _ I1 q1) ?_;rintro u s2 ⟨y,H2,I2,r2,q2⟩;exact hf v u s2 x y H2 I2 r1 r2 q2
theorem aK{op:vv}{r:R2}(ho:OpR X (ky op) r)(ha:PE X a ta)(hb:PE X b tb):PE X (.BinOp a op b pos) (tOp r ta tb):=by
 intro pins s σ H Q I h;exact wpAny_BinOp (aAC ha hb I h λv u s2 x y H2 I2 rx ry q=>ho pins s2 σ H2 x y v u Q I2 rx ry q)
theorem SZ{op:UnaryOp}{r:V->Hp->VK->Prop}(ho:UnR X (unaryOp op) r)(ha:PE X a ta):PE X (.UnaryOp op a pos) (tUn r ta):=by
 intro pins s σ H Q I h;refine UnaryOp_ (thn (ha pins s σ H _ I h) ?_);rintro v s1 ⟨x,H1,I1,r1,q1⟩;exact ho pins s1 σ H1 x v Q I1 r1 q1
theorem opI{f:ak->ak->Sem ak}{C:Int->Int->Prop}{g:Int->Int->Int}
  (rule:∀(i j:Int) (t u:Tok) (s:ba) (Q:ak->ba->Prop) (E:ak->ba->Prop),C i j->Q (.int (g i j) s.toks) { s with toks:=s.toks+1 }->cb (ck X.prog X.w) X.A (f (.int i t) (.int j u)) Q E s) :
  OpR X f (rI C λi j=> .int (g i j)):=by
 intro pins s σ H x y v u Q I rx ry h;obtain⟨i,j,rfl,rfl,hc,q⟩:=h;obtain⟨t,rfl⟩:=rx;obtain⟨t',rfl⟩:=ry;exact rule i j t t' s _ _ hc ⟨.int (g i j),H,I.tok _,⟨_,rfl⟩,q⟩
theorem aAv{f:ak->ak->Sem ak}{g:Int->Int->Int}
  (rule:∀(i j:Int) (t u:Tok) (s:ba) (Q:ak->ba->Prop) (E:ak->ba->Prop),Q (.int (g i j) s.toks) { s with toks:=s.toks+1 }->cb (ck X.prog X.w) X.A (f (.int i t) (.int j u)) Q E s) :
  OpR X f (rI0 λi j=> .int (g i j)):=by
 intro pins s σ H x y v u Q I rx ry h;obtain⟨i,j,rfl,rfl,q⟩:=h;obtain⟨t,rfl⟩:=rx;obtain⟨t',rfl⟩:=ry;exact rule i j t t' s _ _ ⟨.int (g i j),H,I.tok _,⟨_,rfl⟩,q⟩
theorem RZ{f:ak->ak->Sem ak}{g:Int->Int->Bool}
  (rule:∀(i j:Int) (t u:Tok) (s:ba) (Q:ak->ba->Prop) (E:ak->ba->Prop),Q (.bool (g i j)) s->cb (ck X.prog X.w) X.A (f (.int i t) (.int j u)) Q E s) :
  OpR X f (rI0 λi j=> .bl (g i j)):=by
 intro pins s σ H x y v u Q I rx ry h;obtain⟨i,j,rfl,rfl,q⟩:=h;obtain⟨t,rfl⟩:=rx;obtain⟨t',rfl⟩:=ry;exact rule i j t t' s _ _ ⟨.bl (g i j),H,I,rfl,q⟩
def aEw(i j:Int):Prop:=0<j/\j<1073741824
def aDZ(i j:Int):Prop:=0<=j/\j<=1000000/\i.natAbs<2^64
def CMul(i j:Int):Prop:=(-(2^64)<i/\i<2^64)∨(-(2^64)<j/\j<2^64)
theorem CMul.ok{j:Int}(h:CMul i j):IntMulOk i j:=by
 rcases h with⟨h1,h2⟩|⟨h1,h2⟩
 .exact .of_left (intBits_le_64 h1 h2)
 .exact .of_right (intBits_le_64 h1 h2)
theorem UA(k:Nat):(0:Int)<=2^k:=by
 rw[two_pow_cast];exact Int.natCast_nonneg _
theorem bX:OpR X (ky .Add) (rI0 λi j=> .int (i+j)):=aAv λ_ _ _ _ _ _ _ q=>add_int q
theorem hV:OpR X (ky .Sub) (rI0 λi j=> .int (i - j)):=aAv λ_ _ _ _ _ _ _ q=>sub_int q
theorem kB:OpR X (ky .Mult) (rI CMul λi j=> .int (i * j)):=opI λ_ _ _ _ _ _ _ hc q=>mul_int q hc.ok
theorem cK:OpR X (ky .FloorDiv) (rI aEw λi j=> .int (i/j)):=opI λi j _ _ _ _ _ hc q=>by
 have h1:(0:Int)<j:=hc.1;have h2:j<1073741824:=hc.2;exact floordiv_int (by lia) (by rw[me i (by lia)];exact q) (.inl (wk (by lia)))
theorem bP:OpR X (ky .Mod) (rI (λ_ j=>0<j) λi j=> .int (i%j)):=opI λi j _ _ _ _ _ hc q=>by
 have h1:(0:Int)<j:=hc;exact mod_int' (by lia) (by rw[Int.fmod_eq_emod_of_nonneg i (by lia)];exact q)
theorem aEg:OpR X (ky .Pow) (rI aDZ λi j=> .int (i^j.toNat)):=opI λ_ _ _ _ _ _ _ hc q=>pow_int_small hc.1 hc.2.1 hc.2.2 q
theorem aEs:OpR X (ky .RShift) (rI (λ_ j=>0<=j) λi j=> .int (i/2^j.toNat)):=opI λi j _ _ _ _ _ hc q =>
 rshift_int hc (by rw[me i (UA _)];exact q)
theorem XO:OpR X (ky .BitXor) (rI0 λi j=> .int (xo i j)):=aAv λ_ _ _ _ _ _ _ q=>xor_int q
theorem unI{f:ak->Sem ak}{g:Int->Int}
  (rule:∀(i:Int) (t:Tok) (s:ba) (Q:ak->ba->Prop) (E:ak->ba->Prop),Q (.int (g i) s.toks) { s with toks:=s.toks+1 }->cb (ck X.prog X.w) X.A (f (.int i t)) Q E s) :
  UnR X f (rU λi=> .int (g i)):=by
 intro pins s σ H x v Q I rx h;obtain⟨i,rfl,q⟩:=h;obtain⟨t,rfl⟩:=rx;exact rule i t s _ _ ⟨.int (g i),H,I.tok _,⟨_,rfl⟩,q⟩
theorem MR:UnR X (unaryOp .USub) (rU λi=> .int (-i)):=unI λ_ _ _ _ _ q=>neg_int q
end
def aAd:V->V->Bool
 | .non,.non=>true| .non,.int _=>true| .int _,.non=>true| .non,.bl _=>true| .bl _,.non=>true| .non,.str _=>true| .str _,.non=>true
 | .int _,.int _=>true| .bl _,.bl _=>true| .str _,.str _=>true| .byt _,.byt _=>true
 | .int _,.str _=>true| .str _,.int _=>true| .bl _,.str _=>true| .str _,.bl _=>true
 | _,_=>false
def rEq:R2:=λx y H Q=>aAd x y=true/\Q (.bl (decide (x=y))) H
def rNe:R2:=λx y H Q=>aAd x y=true/\Q (.bl (!decide (x=y))) H
theorem RD{j:Int}:decide (V.int i=V.int j)=(i==j):=by
 rw[kz];simp
theorem XD{i j:Bool}:decide (V.bl i=V.bl j)=(i==j):=by
 rw[kz];simp
theorem Q1{i j:Str}:decide (V.str i=V.str j)=(i==j):=by
 rw[kz];simp
theorem QS{i j:Array UInt8}:decide (V.byt i=V.byt j)=(i.toList==j.toList):=by
 rw[kz];cases i;cases j;simp
variable {Q:VK}
section
variable {a b c:Expr}{tb tc:TE}
theorem bW{k k':Bool}(I:Inv X pins σ H s)(q:Q (.bl k) H)(e:k=k'):EP X pins σ Q (.bool k') s:=by
 subst e;exact⟨.bl k,H,I,rfl,q⟩
theorem fG:OpR X (gg .Eq) rEq:=by
 intro pins s σ H x y v u Q I rx ry h;obtain⟨hs,q⟩:=h;cases x with
 | non =>
  cases rx;cases y with
  | non=>cases ry;exact PySem.EqNone.eq_none_none (bW I q (by simp))
  | bl j=>cases ry;exact PySem.EqNone.eq_none_bool (bW I q (by simp))
  | int j=>obtain⟨t',rfl⟩:=ry;exact PySem.EqNone.eq_none_int (bW I q (by simp))
  | str j=>obtain⟨t',rfl⟩:=ry;exact PySem.EqNone.eq_none_str (bW I q (by simp))
  | _=>exact absurd (show false=true from hs) bg
 | bl i =>
  cases rx;cases y with
  | non=>cases ry;exact PySem.EqNone.eq_bool_none (bW I q (by simp))
  | bl j=>cases ry;exact eq_bool (bW I q XD)
  | str j=>obtain⟨t',rfl⟩:=ry;exact PySem.EqMixed.eq_bool_str (bW I q (by simp))
  | _=>exact absurd (show false=true from hs) bg
 | int i =>
  obtain⟨t,rfl⟩:=rx;cases y with
  | non=>cases ry;exact PySem.EqNone.eq_int_none (bW I q (by simp))
  | int j=>obtain⟨t',rfl⟩:=ry;exact eq_int (bW I q RD)
  | str j=>obtain⟨t',rfl⟩:=ry;exact PySem.EqMixed.eq_int_str (bW I q (by simp))
  | _=>exact absurd (show false=true from hs) bg
 | str i =>
  obtain⟨t,rfl⟩:=rx;cases y with
  | non=>cases ry;exact PySem.EqNone.eq_str_none (bW I q (by simp))
  | bl j=>cases ry;exact PySem.EqMixed.eq_str_bool (bW I q (by simp))
  | int j=>obtain⟨t',rfl⟩:=ry;exact PySem.EqMixed.eq_str_int (bW I q (by simp))
  | str j=>obtain⟨t',rfl⟩:=ry;exact eq_str (bW I q Q1)
  | _=>exact absurd (show false=true from hs) bg
 | byt i =>
  obtain⟨t,rfl⟩:=rx;cases y with
  | byt j=>obtain⟨t',rfl⟩:=ry;exact W.eq_bytes (bW I q QS)
  | _=>exact absurd (show false=true from hs) bg
 | _=>cases y<;>exact absurd (show false=true from hs) bg
theorem aBu:OpR X (gg .NotEq) rNe:=by
 intro pins s σ H x y v u Q I rx ry h;obtain⟨hs,q⟩:=h;cases x with
 | non =>
  cases rx;cases y with
  | non=>cases ry;exact PySem.EqNone.ne_none_none (bW I q (by simp))
  | bl j=>cases ry;exact PySem.EqNone.ne_none_bool (bW I q (by simp))
  | int j=>obtain⟨t',rfl⟩:=ry;exact PySem.EqNone.ne_none_int (bW I q (by simp))
  | str j=>obtain⟨t',rfl⟩:=ry;exact PySem.EqNone.ne_none_str (bW I q (by simp))
  | _=>exact absurd (show false=true from hs) bg
 | bl i =>
  cases rx;cases y with
  | non=>cases ry;exact PySem.EqNone.ne_bool_none (bW I q (by simp))
  | bl j=>cases ry;exact ne_bool (bW I q (congrArg not XD))
  | str j=>obtain⟨t',rfl⟩:=ry;exact PySem.EqMixed.ne_bool_str (bW I q (by simp))
  | _=>exact absurd (show false=true from hs) bg
 | int i =>
  obtain⟨t,rfl⟩:=rx;cases y with
  | non=>cases ry;exact PySem.EqNone.ne_int_none (bW I q (by simp))
  | int j=>obtain⟨t',rfl⟩:=ry;exact ne_int (bW I q (congrArg not RD))
  | str j=>obtain⟨t',rfl⟩:=ry;exact PySem.EqMixed.ne_int_str (bW I q (by simp))
  | _=>exact absurd (show false=true from hs) bg
 | str i =>
  obtain⟨t,rfl⟩:=rx;cases y with
  | non=>cases ry;exact PySem.EqNone.ne_str_none (bW I q (by simp))
  | bl j=>cases ry;exact PySem.EqMixed.ne_str_bool (bW I q (by simp))
  | int j=>obtain⟨t',rfl⟩:=ry;exact PySem.EqMixed.ne_str_int (bW I q (by simp))
  | str j=>obtain⟨t',rfl⟩:=ry;exact ne_str (bW I q (congrArg not Q1))
  | _=>exact absurd (show false=true from hs) bg
 | byt i =>
  obtain⟨t,rfl⟩:=rx;cases y with
  | byt j=>obtain⟨t',rfl⟩:=ry;exact W.ne_bytes (bW I q (congrArg not QS))
  | _=>exact absurd (show false=true from hs) bg
 | _=>cases y<;>exact absurd (show false=true from hs) bg
theorem kF:OpR X (gg .Lt) (rI0 λi j=> .bl (decide (i<j))):=RZ λ_ _ _ _ _ _ _ q=>lt_int q
theorem R3:OpR X (gg .LtE) (rI0 λi j=> .bl (decide (i<=j))):=RZ λ_ _ _ _ _ _ _ q=>le_int q
theorem xF:OpR X (gg .Gt) (rI0 λi j=> .bl (decide (j<i))):=RZ λ_ _ _ _ _ _ _ q=>gt_int q
theorem KQ:OpR X (gg .GtE) (rI0 λi j=> .bl (decide (j<=i))):=RZ λ_ _ _ _ _ _ _ q=>ge_int q
theorem aFq:OpR X (gg .Is) (λx y H Q=>y= .non/\Q (.bl (decide (x= .non))) H):=by
 intro pins s σ H x y v u Q I rx ry h;obtain⟨rfl,q⟩:=h;cases ry;refine is_none_gen (bW I q ?_);cases x<;>first
  | (cases rx;rfl)
  | (obtain⟨t,rfl⟩:=rx;rfl)
theorem aC2:OpR X (gg .IsNot) (λx y H Q=>y= .non/\Q (.bl (!decide (x= .non))) H):=by
 intro pins s σ H x y v u Q I rx ry h;obtain⟨rfl,q⟩:=h;cases ry;refine isnot_none_gen (bW I q ?_);cases x<;>first
  | (cases rx;rfl)
  | (obtain⟨t,rfl⟩:=rx;rfl)
theorem bG(b:Expr)(h:op≠ .In:=by decide)(h2:op≠ .NotIn:=by decide):ni op b=false:=by
 have e1:(op==CmpOp.In)=false:=by cases op<;>first|rfl|exact absurd rfl h
 have e2:(op==CmpOp.NotIn)=false:=by cases op<;>first|rfl|exact absurd rfl h2
 cases b<;>simp[ni,e1,e2]
theorem vZ{r:R2}(ho:OpR X (gg op) r)(ha:PE X a ta)(hb:PE X b tb)(hm:ni op b=false):PE X (.Compare a [op] [b] pos) (tOp r ta tb):=by
 intro pins s σ H Q I h;exact wpAny_Compare1 (aAC ha hb I h λv u s2 x y H2 I2 rx ry q=>ho pins s2 σ H2 x y v u Q I2 rx ry q) hm
def T5(t:TE):TT:=λσ H Q=>t σ H λx H'=>∃k,x= .bl k/\Q k H'
theorem bB{r:R2}(ho:OpR X (gg op) r)(ha:PE X a ta)(hb:PE X b tb)(hm:ni op b=false):PT X (.Compare a [op] [b] pos) (T5 (tOp r ta tb)):=by
 intro pins s σ H Q I h;refine wpAny_isTrue_Compare1 (thn (ha pins s σ H _ I h) λv s1 ⟨x,H1,I1,r1,q1⟩=>thn (hb pins s1 σ H1 _ I1 q1) λu s2 ⟨y,H2,I2,r2,q2⟩ =>
  thn (ho pins s2 σ H2 x y v u _ I2 r1 r2 q2) λc s3 ⟨z,H3,I3,r3,k,e,q3⟩=> ?_) hm
 subst e;cases r3;exact gj ⟨H3,I3,q3⟩
def N8(r r':R2)(ta tb tc:TE):TE:=λσ H Q=>ta σ H λx H1=>tb σ H1 λy H2=>r x y H2 λz H3=>∃k,z= .bl k ∧
 (if k=true then tc σ H3 λw' H4=>r' y w' H4 Q else Q (.bl false) H3)
theorem NI{r:R2}(ho:OpR X (gg op) r)(ho':OpR X (gg op') r')(ha:PE X a ta)(hb:PE X b tb)(hc:PE X c tc)
  (hm:lastMarks [op,op'] [b,c]=false:=by with_unfolding_all rfl):PE X (.Compare a [op,op'] [b,c] pos) (N8 r r' ta tb tc):=by
 intro pins s σ H Q I h;refine Compare_chain (thn (ha pins s σ H _ I h) λv s1 ⟨x,H1,I1,r1,q1⟩=>chain_link (thn (hb pins s1 σ H1 _ I1 q1) λu s2 ⟨y,H2,I2,r2,q2⟩ =>
  thn (ho pins s2 σ H2 x y v u _ I2 r1 r2 q2) λd s3 ⟨z,H3,I3,r3,k,e,q3⟩=> ?_)) hm
 subst e;cases r3;refine gj ?_;cases k with
 | false=>exact ite_ff ⟨.bl false,H3,I3,rfl,q3⟩
 | true=>exact ite_tt (chain_last (thn (hc pins s3 σ H3 _ I3 q3) λw' s4 ⟨z',H4,I4,r4,q4⟩=>ho' pins s4 σ H4 y z' u w' Q I4 r2 r4 q4))
theorem Y1{r:R2}(ho:OpR X (gg op) r)(ho':OpR X (gg op') r')(ha:PE X a ta)(hb:PE X b tb)(hc:PE X c tc)
  (hm:lastMarks [op,op'] [b,c]=false:=by with_unfolding_all rfl):PT X (.Compare a [op,op'] [b,c] pos) (T5 (N8 r r' ta tb tc)):=by
 intro pins s σ H Q I h;refine isTrue_chain (thn (ha pins s σ H _ I h) λv s1 ⟨x,H1,I1,r1,q1⟩=>test_link (thn (hb pins s1 σ H1 _ I1 q1) λu s2 ⟨y,H2,I2,r2,q2⟩ =>
  thn (ho pins s2 σ H2 x y v u _ I2 r1 r2 q2) λd s3 ⟨z,H3,I3,r3,k,e,q3⟩=> ?_)) hm
 subst e;cases r3;refine gj ?_;cases k with
 | false =>
  obtain⟨k',e',q'⟩:=q3;cases e';exact ite_ff ⟨H3,I3,q'⟩
 | true =>
  refine ite_tt (test_last (thn (hc pins s3 σ H3 _ I3 q3) ?_));rintro w' s4 ⟨z',H4,I4,r4,q4⟩;refine thn (ho' pins s4 σ H4 y z' u w' _ I4 r2 r4 q4) ?_;rintro d' s5 ⟨z2,H5,I5,r5,k2,e2,q5⟩;subst e2;cases r5;exact gj ⟨H5,I5,q5⟩
theorem sO:(sizeLine:Nat)<2^63:=by rw[sizeLine_eq];decide
theorem SO:OpR X (ky .Add) (λx y H Q=>∃i j,x= .str i/\y= .str j/\i.length+j.length<=sizeLine/\Q (.str (i++j)) H):=by
 intro pins s σ H x y v u Q I rx ry h;obtain⟨i,j,rfl,rfl,hz,q⟩:=h;obtain⟨t,rfl⟩:=rx;obtain⟨t',rfl⟩:=ry;exact add_str (λt' tk=>⟨.str (i++j),H,I.tok _,⟨_,rfl⟩,q⟩) hz
theorem l6{x:V}{us:List ak}(r:Vals [x] us):∃u,us=[u]/\RelV x u:=by
 cases r with
 | cons r1 r2=>cases r2;exact⟨_,rfl,r1⟩
theorem aBj{x y:V}{us:List ak}(r:Vals [x,y] us):∃u w',us=[u,w']/\RelV x u/\RelV y w':=by
 cases r with
 | cons r1 r2 =>
  cases r2 with
  | cons r3 r4=>cases r4;exact⟨_,_,rfl,r1,r3⟩
theorem UU(hc:X.calm=true):dZ X (.builtin "min") (λxs H Q=>∃i j,xs=[.int i,.int j]/\Q (.int (if j<i then j else i)) H):=by
 intro pins s σ H xs us Q I r h;obtain⟨i,j,rfl,q⟩:=h;obtain⟨u,w',rfl,⟨t,rfl⟩,⟨t',rfl⟩⟩:=aBj r;refine min_two_ints (I.ok.hd hc) λh' tk k=>⟨_,H,I.kept k,?_,q⟩
 by_cases hj:j<i
 .rw[if_pos hj,if_pos hj];exact⟨_,rfl⟩
 .rw[if_neg hj,if_neg hj];exact⟨_,rfl⟩
end
structure ObjM(h:Heap)(x dx C:Addr)(mA:Str->Option ak):Prop where
 obj:h.get? x=some (W.instObj C dx)
 ns:h.Ns1 dx mA
 ne:dx≠x
variable {mA mg:Str->Option ak}
theorem XJ(n:h.Ns1 dx mA):∃od,h.get? dx=some od/\∀name,W.lookIn name od=some (mA name):=by
 obtain⟨o,es,ep,ho,hd,hk,_,hm⟩:=n;refine⟨o,ho,λname=> ?_⟩;have e:=hm name;unfold nsFind findBy at e;rw[←Array.find?_toList]at e;unfold W.lookIn;rw[hd]
 dsimp only
 split
 .rename_i y q;rw[q]at e;exact congrArg some e
 .rename_i q;rw[q]at e;have a:es.toList.any (·.refKey)=false:=by
   rw[List.any_eq_false];intro y hy;obtain⟨z,t,hkey⟩:=hk y (mf.mp hy);simp[my.refKey,hkey]
  have a':¬es.toList.any (·.refKey)=true:=by rw[a];exact bg
  rw[if_neg a'];exact congrArg some e
theorem ObjM.look{x:Addr}(I:ObjM h x dx C mA):∃od,W.InstAt h x (W.instObj C dx) C (some od)/\∀name,W.lookIn name od=some (mA name) :=
 let ⟨od,ho,hl⟩:=XJ I.ns
 ⟨od,⟨I.obj,rfl,rfl,ho⟩,hl⟩
variable {kw:List (Str×ak)}
section
variable {x f:Addr}{v:ak}
theorem aDe{expr:Bool}{Q:ak->ba->Prop}(X:K.In s.heap)(I:ObjM s.heap x dx C mA)(hg:W.plainGet K C name=true)(hh:W.hasDictIn K C=true)
  (ha:W.findIn K (.ref C) name=some none)(hv:mA name=some v)(hv':W.handedIn v=true)(h:Q v { s with toks:=s.toks+1 }) :
  cb (ck prog w) A (getAttr (.ref x) name expr) Q E s:=by
 obtain⟨od,J,hl⟩:=I.look;exact W.get_value X J (W.plainGet_of hg).1 (W.findObj_own hh ha rfl (by rw[hl,hv])) hv' h
theorem aAr{pl:Sem Bool}{Q:ak×List ak->ba->Prop}(X:K.In s.heap)(I:ObjM s.heap x dx C mA)(hg:W.plainGet K C name=true)
  (hf:W.findIn K (.ref C) name=some (some (.ref f)))(ht:W.isFn K (.ref f)=true)(hv:mA name=none)(h:Q (.ref f,[.ref x]) s) :
  cb (ck prog w) A (qg (.ref x) name pl) Q E s:=by
 obtain⟨od,J,hl⟩:=I.look;exact W.method_fn X J (W.plainGet_of hg).1 (W.plainGet_of hg).2 hf (beq_iff_eq.mp ht) (by show (W.lookIn name od).map (·.isSome)=some false;rw[hl,hv];rfl) h
theorem aCu{ns:List Str}{Q:Unit->ba->Prop}(X:K.In s.heap)(I:ObjM s.heap x dx C mA)
  (hs:W.findIn K (.ref C) "__setattr__" =some (some (.builtin "object.__setattr__")))(hp:W.plainOver K C=true)(ht:W.takerIn K C name=some none)(hh:W.hasDictIn K C=true)
  (hw:yx mA ns)(hsz:ns.length<=sizeLine)
  (h:∀h',ObjM h' x dx C (λy=>if y=name then some v else mA y)->ip dx s.heap h'->Q () { s with heap:=h',toks:=s.toks+2 }) :
  cb (ck prog w) A (setAttr (.ref x) name v) Q E s:=by
 obtain⟨od,J,hl⟩:=I.look;refine W.set_plain X J hs (W.osa_open (s:={ s with toks:=s.toks+1 }) (r:=none) X J hp ht λb=> ?_);obtain⟨cd,hc,hd'⟩:=W.any_some hh;have hx:s.heap.get? x=some ⟨.ref C,some dx,.plain,#[]⟩:=I.obj;refine af (ax (af (af (wpAny_loadPart hx (af (W.Looks.here (s:={ s with toks:=s.toks+1 }) (W.looks_clsIn X hc) ?_))))));rw[hd'];refine ax (a:=some dx) (af (ax (af ?_)));refine wpAny_nsSet1 (s:={ s with toks:=s.toks+1 }) I.ns λh' hn2 hs2=> ?_;obtain⟨oD,esD,epD,hoD,hdD,hcD⟩:=hn2.count (yx.cons name v hw);refine af (wpAny_lookBehind hoD (by rw[hdD];exact pastItsLine_dict (dy hcD (by rw[bb];lia))) ?_);exact ax (h _ ⟨(hs2.2 _ (fb I.ne)).trans I.obj,hn2,I.ne⟩ hs2)
theorem ZO{R:Result->ba->Prop}{vs:List ak}(X:K.In s.heap)(hm:W.makesIn K C=true)
  (hi:W.findIn K (.ref C) "__init__" =some (some (.ref f)))(hf:W.typeIn K (.ref f)=some (.type "function"))
  (h:mr (ck prog w) (A.under (.builtin "type.__call__" ⟨.ref C::vs,kw⟩)) (.call (.ref f) ⟨.ref (s.heap.objs.size+1)::vs,kw⟩) (W.InitBack (s.heap.objs.size+1) R)
   { s with heap:=(s.heap.push W.emptyDict).push (W.instObj C s.heap.objs.size) }) :
  mr (ck prog w) A (.call (.ref C) ⟨vs,kw⟩) R s:=by
 obtain⟨hh,g,d,t,os⟩:=s;exact W.make_core (W.makes_of X hm) (W.looks_findIn X hi) (λself=>W.bind_fn X self hf) (.inl rfl) h
end
def bT(f:Str)(v:V):List (Str×V)->List (Str×V)
 | []=>[(f,v)]
 | (g,x)::r=>if g=f then (g,v)::r else (g,x)::bT f v r
theorem oQ(f g:Str)(v:V):∀fs:List (Str×V),(bT f v fs).lookup g=if g=f then some v else fs.lookup g
 | []=>by
  show jb g [(f,v)]=_
  by_cases h:g=f
  .have hb:(g==f)=true:=beq_iff_eq.mpr h;simp only[jb,hb,if_pos h]
  .have hb:(g==f)=false:=beq_eq_false_iff_ne.mpr h;simp only[jb,hb,if_neg h]
 | (k,x)::r=>by
  have ih:=oQ f g v r;rw[show bT f v ((k,x)::r)=(if k=f then (k,v)::r else (k,x)::bT f v r) from rfl]
  by_cases hk:k=f
  .rw[if_pos hk]
   by_cases h:g=k
   .have hb:(g==k)=true:=beq_iff_eq.mpr h;simp only[jb,hb,if_pos (h.trans hk)]
   .have hb:(g==k)=false:=beq_eq_false_iff_ne.mpr h;simp only[jb,hb,if_neg (λe:g=f=>h (e.trans hk.symm))]
  .rw[if_neg hk]
   by_cases h:g=k
   .have hb:(g==k)=true:=beq_iff_eq.mpr h;simp only[jb,hb,if_neg (λe:g=f=>hk (h.symm.trans e))]
   .have hb:(g==k)=false:=beq_eq_false_iff_ne.mpr h;simp only[jb,hb];exact ih
theorem yX(f:Str)(v:V):∀fs:List (Str×V),f∈(bT f v fs).map (·.1)/\∀g,g∈fs.map (·.1)->g∈(bT f v fs).map (·.1)
 | []=>⟨by simp[bT],λg h=>by simp at h⟩
 | (k,x)::r=>by
  obtain⟨i1,i2⟩:=yX f v r;rw[show bT f v ((k,x)::r)=(if k=f then (k,v)::r else (k,x)::bT f v r) from rfl]
  by_cases hk:k=f
  .rw[if_pos hk];subst hk;exact⟨by simp,λg h=>by simpa using h⟩
  .rw[if_neg hk];refine⟨?_,λg h=> ?_⟩
   .rw[bo];exact ab _ i1
   .rw[bo]at h ⊢;rcases az.mp h with e|e
    .exact az.mpr (.inl e)
    .exact ab _ (i2 g e)
theorem CW(f:Str)(v:V):∀fs:List (Str×V),(bT f v fs).length<=fs.length+1
 | []=>by simp[bT]
 | (k,x)::r=>by
  have ih:=CW f v r;rw[show bT f v ((k,x)::r)=(if k=f then (k,v)::r else (k,x)::bT f v r) from rfl]
  by_cases hk:k=f
  .rw[if_pos hk,bb,bb];lia
  .rw[if_neg hk,bb,bb];lia
theorem RelO.some_of{o:Option ak}(r:RelO (some v) o):∃u,o=some u/\RelV v u:=by
 cases o with
 | none=>exact(show False from r).elim
 | some u=>exact⟨u,rfl,r⟩
theorem RelO.none_of{o:Option ak}(r:RelO none o):o=none:=by
 cases o with
 | none=>rfl
 | some u=>exact(show False from r).elim
theorem AE(r:RelV v u):W.handedIn u=true:=by
 cases v with
 | non=>cases (show u=fu from r);rfl
 | bl b=>cases (show u=tp b from r);rfl
 | int i=>obtain⟨t,e⟩:=(show ∃t,u=mn i t from r);cases e;rfl
 | str x=>obtain⟨t,e⟩:=(show ∃t,u=sy x t from r);cases e;rfl
 | byt b=>obtain⟨t,e⟩:=(show ∃t,u=ak.bytes b t from r);cases e;rfl
 | flt b=>obtain⟨t,e⟩:=(show ∃t,u=zf b t from r);cases e;rfl
 | ref a=>cases (show u=cu a from r);rfl
 | ty n=>cases (show u=oe n from r);rfl
section
variable {fs fs':List (Str×V)}
theorem AY(hok:HOk P w H h)(e:H a=some (.ins C dx fs)):∃mA,ObjM h a dx C mA/\(∀f,RelO (fs.lookup f) (mA f))/\yx mA (fs.map (·.1))/\fs.length<=1000/\H dx=some (.own a):=by
 obtain⟨d,z,ne,ob,mA,n,r,q⟩:=(show ObjOk P w H h a (.ins C dx fs) from hok a _ e)
 exact⟨mA,⟨ob,n,ne⟩,r,q,z,d⟩
end
structure Cls(K:W.Frag)(C:Addr):Prop where
 pg:W.plainGet K C ll=true
 hd:W.hasDictIn K C=true
 po:W.plainOver K C=true
 sa:W.findIn K (.ref C) "__setattr__" =some (some (.builtin "object.__setattr__"))
theorem Cls.get(c:Cls K C)(f:Str):W.plainGet K C f=true:=c.pg
def NoAttr(K:W.Frag)(C:Addr)(f:Str):Prop:=W.findIn K (.ref C) f=some none
theorem NoAttr.taker{f:Str}(n:NoAttr K C f):W.takerIn K C f=some none:=by
 unfold W.takerIn;rw[show W.findIn K (.ref C) f=some none from n];rfl
structure Meth(K:W.Frag)(C:Addr)(m:Str)(f:Addr):Prop where
 at_:W.findIn K (.ref C) m=some (some (.ref f))
 fn:W.isFn K (.ref f)=true
 kp:W.keepIn K (.ref f)=true
section
variable {fs:List (Str×V)}{f:Str}
theorem EY{b:Bool}{Q:ak->ba->Prop}(I:Inv X pins σ H s)(e:H a=some (.ins C dx fs))(c:Cls X.K C)(n:NoAttr X.K C f)(l:fs.lookup f=some v)
  (h:∀u s',Inv X pins σ H s'->RelV v u->Q u s'):cb (ck X.prog X.w) A (getAttr (.ref a) f b) Q E s:=by
 obtain⟨mA,O,r,_,_,_⟩:=AY I.hok e;obtain⟨u,hu,ru⟩:=RelO.some_of (v:=v) (o:=mA f) (by rw[←l];exact r f);exact aDe I.kIn O (c.get f) c.hd n hu (AE ru) (h u _ (I.tok _) ru)
theorem FD{g:Addr}{pl:Sem Bool}{Q:ak×List ak->ba->Prop}(I:Inv X pins σ H s)(e:H a=some (.ins C dx fs))(c:Cls X.K C)(k:Meth X.K C m g)(l:fs.lookup m=none)
  (h:Q (.ref g,[.ref a]) s):cb (ck X.prog X.w) A (qg (.ref a) m pl) Q E s:=by
 obtain⟨mA,O,r,_,_,_⟩:=AY I.hok e;have hn:mA m=none:=RelO.none_of (by rw[←l];exact r m);exact aAr I.kIn O (c.get m) k.at_ k.fn hn h
theorem EX{y:V}{Q:Unit->ba->Prop}(I:Inv X pins σ H s)(e:H a=some (.ins C dx fs))(c:Cls X.K C)(n:NoAttr X.K C f)(hl:fs.length<1000)(ry:RelV y u)
  (h:∀s',Inv X pins σ (upd H a (.ins C dx (bT f y fs))) s'->Q () s'):cb (ck X.prog X.w) A (setAttr (.ref a) f u) Q E s:=by
 obtain⟨mA,O,r,wi,_,ho⟩:=AY I.hok e;have hz:(fs.map (·.1)).length<=sizeLine:=by rw[ae,sizeLine_eq];lia
 refine aCu I.kIn O c.sa c.po n.taker c.hd wi hz λh' O' sb=>h _ ?_;have hd:∃o,h'.get? dx=some o:=let ⟨o,_,_,e',_⟩:=O'.ns;⟨o,e'⟩;refine I.write (x:=a) (e:=dx) (by rw[e];exact jm) (.inr ho) (λb q hb z=>(sb.2 b hb).trans z) hd ?_;refine⟨by rw[aI O.ne];exact ho,?_,O.ne,O'.obj,_,O'.ns,λg=> ?_,λg hg=> ?_⟩
 .have:=CW f y fs;lia
 .show RelO ((bT f y fs).lookup g) (if g=f then some u else mA g);rw[oQ]
  by_cases q:g=f
  .rw[if_pos q,if_pos q];exact ry
  .rw[if_neg q,if_neg q];exact r g
 .by_cases q:g=f
  .rw[q];exact(yX f y fs).1
  .refine(yX f y fs).2 g (wi g λz=>hg ?_);show (if g=f then some u else mA g)=none;rw[if_neg q];exact z
theorem Inv.made(I:Inv X pins σ H s):Inv X pins σ (upd (upd H s.heap.objs.size (.own (s.heap.objs.size+1))) (s.heap.objs.size+1) (.ins C s.heap.objs.size []))
  { s with heap:=(s.heap.push W.emptyDict).push (W.instObj C s.heap.objs.size) }:=by
 have e1:(s.heap.push W.emptyDict).get? s.heap.objs.size=some W.emptyDict:=be s.heap rfl;have e2:((s.heap.push W.emptyDict).push (W.instObj C s.heap.objs.size)).get? (s.heap.objs.size+1)=some (W.instObj C s.heap.objs.size):=by
  have:=be (s.heap.push W.emptyDict) (o:=W.instObj C s.heap.objs.size) rfl
  rwa [xp]at this
 have e3:(s.heap.push W.emptyDict).Ns s.heap.objs.size (λ_=>none):=⟨W.emptyDict,#[],_,e1,rfl,(λe he=>absurd he (by simp)),λ_=>rfl⟩
 have I1:=I.laid (a:=s.heap.objs.size) (o:= .own (s.heap.objs.size+1)) (h':=s.heap.push W.emptyDict) (t':=s.toks) (λb u q=>aj _ q) (aq _) ⟨_,e1⟩;refine I1.laid (a:=s.heap.objs.size+1) (o:= .ins C s.heap.objs.size []) (t':=s.toks) (λb u q=>aj _ q) (za (xp _ _)) ?_;have ne:s.heap.objs.size≠s.heap.objs.size+1:=cf (mw _);refine⟨by rw[aI ne,aR],et _,ne,e2,λ_=>none,(Heap.Ns1.of_empty e3).at λo q=>aj _ q,λ_=>jm,λy hy=>absurd rfl hy⟩
theorem aBY{env:Env}{f:Str}{Q:ak->ba->Prop}(hb:jz e f env (eval e env)=eval e env)
  (h:cb (ck prog w) A (eval e env) (λo s₁=>cb (ck prog w) A (getAttr o f true) Q E s₁) E s):cb (ck prog w) A (eval (.Attribute e f pos) env) Q E s :=
 Attribute_any_ h (by rw[arm_eval_Attribute,hb])
end
def aAa(K:W.Frag)(ta:TE)(f:Str):TE:=λσ H Q=>ta σ H λx H1=>∃a C dx fs v,x= .ref a/\H1 a=some (.ins C dx fs)/\Cls K C/\NoAttr K C f/\fs.lookup f=some v/\Q v H1
def aFd(K:W.Frag)(ta tv:TE)(f:Str):TS:=λD σ H=>tv σ H λy H1=>ta σ H1 λx H2=>∃a C dx fs,x= .ref a/\H2 a=some (.ins C dx fs)/\Cls K C/\NoAttr K C f/\fs.length<1000 ∧
 D.nx σ (upd H2 a (.ins C dx (bT f y fs)))
def ZR(X:Cx)(op:vv)(rd:V->V->Hp->VK->Prop):Prop :=
 ∀(pins:List (Addr×Obj)) (s:ba) (σ:St) (H:Hp) (x y:V) (u v:ak) (Q:VK),Inv X pins σ H s->RelV x u->RelV y v->rd x y H Q->cb (ck X.prog X.w) X.A (inplaceOp op u v) (EP X pins σ Q) X.xe s
def Q9(K:W.Frag)(ta tv:TE)(rd:V->V->Hp->VK->Prop)(f:Str):TS:=λD σ H=>ta σ H λx H1=>∃a C dx fs v,x= .ref a/\H1 a=some (.ins C dx fs)/\Cls K C/\NoAttr K C f/\fs.lookup f=some v ∧
 tv σ H1 λy H2=>rd v y H2 λz H3=>∃dx' fs',H3 a=some (.ins C dx' fs')/\fs'.length<1000/\D.nx σ (upd H3 a (.ins C dx' (bT f z fs')))
section
variable {o value:Expr}{f:Str}{tv:TE}
theorem aH(he:PE X e ta)(hb:jz e f X.env (eval e X.env)=eval e X.env):PE X (.Attribute e f pos) (aAa X.K ta f):=by
 intro pins s σ H Q I h;refine aBY hb (thn (he pins s σ H _ I h) ?_);rintro u s1 ⟨x,H1,I1,rx,a,C,dx,fs,v,ex,ea,c,n,l,q⟩;subst ex;obtain rfl:u=cu a:=rx;exact EY I1 ea c n l λu' s2 I2 ru=>⟨v,H1,I2,ru,q⟩
theorem cC(ha:PE X o ta)(hv:PE X value tv)(hs:yh value (some (.Attribute o f pos')) pos.line X.env=pure false):PS X (.Assign [.Attribute o f pos'] value pos) (aFd X.K ta tv f):=by
 intro pins s σ H D I h;refine plainObj_wpAny_Assign_Attribute (thn (hv pins s σ H _ I h) ?_) hs;rintro u s1 ⟨y,H1,I1,ry,q⟩;refine thn (ha pins s1 σ H1 _ I1 q) ?_;rintro ov s2 ⟨x,H2,I2,rx,a,C,dx,fs,ex,ea,c,n,l,q2⟩;subst ex;obtain rfl:ov=cu a:=rx;exact EX I2 ea c n l ry λs3 I3=>⟨σ,_,I3,q2⟩
theorem WB{op:vv}{rd:V->V->Hp->VK->Prop}(ha:PE X o ta)(hv:PE X value tv)(hop:ZR X op rd):PS X (.AugAssign (.Attribute o f tpos) op value pos) (Q9 X.K ta tv rd f):=by
 intro pins s σ H D I h;refine wpAny_AugAssign_AttributeAny (thn (ha pins s σ H _ I h) ?_);rintro ov s1 ⟨x,H1,I1,rx,a,C,dx,fs,v,ex,ea,c,n,l,q⟩;subst ex;obtain rfl:ov=cu a:=rx;refine EY I1 ea c n l λu s2 I2 ru=>thn (hv pins s2 σ H1 _ I2 q) ?_;rintro w3 s3 ⟨y,H2,I3,ry,q3⟩;refine thn (hop pins s3 σ H2 v y u w3 _ I3 ru ry q3) ?_;rintro w4 s4 ⟨z,H3,I4,rz,dx',fs',ea',l',q4⟩;exact EX I4 ea' c n l' rz λs5 I5=>⟨σ,_,I5,q4⟩
def aEE:V->V->Hp->VK->Prop:=λx y H Q=>∃i j,x= .int i/\y= .int j/\Q (.int (i+j)) H
theorem WT:ZR X .Add aEE:=by
 rintro pins s σ H x y u v Q I rx ry ⟨i,j,rfl,rfl,q⟩;obtain⟨t,rfl⟩:=(show ∃t,u=mn i t from rx)
 obtain⟨t',rfl⟩:=(show ∃t',v=mn j t' from ry)
 exact PyProof.Rows.iadd_int ⟨.int (i+j),H,I.tok _,⟨_,rfl⟩,q⟩
end
section
variable {Q:ak->ba->Prop}{c:ak}{b:Bool}
inductive kO(K:W.Frag)(H:Hp):V->ak->Prop where
 | non:kO K H .non (.type "NoneType")
 | bl (x:Bool):kO K H (.bl x) (.type "bool")
 | int (i:Int):kO K H (.int i) (.type "int")
 | str (x:Str):kO K H (.str x) (.type "str")
 | flt (x:UInt64):kO K H (.flt x) (.type "float")
 | lst {a:Addr}{xs:List V} (e:H a=some (.lst xs)):kO K H (.ref a) (.type "list")
 | frz {a:Addr}{o:Obj}{xs:List V} (e:H a=some (.frz o (.lst xs))):kO K H (.ref a) (.type "list")
 | tup {a:Addr}{xs:List V} (e:H a=some (.tup xs)):kO K H (.ref a) (.type "tuple")
 | dK {a:Addr}{kvs:List (Key×V)} (e:H a=some (.dK kvs)):kO K H (.ref a) (.type "dict")
 | dT {a:Addr}{kvs:List (List Key×V)} (e:H a=some (.dT kvs)):kO K H (.ref a) (.type "dict")
 | ins {a C dx:Addr}{fs:List (Str×V)} (e:H a=some (.ins C dx fs)) (cl:Cls K C) (ha:W.findIn K (.ref C) "__class__" =some (some (.builtin "object.__class__")))
   (hn:W.specialIn K (.builtin "object.__class__") "__get__" =some (some (.builtin "getset_descriptor.__get__")))(htk:W.takesIn K (.builtin "object.__class__")=some true)
   (hm:W.mroIn K C (.type "object")=some true):kO K H (.ref a) (.ref C)
theorem VA{x:V}{t:ak}(I:Inv X pins σ H s)(rx:RelV x u)(ty:kO X.K H x t)(e:W.kitOne X.K t c=some b)(h:∀tk,Q (.bool b) { s with toks:=tk }):
  cb (ck X.prog X.w) A (call (.builtin "isinstance") [u,c]) Q E s:=by
 cases ty with
 | non=>cases (show u=fu from rx);exact W.kia_one W.kitx_none I.kIn jm e (λz=>nomatch z) h
 | bl y=>cases (show u=tp y from rx);exact W.kia_one W.kitx_bool I.kIn jm e (λz=>nomatch z) h
 | int i=>obtain⟨t,q⟩:=(show ∃t,u=mn i t from rx);cases q;exact W.kia_one W.kitx_int I.kIn jm e (λz=>nomatch z) h
 | str y=>obtain⟨t,q⟩:=(show ∃t,u=sy y t from rx);cases q;exact W.kia_one W.kitx_str I.kIn jm e (λz=>nomatch z) h
 | flt y=>obtain⟨t,q⟩:=(show ∃t,u=zf y t from rx);cases q;exact W.kia_one W.kitx_float I.kIn jm e (λz=>nomatch z) h
 | @lst a xs ea =>
  cases (show u=cu a from rx);obtain⟨_,_,n,_,h1⟩:=(show ObjOk X.prog X.w H s.heap a (.lst xs) from I.hok a _ ea)
  exact W.kia_one W.kitx_list I.kIn ⟨_,h1,rfl⟩ e (λz=>nomatch z) h
 | @frz a ob xs ea =>
  cases (show u=cu a from rx);obtain⟨_,_,_,n,_,h1⟩:=(show ObjOk X.prog X.w H s.heap a (.frz ob (.lst xs)) from I.hok a _ ea)
  exact W.kia_one W.kitx_list I.kIn ⟨_,h1,rfl⟩ e (λz=>nomatch z) h
 | @tup a xs ea =>
  cases (show u=cu a from rx);obtain⟨_,_,_,p⟩:=(show ObjOk X.prog X.w H s.heap a (.tup xs) from I.hok a _ ea)
  obtain⟨o,h1,h2,_⟩:=p;exact W.kia_one W.kitx_tuple I.kIn ⟨o,h1,h2⟩ e (λz=>nomatch z) h
 | @dK a kvs ea =>
  cases (show u=cu a from rx);obtain⟨_,_,vs,_,p⟩:=(show ObjOk X.prog X.w H s.heap a (.dK kvs) from I.hok a _ ea)
  obtain⟨o,es,ep,h1,h2,_⟩:=p;exact W.kia_one W.kitx_dict I.kIn ⟨o,h1,h2.1⟩ e (λz=>nomatch z) h
 | @dT a kvs ea =>
  cases (show u=cu a from rx);obtain⟨_,_,xs,_,o,es,ep,h1,h2,_⟩:=(show ObjOk X.prog X.w H s.heap a (.dT kvs) from I.hok a _ ea)
  exact W.kia_one W.kitx_dict I.kIn ⟨o,h1,h2.1⟩ e (λz=>nomatch z) h
 | @ins a C dx fs ea cl ha hn htk hm =>
  cases (show u=cu a from rx);obtain⟨mA,O,_⟩:=AY I.hok ea;obtain⟨od,J,_⟩:=O.look;exact W.kia_one (W.kitx_own (cl.get _) cl.hd ha hn htk hm) I.kIn J e (λz=>nomatch z) h
end
structure Room(k:Nat)(A:ke):Prop where
 hd:A.handled=none
 dp:A.depth+3 * k+5<recursionLimit
 un:A.units+16 * k+200<om
theorem Room.mono{k:Nat}(r:Room k A)(h:j<=k):Room j A:=⟨r.hd,by have:=r.dp;lia,by have:=r.un;lia⟩
theorem Room.deeper{k:Nat}(r:Room (k+1) A)(env:Env):Room k (A.deeper env) :=
 ⟨r.hd,by have:=r.dp;show A.depth+1+3 * k+5<_;lia,by have:=r.un;show A.units+3+16 * k+200<_;lia⟩
theorem TH{us:List ak}:(A.under (.builtin "type.__call__" ⟨.ref C::us,kw⟩)).depth=A.depth+1:=by
 first|rfl|simp[zb,Code.weight,Code.isCreation,Code.isGuard,Code.isCaller,Code.frames,zc,guardIds]
theorem R4{us:List ak}:(A.under (.builtin "type.__call__" ⟨.ref C::us,kw⟩)).units=A.units+1:=by
 first|rfl|simp[zb,Code.cUnits,Code.frames,zc]
theorem Room.make{k:Nat}(r:Room (k+1) A)(C:Addr)(us:List ak)(kw:List (Str×ak)):Room k (A.under (.builtin "type.__call__" ⟨.ref C::us,kw⟩)) :=
 ⟨r.hd,by have:=r.dp;rw[TH];lia,by have:=r.un;rw[R4];lia⟩
theorem Room.depth{k:Nat}(r:Room k A):A.depth<recursionLimit:=by have:=r.dp;lia
theorem Room.units0{k:Nat}(r:Room k A):A.units<om:=by have:=r.un;lia
def GJ:TA:=λ_ H Q=>Q [] H
def aA1(ta:TE)(tr:TA):TA:=λσ H Q=>ta σ H λx H1=>tr σ H1 λxs H2=>Q (x::xs) H2
section
variable {t:TA}
theorem aC:PA X [] GJ:=λ_ _ _ _ H Q I h=>Calls.spliced_nil ⟨[],H,I,.nil,h⟩
theorem aA(ha:PE X e te)(hr:PA X es t)(hs:cy (e::es) X.env=(false,eval e X.env)::cy es X.env:=by rfl):PA X (e::es) (aA1 te t):=by
 intro pos pins s σ H Q I h;rw[hs];show cb _ _ (spliced ((false,eval e X.env)::jl pos (cy es X.env))) _ _ s;refine tu (thn (ha pins s σ H _ I h) ?_);rintro u s1 ⟨x,H1,I1,r1,q1⟩;refine thn (hr pos pins s1 σ H1 _ I1 q1) ?_;rintro us s2 ⟨xs,H2,I2,r2,q2⟩;exact⟨x::xs,H2,I2,.cons r1 r2,q2⟩
def aE8(t:TA):TE:=λσ H Q=>t σ H λxs H1=>xs.length<=sizeLine/\∀p,H1 p=none->Q (.ref p) (upd H1 p (.tup xs))
def aES(t:TA):TE:=λσ H Q=>t σ H λxs H1=>xs.length<=sizeLine/\∀p,H1 p=none->Q (.ref p) (upd H1 p (.lst xs))
theorem cZ{x1}(h:PA X es t):PE X (.Tuple es x1 pos) (aE8 t):=by
 intro pins s σ H Q I hq;refine wpAny_Tuple_spliced (thn (h pos pins s σ H _ I hq) ?_);rintro us s1 ⟨xs,H1,I1,r,z,q⟩;refine⟨by rw[←r.length];exact z,?_⟩;have hf:H1 s1.heap.objs.size=none:=I1.hok.fresh (aq _);refine⟨.ref s1.heap.objs.size,upd H1 s1.heap.objs.size (.tup xs),I1.laid (t':=s1.toks) (λb u e=>aj _ e) (aq _) ?_,rfl,q _ hf⟩;exact⟨z,us,r,⟨_,be _ rfl,rfl,_,rfl⟩⟩
theorem cP(h:PA X es t):PE X (.List es pos) (aES t):=by
 intro pins s σ H Q I hq;refine wpAny_List_spliced (thn (h pos pins s σ H _ I hq) ?_);rintro us s1 ⟨xs,H1,I1,r,z,q⟩;refine⟨by rw[←r.length];exact z,?_⟩;have hf:H1 s1.heap.objs.size=none:=I1.hok.fresh (aq _);refine⟨.ref s1.heap.objs.size,upd H1 s1.heap.objs.size (.lst xs),I1.laid (t':=s1.toks) (λb u e=>aj _ e) (aq _) ?_,rfl,q _ hf⟩;exact⟨z,us,0,r,be _ rfl⟩
end
abbrev Sp:=List V->Hp->VK->XK->Prop
abbrev CXT:=List Env->Hp->ba->XK->ak->ba->Prop
structure Env0(P:gd)(w:gx)(K:W.Frag)(mg:Str->Option ak)(base:Heap)(A:ke)(outer:List Env)(s:ba)(H:Hp):Prop where
 frames:A.frames=some outer
 mod:Mod K mg base
 bs:∀b o,base.get? b=some o->s.heap.get? b=some o/\H b=none
 bsz:base.objs.size<=s.heap.objs.size
 funs:s.heap.FunFrames base outer
 frf:∀b∈frs outer,H b=none
 hok:HOk P w H s.heap
 bare:uj s.gens
def CE(outer:List Env)(P:gd)(w:gx)(H:Hp)(s:ba)(Q:VK)(u:ak)(s':ba):Prop :=
 ∃v H',s'.os=s.os/\uj s'.gens/\Un (frs outer) [] H H' s.heap s'.heap/\HOk P w H' s'.heap/\RelV v u/\Q v H'
def CR(CX:CXT)(outer:List Env)(P:gd)(w:gx)(H:Hp)(s:ba)(Q:VK)(E:XK)(r:Result)(s':ba):Prop :=
 match r with
 | .ok (.ret u)=>CE outer P w H s Q u s'
 | .ok _=>False
 | .error e=>CX outer H s E e s'
structure FnOk(P:gd)(w:gx)(K:W.Frag)(mg:Str->Option ak)(base:Heap)(CX:CXT)(k:Nat)(f:Addr)(fd:gy)(ps:List Str)(sp:Sp):Prop where
 len:∀vs H Q E,sp vs H Q E->vs.length=ps.length
 run:∀(A:ke) (outer:List Env) (s:ba) (H:Hp) (args:Args) (us:List ak) (vs:List V) (Q:VK) (E:XK),Room k A->Env0 P w K mg base A outer s H->BindsTo s fd args (ps.zip us)->Vals vs us->sp vs H Q E →
  mr (ck P w) A (.call (.ref f) args) (CR CX outer P w H s Q E) s
variable {CX:CXT}{fd:gy}
theorem FnOk.mono{k:Nat}{f:Addr}{ps:List Str}{sp:Sp}(F:FnOk P w K mg base CX j f fd ps sp)(h:j<=k):
  FnOk P w K mg base CX k f fd ps sp:=⟨F.len,λA outer s H args us vs Q E hr=>F.run A outer s H args us vs Q E (hr.mono h)⟩
variable {outer:List Env}
theorem Env0.make(e:Env0 P w K mg base A outer s H)(C:Addr)(us:List ak)(kw:List (Str×ak)):
  Env0 P w K mg base (A.under (.builtin "type.__call__" ⟨.ref C::us,kw⟩)) outer s H:=⟨by first|exact e.frames|(simpa [zb,Code.envs,zc,pushEnvs] using e.frames),e.mod,e.bs,e.bsz,e.funs,e.frf,e.hok,e.bare⟩
theorem Inv.env0(I:Inv X pins σ H s):Env0 X.prog X.w X.K X.mg X.base X.A X.stack s H :=
 ⟨I.ok.frames,I.ok.mod,I.bs,dy I.ok.bsz I.sz,I.stack,I.stkFree,I.hok,I.bare⟩
theorem Inv.after(I:Inv X pins σ H s)(h:CE X.stack X.prog X.w H s Q u s'):EP X pins σ Q u s':=by
 obtain⟨v,H',os,bare,un,hok,r,q⟩:=h;obtain⟨hh,g,d,t,os'⟩:=s';obtain rfl:os'=s.os:=os;exact⟨v,H',I.call (h':=hh) (g':=g) (d':=d) (t':=t) (ch:=[]) un hok bare (λb z=>absurd z (by simp)),r,q⟩
def wW(sp:Sp)(dvs:List V)(E:XK)(t:TA):TE:=λσ H Q=>t σ H λvs H1=>sp (vs++dvs) H1 Q E
def EI(C:Addr)(sp:Sp)(dvs:List V)(E:XK)(t:TA):TE:=λσ H Q=>t σ H λvs H1=>∀x dx,H1 x=none->H1 dx=none->dx≠x →
 sp (.ref x::(vs++dvs)) (upd (upd H1 dx (.own x)) x (.ins C dx [])) (λv H2=>v= .non/\Q (.ref x) H2) E
def Binds(K:W.Frag)(fd:gy)(ps:List Str)(ds:List ak):Prop :=
 ∀(s:ba) (us:List ak),K.In s.heap->(us++ds).length=ps.length->BindsTo s fd ⟨us,[]⟩ (ps.zip (us++ds))
theorem Binds.all{ps:List Str}(h:∀us:List ak,us.length=ps.length->bindArgs fd ⟨us,[]⟩=pure (ps.zip us)):Binds K fd ps []:=λs us _ hl=>by
 rw[dj]at hl ⊢;exact .of_eq (h us hl)
def v3(CX:CXT)(X:Cx)(E:XK):Prop:=∀(pins:List (Addr×Obj)) (σ:St) (H:Hp) (s:ba) (e:ak) (s':ba),Inv X pins σ H s->CX X.stack H s E e s'->X.xe e s'
section
variable {k:Nat}{f:Addr}{ps:List Str}{sp:Sp}{dvs:List V}{ds:List ak}{E:XK}{p:Pos}{o:Expr}{t:TA}
theorem vW{us:List ak}(F:FnOk X.prog X.w X.K X.mg X.base CX k f fd ps sp)(hr:Room k X.A)(hb:Binds X.K fd ps ds)(hd:Vals dvs ds)(hx:v3 CX X E)
  (I:Inv X pins σ H s)(r:Vals vs us)(h:sp (vs++dvs) H Q E):cb (ck X.prog X.w) X.A (call (.ref f) us) (EP X pins σ Q) X.xe s:=by
 have r2:Vals (vs++dvs) (us++ds):=r.append hd;have hl:(us++ds).length=ps.length:=by rw[←r2.length];exact F.len _ _ _ _ h
 refine wpAny_call (wm (F.run X.A X.stack s H ⟨us,[]⟩ (us++ds) (vs++dvs) Q E hr I.env0 (hb s us I.kIn hl) r2 h) λr s' hq=> ?_);cases r with
 | error e=>exact hx pins σ H s e s' I hq
 | ok fl =>
  cases fl with
  | ret u=>exact I.after hq
  | next=>exact gz hq
  | brk=>exact gz hq
  | cont=>exact gz hq
theorem aDB(F:FnOk X.prog X.w X.K X.mg X.base CX k f fd ps sp)(hr:Room k X.A)(hg:Gl X x)(hm:X.mg x=some (.ref f))(hk:W.keepIn X.K (.ref f)=true)(hb:Binds X.K fd ps ds)(hd:Vals dvs ds)(hx:v3 CX X E)
  (ha:PA X (e::es) t)(hdb:(x==("__debug__" :Str))=false:=by decide)(he:cy (e::es) X.env=(false,eval e X.env)::cy es X.env:=by rfl)(hpl:(jl pos (cy es X.env)).any (·.1)=false:=by rfl) :
  PE X (.Call (.Name x p) (e::es) [] pos) (wW sp dvs E t):=by
 intro pins s σ H Q I h;refine jn (rF I hg hm ?_ hdb);refine W.callWith_K (h₀:=X.base) I.ok.mod.kin hk (thn (ha pos pins s σ H _ I h) ?_) he hpl;rintro us s1 ⟨vs,H1,I1,r,q⟩;refine⟨I1.kIn,?_⟩;exact vW F hr hb hd hx I1 r q
structure Mk(K:W.Frag)(C f:Addr):Prop where
 makes:W.makesIn K C=true
 init:W.findIn K (.ref C) "__init__" =some (some (.ref f))
 fn:W.isFn K (.ref f)=true
 kp:W.keepIn K (.ref C)=true
theorem LV{us:List ak}(M:Mk X.K C f)(F:FnOk X.prog X.w X.K X.mg X.base CX k f fd ps sp)(hr:Room (k+1) X.A)(hb:Binds X.K fd ps ds)(hd:Vals dvs ds)
  (hx:v3 CX X E)(I:Inv X pins σ H s)(r:Vals vs us)
  (h:∀x dx,H x=none->H dx=none->dx≠x->sp (.ref x::(vs++dvs)) (upd (upd H dx (.own x)) x (.ins C dx [])) (λv H2=>v= .non/\Q (.ref x) H2) E) :
  cb (ck X.prog X.w) X.A (call (.ref C) us) (EP X pins σ Q) X.xe s:=by
 have hq:=h (s.heap.objs.size+1) s.heap.objs.size (I.hok.fresh (uo _)) (I.hok.fresh (aq _)) (cf (mw _));have I2:=Inv.made (C:=C) I;have r2:Vals (V.ref (s.heap.objs.size+1)::(vs++dvs)) (cu (s.heap.objs.size+1)::(us++ds)):= .cons rfl (r.append hd);have hl:(cu (s.heap.objs.size+1)::us++ds).length=ps.length:=by
  have e:=r2.length;rw[F.len _ _ _ _ hq]at e;exact e.symm
 refine wpAny_call (ZO (f:=f) I.kIn M.makes M.init (beq_iff_eq.mp M.fn) (wm (F.run _ X.stack _ _ ⟨cu (s.heap.objs.size+1)::us,[]⟩ (cu (s.heap.objs.size+1)::(us++ds)) _ _ E (hr.make C us [])
  (I2.env0.make C us []) (hb _ (cu (s.heap.objs.size+1)::us) I2.kIn hl) r2 hq) λr s' hq'=> ?_))
 cases r with
 | error e=>exact hx pins σ _ _ e s' I2 hq'
 | ok fl =>
  cases fl with
  | ret u =>
   obtain⟨v,H',I3,rv,ev,q3⟩:=I2.after hq';subst ev;exact⟨rv,⟨V.ref (s.heap.objs.size+1),H',I3,rfl,q3⟩⟩
  | next=>exact gz hq'
  | brk=>exact gz hq'
  | cont=>exact gz hq'
theorem aCS(M:Mk X.K C f)(F:FnOk X.prog X.w X.K X.mg X.base CX k f fd ps sp)(hr:Room (k+1) X.A)(hg:Gl X x)(hm:X.mg x=some (.ref C))(hb:Binds X.K fd ps ds)(hd:Vals dvs ds)(hx:v3 CX X E)
  (ha:PA X (e::es) t)(hdb:(x==("__debug__" :Str))=false:=by decide)(he:cy (e::es) X.env=(false,eval e X.env)::cy es X.env:=by rfl)(hpl:(jl pos (cy es X.env)).any (·.1)=false:=by rfl) :
  PE X (.Call (.Name x p) (e::es) [] pos) (EI C sp dvs E t):=by
 intro pins s σ H Q I h;refine jn (rF I hg hm ?_ hdb);refine W.callWith_K (h₀:=X.base) I.ok.mod.kin M.kp (thn (ha pos pins s σ H _ I h) ?_) he hpl;rintro us s1 ⟨vs,H1,I1,r,q⟩;refine⟨I1.kIn,?_⟩;exact LV M F hr hb hd hx I1 r q
theorem YQ(M:Mk X.K C f)(F:FnOk X.prog X.w X.K X.mg X.base CX k f fd ps sp)(hr:Room (k+1) X.A)(hg:Gl X x)(hm:X.mg x=some (.ref C))(hb:Binds X.K fd ps ds)(hd:Vals dvs ds)(hx:v3 CX X E)
  (hdb:(x==("__debug__" :Str))=false:=by decide):PE X (.Call (.Name x p) [] [] pos) (EI C sp dvs E GJ):=by
 intro pins s σ H Q I h;refine jn (rF I hg hm ?_ hdb);exact W.callWith_K0 I.kIn M.kp (LV (us:=[]) M F hr hb hd hx I .nil h)
end
section
variable {k:Nat}{f:Addr}{ps ks:List Str}{sp:Sp}{E:XK}{p kpos:Pos}{o:Expr}{kws:List Keyword}{t tk:TA}{nm:Option Str}
variable {g:List ak->List ak->List ak}{gV:List V->List V->List V}
end
structure aN(N P:List Str)(sc:rm):Prop where
 kind:sc.kind= .function
 co:sc.isCoroutine=false
 gen:sc.isGenerator=false
 nd:N.Nodup
 pre:N.take P.length=P
 par:∀x∈P,sc.names.lookup x=some .local∨sc.names.lookup x=some .cell
 nofree:∀y∈sc.names,y.2≠ .free
variable {kindOf:Str->Option ow}
theorem JN:∀{binds:List (Str×ak)}{m:Str->Option ak},(∀v,(x,v)∉binds)->bindL kindOf binds m x=m x
 | [],_,_=>rfl
 | (n,v)::r,m,h=>by
  unfold bindL;rw[JN λw hw=>h w (ab _ hw)]
  split
  .have:x≠n:=by rintro rfl;exact h v fw
   simp[this]
  .rfl
theorem IZ:∀{binds:List (Str×ak)}{m:Str->Option ak},(∀v,(x,v)∉binds)->bindC kindOf binds m x=m x
 | [],_,_=>rfl
 | (n,v)::r,m,h=>by
  unfold bindC;rw[IZ λw hw=>h w (ab _ hw)]
  split
  .rfl
  .have:x≠n:=by rintro rfl;exact h v fw
   simp[this]
theorem IV{v:ak}:∀{P:List Str}{vs:List ak}{i:Nat}{m:Str->Option ak},P.Nodup->P[i]? =some x->vs[i]? =some v->kindOf x=some .local →
  bindL kindOf (P.zip vs) m x=some v
 | [],_,_,_,_,h,_,_=>by simp at h
 | _::_,[],_,_,_,_,h,_=>by simp at h
 | p::P,w::vs,0,m,nd,h1,h2,hk=>by
  simp at h1 h2;subst h1;subst h2;show bindL kindOf ((p,w)::P.zip vs) m p=_;unfold bindL;rw[JN λv hv=>(cm.mp nd).1 (qz hv).1,if_pos hk];simp
 | p::P,w::vs,i+1,m,nd,h1,h2,hk=>by
  show bindL kindOf ((p,w)::P.zip vs) m x=_;unfold bindL;exact IV (i:=i) (cm.mp nd).2 (by simpa using h1) (by simpa using h2) hk
theorem JO{v:ak}:∀{P:List Str}{vs:List ak}{i:Nat}{m:Str->Option ak},P.Nodup->P[i]? =some x->vs[i]? =some v->kindOf x≠some .local →
  bindC kindOf (P.zip vs) m x=some v
 | [],_,_,_,_,h,_,_=>by simp at h
 | _::_,[],_,_,_,_,h,_=>by simp at h
 | p::P,w::vs,0,m,nd,h1,h2,hk=>by
  simp at h1 h2;subst h1;subst h2;show bindC kindOf ((p,w)::P.zip vs) m p=_;unfold bindC;rw[IZ λv hv=>(cm.mp nd).1 (qz hv).1,if_neg hk];simp
 | p::P,w::vs,i+1,m,nd,h1,h2,hk=>by
  show bindC kindOf ((p,w)::P.zip vs) m x=_;unfold bindC;exact JO (i:=i) (cm.mp nd).2 (by simpa using h1) (by simpa using h2) hk
def gY(N:List Str)(vs:List V):St:=vs.map some++tw (N.length - vs.length) none
def xJ(CX:CXT)(P:gd)(w:gx)(K:W.Frag)(mg:Str->Option ak)(base:Heap)(N:List Str)(qual:Str)(scope:rm)(f:Addr)(cd:ak)(A:ke)(outer:List Env)(s:ba)(H:Hp)(E:XK):Cx where
 prog:=P
 w:=w
 K:=K
 mg:=mg
 base:=base
 A:=A.deeper (wo qual scope s.heap.objs.size f cd)
 N:=N
 s₀:=s
 H₀:=H
 env:=wo qual scope s.heap.objs.size f cd
 outer:=outer
 stack:=wo qual scope s.heap.objs.size f cd::outer
 ex:=[]
 calm:=true
 fn:=λ_=>true
 pn:=[]
 xe:=λe s'=>cb (ck P w) (A.deeper (wo qual scope s.heap.objs.size f cd)) (leaving (wo qual scope s.heap.objs.size f cd) e) (λ_ s''=>CX outer H s E e s'') (λe' s''=>CX outer H s E e' s'') s'
variable {scope:rm}
theorem wN{sc:rm}(h:sc.names.lookup x=some .cell):∃c,(tj n sc.names []).lookup x=some c:=by
 have q:=W.cellsFrom_some sc.names n [] (.inl h);exact vc.mp q
theorem IT{ps:List Str}{f:Addr}{cd:ak}{s1:ba}{E:XK}{us:List ak}
  (S:aN N ps scope)(hd:A.handled=none)(e0:Env0 P w K mg base A outer s H)(hl:vs.length=ps.length)(r:Vals vs us)
  (x:InCallC s s.heap.objs.size (bindL (wo qual scope s.heap.objs.size f cd).kindOf (ps.zip us) λ_=>none) (tj (s.heap.objs.size+1) scope.names []) (bindC (wo qual scope s.heap.objs.size f cd).kindOf (ps.zip us) λ_=>none) s1) :
  Inv (xJ CX P w K mg base N qual scope f cd A outer s H E) [] (gY N vs) H s1:=by
 have hpl:ps.length<=N.length:=by have:=congrArg oq S.pre;rw[cw]at this;lia
 obtain⟨h1,tk,rfl,hk⟩:=x.done;have noA:∀b:Addr,b∉(xJ CX P w K mg base N qual scope f cd A outer s H E).ex:=λb z=>absurd (show b∈([]:List Addr) from z) (by simp);refine⟨⟨e0.mod,S.kind,rfl,rfl,aq _,λy z c h1 h2=> ?_,λy hy=> ?_,λy c _ h=> ?_,λ_=>hd,xq e0.frames,.inr ⟨rfl,rfl⟩,λb z=>absurd z (noA b),e0.bs,e0.bsz,λb _ _=>noA b,λb z=>absurd z (noA b),e0.funs,e0.frf⟩,
  rfl,e0.bare,Un.kept hk,⟨_,x.toInCall.ns,λi y v h1 h2 h3=> ?_⟩,λy c h=>⟨_,x.cell y c h⟩,e0.hok.fresh (aq _),λy c h=> ?_,λp hp=>absurd (show p∈([]:List (Addr×Obj)) from hp) (by simp),e0.hok.kept hk,?_⟩
 .exact name_of_addr x.apart (ia h1) (ia h2)
 .have hy:scope.names.lookup y=some .cell∨scope.names.lookup y=some .free:=hy;rcases hy with hy|hy
  .exact wN hy
  .exact absurd rfl (S.nofree _ (ia hy))
 .exact mq (x.above y c (ia h))
 .have hi:i<vs.length:=by
   unfold gY at h2
   by_cases hi:i<vs.length
   .exact hi
   .rw[gh (by simpa using hi)]at h2;rw[vx]at h2
    split at h2<;>cases h2
  have ha:vs[i]? =some v:=by
   unfold gY at h2;rw[ft (by simpa using hi),bq]at h2;cases e:vs[i]? with
   | none=>rw[e]at h2;cases h2
   | some a=>rw[e]at h2;cases h2;rfl
  obtain⟨u,hu,rv⟩:=r.get ha;have hp:ps[i]? =some y:=by
   rw[←S.pre,vd (by lia)];exact h1
  have ndP:ps.Nodup:=by rw[←S.pre];exact S.nd.sublist (List.take_sublist _ _)
  refine⟨u,rv,?_⟩;rcases S.par y (ay hp) with k|k
  .exact .inl ⟨k,IV ndP hp hu k⟩
  .obtain⟨c,e⟩:=wN (n:=s.heap.objs.size+1) k;refine .inr ⟨.inl k,c,e,?_⟩;have q:=x.cell y c e;rw[JO ndP hp hu (by show scope.names.lookup y≠_;rw[k];decide)]at q;exact q
 .exact e0.hok.fresh (mq (x.above y c (ia h)))
 .unfold gY;show _=N.length;rw[ao,ae,pw]
  lia
theorem aGx{k:Nat}{f:Addr}{params:tm}{body:List Stmt}{dV kV doc pm cdv ct oc:ak}{an od:Option Addr}
  {osl:Array (Option ak)}{N ps:List Str}{sp:Sp} (lk:K.lookup f=some ⟨oc,od,.func (W.fnOf name qual params body scope dV kV doc pm an cdv ct),osl⟩) (hcd:W.codeIn K cdv qual=true) (S:aN N ps scope)
  (len:∀vs H Q E,sp vs H Q E->vs.length=ps.length)
  (hbody:∀(A:ke) (outer:List Env) (s:ba) (H:Hp) (vs:List V) (Q:VK) (E:XK),Room k (A.deeper (wo qual scope s.heap.objs.size f cdv))->sp vs H Q E →
   ∃t,PSs (xJ CX P w K mg base N qual scope f cdv A outer s H E) body t/\t { nx:=λ_ H'=>Q .non H',rt:=Q } (gY N vs) H) :
  FnOk P w K mg base CX (k+1) f (W.fnOf name qual params body scope dV kV doc pm an cdv ct) ps sp:=by
 refine⟨len,λA outer s H args us vs Q E hr e0 hb r hsp=> ?_⟩;have hl:=len _ _ _ _ hsp;have KX:K.In s.heap:=e0.mod.kin.keeps λb o e=>(e0.bs b o e).1;have lim:s.heap.NoLimit:=e0.mod.nolimit.keeps λb o e=>(e0.bs b o e).1;have hkind:∀y∈ps.zip us,scope.names.lookup y.1=some .local∨(scope.names.lookup y.1=some .cell/\((tj (s.heap.objs.size+1) scope.names []).lookup y.1).isSome=true):=λ⟨n,v⟩ hy=>by
  rcases S.par n (qz hy).1 with q|q
  .exact .inl q
  .exact .inr ⟨q,W.cellsFrom_some _ _ _ (.inl q)⟩
 refine codeAny_call_function hr.depth (KX _ _ lk) rfl S.co S.gen rfl (W.codeRec_of KX hcd) (hb _ _ _ _ ?_);refine tz S.kind hkind λenv he s1 x=> ?_;subst he;refine⟨lim.keeps x.toInCall.keep,codeAny_func ?_⟩;obtain⟨t,ht,hq⟩:=hbody A outer s H vs Q E (hr.deeper _) hsp;have I:Inv (xJ CX P w K mg base N qual scope f cdv A outer s H E) [] (gY N vs) H s1:=IT S hr.hd e0 hl r x;refine fq (ht [] s1 (gY N vs) H _ I hq) (λfl s' hs=> ?_) λe s' hs=>hs;have fin:∀{σ':St}{H':Hp}{v:V}{u:ak},Inv (xJ CX P w K mg base N qual scope f cdv A outer s H E) [] σ' H' s'->RelV v u->Q v H'->CE outer P w H s Q u s' :=
  λ{σ' H' v u} J rv q=>⟨v,H',J.os,J.bare,J.base,J.hok,rv,q⟩
 cases fl with
 | ret u =>
  obtain⟨v,σ',H',J,rv,q⟩:=hs;exact fin J rv q
 | next =>
  obtain⟨σ',H',J,q⟩:=hs;exact fin (v:=V.non) (u:=fu) J rfl q
 | brk =>
  obtain⟨_,_,_,q⟩:=hs;exact gz q
 | cont =>
  obtain⟨_,_,_,q⟩:=hs;exact gz q
section
variable {p:Pos}{t:TA}{id T:String}{r:List V->Hp->VK->Prop}
def tCB(r:List V->Hp->VK->Prop)(t:TA):TE:=λσ H Q=>t σ H λvs H1=>r vs H1 Q
theorem bL(hc:dZ X (.builtin id) r)(hg:Gl X x)(hm:X.mg x=none)(hv:fm x=some (.builtin id))(ha:PA X (e::es) t)(hn:x≠ "__name__" :=by decide)(hdb:(x==("__debug__" :Str))=false:=by decide)
  (he:cy (e::es) X.env=(false,eval e X.env)::cy es X.env:=by rfl)(hpl:(jl pos (cy es X.env)).any (·.1)=false:=by rfl):PE X (.Call (.Name x p) (e::es) [] pos) (tCB r t):=by
 intro pins s σ H Q I h;refine jn (vL I hg hm hv ?_ hn hdb);refine PyProof.Rows.callWith_builtin1 (thn (ha pos pins s σ H _ I h) ?_) he hpl;rintro us s1 ⟨vs,H1,I1,r1,q1⟩;exact hc pins s1 σ H1 vs us Q I1 r1 q1
theorem zG(hc:dZ X (.type T) r)(hg:Gl X x)(hm:X.mg x=none)(hv:fm x=some (.type T))(ha:PA X (e::es) t)(hn:x≠ "__name__" :=by decide)(hdb:(x==("__debug__" :Str))=false:=by decide)
  (he:cy (e::es) X.env=(false,eval e X.env)::cy es X.env:=by rfl)(hpl:(jl pos (cy es X.env)).any (·.1)=false:=by rfl):PE X (.Call (.Name x p) (e::es) [] pos) (tCB r t):=by
 intro pins s σ H Q I h;refine jn (vL I hg hm hv ?_ hn hdb);refine jh (thn (ha pos pins s σ H _ I h) ?_) he hpl;rintro us s1 ⟨vs,H1,I1,r1,q1⟩;exact hc pins s1 σ H1 vs us Q I1 r1 q1
end
end L2
namespace HT
open PySem PyProof.Rows
section
open PySem.SeqAt
open PySem.AutoSeq1 (wpAny_loadPart')
open PySem.MeetsSeq PySem.MeetsSeq2 PySem.MeetsSeq3
end
section
variable {prog:gd}{w:gx}{A:ke}{E:ak->ba->Prop}{s:ba}
def sIx(n d:Nat):Option Int->Nat
 | none=>d
 | some v=>if v<0 then (v+(n:Int)).toNat else min v.toNat n
theorem sIx_none(n d:Nat):sIx n d none=d:=rfl
theorem sIx_nat(n d k:Nat):sIx n d (some (k:Int))=min k n:=by
 show (if (k:Int)<0 then ((k:Int)+(n:Int)).toNat else min (k:Int).toNat n)=min k n;rw[if_neg (by lia),fc]
end
end HT
namespace L2
open PySem PySem.Spec PyProof.Rows
abbrev TO:=St->Hp->(Option Int->Hp->Prop)->Prop
def PO(X:Cx)(e:Option Expr)(t:TO):Prop :=
 ∀(pins:List (Addr×Obj)) (s:ba) (σ:St) (H:Hp) (Q:Option Int->Hp->Prop),Inv X pins σ H s->t σ H Q →
  cb (ck X.prog X.w) X.A (evalPart e X.env) (λu s'=>∃o H',Inv X pins σ H' s'/\IsPart u o/\Q o H') X.xe s
def RC:TO:=λ_ H Q=>Q none H
def aAV(t:TE):TO:=λσ H Q=>t σ H λx H1=>∃i,x= .int i/\Q (some i) H1
variable {X:Cx}{e:Expr}{pos:Pos}
section
variable {te:TE}{lo hi:Option Expr}{tl th:TO}{p2:Pos}
theorem rG:PO X none RC:=by
 intro pins s σ H Q I h;rw[evalPart_none];exact ax ⟨none,H,I,.none,h⟩
theorem A1(h:PE X e te):PO X (some e) (aAV te):=by
 intro pins s σ H Q I hw;rw[evalPart_some];refine thn (h pins s σ H _ I hw) ?_;rintro u s1 ⟨x,H1,I1,r1,q1⟩;obtain⟨i,rfl,q⟩:=q1;obtain⟨t,rfl⟩:=r1;exact⟨some i,H1,I1,.int i t,q⟩
def SlR(X:Cx)(r:V->Option Int->Option Int->Hp->VK->Prop):Prop :=
 ∀(pins:List (Addr×Obj)) (s:ba) (σ:St) (H:Hp) (x:V) (v vl vu:ak) (lo hi:Option Int) (sl:Addr) (Q:VK),Inv X pins σ H s->RelV x v->s.heap.IsSliceOf sl vl vu .none->IsPart vl lo->IsPart vu hi->r x lo hi H Q →
  ∃T id,ua (.type T) "__getitem__" =pure (some (.builtin id))/\s.TypeIs v T/\cb (ck X.prog X.w) X.A (yi v (.ref sl)) (EP X pins σ Q) X.xe s
def tSl(r:V->Option Int->Option Int->Hp->VK->Prop)(te:TE)(tl th:TO):TE:=λσ H Q=>te σ H λx H1=>tl σ H1 λl H2=>th σ H2 λu H3=>r x l u H3 Q
theorem MB{r:V->Option Int->Option Int->Hp->VK->Prop}(hr:SlR X r)(he:PE X e te)(hl:PO X lo tl)(hu:PO X hi th):PE X (.Subscript e (.Slice lo hi none p2) pos) (tSl r te tl th):=by
 intro pins s σ H Q I h;refine yr (thn (he pins s σ H _ I h) ?_);rintro v s1 ⟨x,H1,I1,r1,q1⟩;refine wpAny_Slice (thn (hl pins s1 σ H1 _ I1 q1) ?_);rintro vl s2 ⟨l,H2,I2,pl,q2⟩;refine thn (hu pins s2 σ H2 _ I2 q2) ?_;rintro vu s3 ⟨u,H3,I3,pu,q3⟩;rw[evalPart_none];refine ax ?_;have I4:Inv X pins σ H3 { s3 with heap:=s3.heap.push { cls:= .type "slice",data:= .fields #[vl,vu,.none] } }:=I3.kept (t':=s3.toks) λb ob q=>aj _ q;obtain⟨T,id,hT,ht,hg⟩:=hr pins { s3 with heap:=s3.heap.push { cls:= .type "slice",data:= .fields #[vl,vu,.none] } } σ H3 x v vl vu l u s3.heap.objs.size Q I4 r1 (yt ..) pl pu q3;show cb (ck X.prog X.w) X.A (ve e (.Slice lo hi none p2) v (.ref s3.heap.objs.size)) (EP X pins σ Q) X.xe { s3 with heap:=s3.heap.push { cls:= .type "slice",data:= .fields #[vl,vu,.none] } };exact tail_any (ops:=[.ref s3.heap.objs.size,v]) ht hT hg (by with_unfolding_all rfl)
def DI(xs:List V)(lo hi:Option Int):List V:=(xs.drop (HT.sIx xs.length 0 lo)).take (HT.sIx xs.length xs.length hi - HT.sIx xs.length 0 lo)
theorem PX(xs:List V)(lo hi:Option Int):(DI xs lo hi).length<=xs.length:=by
 unfold DI;rw[cw,List.length_drop]
 lia
end
def ixN(n:Nat)(i:Int):Option Nat:=if 0<=i then (if i<n then some i.toNat else none) else if -(n:Int)<=i then some (i+n).toNat else none
variable {α:Type}
def atI(xs:List α)(i:Int):Option α:=(ixN xs.length i).bind λj=>xs[j]?
variable {j n t':Nat}{i:Int}
theorem QB(h:ixN n i=some j):seqIndex? i n=some j/\j<n/\ -(n:Int)<=i/\i<n:=by
 unfold ixN at h
 by_cases h0:0<=i
 .rw[if_pos h0]at h
  by_cases h1:i<n
  .rw[if_pos h1]at h;have e:i.toNat=j:=dg h;exact⟨by rw[seqIndex_of h0 h1,e],by lia,by lia,h1⟩
  .rw[if_neg h1]at h;cases h
 .rw[if_neg h0]at h
  by_cases h1: -(n:Int)<=i
  .rw[if_pos h1]at h;have e:(i+n).toNat=j:=dg h;exact⟨by rw[seqIndex_neg (by lia) h1,e],by lia,h1,by lia⟩
  .rw[if_neg h1]at h;cases h
theorem F7{α:Type}{xs:List α}{v:α}(h:atI xs i=some v):∃j,seqIndex? i xs.length=some j/\xs[j]? =some v/\j<xs.length/\ -(xs.length:Int)<=i/\i<xs.length:=by
 unfold atI at h;cases e:ixN xs.length i with
 | none=>rw[e]at h;cases h
 | some j =>
  rw[e]at h;obtain⟨h1,h2,h3,h4⟩:=QB e;exact⟨j,h1,h,h2,h3,h4⟩
theorem rK{α:Type}{xs:List α}{v:α}(h:xs[j]? =some v):atI xs (j:Int)=some v:=by
 have hj:j<xs.length:=(av.mp h).1;have e:ixN xs.length (j:Int)=some j:=by
  unfold ixN;rw[if_pos (by lia),if_pos (by lia)];simp
 unfold atI;rw[e];exact h
def aCm(b:Expr):Prop:=∀o i,xt b false o i=operate [o,i] (yi o i)
def IxR(X:Cx)(r:R2):Prop :=
 ∀(value slice:Expr) (pins:List (Addr×Obj)) (s:ba) (σ:St) (H:Hp) (x y:V) (v u:ak) (Q:VK),Inv X pins σ H s->RelV x v->RelV y u->r x y H Q →
  xt slice false v u=operate [v,u] (yi v u)->cb (ck X.prog X.w) X.A (ve value slice v u) (EP X pins σ Q) X.xe s
def MtR(X:Cx)(id:String)(r:V->List V->Hp->VK->Prop):Prop :=
 ∀(pins:List (Addr×Obj)) (s:ba) (σ:St) (H:Hp) (x:V) (xs:List V) (v:ak) (us:List ak) (Q:VK),Inv X pins σ H s->RelV x v->Vals xs us->r x xs H Q →
  cb (ck X.prog X.w) X.A (call (.builtin id) (v::us)) (EP X pins σ Q) X.xe s
variable {pins:List (Addr×Obj)}{σ:St}{H:Hp}{s:ba}{xs ys:List V}{its':List ak}{A:ke}{u:ak}{T:String}
section
variable {X:Cx}{a b:Expr}{ta tb:TE}{pos:Pos}
theorem aT{r:R2}(hr:IxR X r)(ha:PE X a ta)(hb:PE X b tb)(hs:aCm b):PE X (.Subscript a b pos) (tOp r ta tb):=by
 intro pins s σ H Q I h;exact yr (aAC ha hb I h λv u s2 x y H2 I2 rx ry q=>hr a b pins s2 σ H2 x y v u Q I2 rx ry q (hs _ _))
def AL(K:W.Frag):R2:=λx y H Q=>∃p xs i v,x= .ref p/\y= .int i/\SqL K H p xs/\atI xs i=some v/\Q v H
def aD2(K:W.Frag):R2:=λx y H Q=>∃p xs i v,x= .ref p/\y= .int i/\SqT K H p xs/\atI xs i=some v/\Q v H
def aGT:R2:=λx y H Q=>∃z i c,x= .str z/\y= .int i/\z.length<=sizeLine/\atI z.cps.toList i=some c/\Q (.str ⟨#[c]⟩) H
theorem bF:IxR X (AL X.K):=by
 intro value slice pins s σ H x y v u Q I rx ry h hs;obtain⟨p,xs,i,z,rfl,rfl,hq,he,q⟩:=h;cases rx;obtain⟨t,rfl⟩:=ry;obtain⟨its,r,pl,hz⟩:=I.list hq;obtain⟨j,h1,h2,h3,h4,h5⟩:=F7 he;obtain⟨w,ew,rw'⟩:=r.get h2;have hl:=r.length;have hn:=sO;have fin:EP X pins σ Q w s:=⟨z,H,I,rw',q⟩
 by_cases h0:0<=i
 .have hj:i.toNat=j:=by
   rw[seqIndex_of h0 h5]at h1;exact dg h1
  exact item_listR pl.isList h0 (by lia) (by rw[hj];simpa using ew) fin hs
 .have hj:(i+(its.toArray.size:Int)).toNat=j:=by
   rw[seqIndex_neg (by lia) h4]at h1;rw[bj,←hl];exact dg h1
  exact subscriptTail_builtinR (x:=w) pl.isList.typeIs uq.lookup
   (wpAny_getItem_list_neg (Q:=λr s'=>r=w/\EP X pins σ Q r s') pl.isList (by lia) (by rw[bj]<;>lia) (by lia) (by rw[hj];simpa using ew) ⟨rfl,fin⟩) hs
theorem c4:IxR X (aD2 X.K):=by
 intro value slice pins s σ H x y v u Q I rx ry h hs;obtain⟨p,xs,i,z,rfl,rfl,hq,he,q⟩:=h;cases rx;obtain⟨t,rfl⟩:=ry;obtain⟨its,r,pl,hz⟩:=I.tuple hq;obtain⟨j,h1,h2,h3,h4,h5⟩:=F7 he;obtain⟨w,ew,rw'⟩:=r.get h2;have hl:=r.length;have hn:=sO;have fin:EP X pins σ Q w s:=⟨z,H,I,rw',q⟩
 exact subscriptTail_builtinR (x:=w) pl.typeIs slot_tuple_getitem.lookup
  (getItem_tuple (j:=j) (Q:=λr s'=>r=w/\EP X pins σ Q r s') pl (by lia) (by lia) (by rw[bj,←hl];exact h1) (by simpa using ew) ⟨rfl,fin⟩) hs
theorem aEB:IxR X aGT:=by
 intro value slice pins s σ H x y v u Q I rx ry h hs;obtain⟨z,i,c,rfl,rfl,hz,he,q⟩:=h;obtain⟨t,rfl⟩:=rx;obtain⟨t',rfl⟩:=ry;obtain⟨j,h1,h2,h3,h4,h5⟩:=F7 he;have hl:z.cps.toList.length=z.length:=by simp[Str.length]
 rw[hl]at h1 h4 h5;have hn:=sO;exact tail_any (typeIs_str s z t) slot_str_getitem.lookup (getItem_str (c:=c) (by
  have e1:decide (i< -(2^63:Int))=false:=decide_eq_false (by lia);have e2:decide (i≥2^63)=false:=decide_eq_false (by lia);rw[e1,e2,ql]) (by rw[h1];simpa using h2) ⟨.str ⟨#[c]⟩,H,I.tok _,⟨_,rfl⟩,q⟩) hs
theorem UB(its:List ak)(n j:Nat)(u:ak):ix (·.setIfInBounds j u) { cls:= .type "list",data:= .seq its.toArray n }={ cls:= .type "list",data:= .seq (its.set j u).toArray n }:=by
 simp[ix]
theorem Inv.lst{pins:List (Addr×Obj)}{σ:St}{H:Hp}{s:ba}{p:Addr}{xs:List V}(I:Inv X pins σ H s)(h:H p=some (.lst xs)) :
  ∃(its:List ak) (n:Nat),Vals xs its/\s.heap.get? p=some { cls:= .type "list",data:= .seq its.toArray n }/\xs.length<=sizeLine:=by
 obtain⟨z,its,n,r,e⟩:=I.hok p _ h;exact⟨its,n,r,e,z⟩
theorem Inv.lstUpd{p:Addr}{its:List ak}{n':Nat}{f:Obj->Obj}(I:Inv X pins σ H s)(h:H p=some (.lst xs))
  (ho:s.heap.get? p=some { cls:= .type "list",data:= .seq its.toArray n })(hf:f { cls:= .type "list",data:= .seq its.toArray n }={ cls:= .type "list",data:= .seq its'.toArray n' })(r:Vals ys its')(hz:ys.length<=sizeLine)(t:Nat) :
  Inv X pins σ (upd H p (.lst ys)) { s with heap:=s.heap.update p f,toks:=t }:=by
 have e:(s.heap.update p f).get? p=some { cls:= .type "list",data:= .seq its'.toArray n' }:=by
  rw[iw f ho (by rw[hf]<;>rfl),hf]
 refine I.write (x:=p) (e:=p) (by rw[h];trivial) (.inl rfl) (λb u hb q=>(gm _ _ (fb hb)).trans q) ⟨_,e⟩ ?_;exact⟨hz,its',n',r,e⟩
def aA5:V->V->V->Hp->(Hp->Prop)->Prop:=λo i v H Q=>∃p xs k j,o= .ref p/\i= .int k/\H p=some (.lst xs)/\ixN xs.length k=some j/\Q (upd H p (.lst (xs.set j v)))
theorem N9:aFa X aA5:=by
 intro pins s σ H o i v ov iv u Q I ro ri rv h;obtain⟨p,xs,k,j,rfl,rfl,hp,hj,q⟩:=h;cases ro;obtain⟨t,rfl⟩:=ri;obtain⟨its,n,r,ho,hz⟩:=I.lst hp;obtain⟨h1,h2,h3,h4⟩:=QB hj;have hl:=r.length;have hn:=sO;have I':Inv X pins σ (upd H p (.lst (xs.set j v))) { s with heap:=s.heap.update p (ix (·.setIfInBounds j u)) } :=
  I.lstUpd hp ho (UB its n j u) (r.set rv j) (by rw[la];exact hz) s.toks
 by_cases h0:0<=k
 .have hk:k.toNat=j:=by
   rw[seqIndex_of h0 h4]at h1;exact dg h1
  exact W.ki_setAt ho h0 (by lia) (by rw[bj,←hl];exact h4) (by rw[hk];exact⟨_,I',q⟩)
 .have hk:(k+(its.toArray.size:Int)).toNat=j:=by
   rw[seqIndex_neg (by lia) h3]at h1;rw[bj,←hl];exact dg h1
  exact W.ki_setBack ho (by lia) (by rw[bj,←hl];exact h3) (by lia) (by rw[hk];exact⟨_,I',q⟩)
theorem ND(lo hi:Option Int)(n:Nat):(jx lo hi none n).1=((HT.sIx n 0 lo:Nat):Int)/\(jx lo hi none n).2.1=((HT.sIx n n hi:Nat):Int)/\(jx lo hi none n).2.2=1:=by
 refine⟨?_,?_,rfl⟩
 .cases lo with
  | none=>simp[jx,HT.sIx]
  | some i =>
   simp only[jx,HT.sIx,Option.getD_none,show (1:Int)>0 by decide,if_true]
   by_cases h:i<0
   .simp only[h,if_true]<;>lia
   .simp only[h,if_false]<;>lia
 .cases hi with
  | none=>simp[jx,HT.sIx]
  | some i =>
   simp only[jx,HT.sIx,Option.getD_none,show (1:Int)>0 by decide,if_true]
   by_cases h:i<0
   .simp only[h,if_true]<;>lia
   .simp only[h,if_false]<;>lia
theorem KF(its:List ak)(lo hi:Option Int):slicePick its.toArray lo hi none=((its.drop (HT.sIx its.length 0 lo)).take (HT.sIx its.length its.length hi - HT.sIx its.length 0 lo)).toArray:=by
 obtain⟨h1,h2,h3⟩:=ND lo hi its.toArray.size;unfold slicePick;rw[h1,h2,h3];simp only[sliceRange_one,pick_run,bj]<;>rfl
def ZY(K:W.Frag):V->Option Int->Option Int->Hp->VK->Prop:=λx lo hi H Q=>∃a xs,x= .ref a/\SqL K H a xs/\∀p,H p=none->Q (.ref p) (upd H p (.lst (DI xs lo hi)))
theorem Q3:SlR X (ZY X.K):=by
 intro pins s σ H x v vl vu lo hi sl Q I rx hs pl pu h;obtain⟨a,xs,rfl,hx,q⟩:=h;cases rx;obtain⟨its,r,ht,hz⟩:=I.list hx;have hlen:=r.length;refine⟨"list",_,uq.lookup,ht.isList.typeIs,?_⟩;refine vf ht.isList hs pl pu .none (by simp) ?_ (by rw[bj]<;>lia);rw[KF,←hlen];refine⟨.ref s.heap.objs.size,_,I.laid (t':=s.toks) (o:= .lst (DI xs lo hi)) (λb ob q=>aj _ q) (aq _) ?_,rfl,q _ (I.hok.fresh (aq _))⟩;exact⟨dy (PX xs lo hi) hz,_,0,(r.drop (HT.sIx xs.length 0 lo)).take (HT.sIx xs.length xs.length hi - HT.sIx xs.length 0 lo),be _ rfl⟩
def lM:V->Bool
 | .non=>true
 | .bl _=>true
 | .int _=>true
 | .str _=>true
 | _=>false
def eqV:V->V->Bool
 | .non,.non=>true
 | .bl a,.bl b=>a==b
 | .bl a,.int b=>(if a then 1 else 0)==b
 | .int a,.bl b=>a==(if b then 1 else 0)
 | .int a,.int b=>a==b
 | .str a,.str b=>a==b
 | _,_=>false
theorem V8{y x:V}{v:ak}(ry:RelV y u)(rx:RelV x v)(fy:lM y=true)(fx:lM x=true):qh A s u v (eqV y x):=by
 cases y with
 | non =>
  cases ry;cases x with
  | non=>cases rx;exact rf _
  | bl b=>cases rx;exact qh.none_bool b
  | int b=>obtain⟨t,rfl⟩:=rx;exact qh.none_int b t
  | str b=>obtain⟨t,rfl⟩:=rx;exact qh.none_str b t
  | _=>exact absurd (show false=true from fx) bg
 | bl a =>
  cases ry;cases x with
  | non=>cases rx;exact qh.bool_none a
  | bl b=>cases rx;exact qh.bool_bool a b
  | int b=>obtain⟨t,rfl⟩:=rx;exact qh.bool_int a b t
  | str b=>obtain⟨t,rfl⟩:=rx;exact qh.bool_str a b t
  | _=>exact absurd (show false=true from fx) bg
 | int a =>
  obtain⟨t',rfl⟩:=ry;cases x with
  | non=>cases rx;exact qh.int_none a t'
  | bl b=>cases rx;exact qh.int_bool a t' b
  | int b=>obtain⟨t,rfl⟩:=rx;exact qh.int_int a t' b t
  | str b=>obtain⟨t,rfl⟩:=rx;exact yo a t' b t
  | _=>exact absurd (show false=true from fx) bg
 | str a =>
  obtain⟨t',rfl⟩:=ry;cases x with
  | non=>cases rx;exact qh.str_none a t'
  | bl b=>cases rx;exact qh.str_bool a t' b
  | int b=>obtain⟨t,rfl⟩:=rx;exact yq a t' b t
  | str b=>obtain⟨t,rfl⟩:=rx;exact qh.str_str a t' b t
  | _=>exact absurd (show false=true from fx) bg
 | _=>exact absurd (show false=true from fy) bg
def eqU(x:V)(u:ak):Bool:=match u with
 | .none=>eqV .non x
 | .bool b=>eqV (.bl b) x
 | .int i _=>eqV (.int i) x
 | .str z _=>eqV (.str z) x
 | _=>false
theorem VR{x y:V}(r:RelV y u)(f:lM y=true):eqU x u=eqV y x:=by
 cases y with
 | non=>cases r;rfl
 | bl b=>cases r;rfl
 | int i=>obtain⟨t,rfl⟩:=r;rfl
 | str z=>obtain⟨t,rfl⟩:=r;rfl
 | _=>exact absurd (show false=true from f) bg
theorem HL{x:V}:∀{xs:List V}{us:List ak},Vals xs us->xs.all lM=true->us.any (eqU x)=xs.any λy=>eqV y x
 | _,_,.nil,_=>rfl
 | y::xs,u::us,.cons r t,f=>by
  rw[lq,dz]at f;rw[fz,fz,VR r f.1,HL t f.2]
theorem C6{x:V}{v:ak}(rx:RelV x v)(fx:lM x=true):∀{xs:List V}{us:List ak},Vals xs us->xs.all lM=true->∀u∈us,qh A s u v (eqU x u)
 | _,_,.nil,_=>λu hu=>by cases hu
 | y::xs,u::us,.cons r t,f=>λu' hu=>by
  rw[lq,dz]at f;rcases az.mp hu with rfl|hu
  .rw[VR r f.1];exact V8 r rx f.1 fx
  .exact C6 rx fx t f.2 u' hu
def inV(x:V)(xs:List V):Bool:=xs.any λy=>eqV y x
def rIn(K:W.Frag)(neg:Bool):R2:=λx y H Q=>∃p xs,y= .ref p/\(SqL K H p xs∨SqT K H p xs)/\lM x=true/\xs.all lM=true/\Q (.bl (if neg then !inV x xs else inV x xs)) H
theorem VG:OpR X (gg .In) (rIn X.K false):=by
 intro pins s σ H x y v u Q I rx ry h;obtain⟨p,xs,rfl,hq,fx,fs,q⟩:=h;cases ry;rcases hq with hq|hq
 .obtain⟨its,r,pl,hz⟩:=I.list hq;refine SeqAt.in_listAt (eqU x) pl.isList (λw hw=>C6 rx fx r fs w (by simpa using hw)) ⟨.bl _,H,I,rfl,?_⟩;rw[show its.toArray.any (eqU x)=its.any (eqU x) by simp,HL r fs];exact q
 .obtain⟨its,r,pl,hz⟩:=I.tuple hq;refine SeqAt.in_tupleAt (eqU x) pl (λw hw=>C6 rx fx r fs w (by simpa using hw)) ⟨.bl _,H,I,rfl,?_⟩;rw[show its.toArray.any (eqU x)=its.any (eqU x) by simp,HL r fs];exact q
theorem NJ:dZ X (.builtin "len") (λxs H Q=>∃p ys,xs=[.ref p]/\(SqL X.K H p ys∨SqT X.K H p ys)/\Q (.int ys.length) H):=by
 intro pins s σ H xs us Q I r h;obtain⟨p,ys,rfl,hq,q⟩:=h;obtain⟨u,rfl,rx⟩:=l6 r;cases rx;have hn:=sO;rcases hq with hq|hq
 .obtain⟨its,r',pl,hz⟩:=I.list hq;have hlen:=r'.length;exact Calls.call_len_list pl.isList (by simp only[bj]<;>lia) ⟨.int ys.length,H,I.tok _,⟨s.toks+1,by rw[bj,hlen]⟩,q⟩
 .obtain⟨its,r',pl,hz⟩:=I.tuple hq;have hlen:=r'.length;exact len_tuple pl (by simp only[bj]<;>lia) ⟨.int ys.length,H,I.tok _,⟨s.toks+1,by rw[bj,hlen]⟩,q⟩
theorem MH:dZ X (.builtin "len") (λxs H Q=>∃z,xs=[.str z]/\z.length<=sizeLine/\Q (.int z.length) H):=by
 intro pins s σ H xs us Q I r h;obtain⟨z,rfl,hz,q⟩:=h;obtain⟨u,rfl,t,rfl⟩:=l6 r;have hn:=sO;exact len_str (by lia) ⟨.int z.length,H,I.tok _,⟨_,rfl⟩,q⟩
def tyV(K:W.Frag)(T:String)(x:V)(H:Hp):Prop:=match x with
 | .str _=>T= "str"
 | .int _=>T= "int"
 | .ref p=>(T= "list" /\∃xs,SqL K H p xs)∨(T= "tuple" /\∃o,K.lookup p=some o/\o.cls= .type "tuple" /\o.dict=none) ∨
   (T= "dict" /\((∃kvs,H p=some (.dK kvs))∨∃kvs,H p=some (.dT kvs)))∨(T= "set" /\∃S n,H p=some (.set S n))
 | _=>False
theorem V7{x:V}{v:ak}(I:Inv X pins σ H s)(r:RelV x v)(ty:tyV X.K T x H):
  s.TypeIs v T/\∀a,v= .ref a->∃ob,s.heap.get? a=some ob/\ob.dict=none:=by
 cases x with
 | str z =>
  obtain⟨t,rfl⟩:=r;cases (show T= "str" from ty);exact⟨typeIs_str s z t,λ_ e=>nomatch e⟩
 | int i =>
  obtain⟨t,rfl⟩:=r;cases (show T= "int" from ty);exact⟨typeIs_int s i t,λ_ e=>nomatch e⟩
 | ref p =>
  cases r;rcases ty with⟨rfl,xs,hq⟩|⟨rfl,o,hk,hc,hd⟩|⟨rfl,hk⟩|⟨rfl,S,n,hk⟩
  .obtain⟨its,_,pl,_⟩:=I.list hq;refine⟨pl.isList.typeIs,λa e=> ?_⟩;cases e;obtain⟨o,n,e,c,hd,_⟩:=pl;exact⟨o,e,hd⟩
  .refine⟨⟨o,I.kIn p o hk,hc⟩,λa e=> ?_⟩;cases e;exact⟨o,I.kIn _ o hk,hd⟩
  .have z:∃o,s.heap.get? p=some o/\o.ExactDict:=by
    rcases hk with⟨kvs,hk⟩|⟨kvs,hk⟩
    .obtain⟨_,_,_,_,o,_,_,e,ex,_⟩:=I.hok p _ hk;exact⟨o,e,ex⟩
    .obtain⟨_,_,_,_,o,_,_,e,ex,_⟩:=I.hok p _ hk;exact⟨o,e,ex⟩
   obtain⟨o,e,ex⟩:=z;refine⟨⟨o,e,ex.1⟩,λa e2=> ?_⟩;cases e2;exact⟨o,e,ex.2.1⟩
  .obtain⟨o,_,_,_,e,ex,_⟩:=I.hok p _ hk;refine⟨⟨o,e,ex.1⟩,λa e2=> ?_⟩;cases e2;exact⟨o,e,ex.2.1⟩
 | _=>exact gz ty
def aFH(K:W.Frag)(T:String)(r:V->List V->Hp->VK->Prop)(to:TE):TE:=λσ H Q=>to σ H λx H1=>tyV K T x H1/\r x [] H1 Q
def tBM(K:W.Frag)(T:String)(r:V->List V->Hp->VK->Prop)(to:TE)(t:TA):TE:=λσ H Q=>to σ H λx H1=>tyV K T x H1/\t σ H1 λxs H2=>r x xs H2 Q
variable {o e:Expr}{es:List Expr}{to:TE}{t:TA}{name:Str}{apos cpos:Pos}{T id:String}{r:V->List V->Hp->VK->Prop}
theorem aFI(pa:PlainAttrs T)(slot:Slot T name id)(hty:typeOf (.builtin id)=pure (.type "method_descriptor"))(hm:MtR X id r)(ho:PE X o to)
  (hbase:jz o name X.env (eval o X.env)=eval o X.env:=by rfl)(hline:(apos.endLine==cpos.line)=true:=by rfl):PE X (.Call (.Attribute o name apos) [] [] cpos) (aFH X.K T r to):=by
 intro pins s σ H Q I h;refine ot hbase hline (thn (ho pins s σ H _ I h) ?_);rintro v s1 ⟨x,H1,I1,r1,ty,q1⟩;obtain⟨h1,h2⟩:=V7 I1 r1 ty;exact⟨T,id,pa,slot,hty,h1,h2,ji rfl (rp (hm pins s1 σ H1 x [] v [] Q I1 r1 .nil q1))⟩
theorem gS(pa:PlainAttrs T)(slot:Slot T name id)(hty:typeOf (.builtin id)=pure (.type "method_descriptor"))(hm:MtR X id r)(ho:PE X o to)(ha:PA X (e::es) t)
  (hbase:jz o name X.env (eval o X.env)=eval o X.env:=by rfl)
  (hfew:((jl cpos (cy (e::es) X.env)).all (λx=> !x.1)&&(ub cpos (mh [] X.env)).all (λx=>x.1.isSome)
   && decide ((e::es).length+([]:List Keyword).length+(if ([]:List Keyword).isEmpty then 0 else 1)<30))=true:=by rfl)
  (hline:(apos.endLine==cpos.line)=true:=by rfl)(hs:cy (e::es) X.env=(false,eval e X.env)::cy es X.env:=by rfl)(hplain:(jl cpos (cy es X.env)).any (·.1)=false:=by rfl) :
  PE X (.Call (.Attribute o name apos) (e::es) [] cpos) (tBM X.K T r to t):=by
 intro pins s σ H Q I h;refine wpAny_Call_method_late hbase hfew hline rfl (thn (ho pins s σ H _ I h) ?_);rintro v s1 ⟨x,H1,I1,r1,ty,q1⟩;obtain⟨h1,h2⟩:=V7 I1 r1 ty;refine⟨T,id,pa,slot,hty,h1,h2,?_⟩;have hA:=ha cpos pins s1 σ H1 _ I1 q1;rw[hs]at hA ⊢;refine ji (by show (false||(jl cpos (cy es X.env)).any (·.1))=false;rw[hplain]<;>rfl) (xu ?_);refine thn hA ?_;rintro us s2 ⟨vs,H2,I2,r2,q2⟩;exact hm pins s2 σ H2 x vs v us Q I2 r1 r2 q2
end
def MtM(X:Cx)(id:String)(r:V->List V->Hp->VK->Prop):Prop :=
 ∀(pins:List (Addr×Obj)) (s:ba) (σ:St) (H:Hp) (x:V) (xs:List V) (v:ak) (us:List ak) (Q:VK),Inv X pins σ H s->RelV x v->Vals xs us->r x xs H Q →
  cb (ck X.prog X.w) X.A (call (.builtin id) (v::us)) (EP X pins σ Q) X.xe s
theorem Vals.one:∀{x:V}{us:List ak},Vals [x] us->∃u,us=[u]/\RelV x u
 | _,_,.cons r .nil=>⟨_,rfl,r⟩
section
variable {l b:Addr}{zs:List V}
theorem Inv.lset{its:List ak}{f:Array ak->Array ak}(I:Inv X pins σ H s)(hH:H l=some (.lst xs))
  (e:s.heap.get? l=some { cls:= .type "list",data:= .seq its.toArray n })(hf:f its.toArray=its'.toArray)(hv:Vals ys its')(hz:ys.length<=sizeLine) :
  Inv X pins σ (upd H l (.lst ys)) { s with heap:=s.heap.update l (ix f),toks:=t' }:=by
 have q:=PySem.IsL.update e f;rw[hf]at q;refine I.write (x:=l) (e:=l) (by rw[hH];exact trivial) (.inl rfl) (λb' u hb hu=>(gm s.heap (ix f) (fb hb)).trans hu) ⟨_,q⟩ ?_;exact⟨hz,its',_,hv,q⟩
theorem Inv.lnew{its:List ak}(I:Inv X pins σ H s)(hv:Vals ys its)(hz:ys.length<=sizeLine):
  Inv X pins σ (upd H s.heap.objs.size (.lst ys)) { s with heap:=s.heap.push { cls:= .type "list",data:= .seq its.toArray },toks:=t' } :=
 I.laid (λ_ _ q=>aj _ q) (aq _) ⟨hz,its,0,hv,be _ rfl⟩
theorem Inv.fresh(I:Inv X pins σ H s):H s.heap.objs.size=none:=I.hok.fresh (aq _)
theorem Inv.lstM(I:Inv X pins σ H s)(hH:H l=some (.lst xs)):xs.length<=sizeLine/\∃(its:List ak) (n:Nat),Vals xs its/\xs.length=its.length/\s.heap.get? l=some { cls:= .type "list",data:= .seq its.toArray n }:=by
 obtain⟨z,its,n,r,e⟩:=I.hok l _ hH;exact⟨z,its,n,r,r.length,e⟩
theorem Z3(h:n<=sizeLine):nj n=false:=by
 unfold nj;exact decide_eq_false (by lia)
end
def QX:V->List V->Hp->VK->Prop:=λx vs H Q=>∃l xs y,x= .ref l/\vs=[y]/\H l=some (.lst xs)/\xs.length<sizeLine/\Q .non (upd H l (.lst (xs++[y])))
theorem cY:MtM X "list.append" QX:=by
 intro pins s σ H x vs v us Q I rx rv h;obtain⟨l,xs,y,rfl,rfl,hH,hz,q⟩:=h;cases rx;obtain⟨u,rfl,ru⟩:=rv.one;obtain⟨z,its,n,r,hl,e⟩:=I.lstM hH;refine call_meets F.slot_list_append ⟨_,e,rfl⟩ F.entry_list_append (F.args_list_append_2 _ _) (PySem.list_append l its.toArray n u (by rw[bj];lia)) ⟨e,?_⟩;refine⟨.non,_,I.lset (its':=its++[u]) hH e (by simp) (r.append (.cons ru .nil)) ?_,rfl,q⟩;rw[ao,List.length_singleton]
 lia
def QE:V->List V->Hp->VK->Prop:=λx vs H Q=>∃l b xs zs,x= .ref l/\vs=[.ref b]/\H l=some (.lst xs)/\H b=some (.lst zs)/\xs.length+zs.length<=sizeLine/\Q .non (upd H l (.lst (xs++zs)))
theorem JC:MtM X "list.extend" QE:=by
 intro pins s σ H x vs v us Q I rx rv h;obtain⟨l,b,xs,zs,rfl,rfl,hH,hB,hz,q⟩:=h;cases rx;obtain⟨u,rfl,ru⟩:=rv.one;cases ru;obtain⟨z,its,n,r,hl,e⟩:=I.lstM hH;obtain⟨z2,its2,n2,r2,hl2,e2⟩:=I.lstM hB;have hsz:its.toArray.size+its2.toArray.size<=sizeLine:=by rw[bj,bj];lia
 have hlong:¬(!its.toArray.isEmpty&&nj (its.toArray.size+its2.toArray.size))=true:=by
  rw[Z3 hsz,Bool.and_false];exact bg
 refine call_meets F.slot_list_extend ⟨_,e,rfl⟩ F.entry_list_extend (F.args_list_extend_2 _ _)
  (AutoSeq1.list_extend_list_list_0 l its.toArray n b its2.toArray n2 hlong (by rw[bj];lia) (by lia)) ⟨e,e2,?_⟩
 refine⟨.non,_,I.lset (its':=its++its2) hH e (by simp) (r.append r2) ?_,rfl,q⟩;rw[ao]
 lia
def aFv:R2:=λx y H Q=>∃l b xs zs,x= .ref l/\y= .ref b/\H l=some (.lst xs)/\H b=some (.lst zs)/\xs.length+zs.length<=sizeLine/\∀p,H p=none->Q (.ref p) (upd H p (.lst (xs++zs)))
theorem aEC:OpR X (ky .Add) aFv:=by
 intro pins s σ H x y v u Q I rx ry h;obtain⟨l,b,xs,zs,rfl,rfl,hH,hB,hz,q⟩:=h;cases rx;cases ry;obtain⟨z,its,n,r,hl,e⟩:=I.lstM hH;obtain⟨z2,its2,n2,r2,hl2,e2⟩:=I.lstM hB;refine PySem.P.add_list e e2 ?_ (by rw[bj,bj];lia);have ea:its.toArray++its2.toArray=(its++its2).toArray:=by simp
 rw[ea];exact⟨.ref _,_,I.lnew (t':=s.toks) (r.append r2) (by rw[ao];lia),rfl,q _ I.fresh⟩
section
variable {prog:gd}{w:gx}{E:ak->ba->Prop}
set_option maxRecDepth 100000 in
end
end L2
namespace Att
open PySem PySem.W PySem.Calls PyProof.Rows
variable {h:Heap}
theorem FK{P:Params}:∀(ns:List Int) (vs:List ak),WellAll P h vs (ns.map WData.int)->IntsAre vs ns:=by
 intro ns
 induction ns with
 | nil =>
  intro vs w;rw[List.map_nil]at w;cases w;exact .nil
 | cons n ns ih =>
  intro vs w;rw[bo]at w;cases w with
  | cons a b =>
   cases a;exact .cons _ _ (ih _ b)
variable {n:Nat}
theorem U6{l:OpenLaw}(hn:l.most=some n){P:Params}{args:List WData}{vals:List ak}
  (hpre:l.row.toRowW.claim.pre args=true)(hwl:WellAll P h vals args) :
  ∃a vs ns,vals=[cu a]/\args=[WData.list (ns.map WData.int)]/\h.get? a=some { cls:= .type "list",data:= .seq vs.toArray }/\IntsAre vs ns/\ns.length<=n:=by
 have hsh:WShape.hasAll [] args [.list .int]=true:=(pre_splitW hpre).1;have hc:l.pre.holds [] { args:=args }=true:=(pre_splitW hpre).2;obtain⟨d,r,rfl,h1,h2⟩:=hasAllW_cons hsh;obtain rfl:=hasAllW_nil h2;obtain⟨xs,rfl,h3⟩:=hasW_list h1;obtain⟨ns,rfl⟩:=items_int h3;have hlen:ns.length<=n:=by
  unfold OpenLaw.pre at hc;have h4:(WTm.not (.lt (.lit (.int (n:Int))) (.len (.arg 0)))).holds [] { args:=[.list (ns.map .int)] }=true:=by
   have h4:=(holds_andW hc).1;rw[hn]at h4;exact h4
  have h5:=condW_of h4 (w_not (w_lt w_lit (w_len_list (w_arg rfl))));rw[ae]at h5;refine Nat.le_of_not_lt λq=> ?_;have q':(n:Int)<((ns.length:Nat):Int):=by lia
  first
   | (rw[decide_eq_true q']at h5;exact absurd h5 (by decide))
   | (simp at h5;lia)
 cases hwl with
 | cons w1 w2 =>
  cases w2;cases w1 with
  | list ho hall=>exact⟨_,_,ns,rfl,rfl,ho,FK ns _ hall,hlen⟩
theorem VN(l:OpenLaw)(args:List WData):l.row.toRowW.claim.post args (.bool true) args=true :=
 postW_of (r:=l.row.toRowW) (X:=(true==true))
  (show WShape.has [] (.bool true) .bool=true by first|rfl|decide|simp[WShape.has,WShape.arms,WShape.armsAll])
  (show (WTm.eq .res (.lit (.bool true))).value [] { args:=args,res:=some (.bool true),after:=args }=some (.bool (true==true)) from w_eq_bool (w_res rfl) w_lit) rfl
theorem attach_call{l:OpenLaw}{q:gd}{loose:List Str}{XP:(Str->Option ak)->Heap->Prop}{YP:gx->Heap->Prop}{d:DefRec}
  (hn:l.most=some n)(hdf:d.params.defaults=[])
  (call:∀(w:gx) (s₀ s₁:ba) (mg mb:Str->Option ak) (fa:Addr) (o:Obj) (pm cd doc:ak) (a:Addr) (vs:List ak) (ns:List Int),
   Ground q loose [] XP w s₀ mg mb s₁.heap->YP w s₁.heap →
   s₁.heap.get? fa=some o->o.data= .func (docDef d.name d.params d.body d.scope pm cd doc)->s₁.heap.CodeRec cd d.name->mg d.name=some (.ref fa) →
   s₁.heap.get? a=some { cls:= .type "list",data:= .seq vs.toArray }->IntsAre vs ns->ns.length<=n->s₁.gens= #[] →
   mr (ck l.prog w) yj (.call (.ref fa) ⟨[.ref a],[]⟩) (λr s'=>r= .ok (.ret (.bool true))/\OldK s₁.heap s'.heap/\s'.os=s₁.os/\uj s'.gens) s₁) :
  WalkO q loose XP YP l.row.toRowW d [] (λf vs=>PySem.call f vs):=by
 intro w s₀ s₁ mg mb G Y fa o pm cd doc dV kV ho hd hcd hD hmg hg args vals as hpre hlay hrd hwl hlo;obtain rfl:dV= .none:=Dflts.none hD hdf;obtain rfl:kV= .none:=Dflts.noKw hD;obtain⟨a,vs,ns,rfl,rfl,hobj,hints,hlen⟩:=U6 hn hpre hwl;refine enter_call (wm (call w s₀ s₁ mg mb fa o pm cd doc a vs ns G Y ho (fd_plain hd) hcd hmg hobj hints hlen hg) λr s' hq=> ?_);obtain⟨rfl,h2,h3,h4⟩:=hq;exact⟨.inl ⟨.bool true,.bool true,[],rfl,λ_=>rfl,.bool true,VN l _,λ_=>⟨List.Pairwise.nil,λ_ hm=>(nomatch hm)⟩⟩,h2,h3,h4⟩
section
variable {prog:gd}{w:gx}{A:ke}{E:ak->ba->Prop}{s:ba}{K:Frag}
end
end Att
namespace L2
open PySem PySem.Spec PyProof.Rows
theorem IK:∀{vs:List ak}{ns:List Int},IntsAre vs ns->Vals (ns.map V.int) vs
 | _,_,.nil=> .nil
 | _,_,.cons n t h=> .cons ⟨t,rfl⟩ (IK h)
def bH(s:Stmt)(j:Nat):Stmt:=match s with
 | .ClassDef _ _ _ body _ _ _ _ _ _ _=>body.getD j (.Pass ⟨0,0,0,0⟩)
 | _=> .Pass ⟨0,0,0,0⟩
def d8(s:Stmt):tm:=match s with
 | .FunctionDef _ a _ _ _ _ _ _ _ _=>a
 | _=>{ posonlyargs:=[],args:=[],vararg:=none,kwonlyargs:=[],kw_defaults:=[],kwarg:=none,defaults:=[] }
def dF(s:Stmt):List Stmt:=match s with
 | .FunctionDef _ _ b _ _ _ _ _ _ _=>b
 | _=>[]
def aG(s:Stmt):rm:=match s with
 | .FunctionDef _ _ _ _ _ _ sc _ _ _=>sc
 | _=>{ kind:= .function,names:=[],isGenerator:=false,isCoroutine:=false }
abbrev CX0:CXT:=λ_ _ _ _ _ _=>False
abbrev E0:XK:=λ_ _ _=>False
variable {X:Cx}
theorem t7:v3 CX0 X E0:=λ_ _ _ _ _ _ _ h=>h.elim
variable {K:W.Frag}{P prog:gd}{w:gx}{base h h':Heap}{mg:Str->Option ak}
variable {j k' n nl:Nat}
theorem WX(h:n<=1000):n<sizeLine:=uc h (by decide)
variable {m qual x z:Str}{apos np pos:Pos}
theorem pv(i:Nat){pos:Pos}(hN:X.N[i]? =some x:=by rfl)(hv:Vis X.env.scope x:=by first|exact xk rfl|exact we (xk rfl)|exact we (we rfl))(hd:(x==("__debug__" :Str))=false:=by decide)
  (hcd:(x==("__classdict__" :Str))=false:=by decide):PE X (.Name x pos) (jI i):=X6 hN hv hd hcd
variable {B:Prop}
theorem HQ{c A:Prop}[Decidable c](h1:c->A)(h2:¬c->B):if c then A else B:=by
 by_cases h:c
 .rw[if_pos h];exact h1 h
 .rw[if_neg h];exact h2 h
def Same(H H':Hp):Prop:=∀b o,H b=some o->H' b=some o
theorem Same.refl(H:Hp):Same H H:=λ_ _ h=>h
variable {H H' H1 H2:Hp}
theorem Same.trans(a:Same H H1)(b:Same H1 H2):Same H H2:=λc o h=>b c o (a c o h)
variable {C a dx ea it p:Addr}{dvs vs xs ys:List V}
theorem Same.seq(e:Same H H')(h:SqL K H a xs):SqL K H' a xs:=by
 rcases h with (h|⟨o,h⟩)|h
 .exact .inl (.inl (e _ _ h))
 .exact .inl (.inr ⟨o,e _ _ h⟩)
 .exact .inr h
variable {rest σ σ0:St}{pins:List (Addr×Obj)}{s:ba}
section
variable {D:Addr}
theorem HOk.adds{o:HO}(x:HOk P w H h)(hn:H D=none)(new:ObjOk P w (upd H D o) h D o):HOk P w (upd H D o) h:=λb u e=>by
 by_cases hb:b=D
 .subst hb;rw[aR]at e;cases e;exact new
 .rw[aI hb]at e;exact(x b u e).stay (λc v _ q=>q) (λc q=>by rw[aI (bA q hn)];exact q) λc xs q=>by rw[aI (bA q hn)];exact q
theorem HOk.drops(x:HOk P w (upd H D (.lst ys)) h)(hn:H D=none):HOk P w H h:=λb u e=>by
 have hb:b≠D:=bA e hn;refine(x b u (by rw[aI hb];exact e)).stay (λc v _ q=>q) (λc q=> ?_) λc xs q=> ?_
 .by_cases hc:c=D
  .subst hc;rw[aR]at q;cases q
  .rw[aI hc]at q;exact q
 .by_cases hc:c=D
  .subst hc;rw[aR]at q;cases q
  .rw[aI hc]at q;exact q
theorem Inv.track{its:List ak}(I:Inv X pins σ H s)(hn:H D=none)(e:s.heap.get? D=some { cls:= .type "list",data:= .seq its.toArray n })(r:Vals ys its)(hz:ys.length<=sizeLine)
  (h0:X.s₀.heap.objs.size<=D)(h1:D≠X.env.locals)(h2:∀x c,X.env.cells.lookup x=some c->c≠D)(h3:∀p∈X.pn++pins,p.1≠D):Inv X pins σ (upd H D (.lst ys)) s where
 ok:=I.ok
 os:=I.os
 bare:=I.bare
 base:=by
  have lt:∀b o,X.s₀.heap.get? b=some o->b≠D:=λb o q=>cf (bt (bc q) h0);refine⟨I.base.keep,I.base.slot,λb o q n' hx=> ?_,I.base.there,λb xs q=> ?_,λb o u q=> ?_,λb ps q=> ?_⟩
  .rw[aI (lt b o q)];exact I.base.free b o q n' hx
  .have z:=I.base.tups b xs q;rw[aI (bA z hn)];exact z
  .have z:=I.base.frzs b o u q;rw[aI (bA z hn)];exact z
  .obtain⟨more,z⟩:=I.base.tbls b ps q;exact⟨more,by rw[aI (bA z hn)];exact z⟩
 loc:=I.loc
 cell:=I.cell
 free:=by rw[aI (fb h1)];exact I.free
 freeC:=λx c q=>by rw[aI (h2 x c q)];exact I.freeC x c q
 pin:=λp hp=>by
  obtain⟨a,b,c⟩:=I.pin p hp;exact⟨a,by rw[aI (h3 p hp)];exact b,c⟩
 hok:=I.hok.adds hn ⟨hz,its,n,r,e⟩
 len:=I.len
theorem Inv.untrack(I:Inv X pins σ (upd H D (.lst ys)) s)(hn:H D=none):Inv X pins σ H s where
 ok:=I.ok
 os:=I.os
 bare:=I.bare
 base:=by
  have low:∀b u,upd H D (.lst ys) b=some u->(∀xs,u≠ .lst xs)->H b=some u:=λb u q nl=>by
   by_cases hb:b=D
   .subst hb;rw[aR]at q;cases q;exact absurd rfl (nl ys)
   .rw[aI hb]at q;exact q
  refine⟨I.base.keep,I.base.slot,λb o q n' hx=> ?_,I.base.there,λb xs q=> ?_,λb o u q=> ?_,λb ps q=> ?_⟩
  .have z:=I.base.free b o q n' hx
   by_cases hb:b=D
   .subst hb;exact hn
   .rw[aI hb]at z;exact z
  .exact low _ _ (I.base.tups b xs q) (λ_ z=>by cases z)
  .exact low _ _ (I.base.frzs b o u q) (λ_ z=>by cases z)
  .obtain⟨more,z⟩:=I.base.tbls b ps q;exact⟨more,low _ _ z (λ_ z=>by cases z)⟩
 loc:=I.loc
 cell:=I.cell
 free:=by
  have z:=I.free
  by_cases hb:X.env.locals=D
  .rw[hb];exact hn
  .rw[aI hb]at z;exact z
 freeC:=λx c q=>by
  have z:=I.freeC x c q
  by_cases hb:c=D
  .rw[hb];exact hn
  .rw[aI hb]at z;exact z
 pin:=λp hp=>by
  obtain⟨a,b,c⟩:=I.pin p hp;refine⟨a,?_,c⟩
  by_cases hb:p.1=D
  .rw[hb];exact hn
  .rw[aI hb]at b;exact b
 hok:=I.hok.drops hn
 len:=I.len
end
def bU(X:Cx)(scope:rm)(cl:List (Str×Addr))(N:List Str)(C:Addr)(s0:ba)(H0:Hp)(fp:List Addr):Cx where
 prog:=X.prog
 w:=X.w
 K:=X.K
 mg:=X.mg
 base:=X.base
 A:=X.A
 N:=N
 s₀:=s0
 H₀:=H0
 env:=compEnvC scope cl C X.env
 outer:=X.stack
 stack:=X.stack
 ex:=fp
 fn:=λ_=>false
 calm:=X.calm
 pn:=[]
 xe:=λ_ _=>False
structure Blk(X:Cx)(scope:rm)(cl:List (Str×Addr))(N:List Str)(nl:Nat)(ci:List Nat):Prop where
 kind:scope.kind= .function
 names:∀y∈scope.names,y.2= .local->scope.names.lookup y.1=some .local
 nocell:∀y∈scope.names,y.2≠ .cell
 clos:closureFor scope X.env=pure cl
 sub:∀n c,cl.lookup n=some c->X.env.cells.lookup n=some c
 has:∀n,((relabel scope X.env).names.lookup n=some .cell∨(relabel scope X.env).names.lookup n=some .free)->∃c,cl.lookup n=some c
 len:N.length=nl+ci.length
 cap:∀(j i:Nat),ci[j]? =some i->∃n,N[nl+j]? =some n/\X.N[i]? =some n/\(X.env.scope.names.lookup n=some .cell∨X.env.scope.names.lookup n=some .free) ∧
  ((relabel scope X.env).names.lookup n=some .cell∨(relabel scope X.env).names.lookup n=some .free)/\cl.lookup n=X.env.cells.lookup n
def cD(nl:Nat)(ci:List Nat)(σ:St):St:=tw nl none++ci.map λi=>(σ[i]?).join
variable {ci:List Nat}{v:V}
theorem WS{k:Nat}(h:(cD nl ci σ)[k]? =some (some v)):∃j i,k=nl+j/\ci[j]? =some i/\σ[i]? =some (some v):=by
 unfold cD at h
 by_cases hk:k<nl
 .rw[ft (by simpa using hk),vx]at h
  split at h<;>cases h
 .rw[gh (by simpa using hk),pw,bq]at h;cases e:ci[k - nl]? with
  | none=>rw[e]at h;cases h
  | some i =>
   rw[e]at h;have h':(σ[i]?).join=some v:=by simpa using h
   refine⟨k - nl,i,by lia,e,?_⟩;cases q:σ[i]? with
   | none=>rw[q]at h';cases h'
   | some o=>rw[q]at h';simp at h';rw[h']
theorem LP:(cD nl ci σ).length=nl+ci.length:=by unfold cD;simp
variable {scope:rm}{cl cs:List (Str×Addr)}{N:List Str}
section
variable {s2:ba}{fp:List Addr}
theorem PN(B:Blk X scope cl N nl ci)(I:Inv X pins σ H2 s2)(f2:∀b∈fp,sR X pins H2 b)(fo:∀b∈fp,∃o,s2.heap.get? b=some o){h4:Heap}{t4:Nat}{m4:Str->Option ak}(hC:s2.heap.objs.size<=C)(hns:h4.Ns C m4)
  (hk:∀b o,s2.heap.get? b=some o->h4.get? b=some o):Inv (bU X scope cl N C s2 H2 fp) [] (cD nl ci σ) H2 { s2 with heap:=h4,toks:=t4 }:=by
 have lt2:∀b∈fp,b<s2.heap.objs.size:=λb hb=>by obtain⟨o,e⟩:=fo b hb;exact bc e
 have ok:(bU X scope cl N C s2 H2 fp).Ok:=by
  refine⟨I.ok.mod,B.kind,I.ok.glob,I.ok.blt,hC,λx y c h1 h2=>I.ok.inj x y c (B.sub x c h1) (B.sub y c h2),λx hx=>B.has x hx,λx c hf _=>(by cases hf),I.ok.hd,I.ok.frames,.inl rfl,λb hb=>⟨?_,?_⟩,I.bs,?_,λb o e hb=> ?_,λb hb z=> ?_,I.stack,I.stkFree⟩
  .exact cf (bt (lt2 b hb) hC)
  .exact λx c h=>(f2 b hb).2.2.2.2.1 x c (B.sub x c h)
  .exact dy I.ok.bsz I.sz
  .rcases (f2 b hb).2.2.2.1 with z|z
   .exact I.ok.noex b o e z
   .exact absurd (bt (bc e) (dy I.ok.bsz z)) (ee _)
  .rcases az.mp (I.stkSub b z) with q|q
   .exact(f2 b hb).2.1 q
   .exact(f2 b hb).2.2.1 q
 refine⟨ok,rfl,I.bare,Un.kept hk,⟨m4,hns,λk x v e1 e2 e3=> ?_⟩,λx c e=> ?_,I.hok.fresh hC,λx c e=>I.freeC x c (B.sub x c e),λp hp=>(by cases hp),I.hok.kept hk,?_⟩
 .obtain⟨j,i,rfl,hj,hσ⟩:=WS e2;obtain⟨n,hn1,hn2,hk1,hk2,hl⟩:=B.cap j i hj;have en:x=n:=by
   have e1':N[nl+j]? =some x:=e1;rw[hn1]at e1';exact(dg e1').symm
  subst en;obtain⟨m,hm,hloc⟩:=I.loc;have vis:Vis X.env.scope x:= .inr hk1;obtain⟨u,ru,lk⟩:=hloc i x v hn2 hσ vis;refine⟨u,ru,.inr ⟨hk2,?_⟩⟩;rcases lk with⟨kl,_⟩|⟨_,c,ec,hc⟩
  .have kl':X.env.scope.names.lookup x=some .local:=kl;rcases hk1 with z|z<;>· rw[z]at kl';cases kl'
  .refine⟨c,hl.trans ec,?_⟩;obtain⟨o,ho,hd⟩:=hc;exact⟨o,hk _ _ ho,hd⟩
 .obtain⟨v,o,ho,hd⟩:=I.cell x c (B.sub x c e);exact⟨v,o,hk _ _ ho,hd⟩
 .show (cD nl ci σ).length=N.length;rw[LP,B.len]
theorem UT{σ':St}{s':ba}{pb:List (Addr×Obj)}(I:Inv X pins σ H2 s2)(f2:∀b∈fp,sR X pins H2 b)(J:Inv (bU X scope cl N C s2 H2 fp) pb σ' H' s'):Inv X pins σ H' s' :=
 I.call' J.os J.base J.hok J.bare λb hb=>⟨(f2 b hb).2.2.2.1,(f2 b hb).2.1,(f2 b hb).2.2.2.2.1,(f2 b hb).2.2.2.2.2⟩
end
variable {e elt iter tg:Expr}{es ifs:List Expr}{env:Env}{cdv doc oc pm:ak}{A:ke}
section
variable {R:Result->ba->Prop}
theorem PP{elt target iter:Expr}{ifs:List Expr}{scope:rm}{pos:Pos}{it acc:ak}{env:Env}(I:Nat->ba->Prop)
  (turn:∀n s,I n s->cb (ck prog w) A (qf it) (λr s₁=>match r with
   | none=>R (.ok .next) s₁
   | some v=>cb (ck prog w) A (qy target it v) (λ_ s₁'=>cb (ck prog w) A (xl target env v) (λ_ s₂ =>
     cb (ck prog w) A (forIn ifs true λc r=>if r=true then do let ok ←isTrue c env (eval c env);pure (lb ok) else pure (lb r)) (λok s₃ =>
      if ok=true then cb (ck prog w) A (eval elt env) (λx s₄ =>
       cb (ck prog w) A (call (.builtin "list.append") [acc,x]) (λ_ s₅=>∃m,m<n/\I m s₅) (notedBy (ck prog w) A env λe s'=>R (.error e) s') s₄) (notedBy (ck prog w) A env λe s'=>R (.error e) s') s₃
      else ∃m,m<n/\I m s₃) (notedBy (ck prog w) A env λe s'=>R (.error e) s') s₂) (notedBy (ck prog w) A env λe s'=>R (.error e) s') s₁') (notedBy (ck prog w) A env λe s'=>R (.error e) s') s₁) (notedBy (ck prog w) A env λe s'=>R (.error e) s') s)
  (n:Nat)(h:I n s) :
  mr (ck prog w) A (.compLoop (.ListComp elt [⟨target,iter,ifs,0⟩] scope pos) 0 it acc env) R s:=by
 refine codeAny_loop rfl I (λn s hI=> ?_) n h;show cb _ A ((compTurn (.ListComp elt [⟨target,iter,ifs,0⟩] scope pos) 0 it acc env).onRaise (λx=>do noteFrame x env;theTreesLotGoes x)) _ _ s;refine wpAny_noted ?_;rw[compTurn_list];refine af (wpAny_standAt (af (fq (turn n s hI) (λr s₁ h₁=> ?_) λ_ _ h'=>h')));cases r with
 | none=>exact ax h₁
 | some v =>
  refine af (fq h₁ (λ_ s₁' h₁'=> ?_) λ_ _ h'=>h');refine af (fq h₁' (λ_ s₂ h₂=>af (fq h₂ (λok s₃ h₃=> ?_) λ_ _ h'=>h')) λ_ _ h'=>h');cases ok with
  | false=>exact ax ⟨rfl,h₃⟩
  | true =>
   exact af (af (fq h₃ (λx s₄ h₄=>af (fq h₄ (λ_ s₅ h₅=>ax (ax ⟨rfl,h₅⟩)) λ_ _ h'=>h')) λ_ _ h'=>h'))
end
def PF(X:Cx)(ifs:List Expr)(t:TT):Prop :=
 ∀(pins:List (Addr×Obj)) (s:ba) (σ:St) (H:Hp) (Q:Bool->Hp->Prop),Inv X pins σ H s->t σ H Q →
  cb (ck X.prog X.w) X.A (forIn ifs true λc r=>if r=true then do let ok ←isTrue c X.env (eval c X.env);pure (lb ok) else pure (lb r)) (TP X pins σ Q) X.xe s
def D8:TT:=λ_ H Q=>Q true H
theorem dI:PF X [] D8:=λ_ _ _ H _ I h=>wpAny_tests_nil ⟨H,I,h⟩
variable {ti:TT}
theorem r9{c:Expr}{t:TT}(h:PT X c t):PF X [c] t:=λpins s σ H Q I q=>wpAny_tests_one (h pins s σ H Q I q)
def dX(J:It)(g:TG)(ti:TT)(te:TE)(σ0:St)(fin:List V->Hp->Prop)(H1:Hp):Prop :=
 ∃W:Nat->Nat->List V->Hp->Prop,(∃m,W 0 m [] H1)/\∀i m ys H,W i m ys H →
  (J.stop i H/\fin ys H) ∨
  (J.go i H/\∀x H',J.yld i H x H'->g x σ0 H' λσ2 H2=>(σ2.length=σ0.length/\∀(j:Nat) v,σ0[j]? =some (some v)->σ2[j]? =some (some v)) ∧
   ti σ2 H2 λb H3=>if b=true then te σ2 H3 λy H4=>ys.length<sizeLine/\∃m',m'<m/\W (i+1) m' (ys++[y]) H4 else ∃m',m'<m/\W (i+1) m' ys H3)
def SJ(wi:TI)(nl:Nat)(ci:List Nat)(g:TG)(ti:TT)(te:TE):TE:=λσ H Q =>
 wi σ H λJ H1=>dX J g ti te (cD nl ci σ) (λys H'=>∀p,H' p=none->Q (.ref p) (upd H' p (.lst ys))) H1
variable {J:It}{E:ak->ba->Prop}{fin:List V->Hp->Prop}{g:TG}{ta te to:TE}{wi:TI}
theorem IR{s2:ba}{fp:List Addr}{tn:Nat->Heap->Prop}{RR:ak->Addr->Result->ba->Prop}
  (hc:X.calm=true)(B:Blk X scope cl N nl ci)(hg:∀C s0 H0 fp,PG (bU X scope cl N C s0 H0 fp) tg g)(hi:∀C s0 H0 fp,PF (bU X scope cl N C s0 H0 fp) ifs ti)(he:∀C s0 H0 fp,PE (bU X scope cl N C s0 H0 fp) elt te)
  (I2:Inv X pins σ H2 s2)(T:AN X.prog X.w X.K tg J fp it tn)(st2:tn 0 s2.heap)(f2:∀b∈fp,sR X pins H2 b)(hW:dX J g ti te (cD nl ci σ) fin H2)
  (hfin:∀(D C:Addr) (s':ba) (H':Hp) (ys:List V) (oC:Obj) (m:Str->Option ak),H' D=none->Inv X (pins++[(C,oC)]) σ (upd H' D (.lst ys)) s'->s'.heap.Ns C m->s2.heap.objs.size<=C->fin ys H'->RR (.ref D) C (.ok .next) s') :
  cb (ck X.prog X.w) X.A (newList []) (λacc s₃=>cb (ck X.prog X.w) X.A (newFunctionEnv scope X.env.globals cl [] X.env.qual none .none (some X.env)) (λcenv s₄ =>
   mr (ck X.prog X.w) X.A (.compStart (.ListComp elt [⟨tg,iter,ifs,0⟩] scope pos) 0 (.ref it) acc { cenv with scope:=relabel scope X.env }) (RR acc cenv.locals) s₄) E s₃) E s2:=by
 obtain⟨W,⟨m0,w0⟩,turn⟩:=hW;refine gw (wpAny_newFunctionEnv B.nocell (by intro y hy;simp at hy) (λh1 hns1 hsb1=> ?_) B.kind)
 dsimp only at hns1 hsb1 ⊢
 generalize hH2:s2.heap.push { cls:= .type "list",dict:=none,data:= .seq ([]:List ak).toArray }=G2 at hns1 hsb1 ⊢;have hCs:G2.objs.size=s2.heap.objs.size+1:=by rw[←hH2,xp]
 generalize hCe:G2.objs.size=C at hns1 hsb1 hCs ⊢;have hDC:s2.heap.objs.size≠C:=by rw[hCs];exact cf (mw _)
 have hCle:s2.heap.objs.size<=C:=by rw[hCs];exact uo _
 have old:∀b o,s2.heap.get? b=some o->h1.get? b=some o:=λb o e=>hsb1.extBut b o (by rw[hCs];exact cf (ur (bc e))) (aj _ (hH2▸aj _ e));have hacc:h1.get? s2.heap.objs.size=some { cls:= .type "list",data:= .seq ([]:List ak).toArray 0 }:=hsb1.extBut _ _ hDC (aj _ (hH2▸be _ rfl));have fo:∀b∈fp,∃o,s2.heap.get? b=some o:=λb hb=>let ⟨o,e,_⟩:=T.obj 0 _ st2 b hb;⟨o,e⟩;have lt2:∀b∈fp,b<s2.heap.objs.size:=λb hb=>let ⟨o,e⟩:=fo b hb;bc e;have hDfp:s2.heap.objs.size∉fp:=λz=>ee _ (lt2 _ z);have hCfp:C∉fp:=λz=>ee _ (bt (lt2 _ z) hCle);generalize hDe:s2.heap.objs.size=D at hCs hDC hCle hacc hDfp lt2;have loop:∀s3:ba,s3={ s2 with heap:=h1,toks:=s2.toks+([]:List (Str×ak)).length } →
   mr (ck X.prog X.w) X.A (.compLoop (.ListComp elt [⟨tg,iter,ifs,0⟩] scope pos) 0 (.ref it) (.ref D) (compEnvC scope cl C X.env)) (RR (.ref D) C) s3:=by
  rintro s3 rfl;have I4:Inv (bU X scope cl N C s2 H2 fp) [] (cD nl ci σ) H2 { s2 with heap:=h1,toks:=s2.toks+([]:List (Str×ak)).length }:=PN B I2 f2 fo (by rw[hDe];exact hCle) hns1 old;have fpk:∀{H':Hp},(∀b∈fp,H' b=none)->∀b∈fp,sR (bU X scope cl N C s2 H2 fp) [] H' b:=λhn b hb =>
   ⟨hn b hb,(I4.ok.exf b hb).1,I4.ok.exfs b hb,.inl hb,(I4.ok.exf b hb).2,λp hp=>by cases hp⟩
  have hDX:∀x c,(bU X scope cl N C s2 H2 fp).env.cells.lookup x=some c->c≠D:=λx c e=>by
   obtain⟨v,o,ho,_⟩:=I2.cell x c (B.sub x c e);rw[←hDe];exact cf (bc ho)
  have hDL:D≠(bU X scope cl N C s2 H2 fp).env.locals:=hDC;have hDf:D∉(bU X scope cl N C s2 H2 fp).fs:=λz=>by
   rcases az.mp (I2.stkSub D z) with q|q
   .exact ee _ (by have:=I2.lt;rw[hDe,←q]at this;exact this)
   .exact I2.nofs (by rw[hDe];exact aq _) q
  refine PP (λn s'=>∃i ys its k H',W i n ys H'/\Inv (bU X scope cl N C s2 H2 fp) [] (cD nl ci σ) H' s'/\tn i s'.heap/\(∀b∈fp,H' b=none)/\H' D=none ∧
   s'.heap.get? D=some { cls:= .type "list",data:= .seq its.toArray k }/\Vals ys its/\ys.length<=sizeLine) ?_ m0 ?_
  .rintro n s' ⟨i,ys,its,k,H',w',I',st',fr',hD',eD,rv,hz⟩;have IP:Inv (bU X scope cl N C s2 H2 fp) [(D,{ cls:= .type "list",data:= .seq its.toArray k })] (cD nl ci σ) H' s':=I'.pins_of λp hp=>by
    obtain rfl:p=_:=by simpa using hp
    exact⟨eD,hD',hDL,hDf,λv z=>by cases z⟩
   have fpD:∀{H'':Hp},(∀b∈fp,H'' b=none)->∀b∈fp,sR (bU X scope cl N C s2 H2 fp) [(D,{ cls:= .type "list",data:= .seq its.toArray k })] H'' b:=λhn b hb =>
    ⟨hn b hb,(I4.ok.exf b hb).1,I4.ok.exfs b hb,.inl hb,(I4.ok.exf b hb).2,λp hp=>by
     obtain rfl:p=_:=by simpa [bU] using hp
     exact λz=>hDfp ((show D=b from z)▸hb)⟩
   rcases turn i n ys H' w' with⟨stop,q⟩|⟨go,step⟩
   .refine thn (T.done (bU X scope cl N C s2 H2 fp) rfl rfl rfl hc i _ s' (cD nl ci σ) H' _ IP (fpD fr') st' stop) ?_;rintro r s'' ⟨hr,I''⟩;subst hr;have eD2:=(I''.pin (D,_) (bp _ fw)).1;have J1:Inv (bU X scope cl N C s2 H2 fp) [] (cD nl ci σ) (upd H' D (.lst ys)) s'' :=
     (I''.pins_of (pins':=[]) λp hp=>by cases hp).track hD' eD2 rv hz (by show s2.heap.objs.size<=D;rw[hDe];exact aq _) hDL hDX λp hp=>by cases hp
    have K1:Inv X pins σ (upd H' D (.lst ys)) s'':=UT I2 f2 J1;obtain⟨mC,nsC,_⟩:=J1.loc;obtain⟨oC,es,ep,hoC,hdC,rC⟩:=id nsC;refine hfin D C s'' H' ys oC mC hD' (K1.pins_of λp hp=> ?_) nsC (by rw[hDe];exact hCle) q;rcases bh.mp hp with hp|hp
    .exact K1.pin p (bp _ hp)
    .obtain rfl:p=(C,oC):=by simpa using hp
     refine⟨hoC,J1.free,yz (bt I2.lt (by rw[hDe];exact hCle)),I2.nofs (by rw[hDe];exact hCle),λv z=> ?_⟩;rw[hdC]at z;cases z
   .refine thn (T.item (bU X scope cl N C s2 H2 fp) rfl rfl rfl hc i _ s' (cD nl ci σ) H' _ IP (fpD fr') st' go) ?_;rintro r s4 ⟨u,hr,h4⟩;subst hr;refine thn h4 ?_;rintro _ s5 ⟨x,H5,I5,r5,y5,st5,fr5⟩;have I5':=I5.pinned (fpD fr5) (T.obj _ _ st5);refine fq (hg C s2 H2 fp _ s5 (cD nl ci σ) H5 x u _ I5' r5 (step x H5 y5)) (?_) λ_ _ f=>f.elim;rintro _ s6 ⟨σ6,H6,I6,⟨hl6,hk6⟩,q6⟩;refine fq (hi C s2 H2 fp _ s6 σ6 H6 _ I6 q6) (?_) λ_ _ f=>f.elim;rintro b s7 ⟨H7,I7,q7⟩;have pinD:∀{pp:List (Addr×Obj)}{σx:St}{Hx:Hp}{sx:ba},Inv (bU X scope cl N C s2 H2 fp) ([(D,({ cls:= .type "list",data:= .seq its.toArray k }:Obj))]++oZ fp s5.heap) σx Hx sx →
      sx.heap.get? D=some { cls:= .type "list",data:= .seq its.toArray k }/\Hx D=none/\tn (i+1) sx.heap/\(∀b∈fp,Hx b=none):=λ{pp σx Hx sx} Ix=>by
     refine⟨(Ix.pin (D,_) (bp _ (fj _ fw))).1,(Ix.pin (D,_) (bp _ (fj _ fw))).2.1,T.keep _ _ _ st5 λb hb o e=>(Ix.pin (b,o) (bp _ (bp _ (lZ hb e)))).1,λb hb=> ?_⟩;obtain⟨o,e,d⟩:=T.obj _ _ st5 b hb;exact(Ix.pin (b,o) (bp _ (bp _ (lZ hb e)))).2.1
    cases b with
    | false =>
     rw[if_neg bg]at q7 ⊢;obtain⟨m',hm',w7⟩:=q7;obtain⟨e7,n7,st7,fr7⟩:=pinD (pp:=[]) I7;exact⟨m',hm',i+1,ys,its,k,H7,w7,(I7.pins_of (pins':=[]) λp hp=>by cases hp).weak hl6.symm hk6,st7,fr7,n7,e7,rv,hz⟩
    | true =>
     rw[if_pos rfl]at q7 ⊢;refine fq (he C s2 H2 fp _ s7 σ6 H7 _ I7 q7) (?_) λ_ _ f=>f.elim;rintro y' s8 ⟨y,H8,I8,r8,hlt,m',hm',w8⟩;obtain⟨e8,n8,st8,fr8⟩:=pinD (pp:=[]) I8;have I8f:Inv (bU X scope cl N C s2 H2 fp) (oZ fp s5.heap) σ6 H8 s8:=I8.pins_of λp hp=>I8.pin p (bp _ (bp _ hp));have I8t:=I8f.track n8 e8 rv hz (by show s2.heap.objs.size<=D;rw[hDe];exact aq _) hDL hDX λp hp=>by
      have hp':p∈oZ fp s5.heap:=by simpa [bU] using hp
      exact λz=>hDfp (z▸(JJ hp').1)
     refine fq (cY (X:=bU X scope cl N C s2 H2 fp) (oZ fp s5.heap) s8 σ6 _ (.ref D) [y] (.ref D) [y'] (λ_ H9=>H9=upd H8 D (.lst (ys++[y]))) I8t rfl (.cons r8 .nil)
      ⟨D,ys,y,rfl,rfl,aR,hlt,aDI⟩) (λ_ s9 ⟨_,H9,I9,_,e9⟩=> ?_) λ_ _ f=>f.elim
     subst e9;obtain⟨hz9,its9,k9,rv9,e9⟩:=I9.hok D _ aR;have I9u:=I9.untrack n8;refine⟨m',hm',i+1,ys++[y],its9,k9,H8,w8,(I9u.pins_of (pins':=[]) λp hp=>by cases hp).weak hl6.symm hk6,?_,fr8,n8,e9,rv9,hz9⟩;exact T.keep _ _ _ st5 λb hb o e=>(I9u.pin (b,o) (bp _ (lZ hb e))).1
  .exact⟨0,[],[],0,H2,w0,I4,T.keep _ _ _ st2 λb hb o e=>old b o e,λb hb=>(f2 b hb).1,I2.hok.fresh (by rw[hDe];exact aq _),hacc,.nil,et _⟩
 exact codeAny_compStart_list (loop _ rfl) (T.self _ 0 _ _ _ (T.keep _ _ _ st2 λb hb o e=>old b o e) (loop _ rfl))
theorem dG(hc:X.calm=true)(B:Blk X scope cl N nl ci)(hp:PI X tg iter wi)(hg:∀C s0 H0 fp,PG (bU X scope cl N C s0 H0 fp) tg g)(hi:∀C s0 H0 fp,PF (bU X scope cl N C s0 H0 fp) ifs ti)
  (he:∀C s0 H0 fp,PE (bU X scope cl N C s0 H0 fp) elt te)(hs:∀x,um iter X.env x=pure x:=by intro _;rfl):PE X (.ListComp elt [⟨tg,iter,ifs,0⟩] scope pos) (SJ wi nl ci g ti te):=by
 intro pins s σ H Q I h;rw[eval_ListComp];refine vg (use:=none) rfl hs B.clos B.kind B.names (thn (hp pins s σ H _ I h) λv s1 h1=>thn h1 λitv s2 h2=> ?_);obtain⟨it,fp,tn,J,H2,e,I2,T,st2,f2,hW⟩:=h2;subst e;refine IR (RR:=λacc C=>compPost (ck X.prog X.w) X.A X.xe none (EP X pins σ Q) acc C) hc B hg hi he I2 T st2 f2 hW ?_;intro D C s' H' ys oC m hD K1 hn hC q;refine⟨m,hn,λh' hs'=> ?_⟩;have hL:C≠X.env.locals:=(K1.pin (C,oC) (by simp)).2.2.1;have I9:Inv X pins σ (upd H' D (.lst ys)) { s' with heap:=h',toks:=s'.toks }:=K1.unpinned.turned (t':=s'.toks) (it:=C) (λb o hb e=>hs'.extBut b o hb e) (K1.pin (C,oC) (by simp)).2.1 hL (.inr (dy I2.sz hC)) (λx c e z=> ?_) λp hp z=> ?_
 .exact⟨.ref D,_,I9,rfl,q D hD⟩
 .obtain⟨v,o,ho,_⟩:=I2.cell x c e;exact absurd (bt (bc ho) (z▸hC)) (ee _)
 .exact absurd (bt (bc (I2.pin p hp).1) (z▸hC)) (ee _)
theorem eG{i:Nat}{pos' spos:Pos}(hN:X.N.Nodup)(hix:X.N[i]? =some x)(hx:Loc X.env.scope x)(hc:X.calm=true)(B:Blk X scope cl N nl ci)(hp:PI X tg iter wi)(hg:∀C s0 H0 fp,PG (bU X scope cl N C s0 H0 fp) tg g)
  (hi:∀C s0 H0 fp,PF (bU X scope cl N C s0 H0 fp) ifs ti)(he:∀C s0 H0 fp,PE (bU X scope cl N C s0 H0 fp) elt te)
  (hsw:yh (.ListComp elt [⟨tg,iter,ifs,0⟩] scope pos) (some (.Name x pos')) spos.line X.env=pure true:=by rfl)(hs:∀x,um iter X.env x=pure x:=by intro _;rfl)
  (hf:X.fn x=true∨X.env.scope.names.lookup x=some .local:=by first|exact .inl rfl|exact .inr rfl|assumption) :
  PS X (.Assign [.Name x pos'] (.ListComp elt [⟨tg,iter,ifs,0⟩] scope pos) spos) (SX (SJ wi nl ci g ti te) (cF i)):=by
 intro pins s σ H D I h;rw[exec_Assign_Name_used _ _ _ _ hsw];refine af (wpAny_standAt (af ?_));show cb _ X.A (do let _ ←comprehension (.ListComp elt [⟨tg,iter,ifs,0⟩] scope pos) scope X.env _ (newList []) false (eval iter X.env) (some (xl (.Name x pos') X.env))) _ _ s;refine af (fq (vg (use:=some (xl (.Name x pos') X.env)) (Q:=λ_ s'=>SP X pins D .next s') rfl hs B.clos B.kind B.names
  (thn (hp pins s σ H _ I h) λv s1 h1=>thn h1 λitv s2 h2=> ?_)) (λ_ s' hq=>ax (ax hq)) λ_ _ e=>e)
 obtain⟨it,fp,tn,J,H2,e,I2,T,st2,f2,hW⟩:=h2;subst e;refine IR (RR:=λacc C=>compPost (ck X.prog X.w) X.A X.xe (some (xl (.Name x pos') X.env)) (λ_ s'=>SP X pins D .next s') acc C) hc B hg hi he I2 T st2 f2 hW ?_;intro Dd C s' H' ys oC m hD K1 hn hC q;show cb _ X.A (xl (.Name x pos') X.env (.ref Dd)) _ _ _;refine thn (aL (i:=i) hN hix hx hf (pins++[(C,oC)]) s' σ (upd H' Dd (.lst ys)) (.ref Dd) (.ref Dd) (λσ' H''=>D.nx σ' H'') K1 rfl (q Dd hD)) ?_;rintro _ s'' ⟨σ',H'',K2,q2⟩;have eC:=K2.pin (C,oC) (by simp);obtain⟨oC',es,ep,hoC,hdC,rC⟩:=id hn;have eo:oC'=oC:=by
  have:=(K1.pin (C,oC) (by simp)).1;rw[hoC]at this;exact dg this
 subst eo;refine⟨m,⟨oC',es,ep,eC.1,hdC,rC⟩,λh' hs'=> ?_⟩;have hL:C≠X.env.locals:=eC.2.2.1;have I9:Inv X pins σ' H'' { s'' with heap:=h',toks:=s''.toks }:=K2.unpinned.turned (t':=s''.toks) (it:=C) (λb o hb e=>hs'.extBut b o hb e) eC.2.1 hL (.inr (dy I2.sz hC)) (λx c e z=> ?_) λp hp z=> ?_
 .exact⟨σ',H'',I9,q2⟩
 .obtain⟨v,o,ho,_⟩:=I2.cell x c e;exact absurd (bt (bc ho) (z▸hC)) (ee _)
 .exact absurd (bt (bc (I2.pin p hp).1) (z▸hC)) (ee _)
def Its(x:Str):It:=⟨λi _=>i<x.cps.size,λi H v H'=>H'=H/\∃c,x.cps[i]? =some c/\v= .str ⟨#[c]⟩,λi _=>i=x.cps.size⟩
theorem OB(it:Addr)(x:Str)(t:Tok)(ty:String)
  (hty:["enumerate","zip","dict_itemiterator","dict_reverseitemiterator","odict_iterator","itertools.zip_longest","itertools.pairwise"].contains ty=false)
  (W:∀A':ke,A'.handled=none->Walks P w A' it [it] [it] x.cps.size (SignAt x) (λi h=>h.IsStrIter it ty x t i))
  (hself:∀(A:ke) (i:Nat) (s:ba) (Q:ak->ba->Prop) (E:ak->ba->Prop),s.heap.IsStrIter it ty x t i->Q (.ref it) s->cb (ck P w) A (pyIter (.ref it)) Q E s) :
  AN P w K tg (Its x) [it] it (λi h=>h.IsStrIter it ty x t i) where
 mem:=by simp
 obj:=λi h st b hb=>by
  have e:b=it:=by simpa using hb
  subst e;obtain⟨o,e,c,d⟩:=st;exact⟨o,e,λv z=>by rw[d]at z;cases z⟩
 keep:=λi h h' st k=>let ⟨o,ho,r⟩:=st;⟨o,k it (by simp) o ho,r⟩
 item:=by
  intro X hP hw hK hc i pins s σ H E I hf st hg;subst hP hw hK;obtain⟨f0,f1,f2,f3,f4,f5⟩:=hf it (by simp);refine(W X.A (I.ok.hd hc)).item i s _ _ hg st λv h' tk hv st' kk=> ?_;obtain⟨c,u,hc',rfl⟩:=hv;have I1:Inv X pins σ H { s with heap:=h',toks:=tk }:=I.turned (λb o hb e=>kk b o (by simpa using hb) e) f0 f1 f3 f4 f5;obtain⟨o,e,c1,d⟩:=id st';exact⟨_,rfl,KS (s:={ s with heap:=h',toks:=tk }) e c1 d hty ⟨.str ⟨#[c]⟩,H,I1,⟨u,rfl⟩,⟨rfl,c,hc',rfl⟩,st',λb hb=>(hf b hb).1⟩⟩
 done:=by
  intro X hP hw hK hc i pins s σ H E I hf st hg;subst hP hw hK;obtain⟨f0,f1,f2,f3,f4,f5⟩:=hf it (by simp);have e:i=x.cps.size:=hg;subst e;exact(W X.A (I.ok.hd hc)).done s _ _ st λh' tk kk=>⟨rfl,I.turned (λb o hb e=>kk b o (by simpa using hb) e) f0 f1 f3 f4 f5⟩
 self:=hself
def aG7(tl:TE):TI:=λσ H R=>tl σ H λx H1=>∃z,x= .str z/\R (Its z) H1
theorem aFm{l:Expr}{tl:TE}(hl:PE X l tl):PI X tg l (aG7 tl):=by
 intro pins s σ H R I h;refine thn (hl pins s σ H _ I h) ?_;rintro v s1 ⟨x,H1,I1,rx,z,ez,q⟩;subst ez;obtain⟨t,rfl⟩:=rx;cases ha:z.cps.all (·<128)
 .refine wpAny_pyIter_wide ha ⟨s1.heap.objs.size,[s1.heap.objs.size],_,Its z,H1,rfl,I1.kept (t':=s1.toks) λb u e=>aj _ e,OB _ z t "str_iterator" (by decide) (λA' hA=>Walks.strWide hA _ z t) (λ_ _ _ _ _ st h=>wpAny_pyIter_striter_wide st h),⟨_,be _ rfl,rfl,rfl⟩,λb hb=> ?_,q⟩;have e:b=s1.heap.objs.size:=by simpa using hb
  subst e;exact I1.fpOk (aq _) (I1.hok.fresh (aq _))
 .refine wpAny_pyIter_ascii ha ⟨s1.heap.objs.size,[s1.heap.objs.size],_,Its z,H1,rfl,I1.kept (t':=s1.toks) λb u e=>aj _ e,OB _ z t "str_ascii_iterator" (by decide) (λA' hA=>Walks.strAscii hA _ z t) (λ_ _ _ _ _ st h=>wpAny_pyIter_striter_ascii st h),⟨_,be _ rfl,rfl,rfl⟩,λb hb=> ?_,q⟩;have e:b=s1.heap.objs.size:=by simpa using hb
  subst e;exact I1.fpOk (aq _) (I1.hok.fresh (aq _))
theorem aCH(n:Nat)(f:Nat->V)(hn:n<=sizeLine)(Ok:Hp->Prop)(h0:Ok H1)
  (hst:∀H,Ok H->J.stop n H)(hgo:∀i H,i<n->Ok H->J.go i H)
  (hstep:∀i H x H',i<n->Ok H->J.yld i H x H'->g x σ0 H' λσ2 H2=>(σ2.length=σ0.length/\∀(j:Nat) v,σ0[j]? =some (some v)->σ2[j]? =some (some v))/\ti σ2 H2 λb H3=>b=true/\te σ2 H3 λy H4=>y=f i/\Ok H4)
  (mono:∀σ H (Q Q':Bool->Hp->Prop),(∀b H',Q b H'->Q' b H')->ti σ H Q->ti σ H Q')(mono2:∀σ H (Q Q':VK),(∀b H',Q b H'->Q' b H')->te σ H Q->te σ H Q')(mono3:∀x σ H (Q Q':St->Hp->Prop),(∀σ' H',Q σ' H'->Q' σ' H')->g x σ H Q->g x σ H Q')
  (hfin:∀H,Ok H->fin ((el n).map f) H):dX J g ti te σ0 fin H1:=by
 refine⟨λi m ys H=>m=n - i/\i<=n/\ys=(el i).map f/\Ok H,⟨n,by simp,et _,rfl,h0⟩,?_⟩;rintro i m ys H ⟨rfl,hi,rfl,ok⟩
 by_cases hlt:i<n
 .refine .inr ⟨hgo i H hlt ok,λx H' y=> ?_⟩;refine mono3 _ _ _ _ _ (λσ' H'' q=>⟨q.1,mono _ _ _ _ (λb H3 q=> ?_) q.2⟩) (hstep i H x H' hlt ok y);obtain⟨rfl,q⟩:=q;rw[if_pos rfl];refine mono2 _ _ _ _ (λv H4 q=> ?_) q;obtain⟨rfl,ok4⟩:=q;refine⟨by rw[ae,fk];lia,n - (i+1),by lia,rfl,hlt,?_,ok4⟩;rw[wy,aw];rfl
 .have e:i=n:=by lia
  subst e;exact .inl ⟨hst H ok,hfin H ok⟩
theorem L5:∀bs:List Bool,(el bs.length).all (λi=>bs.getD i true)=bs.all id
 | []=>rfl
 | b::bs=>by
  rw[bb,ox,lq,List.all_map,lq,←L5 bs];rfl
theorem GT(hc:X.calm=true):dZ X (.builtin "all") (λxs H Q=>∃(p:Addr) (bs:List Bool),xs=[.ref p]/\SqL X.K H p (bs.map V.bl)/\Q (.bl (bs.all id)) H):=by
 intro pins s σ H xs us Q I r h;obtain⟨p,bs,rfl,hq,q⟩:=h;obtain⟨u,rfl,rx⟩:=l6 r;cases rx;obtain⟨its,r',pl,hz⟩:=I.list hq;have hl:=pl.isList;have hlt:p<s.heap.objs.size:=by obtain⟨_,e,_⟩:=hl;exact bc e
 have hlen:bs.length=its.length:=by have:=r'.length;rw[ae]at this;exact this
 refine call_all_walk (ma hl ?_);refine⟨s.heap.objs.size,_,_,its.toArray.size,_,_,λi=>bs.getD i true,rfl,Walks.list (show X.A.in1.handled=none from I.ok.hd hc) s.heap.objs.size p (cf hlt) its.toArray,⟨⟨_,be _ rfl,rfl,rfl⟩,hl.push _⟩,?_,?_⟩
 .intro i v s' Q' E' hi hQ;have hi':its[i]? =some v:=by simpa using hi
  have hib:i<bs.length:=by rw[hlen];exact(av.mp hi').1
  obtain⟨u,hu,ru⟩:=r'.get (i:=i) (x:=V.bl bs[i]) (by rw[bq,ah hib];rfl);rw[hi']at hu;cases hu;have:v=tp bs[i]:=ru;subst this;refine gj ?_;have eb:bs.getD i true=bs[i]:=by rw[au,ah hib];rfl
  have hQ':Q' (bs.getD i true) s':=hQ;rw[eb]at hQ';exact hQ'
 .intro h' tk hk;have eall:(el its.toArray.size).all (λi=>bs.getD i true)=bs.all id:=by
   rw[bj,←hlen];exact L5 bs
  rw[eall];refine⟨.bl (bs.all id),H,?_,rfl,q⟩;have I1:Inv X pins σ H { s with heap:=s.heap.push { cls:= .type "list_iterator",data:= .fields #[.ref p,.int 0 0] },toks:=s.toks }:=I.kept λb u e=>aj _ e;obtain⟨f0,f1,f2,f3,f4,f5⟩:=I.fpOk (aq _) (I.hok.fresh (aq _));exact I1.turned (λb o hb e=>hk b o (by simpa using hb) e) f0 f1 f3 f4 f5
theorem O4:dZ X (.builtin "isinstance") (λxs H Q=>∃x c t u b,xs=[x,c]/\kO X.K H x t/\RelV c u/\W.kitOne X.K t u=some b/\Q (.bl b) H):=by
 intro pins s σ H xs us Q I r h;obtain⟨x,c,t,u,b,rfl,ty,rc,e,q⟩:=h;obtain⟨v1,v2,rfl,r1,r2⟩:=aBj r;have e2:v2=u:=by
  cases c with
  | non=>exact(show v2=_ from r2).trans (show u=_ from rc).symm
  | bl b=>exact(show v2=_ from r2).trans (show u=_ from rc).symm
  | ref b=>exact(show v2=_ from r2).trans (show u=_ from rc).symm
  | ty b=>exact(show v2=_ from r2).trans (show u=_ from rc).symm
  | int i =>
   obtain⟨t1,rfl⟩:=(show ∃t,u=_ from rc)
   cases ty<;>simp[W.kitOne,W.kitCls]at e
  | str i =>
   obtain⟨t1,rfl⟩:=(show ∃t,u=_ from rc)
   cases ty<;>simp[W.kitOne,W.kitCls]at e
  | byt i =>
   obtain⟨t1,rfl⟩:=(show ∃t,u=_ from rc)
   cases ty<;>simp[W.kitOne,W.kitCls]at e
  | flt i =>
   obtain⟨t1,rfl⟩:=(show ∃t,u=_ from rc)
   cases ty<;>simp[W.kitOne,W.kitCls]at e
 subst e2;exact VA I r1 ty e λtk=>⟨.bl b,H,I.tok tk,rfl,q⟩
theorem XU:OpR X (gg .LtE) (λx y H Q=>∃i j,x= .str i/\y= .str j/\Q (.bl (!decide (j.cps.toList<i.cps.toList))) H):=by
 intro pins s σ H x y v u Q I rx ry h;obtain⟨i,j,rfl,rfl,q⟩:=h;obtain⟨t,rfl⟩:=rx;obtain⟨t',rfl⟩:=ry;exact P.le_str ⟨.bl _,H,I,rfl,q⟩
def aBe(xs:List (Str×ow))(XN:List Str)(ns:List (Str×ow))(N:List Str)(nl:Nat)(ci:List Nat):Bool :=
 (ns.all λy=>y.2 != .cell&&(y.2 != .local||ns.lookup y.1==some .local)&&(y.2 != .free||(xs.lookup y.1==some .cell&&ns.lookup y.1==some .free))) &&
 (N.length==nl+ci.length) &&
 (el ci.length).all λj=>match ci[j]?,N[nl+j]? with
  | some i,some n=>XN[i]? ==some n&&xs.lookup n==some .cell&&ns.lookup n==some .free
  | _,_=>false
def xZ(ns:List (Str×ow))(cs:List (Str×Addr)):List (Str×Addr)->List (Str×Addr)
 | acc=>ns.foldl (λacc y=>if y.2== .free then (y.1,(cs.lookup y.1).getD 0)::acc else acc) acc
theorem yP:∀(ns:List (Str×ow)) (acc:List (Str×Addr)),(∀y∈ns,y.2= .free->∃c,env.cells.lookup y.1=some c) →
  (forIn ns acc λx r=>(do
   let (name,kind):=x
   if (kind==gv)=true then do
     let c ←cellOf env name
     pure (lb ((name,c)::r))
    else pure (lb r)):Sem (List (Str×Addr)))=pure (xZ ns env.cells acc)
 | [],acc,_=>rfl
 | (n,k)::r,acc,h=>by
  have ih:=λacc=>yP r acc λy hy=>h y (ab _ hy);rw[List.forIn_cons]
  by_cases hk:k= .free
  .subst hk;obtain⟨c,e⟩:=h (n,.free) fw rfl;have e1:cellOf env n=pure c:=by unfold cellOf;rw[e]
   simp only[beq_self_eq_true,if_true,e1];show (forIn r ((n,c)::acc) _:Sem (List (Str×Addr)))=_;rw[ih];show _=pure (xZ ((n,gv)::r) env.cells acc);simp only[xZ,List.foldl_cons,beq_self_eq_true,if_true,e,vy]
  .have hb:(k==gv)=false:=by simpa using hk
   simp only[hb,gb,if_false];show (forIn r acc _:Sem (List (Str×Addr)))=_;rw[ih];simp only[xZ,List.foldl_cons,hb,gb,if_false]
theorem j9:∀(ns:List (Str×ow)) (acc:List (Str×Addr)) (n:Str),(∀y∈ns,y.2= .free->∃c,cs.lookup y.1=some c) →
  ((n,gv)∈ns∨acc.lookup n=cs.lookup n)->(∀c,acc.lookup n=some c->cs.lookup n=some c)->(xZ ns cs acc).lookup n=cs.lookup n
 | [],acc,n,_,h,_=>by
  rcases h with h|h
  .cases h
  .exact h
 | (m,k)::r,acc,n,hc,h,hs=>by
  have hc':∀y∈r,y.2= .free->∃c,cs.lookup y.1=some c:=λy hy=>hc y (ab _ hy);show (xZ r cs (if k== .free then (m,(cs.lookup m).getD 0)::acc else acc)).lookup n=cs.lookup n
  by_cases hk:k= .free
  .subst hk;obtain⟨c,e⟩:=hc (m,.free) fw rfl;simp only[beq_self_eq_true,if_true,e,vy]
   by_cases hm:n=m
   .subst hm;have q:jb n ((n,c)::acc)=some c:=by simp[fe]
    exact j9 r _ n hc' (.inr (q.trans e.symm)) λc' z=>by rw[q]at z;cases z;exact e
   .have hb:(n==m)=false:=by simpa using hm
    have q:jb n ((m,c)::acc)=acc.lookup n:=by simp[fe,hb]
    refine j9 r _ n hc' ?_ λc' z=>hs c' (q▸z);rcases h with h|h
    .rcases az.mp h with z|z
     .cases z;exact absurd rfl hm
     .exact .inl z
    .exact .inr (q.trans h)
  .have hb:(k==gv)=false:=by simpa using hk
   simp only[hb,gb,if_false];refine j9 r _ n hc' ?_ hs;rcases h with h|h
   .rcases az.mp h with z|z
    .cases z;exact absurd rfl hk
    .exact .inl z
   .exact .inr h
theorem LF:∀(ns:List (Str×ow)) (acc:List (Str×Addr)),(∀y∈ns,y.2= .free->∃c,cs.lookup y.1=some c) →
  (∀n c,acc.lookup n=some c->cs.lookup n=some c)->∀n c,(xZ ns cs acc).lookup n=some c->cs.lookup n=some c
 | [],acc,_,hs,n,c,h=>hs n c h
 | (m,k)::r,acc,hc,hs,n,c,h=>by
  have hc':∀y∈r,y.2= .free->∃c,cs.lookup y.1=some c:=λy hy=>hc y (ab _ hy);have h':(xZ r cs (if k== .free then (m,(cs.lookup m).getD 0)::acc else acc)).lookup n=some c:=h;refine LF r _ hc' ?_ n c h';intro n' c' z
  by_cases hk:k= .free
  .subst hk;obtain⟨d,e⟩:=hc (m,.free) fw rfl;simp only[beq_self_eq_true,if_true,e,vy]at z
   by_cases hm:n'=m
   .subst hm;simp[fe]at z;subst z;exact e
   .have hb:(n'==m)=false:=by simpa using hm
    simp[fe,hb]at z;exact hs n' c' z
  .have hb:(k==gv)=false:=by simpa using hk
   simp only[hb,gb,if_false]at z;exact hs n' c' z
theorem mZ(hkf:env.scope.kind= .function):∀{names:List (Str×ow)}{x:Str},names.lookup x=some .free->env.kindOf x=some .cell →
  (names.map λ(n,k)=>if (k==gv&&env.scope.kind== .function&&env.kindOf n==some .cell) then (n,qm) else (n,k)).lookup x=some .cell
 | [],_,h,_=>by simp at h
 | (n,k)::r,x,h,hc=>by
  show jb x ((if (k==gv&&env.scope.kind== .function&&env.kindOf n==some .cell)=true then (n,qm) else (n,k))::_)=_;cases hx:x==n with
  | true =>
   simp only[fe,hx]at h;cases h;have e:x=n:=by simpa using hx
   subst e;rw[hkf,hc];simp[fe]
  | false =>
   simp only[fe,hx]at h;have ih:=mZ hkf h hc
   split
   .simp only[fe,hx];exact ih
   .simp only[fe,hx];exact ih
theorem iH:∀{names:List (Str×ow)}{x:Str}{k':ow},(∀y∈names,y.2≠ .cell)->(k'= .cell∨k'= .free) →
  (names.map λ(n,k)=>if (k==gv&&env.scope.kind== .function&&env.kindOf n==some .cell) then (n,qm) else (n,k)).lookup x=some k'->(x,gv)∈names
 | [],_,_,_,_,h=>by simp at h
 | (n,k)::r,x,k',hn,hk',h=>by
  have h':jb x ((if (k==gv&&env.scope.kind== .function&&env.kindOf n==some .cell)=true then (n,qm) else (n,k))::r.map _)=some k':=h;cases hx:x==n with
  | true =>
   have e:x=n:=by simpa using hx
   subst e
   by_cases hf:k= .free
   .subst hf;exact fw
   .have hb:(k==gv)=false:=by simpa using hf
    simp only[hb,kf,gb,if_false,fe,hx]at h';cases h';rcases hk' with z|z
    .exact absurd z (hn (x,k) fw)
    .exact absurd z hf
  | false =>
   have h2:jb x (r.map λ(n,k)=>if (k==gv&&env.scope.kind== .function&&env.kindOf n==some .cell) then (n,qm) else (n,k))=some k':=by
    split at h'
    .simp only[fe,hx]at h';exact h'
    .simp only[fe,hx]at h';exact h'
   exact ab _ (iH (λy hy=>hn y (ab _ hy)) hk' h2)
theorem blk(n0:Nat)(hX:X.env.cells=tj n0 X.env.scope.names [])(hkf:X.env.scope.kind= .function)(hk:scope.kind= .function)
  (h:aBe X.env.scope.names X.N scope.names N nl ci=true):Blk X scope (xZ scope.names X.env.cells []) N nl ci:=by
 unfold aBe at h;rw[dz,dz]at h;obtain⟨⟨h1,h2⟩,h3⟩:=h;rw[jk]at h1;have h1':∀y∈scope.names,y.2≠ .cell/\(y.2= .local->scope.names.lookup y.1=some .local)/\(y.2= .free->X.env.scope.names.lookup y.1=some .cell/\scope.names.lookup y.1=some .free):=λy hy=>by
  have q:=h1 y hy;simp only[dz,Bool.or_eq_true,bne_iff_ne,ne_eq,beq_iff_eq]at q;obtain⟨⟨q1,q2⟩,q3⟩:=q;exact⟨q1,λe=>q2.resolve_left λz=>z e,λe=>q3.resolve_left λz=>z e⟩
 have hcs:∀y∈scope.names,y.2= .free->∃c,X.env.cells.lookup y.1=some c:=λy hy e=>by
  rw[hX];exact wN ((h1' y hy).2.2 e).1
 refine⟨hk,λy hy=>(h1' y hy).2.1,λy hy=>(h1' y hy).1,?_,?_,?_,by simpa using h2,?_⟩
 .unfold closureFor;refine(congrArg (λm:Sem (List (Str×Addr))=>m >>= λcs=>pure cs) (yP scope.names [] hcs)).trans ?_;rfl
 .exact LF scope.names [] hcs λn c z=>by cases z
 .intro n hn;have hm:(n,gv)∈scope.names:=by
   rcases hn with z|z
   .exact iH (λy hy=>(h1' y hy).1) (.inl rfl) z
   .exact iH (λy hy=>(h1' y hy).1) (.inr rfl) z
  obtain⟨c,e⟩:=hcs _ hm rfl;exact⟨c,(j9 scope.names [] n hcs (.inl hm) λc z=>by cases z).trans e⟩
 .intro j i hj;have hjl:j<ci.length:=(av.mp hj).1;rw[jk]at h3;have q:=h3 j (gr.mpr hjl);rw[hj]at q;cases e:N[nl+j]? with
  | none=>rw[e]at q;cases q
  | some n =>
   rw[e]at q;simp only[dz,beq_iff_eq]at q;obtain⟨⟨q1,q2⟩,q3⟩:=q;refine⟨n,rfl,q1,.inl q2,.inl (mZ hkf q3 q2),?_⟩;exact j9 scope.names [] n hcs (.inl (ia q3)) λc z=>by cases z
structure Fc(P:gd)(w:gx)(K:W.Frag)(mg:Str->Option ak)(base:Heap)(x:Str)(k:Nat)(ps:List Str)(sp:Sp):Prop where
 ex:∃f fd,mg x=some (.ref f)/\W.keepIn K (.ref f)=true/\Binds K fd ps []/\FnOk P w K mg base CX0 k f fd ps sp
theorem bI{k:Nat}{ps:List Str}{sp:Sp}{t:TA}{p pos:Pos}(F:Fc X.prog X.w X.K X.mg X.base x k ps sp)(hr:Room k' X.A)(ha:PA X (e::es) t)(hk:k<=k':=by decide)(hg:Gl X x:=by rfl)
  (hdb:(x==("__debug__" :Str))=false:=by decide)(he:cy (e::es) X.env=(false,eval e X.env)::cy es X.env:=by rfl)(hpl:(jl pos (cy es X.env)).any (·.1)=false:=by rfl) :
  PE X (.Call (.Name x p) (e::es) [] pos) (wW sp [] E0 t):=by
 obtain⟨f,fd,hm,kp,b,G⟩:=F.ex;exact aDB G (hr.mono hk) hg hm kp b .nil t7 ha hdb he hpl
variable {T:String}
theorem UC{n:String}(hg:Gl X x)(hm:X.mg x=none)(hv:fm x=some (.type n))(hn:x≠ "__name__" :=by decide)(hd:(x==("__debug__" :Str))=false:=by decide):PE X (.Name x pos) (tC (.ty n)):=aCa hg hm hv rfl hn hd
variable {i lo:Int}
theorem aDA{t:Tok}(hg:Gl X x)(hm:X.mg x=some (.int i t))(hd:(x==("__debug__" :Str))=false:=by decide):PE X (.Name x pos) (tC (.int i)):=aDk hg hm ⟨t,rfl⟩ hd
theorem pP:fm "isinstance" =some (.builtin "isinstance"):=by decide +kernel
theorem aFj:fm "all" =some (.builtin "all"):=by decide +kernel
theorem hZ:fm "len" =some (.builtin "len"):=by decide +kernel
theorem FF:fm "min" =some (.builtin "min"):=by decide +kernel
theorem aEX:fm "int" =some (.type "int"):=by decide +kernel
theorem aE1:fm "str" =some (.type "str"):=by decide +kernel
theorem aCZ:fm "bool" =some (.type "bool"):=by decide +kernel
theorem QF:fm "list" =some (.type "list"):=by decide +kernel
theorem aDa:fm "dict" =some (.type "dict"):=by decide +kernel
inductive BTy(K:W.Frag)(H:Hp):V->String->Prop where
 | non:BTy K H .non "NoneType"
 | bl (x:Bool):BTy K H (.bl x) "bool"
 | int (i:Int):BTy K H (.int i) "int"
 | str (x:Str):BTy K H (.str x) "str"
 | lst {a:Addr}{xs:List V} (e:H a=some (.lst xs)):BTy K H (.ref a) "list"
 | tup {a:Addr}{xs:List V} (e:H a=some (.tup xs)):BTy K H (.ref a) "tuple"
 | dK {a:Addr}{kvs:List (Key×V)} (e:H a=some (.dK kvs)):BTy K H (.ref a) "dict"
theorem BTy.ty{x:V}{n:String}(b:BTy K H x n):kO K H x (.type n):=by
 cases b with
 | non=>exact .non
 | bl=>exact .bl _
 | int=>exact .int _
 | str=>exact .str _
 | lst e=>exact .lst e
 | tup e=>exact .tup e
 | dK e=>exact .dK e
def isB(n c:String):Bool:=n==c||(n== "bool" &&c== "int")
theorem TK{x:V}{n:String}(b:BTy K H x n)(c:String)(hc:c= "int" ∨c= "bool" ∨c= "str"):W.kitOne K (.type n) (.type c)=some (isB n c):=by
 cases b<;>rcases hc with rfl|rfl|rfl<;>kernel_rfl
theorem UK(n:Nat)(Ok:Nat->List V->Hp->Prop)(hn:n<=sizeLine)(h00:σ0[0]? =some none)(h0:Ok 0 [] H1)(hlen:∀i ys H,Ok i ys H->ys.length<=i)
  (hst:∀ys H,Ok n ys H->J.stop n H/\fin ys H)(hstep:∀i ys H,i<n->Ok i ys H->J.go i H/\∀x H',J.yld i H x H'->∀R:VK,(∀y H4,Ok (i+1) (ys++[y]) H4->R y H4)->te (σ0.set 0 (some x)) H' R):dX J (cF 0) D8 te σ0 fin H1:=by
 refine⟨λi m ys H=>m=n - i/\i<=n/\Ok i ys H,⟨n,by simp,et _,h0⟩,?_⟩;rintro i m ys H ⟨rfl,hi,ok⟩
 by_cases hlt:i<n
 .obtain⟨go,st⟩:=hstep i ys H hlt ok;refine .inr ⟨go,λx H' y=>⟨⟨by simp,λj v hv=> ?_⟩,?_⟩⟩
  .cases j with
   | zero=>rw[h00]at hv;cases hv
   | succ j=>rw[qq (by lia)];exact hv
  .unfold D8
   dsimp only
   rw[if_pos rfl];exact st x H' y _ λz H4 ok4=>⟨by have:=hlen i ys H ok;lia,n - (i+1),by lia,rfl,hlt,ok4⟩
 .have e:i=n:=by lia
  subst e;exact .inl (hst ys H ok)
theorem SC(Ok:Nat->List V->Hp->Prop)(hn:n<=sizeLine)(h00:σ0[0]? =some none)(h0:Ok 0 [] H1)(hlen:∀i ys H,Ok i ys H->ys.length<=i)(hfin:∀ys H,Ok n ys H->fin ys H)
  (hstep:∀i ys H,i<n->Ok i ys H->∀R:VK,(∀y H4,Ok (i+1) (ys++[y]) H4->R y H4)->te (σ0.set 0 (some (.int (lo+i)))) H R):dX (Itr lo n) (cF 0) D8 te σ0 fin H1 :=
 UK n Ok hn h00 h0 hlen (λys H ok=>⟨aq _,hfin ys H ok⟩) λi ys H hi ok=>⟨hi,λx H' y=>by
  obtain⟨e1,e2⟩:=y;subst e1 e2;exact hstep i ys _ hi ok⟩
theorem Z9{x:V}(h:lM x=true):eqV x x=true:=by
 cases x<;>first|rfl|(simp[eqV];done)|exact absurd h bg
theorem DZ(n:Nat):(el n).all (λ_=>true)=true:=by simp
structure FunV(K:W.Frag)(x qual:Str)(st:Stmt)(f:Addr)(fd:gy):Prop where
 ex:∃(oc:ak) (od:Option Addr) (dV kV doc pm:ak) (an:Option Addr) (cdv ct:ak) (osl:Array (Option ak)),
  fd=W.fnOf x qual (d8 st) (dF st) (aG st) dV kV doc pm an cdv ct/\K.lookup f=some ⟨oc,od,.func fd,osl⟩/\W.codeIn K cdv qual=true
 kp:W.keepIn K (.ref f)=true
variable {fd:gy}{an od:Option Addr}
theorem FunV.ok{st:Stmt}{f:Addr}{ps:List Str}{k:Nat}{sp:Sp}(F:FunV K x qual st f fd)(S:aN N ps (aG st))(len:∀vs H Q E,sp vs H Q E->vs.length=ps.length)
  (hbody:∀(cdv:ak) (A:ke) (outer:List Env) (s:ba) (H:Hp) (vs:List V) (Q:VK) (E:XK),Room k (A.deeper (wo qual (aG st) s.heap.objs.size f cdv))->sp vs H Q E →
   ∃t,PSs (xJ CX0 P w K mg base N qual (aG st) f cdv A outer s H E).nox (dF st) t/\t { nx:=λ_ H'=>Q .non H',rt:=Q } (gY N vs) H):FnOk P w K mg base CX0 (k+1) f fd ps sp:=by
 obtain⟨oc,od,dV,kV,doc,pm,an,cdv,ct,osl,rfl,lk,hcd⟩:=F.ex;refine aGx lk hcd S len λA outer s H vs Q E hr h=> ?_;obtain⟨t,h1,h2⟩:=hbody cdv A outer s H vs Q E hr h;exact⟨t,PSs.nox h1,h2⟩
theorem rH{st:Stmt}{f:Addr}{osl:Array (Option ak)}{dV kV ct:ak}(l:K.lookup f=some ⟨oc,od,.func (W.fnOf x qual (d8 st) (dF st) (aG st) dV kV doc pm an cdv ct),osl⟩)(c:W.codeIn K cdv qual=true)
  (k:W.keepIn K (.ref f)=true):FunV K x qual st f (W.fnOf x qual (d8 st) (dF st) (aG st) dV kV doc pm an cdv ct):=⟨⟨oc,od,dV,kV,doc,pm,an,cdv,ct,osl,rfl,l,c⟩,k⟩
structure Mc(P:gd)(w:gx)(K:W.Frag)(mg:Str->Option ak)(base:Heap)(C:Addr)(nm:Str)(k:Nat)(sp:Sp):Prop where
 ex:∃f fd ps,Cls K C/\Meth K C nm f/\Binds K fd ps []/\FnOk P w K mg base CX0 k f fd ps sp
structure Kc(P:gd)(w:gx)(K:W.Frag)(mg:Str->Option ak)(base:Heap)(x:Str)(C:Addr)(k:Nat)(dvs:List V)(sp:Sp):Prop where
 ex:∃f fd ps ds,mg x=some (.ref C)/\Mk K C f/\Vals dvs ds/\Binds K fd ps ds/\FnOk P w K mg base CX0 k f fd ps sp
section
variable {k:Nat}{sp:Sp}{p:Pos}{o:Expr}{t:TA}
def tMD(M:Addr->Sp->Prop)(m:Str)(ta:TE)(t:TA):TE:=λσ H Q=>ta σ H λx H1=>∃a C dx fs sp,x= .ref a/\H1 a=some (.ins C dx fs)/\fs.lookup m=none/\M C sp/\t σ H1 λvs H2=>sp (x::vs) H2 Q E0
theorem cQ(k:Nat){pl:Sem Bool}(hr:Room k' X.A)(ho:PE X o ta)(ha:PA X (e::es) t)(hk:k<=k':=by decide)
  (hst:cy (e::es) X.env=(false,eval e X.env)::cy es X.env:=by rfl)(hpl:(jl pos (cy es X.env)).any (·.1)=false:=by rfl)
  (ht:eval (.Call (.Attribute o m apos) (e::es) [] pos) X.env=(do
   let ov ←eval o X.env
   yg apos.atName
   let (f,first) ←uk [ov] (qg ov m pl)
   xv pos f first (jl pos (cy (e::es) X.env)) (ub pos (mh [] X.env))):=by rfl) :
  PE X (.Call (.Attribute o m apos) (e::es) [] pos) (tMD (λC sp=>Mc X.prog X.w X.K X.mg X.base C m k sp) m ta t):=by
 intro pins s σ H Q I h;refine W.methodCall_KW (pl:=pl) (thn (ho pins s σ H _ I h) ?_) ht;rintro u s1 ⟨x,H1,I1,rx,a,C,dx,fs,sp,ex,ea,l,M,q⟩;subst ex;obtain rfl:u=cu a:=rx;obtain⟨f,fd,ps,c,hm,hb,F⟩:=M.ex;refine FD I1 ea c hm l ?_;refine W.callWith_K (first:=[.ref a]) (h₀:=X.base) I.ok.mod.kin hm.kp (thn (ha pos pins s1 σ H1 _ I1 q) ?_) hst hpl;rintro us s2 ⟨vs,H2,I2,r,q2⟩;refine⟨I2.kIn,?_⟩;exact vW (us:= .ref a::us) (vs:= .ref a::vs) (dvs:=[]) F (hr.mono hk) hb .nil t7 I2 (.cons rfl r) (by rw[dj];exact q2)
theorem cA(k:Nat){pl:Sem Bool}(hr:Room k' X.A)(ho:PE X o ta)(hk:k<=k':=by decide)
  (ht:eval (.Call (.Attribute o m apos) [] [] pos) X.env=(do
   let ov ←eval o X.env
   yg apos.atName
   let (f,first) ←uk [ov] (qg ov m pl)
   xv pos f first (jl pos (cy [] X.env)) (ub pos (mh [] X.env))):=by rfl) :
  PE X (.Call (.Attribute o m apos) [] [] pos) (tMD (λC sp=>Mc X.prog X.w X.K X.mg X.base C m k sp) m ta GJ):=by
 intro pins s σ H Q I h;refine W.methodCall_KW (pl:=pl) (thn (ho pins s σ H _ I h) ?_) ht;rintro u s1 ⟨x,H1,I1,rx,a,C,dx,fs,sp,ex,ea,l,M,q⟩;subst ex;obtain rfl:u=cu a:=rx;obtain⟨f,fd,ps,c,hm,hb,F⟩:=M.ex;refine FD I1 ea c hm l ?_;exact W.callWith_K0 (first:=[.ref a]) I1.kIn hm.kp (vW (us:=[.ref a]) (vs:=[.ref a]) (dvs:=[]) F (hr.mono hk) hb .nil t7 I1 (.cons rfl .nil) q)
theorem uI(F:Kc X.prog X.w X.K X.mg X.base x C k dvs sp)(hr:Room k' X.A)(ha:PA X (e::es) t)(hk:k+1<=k':=by decide)(hg:Gl X x:=by rfl)
  (hdb:(x==("__debug__" :Str))=false:=by decide)(he:cy (e::es) X.env=(false,eval e X.env)::cy es X.env:=by rfl)(hpl:(jl pos (cy es X.env)).any (·.1)=false:=by rfl) :
  PE X (.Call (.Name x p) (e::es) [] pos) (EI C sp dvs E0 t):=by
 obtain⟨f,fd,ps,ds,hm,M,hd,hb,G⟩:=F.ex;exact aCS M G (hr.mono hk) hg hm hb hd t7 ha hdb he hpl
structure Dc(P:gd)(w:gx)(K:W.Frag)(mg:Str->Option ak)(base:Heap)(x m:Str)(k:Nat)(sp:Sp):Prop where
 ex:∃C f fd ps,mg x=some (.ref C)/\W.specialIn K (.ref C) "__getattribute__" =some (some (.builtin "type.__getattribute__"))/\W.readsIn K C (.type "type")=true/\W.findCls K (.ref C) (.type "type") m=some (.val (.ref f)) ∧
  W.keepIn K (.ref f)=true/\Binds K fd ps []/\FnOk P w K mg base CX0 k f fd ps sp
theorem K5{pl:Sem Bool}(F:Dc X.prog X.w X.K X.mg X.base x m k sp)(hr:Room k' X.A)(ha:PA X (e::es) t)(hk:k<=k':=by decide)(hg:Gl X x:=by rfl)(hdb:(x==("__debug__" :Str))=false:=by decide)
  (hst:cy (e::es) X.env=(false,eval e X.env)::cy es X.env:=by rfl)(hpl:(jl pos (cy es X.env)).any (·.1)=false:=by rfl)
  (ht:eval (.Call (.Attribute (.Name x p) m apos) (e::es) [] pos) X.env=(do
   let ov ←eval (.Name x p) X.env
   yg apos.atName
   let (f,first) ←uk [ov] (qg ov m pl)
   xv pos f first (jl pos (cy (e::es) X.env)) (ub pos (mh [] X.env))):=by rfl) :
  PE X (.Call (.Attribute (.Name x p) m apos) (e::es) [] pos) (wW sp [] E0 t):=by
 intro pins s σ H Q I h;obtain⟨C,f,fd,ps,hm,hga,hrd,hfc,kp,hb,G⟩:=F.ex;refine W.methodCall_KW (pl:=pl) (rF I hg hm ?_ hdb) ht;refine W.method_cls I.kIn hga (W.cls_value I.kIn hrd hfc (AE (v:= .ref f) rfl) ?_);have I1:=I.tok (s.toks+1);refine W.callWith_K (first:=[]) (h₀:=X.base) I.ok.mod.kin kp (thn (ha pos pins _ σ H _ I1 h) ?_) hst hpl;rintro us s2 ⟨vs,H2,I2,r,q2⟩;refine⟨I2.kIn,?_⟩;exact vW G (hr.mono hk) hb .nil t7 I2 r q2
end
def aA3:R2:=λx y H Q=>∃i j,x= .str i/\y= .str j/\i.length+j.length<=sizeLine/\Q (.str (i++j)) H
def aFu:R2:=λx y H Q=>y= .non/\Q (.bl (decide (x= .non))) H
def KO:R2:=λx y H Q=>y= .non/\Q (.bl (!decide (x= .non))) H
def aGP:R2:=λx y H Q=>∃i j,x= .str i/\y= .str j/\Q (.bl (!decide (j.cps.toList<i.cps.toList))) H
def aG4(K:W.Frag):List V->Hp->VK->Prop:=λxs H Q=>∃x c t u b,xs=[x,c]/\kO K H x t/\RelV c u/\W.kitOne K t u=some b/\Q (.bl b) H
def aG3(K:W.Frag):List V->Hp->VK->Prop:=λxs H Q=>∃(p:Addr) (bs:List Bool),xs=[.ref p]/\SqL K H p (bs.map V.bl)/\Q (.bl (bs.all id)) H
def aFZ:List V->Hp->VK->Prop:=λxs H Q=>∃z,xs=[.str z]/\z.length<=sizeLine/\Q (.int z.length) H
def aBx(K:W.Frag):List V->Hp->VK->Prop:=λxs H Q=>∃p ys,xs=[.ref p]/\(SqL K H p ys∨SqT K H p ys)/\Q (.int ys.length) H
def aBB:List V->Hp->VK->Prop:=λxs H Q=>∃i j,xs=[.int i,.int j]/\Q (.int (if j<i then j else i)) H
theorem aCd:OpR X (ky .Add) aA3:=SO
theorem aFF:OpR X (gg .Is) aFu:=aFq
theorem G7:OpR X (gg .IsNot) KO:=aC2
theorem V9:OpR X (gg .LtE) aGP:=XU
theorem DY:dZ X (.builtin "isinstance") (aG4 X.K):=O4
theorem Y0(hc:X.calm=true):dZ X (.builtin "all") (aG3 X.K):=GT hc
theorem XW:dZ X (.builtin "len") aFZ:=MH
theorem dU:dZ X (.builtin "len") (aBx X.K):=NJ
theorem zO(hc:X.calm=true):dZ X (.builtin "min") aBB:=UU hc
theorem eQ{j:Int}(n:Int){k1 k2 p1 p2 pos}(h:i^j.toNat=n)(c:aDZ i j):PE X (.BinOp (.Constant (.int i) k1 p1) .Pow (.Constant (.int j) k2 p2) pos) (tC (.int n)):=by
 subst h;intro pins s σ H Q I q;exact aK aEg aD aD pins s σ H Q I ⟨i,j,rfl,rfl,c,q⟩
def BS(P:Bool->Hp->Prop):VK:=λx H=>∃k,x= .bl k/\P k H
def aEa(O:Option Int->Hp->Prop):VK:=λx H=>∃i,x= .int i/\O (some i) H
def aE2(Q:VK):List V->Hp->Prop:=λxs H=>xs.length<=sizeLine/\∀p,H p=none->Q (.ref p) (upd H p (.lst xs))
def aDX(Q:VK):List V->Hp->Prop:=λxs H=>xs.length<=sizeLine/\∀p,H p=none->Q (.ref p) (upd H p (.tup xs))
def aEx(Q:VK):List V->Hp->Prop:=λys H=>∀p,H p=none->Q (.ref p) (upd H p (.lst ys))
def aFK(K:W.Frag)(f:Str)(Q:VK):VK:=λx H=>∃a C dx fs v,x= .ref a/\H a=some (.ins C dx fs)/\Cls K C/\NoAttr K C f/\fs.lookup f=some v/\Q v H
def aBz(K:W.Frag)(f:Str)(y:V)(q:Hp->Prop):VK:=λx H=>∃a C dx fs,x= .ref a/\H a=some (.ins C dx fs)/\Cls K C/\NoAttr K C f/\fs.length<1000/\q (upd H a (.ins C dx (bT f y fs)))
def MdP(M:Addr->Sp->Prop)(m:Str)(t:TA)(σ:St)(Q:VK):VK:=λx H=>∃a C dx fs sp,x= .ref a/\H a=some (.ins C dx fs)/\fs.lookup m=none/\M C sp/\t σ H λvs H2=>sp (x::vs) H2 Q E0
def lX(C:Addr)(sp:Sp)(dvs:List V)(E:XK)(Q:VK):List V->Hp->Prop:=λvs H1=>∀x dx,H1 x=none->H1 dx=none->dx≠x →
 sp (.ref x::(vs++dvs)) (upd (upd H1 dx (.own x)) x (.ins C dx [])) (λv H2=>v= .non/\Q (.ref x) H2) E
def BmP(K:W.Frag)(T:String)(r:V->List V->Hp->VK->Prop)(t:TA)(σ:St)(Q:VK):VK:=λx H1=>tyV K T x H1/\t σ H1 λxs H2=>r x xs H2 Q
def aEh(K:W.Frag)(T:String)(r:V->List V->Hp->VK->Prop)(Q:VK):VK:=λx H1=>tyV K T x H1/\r x [] H1 Q
def aEd(K:W.Frag)(R:It->Hp->Prop):VK:=λx H1=>∃a,x= .ref a/\(∃xs,SqL K H1 a xs)/\R (Itl K a) H1
def aFz(R:It->Hp->Prop):List V->Hp->Prop:=λvs H1=>∃j:Int,vs=[.int j]/\ -(2^62)<=j/\j<2^62/\R (Itr 0 j.toNat) H1
def aFf(R:It->Hp->Prop):List V->Hp->Prop:=λvs H1=>∃i j:Int,vs=[.int i,.int j]/\(-(2^62)<=i/\i<2^62/\ -(2^62)<=j/\j<2^62)/\R (Itr i (j - i).toNat) H1
variable {tb:TS}{hi:Option Int}{r:V->List V->Hp->VK->Prop}{gs:TGs}{Q rt:VK}{ct nx:St->Hp->Prop}
section
variable {bk:St->Hp->Prop}{t u:TS}{tb tc:TE}{c d:TT}{E:XK}
theorem aEn(h:t ⟨u ⟨nx,rt,bk,ct⟩,rt,bk,ct⟩ σ H):NQ t u ⟨nx,rt,bk,ct⟩ σ H:=h
theorem lE(R:St->Hp->Prop)(h2:∀σ' H',R σ' H'->u ⟨nx,rt,bk,ct⟩ σ' H')(h1:∀nx':St->Hp->Prop,(∀σ' H',R σ' H'->nx' σ' H')->t ⟨nx',rt,bk,ct⟩ σ H):NQ t u ⟨nx,rt,bk,ct⟩ σ H:=h1 _ h2
theorem YH{v:TS}(h:NQ (SN c t u) v ⟨nx,rt,bk,ct⟩ σ H):NQ (SN c t u) v ⟨nx,rt,bk,ct⟩ σ H:=h
theorem aCi(h:nx σ H):aBo ⟨nx,rt,bk,ct⟩ σ H:=h
theorem aE5(h:te σ H λx H1=>g x σ H1 nx):SX te g ⟨nx,rt,bk,ct⟩ σ H:=h
theorem aFL(h:te σ H rt):aFp te ⟨nx,rt,bk,ct⟩ σ H:=h
theorem aCr(h:te σ H λ_ H1=>nx σ H1):aBh te ⟨nx,rt,bk,ct⟩ σ H:=h
theorem aGB(h:c σ H λb H1=>if b=true then t ⟨nx,rt,bk,ct⟩ σ H1 else u ⟨nx,rt,bk,ct⟩ σ H1):SN c t u ⟨nx,rt,bk,ct⟩ σ H:=h
theorem aFx{i:Nat}{ti:TIp}(h:jI i σ H λx H0=>te σ H0 λy H1=>ti x y H1 λz H2=>cF i z σ H2 nx):aFA i te ti ⟨nx,rt,bk,ct⟩ σ H:=by
 obtain⟨x,e,q⟩:=h;exact⟨x,e,q⟩
def MP(J:It)(g:TG)(tb:TS)(D:gX)(σ:St)(H:Hp):Prop :=
 ∃W:Nat->Nat->St->Hp->Prop,(∃m,W 0 m σ H)/\∀i m σ H,W i m σ H →
  (J.stop i H/\D.nx σ H)∨(J.go i H/\∃N:St->Hp->Prop,(∀σ' H',N σ' H'->∃m',m'<m/\W (i+1) m' σ' H')/\∀x H',J.yld i H x H'->g x σ H' λσ2 H2=>tb { D with nx:=N,ct:=N,bk:=D.nx } σ2 H2)
theorem aEY{tb:TS}(h:wi σ H λJ H1=>MP J g tb ⟨nx,rt,bk,ct⟩ σ H1):aEu wi g tb ⟨nx,rt,bk,ct⟩ σ H:=h
theorem aF5{l:St}(h:Q v H):jI 0 (some v::l) H Q:=⟨v,rfl,h⟩
theorem aGb{a0}{l:St}(h:Q v H):jI 1 (a0::some v::l) H Q:=⟨v,rfl,h⟩
theorem aGy{a0 a1}{l:St}(h:Q v H):jI 2 (a0::a1::some v::l) H Q:=⟨v,rfl,h⟩
theorem aGk{a0 a1 a2}{l:St}(h:Q v H):jI 3 (a0::a1::a2::some v::l) H Q:=⟨v,rfl,h⟩
theorem aGh{a0 a1 a2 a3}{l:St}(h:Q v H):jI 4 (a0::a1::a2::a3::some v::l) H Q:=⟨v,rfl,h⟩
theorem aGc{a0 a1 a2 a3 a4}{l:St}(h:Q v H):jI 5 (a0::a1::a2::a3::a4::some v::l) H Q:=⟨v,rfl,h⟩
theorem aGC{a0 a1 a2 a3 a4 a5}{l:St}(h:Q v H):jI 6 (a0::a1::a2::a3::a4::a5::some v::l) H Q:=⟨v,rfl,h⟩
theorem aF2{a0 a1 a2 a3 a4 a5 a6}{l:St}(h:Q v H):jI 7 (a0::a1::a2::a3::a4::a5::a6::some v::l) H Q:=⟨v,rfl,h⟩
theorem aGu{a0 a1 a2 a3 a4 a5 a6 a7}{l:St}(h:Q v H):jI 8 (a0::a1::a2::a3::a4::a5::a6::a7::some v::l) H Q:=⟨v,rfl,h⟩
theorem aGi{a0 a1 a2 a3 a4 a5 a6 a7 a8}{l:St}(h:Q v H):jI 9 (a0::a1::a2::a3::a4::a5::a6::a7::a8::some v::l) H Q:=⟨v,rfl,h⟩
theorem aEr{a0 a1 a2 a3 a4 a5 a6 a7 a8 a9}{l:St}(h:Q v H):jI 10 (a0::a1::a2::a3::a4::a5::a6::a7::a8::a9::some v::l) H Q:=⟨v,rfl,h⟩
theorem aFG{a0 a1 a2 a3 a4 a5 a6 a7 a8 a9 a10}{l:St}(h:Q v H):jI 11 (a0::a1::a2::a3::a4::a5::a6::a7::a8::a9::a10::some v::l) H Q:=⟨v,rfl,h⟩
variable {q:St->Hp->Prop}
theorem aGo{a}{l:St}(h:q (some v::l) H):cF 0 v (a::l) H q:=h
theorem aGI{a0 a}{l:St}(h:q (a0::some v::l) H):cF 1 v (a0::a::l) H q:=h
theorem aGs{a0 a1 a}{l:St}(h:q (a0::a1::some v::l) H):cF 2 v (a0::a1::a::l) H q:=h
theorem aGD{a0 a1 a2 a}{l:St}(h:q (a0::a1::a2::some v::l) H):cF 3 v (a0::a1::a2::a::l) H q:=h
theorem aGF{a0 a1 a2 a3 a}{l:St}(h:q (a0::a1::a2::a3::some v::l) H):cF 4 v (a0::a1::a2::a3::a::l) H q:=h
theorem aGq{a0 a1 a2 a3 a4 a}{l:St}(h:q (a0::a1::a2::a3::a4::some v::l) H):cF 5 v (a0::a1::a2::a3::a4::a::l) H q:=h
theorem aGg{a0 a1 a2 a3 a4 a5 a}{l:St}(h:q (a0::a1::a2::a3::a4::a5::some v::l) H):cF 6 v (a0::a1::a2::a3::a4::a5::a::l) H q:=h
theorem aF4{a0 a1 a2 a3 a4 a5 a6 a}{l:St}(h:q (a0::a1::a2::a3::a4::a5::a6::some v::l) H):cF 7 v (a0::a1::a2::a3::a4::a5::a6::a::l) H q:=h
theorem aGz{a0 a1 a2 a3 a4 a5 a6 a7 a}{l:St}(h:q (a0::a1::a2::a3::a4::a5::a6::a7::some v::l) H):cF 8 v (a0::a1::a2::a3::a4::a5::a6::a7::a::l) H q:=h
theorem aF6{a0 a1 a2 a3 a4 a5 a6 a7 a8 a}{l:St}(h:q (a0::a1::a2::a3::a4::a5::a6::a7::a8::some v::l) H):cF 9 v (a0::a1::a2::a3::a4::a5::a6::a7::a8::a::l) H q:=h
theorem aFC{a0 a1 a2 a3 a4 a5 a6 a7 a8 a9 a}{l:St}(h:q (a0::a1::a2::a3::a4::a5::a6::a7::a8::a9::some v::l) H):cF 10 v (a0::a1::a2::a3::a4::a5::a6::a7::a8::a9::a::l) H q:=h
theorem aEk{a0 a1 a2 a3 a4 a5 a6 a7 a8 a9 a10 a}{l:St}(h:q (a0::a1::a2::a3::a4::a5::a6::a7::a8::a9::a10::some v::l) H):cF 11 v (a0::a1::a2::a3::a4::a5::a6::a7::a8::a9::a10::a::l) H q:=h
theorem aG0(h:Q v H):tC v σ H Q:=h
theorem aGr{r:R2}(h:ta σ H λx H1=>tb σ H1 λy H2=>r x y H2 Q):tOp r ta tb σ H Q:=h
theorem aGj{r:V->Hp->VK->Prop}(h:ta σ H λx H1=>r x H1 Q):tUn r ta σ H Q:=h
theorem aGf{f:Int->Int->V}{j:Int}(h:Q (f i j) H):rI0 f (.int i) (.int j) H Q:=⟨i,j,rfl,rfl,h⟩
theorem aGU{f:Int->V}(h:Q (f i) H):rU f (.int i) H Q:=⟨i,rfl,h⟩
theorem aD3{f:Int->Int->V}{j:Int}(h0:0<j)(h1:j<1073741824)(h:Q (f i j) H):rI aEw f (.int i) (.int j) H Q:=⟨i,j,rfl,rfl,⟨h0,h1⟩,h⟩
theorem aE9{f:Int->Int->V}{j:Int}(h0:0<j)(h:Q (f i j) H):rI (λ_ j=>0<j) f (.int i) (.int j) H Q:=⟨i,j,rfl,rfl,h0,h⟩
theorem aB0{f:Int->Int->V}{j:Int}(h0: -18446744073709551616<i)(h1:i<18446744073709551616)(h:Q (f i j) H):rI CMul f (.int i) (.int j) H Q:=⟨i,j,rfl,rfl,.inl ⟨by lia,by lia⟩,h⟩
theorem aDn{f:Int->Int->V}{j:Int}(h0: -18446744073709551616<j)(h1:j<18446744073709551616)(h:Q (f i j) H):rI CMul f (.int i) (.int j) H Q:=⟨i,j,rfl,rfl,.inr ⟨by lia,by lia⟩,h⟩
theorem V0{f:Int->Int->V}{j:Int}(h0:0<=j)(h:Q (f i j) H):rI (λ_ j=>0<=j) f (.int i) (.int j) H Q:=⟨i,j,rfl,rfl,h0,h⟩
theorem aA7{j:Int}:decide (V.int i=V.int j)=decide (i=j):=by simp
theorem aGA{i j:Str}:decide (V.str i=V.str j)=decide (i=j):=by simp
theorem aEQ{j:Int}(h:Q (.bl (decide (i=j))) H):rEq (.int i) (.int j) H Q:=⟨rfl,by rw[aA7];exact h⟩
theorem aER{i j:Str}(h:Q (.bl (decide (i=j))) H):rEq (.str i) (.str j) H Q:=⟨rfl,by rw[aGA];exact h⟩
theorem aFt{j:Int}(h:Q (.bl (!decide (i=j))) H):rNe (.int i) (.int j) H Q:=⟨rfl,by rw[aA7];exact h⟩
theorem aB2(h:Q (.bl (decide (v= .non))) H):aFu v .non H Q:=⟨rfl,h⟩
theorem aCD(h:Q (.bl false) H):KO .non .non H Q:=⟨rfl,h⟩
theorem aDj{i:Str}(h:Q (.bl true) H):KO (.str i) .non H Q:=⟨rfl,by rw[decide_eq_false (λz=>by cases z)];exact h⟩
theorem aCq(h:Q (.bl true) H):KO (.int i) .non H Q:=⟨rfl,by rw[decide_eq_false (λz=>by cases z)];exact h⟩
theorem aB1{i j:Str}(hl:i.length+j.length<=sizeLine)(h:Q (.str (i++j)) H):aA3 (.str i) (.str j) H Q:=⟨i,j,rfl,rfl,hl,h⟩
theorem aDv(h:ta σ H (BS λc H1=>if c=true then tb σ H1 Q else Q (.bl false) H1)):aBA ta tb σ H Q:=h
theorem aED(h:ta σ H (BS λc H1=>if c=true then Q (.bl true) H1 else tb σ H1 Q)):aE6 ta tb σ H Q:=h
theorem aEm(h:c σ H λk H1=>if k=true then ta σ H1 Q else tb σ H1 Q):tIf c ta tb σ H Q:=h
theorem Z7{r r':R2}(h:ta σ H λx H1=>tb σ H1 λy H2=>r x y H2 (BS λk H3=>if k=true then tc σ H3 λw' H4=>r' y w' H4 Q else Q (.bl false) H3)):N8 r r' ta tb tc σ H Q:=h
theorem aCY{sp:Sp}{t:TA}(h:t σ H λvs H1=>sp vs H1 Q E):wW sp [] E t σ H Q:=by
 unfold wW;simp only[dj];exact h
theorem aGm{r:List V->Hp->VK->Prop}{t:TA}(h:t σ H λvs H1=>r vs H1 Q):tCB r t σ H Q:=h
theorem aFE{t:TA}(h:t σ H (aE2 Q)):aES t σ H Q:=h
theorem aEO{t:TA}(h:t σ H (aDX Q)):aE8 t σ H Q:=h
theorem fA{o:HO}{R:V->Hp->Prop}(h:∀p H',H p=none->Same H H'->H' p=some o->R (.ref p) H'):∀p,H p=none->R (.ref p) (upd H p o) :=
 λp hp=>h p _ hp (λb u e=>by rw[aI (bA e hp)];exact e) aR
theorem aCL(hn:xs.length<=sizeLine)(h:∀p H',H p=none->Same H H'->H' p=some (.lst xs)->Q (.ref p) H'):aE2 Q xs H:=⟨hn,fA h⟩
theorem aCy(hn:xs.length<=sizeLine)(h:∀p H',H p=none->Same H H'->H' p=some (.tup xs)->Q (.ref p) H'):aDX Q xs H:=⟨hn,fA h⟩
theorem aDH(h:∀p H',H p=none->Same H H'->H' p=some (.lst xs)->Q (.ref p) H'):aEx Q xs H:=fA h
theorem aFc{f:Str}(h:ta σ H (aFK K f Q)):aAa K ta f σ H Q:=h
theorem aCE{fs:List (Str×V)}{f:Str}(e:H a=some (.ins C dx fs))(cl:Cls K C)(na:NoAttr K C f)(l:fs.lookup f=some v)(h:Q v H):aFK K f Q (.ref a) H:=⟨a,C,dx,fs,v,rfl,e,cl,na,l,h⟩
theorem aCA{f:Str}(h:ta σ H λy H1=>tb σ H1 (aBz K f y (nx σ))):aFd K tb ta f ⟨nx,rt,bk,ct⟩ σ H:=h
theorem aAg{fs:List (Str×V)}{f:Str}{y:V}{w:Hp->Prop}(e:H a=some (.ins C dx fs))(cl:Cls K C)(na:NoAttr K C f)(l:decide (fs.length<1000)=true)
  (h:∀H',(∀b o,H b=some o->b≠a->H' b=some o)->H' a=some (.ins C dx (bT f y fs))->w H'):aBz K f y w (.ref a) H :=
 ⟨a,C,dx,fs,rfl,e,cl,na,of_decide_eq_true l,h _ (λb o q hb=>by rw[aI hb];exact q) aR⟩
theorem aF1{M:Addr->Sp->Prop}{t:TA}(h:ta σ H (MdP M m t σ Q)):tMD M m ta t σ H Q:=h
theorem aD1{M:Addr->Sp->Prop}{t:TA}{fs:List (Str×V)}{sp:Sp}(e:H a=some (.ins C dx fs))(l:fs.lookup m=none)(F:M C sp)(h:t σ H λvs H2=>sp (.ref a::vs) H2 Q E0):MdP M m t σ Q (.ref a) H :=
 ⟨a,C,dx,fs,sp,rfl,e,l,F,h⟩
theorem aB5{sp:Sp}{t:TA}(h:t σ H (lX C sp dvs E Q)):EI C sp dvs E t σ H Q:=h
theorem m8{sp:Sp}{fs:List (Str×V)}
  (hsp:∀p dx H0 (Q':VK),H0 p=some (.ins C dx [])->(∀H',(∀b o,H0 b=some o->b≠p->H' b=some o)->H' p=some (.ins C dx fs)->Q' .non H')->Same H H0->sp (.ref p::(vs++dvs)) H0 Q' E)
  (k:∀p dx H',H p=none->Same H H'->H' p=some (.ins C dx fs)->Q (.ref p) H'):lX C sp dvs E Q vs H:=by
 intro x dx nx nd ne;have s0:Same H (upd (upd H dx (.own x)) x (.ins C dx [])):=λb o e=>by
  rw[aI (bA e nx),aI (bA e nd)];exact e
 exact hsp x dx _ _ aR (λH' sb e=>⟨rfl,k x dx H' nx (λb o q=>sb b o (s0 b o q) (bA q nx)) e⟩) s0
theorem aCI(h:wi σ H λJ H1=>dX J g ti te (cD nl ci σ) (aEx Q) H1):SJ wi nl ci g ti te σ H Q:=h
theorem aGE{r:V->Option Int->Option Int->Hp->VK->Prop}{tl th:TO}(h:te σ H λx H1=>tl σ H1 λl H2=>th σ H2 λu H3=>r x l u H3 Q):tSl r te tl th σ H Q:=h
theorem XS{lo:Option Int}(e:SqL K H a xs)(h:∀p H',H p=none->Same H H'->H' p=some (.lst (DI xs lo hi))->Q (.ref p) H'):ZY K (.ref a) lo hi H Q:=⟨a,xs,rfl,e,fA h⟩
theorem aET(e:SqL K H p xs)(l:atI xs i=some v)(h:Q v H):AL K (.ref p) (.int i) H Q:=⟨p,xs,i,v,rfl,rfl,e,l,h⟩
theorem aB7{a b:Int}(e:SqL K H p [.int a,.int b])(h0:0<=i)(h1:i<2)(h:∀v,(i=0/\v=a)∨(i=1/\v=b)->Q (.int v) H):AL K (.ref p) (.int i) H Q:=by
 have:i=0∨i=1:=by lia
 rcases this with rfl|rfl
 .exact⟨p,_,0,_,rfl,rfl,e,rfl,h a (.inl ⟨rfl,rfl⟩)⟩
 .exact⟨p,_,1,_,rfl,rfl,e,rfl,h b (.inr ⟨rfl,rfl⟩)⟩
def ME(ns:List Int)(lo hi:Option Int):List Int:=(ns.drop (HT.sIx ns.length 0 lo)).take (HT.sIx ns.length ns.length hi - HT.sIx ns.length 0 lo)
theorem WF(ns:List Int)(lo hi:Option Int):DI (ns.map V.int) lo hi=(ME ns lo hi).map V.int:=by
 unfold DI ME;rw[ae,ym,List.map_drop]
theorem aEJ{ns:List Int}{lo:Option Int}(e:SqL K H a (ns.map V.int))(h:∀p H',H p=none->Same H H'->H' p=some (.lst ((ME ns lo hi).map V.int))->Q (.ref p) H'):ZY K (.ref a) lo hi H Q :=
 XS e (by rw[WF];exact h)
theorem DC{k:Int}{R:Hp->Prop}(e:H p=some (.lst xs))(l:ixN xs.length k=some j)(h:∀H',(∀b o,H b=some o->b≠p->H' b=some o)->H' p=some (.lst (xs.set j v))->R H'):aA5 (.ref p) (.int k) v H R :=
 ⟨p,xs,k,j,rfl,rfl,e,l,h _ (λb o q hb=>by rw[aI hb];exact q) aR⟩
theorem aCR{l b:Addr}{zs:List V}(e:H l=some (.lst xs))(e2:H b=some (.lst zs))(hn:xs.length+zs.length<=sizeLine)(h:∀p H',H p=none->Same H H'->H' p=some (.lst (xs++zs))->Q (.ref p) H'):aFv (.ref l) (.ref b) H Q :=
 ⟨l,b,xs,zs,rfl,rfl,e,e2,hn,fA h⟩
theorem aF7{t:TA}(h:to σ H (BmP K T r t σ Q)):tBM K T r to t σ H Q:=h
theorem aEF(h:to σ H (aEh K T r Q)):aFH K T r to σ H Q:=h
theorem aFb{t:TA}(e:SqL K H p xs)(h:t σ H λxs H2=>r (.ref p) xs H2 Q):BmP K "list" r t σ Q (.ref p) H:=⟨.inl ⟨rfl,xs,e⟩,h⟩
theorem aDD(h:r (.int i) [] H Q):aEh K "int" r Q (.int i) H:=⟨rfl,h⟩
structure ICls(K:W.Frag)(C:Addr):Prop where
 cl:Cls K C
 ha:W.findIn K (.ref C) "__class__" =some (some (.builtin "object.__class__"))
 hn:W.specialIn K (.builtin "object.__class__") "__get__" =some (some (.builtin "getset_descriptor.__get__"))
 tk:W.takesIn K (.builtin "object.__class__")=some true
 hm:W.mroIn K C (.type "object")=some true
theorem aDi(e:SqL K H p ys)(h:Q (.int ys.length) H):aBx K [.ref p] H Q:=⟨p,ys,rfl,.inl e,h⟩
theorem aDt{j:Int}(h:Q (.int (min i j)) H):aBB [.int i,.int j] H Q:=⟨i,j,rfl,by
 have e:(if j<i then j else i)=min i j:=by lia
 rw[e];exact h⟩
variable {B:Bool->Hp->Prop}
theorem aDd(h:te σ H (BS B)):T5 te σ H B:=h
theorem aF3(h:te σ H (BS B)):tB te σ H B:=h
theorem aEA(h:c σ H λk H1=>if k=true then d σ H1 B else B false H1):aEp c d σ H B:=h
theorem aF8(h:c σ H λk H1=>if k=true then B true H1 else d σ H1 B):tOr c d σ H B:=h
theorem aEH(h:c σ H λk H1=>B (!k) H1):aD6 c σ H B:=h
theorem aFP{b:Bool}{P:Bool->Hp->Prop}(h:P b H):BS P (.bl b) H:=⟨b,rfl,h⟩
theorem K9{A B:Prop}(h:A):if true=true then A else B:=by rw[if_pos rfl];exact h
theorem NG{A B:Prop}(h:B):if false=true then A else B:=by rw[if_neg bg];exact h
theorem aCk{A B:Prop}(h:B):if (!true)=true then A else B:=NG h
theorem aB8{A B:Prop}(h:A):if (!false)=true then A else B:=K9 h
theorem aFe{p A B:Prop}[Decidable p](hp:¬p)(h:B):if decide p=true then A else B:=by rw[if_neg (by rw[decide_eq_false hp];exact bg)];exact h
theorem aB3{p A B:Prop}[Decidable p](hp:p)(h:B):if (!decide p)=true then A else B:=by rw[decide_eq_true hp];exact NG h
theorem aCz{p A B:Prop}[Decidable p](hp:¬p)(h:A):if (!decide p)=true then A else B:=by rw[decide_eq_false hp];exact K9 h
theorem bR{p A B:Prop}[Decidable p](h1:p->A)(h2:¬p->B):if decide p=true then A else B:=HQ (λh=>h1 (of_decide_eq_true h)) λh=>h2 λz=>h (decide_eq_true z)
variable {L:List V->Hp->Prop}{O:Option Int->Hp->Prop}{tr:TA}
theorem aEV(h:L [] H):GJ σ H L:=h
theorem aDs(h:te σ H λx H1=>tr σ H1 λxs H2=>L (x::xs) H2):aA1 te tr σ H L:=h
theorem WJ(h:O none H):RC σ H O:=h
theorem aDF(h:te σ H (aEa O)):aAV te σ H O:=h
theorem aEW(h:O (some i) H):aEa O (.int i) H:=⟨i,rfl,h⟩
theorem aCG(h:q σ H):L1 [] σ H q:=⟨rfl,h⟩
theorem Y6(h:g v σ H λσ' H'=>gs vs σ' H' q):qT g gs (v::vs) σ H q:=⟨v,vs,rfl,h⟩
theorem aBF(e:SqT K H a vs)(hl:vs.length=n)(h:gs vs σ H q):F9 K n gs (.ref a) σ H q:=⟨a,vs,rfl,e,hl,h⟩
variable {R:It->Hp->Prop}
theorem aAL(h:te σ H (aEd K R)):aBq K te σ H R:=h
theorem IO(e:SqL K H a xs)(h:R (Itl K a) H):aEd K R (.ref a) H:=⟨a,rfl,⟨xs,e⟩,h⟩
theorem Z8(h:tr σ H (aFz R)):aBm tr σ H R:=h
theorem VJ{j:Int}(h0: -4611686018427387904<=j)(h1:j<4611686018427387904)(h:R (Itr 0 j.toNat) H):aFz R [.int j] H:=⟨j,rfl,by lia,by lia,h⟩
theorem ZL(h:tr σ H (aFf R)):aA9 tr σ H R:=h
theorem VY{j:Int}(h0: -4611686018427387904<=i)(h1:i<4611686018427387904)(h2: -4611686018427387904<=j)(h3:j<4611686018427387904)(h:R (Itr i (j - i).toNat) H):aFf R [.int i,.int j] H:=⟨i,j,rfl,⟨by lia,by lia,by lia,by lia⟩,h⟩
theorem c6{tb:TS}(xs:List V)(Pv:Nat->St->Hp->Prop)(h0:Pv 0 σ H)(hl:∀i σ H,i<=xs.length->Pv i σ H->SqL K H a xs)
  (hs:∀i x σ H,xs[i]? =some x->Pv i σ H->g x σ H λσ2 H2=>tb ⟨Pv (i+1),rt,nx,Pv (i+1)⟩ σ2 H2)(hd:∀σ H,Pv xs.length σ H->nx σ H):MP (Itl K a) g tb ⟨nx,rt,bk,ct⟩ σ H :=
 YT (D:=⟨nx,rt,bk,ct⟩) Pv h0 hl hs hd
theorem vQ{tb:TS}(Pv:Nat->St->Hp->Prop)(h0:Pv 0 σ H)
  (hs:∀i σ H,i<n->Pv i σ H->g (.int (lo+i)) σ H λσ2 H2=>tb ⟨Pv (i+1),rt,nx,Pv (i+1)⟩ σ2 H2)(hd:∀σ H,Pv n σ H->nx σ H):MP (Itr lo n) g tb ⟨nx,rt,bk,ct⟩ σ H :=
 W2 (D:=⟨nx,rt,bk,ct⟩) Pv h0 hs hd
end
theorem AC(hr:ci.map (λi=>(σ[i]?).join)=rest):cD 1 ci σ=none::rest:=by
 unfold cD;rw[hr];rfl
theorem PJ(P:Nat->V->Prop)(hn:n<=sizeLine)(hr:ci.map (λi=>(σ[i]?).join)=rest)
  (hs:∀i H1,i<n->Same H H1->∀R:VK,(∀y H2,P i y->Same H1 H2->R y H2)->te (some (.int (lo+i))::rest) H1 R)
  (hf:∀ys H1,Same H H1->ys.length=n->(∀i y,ys[i]? =some y->P i y)->fin ys H1):dX (Itr lo n) (cF 0) D8 te (cD 1 ci σ) fin H:=by
 rw[AC hr];refine SC (λi ys H1=>Same H H1/\ys.length=i/\∀j y,ys[j]? =some y->P j y) hn rfl ⟨Same.refl _,rfl,λj y h=>by simp at h⟩ (λi ys H1 ok=>za ok.2.1) (λys H1 ok=>hf ys H1 ok.1 ok.2.1 ok.2.2) ?_;intro i ys H1 hi ⟨s1,hl,hp⟩ R hR;refine hs i H1 hi s1 R λy H2 hy s2=>hR y H2 ⟨s1.trans s2,by simp[hl],λj z hz=> ?_⟩
 by_cases hj:j<ys.length
 .rw[ft hj]at hz;exact hp j z hz
 .rw[gh (by lia)]at hz;have hj0:j - ys.length=0:=by
   cases e:j - ys.length with
   | zero=>rfl
   | succ k=>rw[e]at hz;simp at hz
  rw[hj0]at hz;have:z=y:=by simpa using hz.symm
  subst this;have:j=i:=by lia
  subst this;exact hy
theorem TV{α β:Type}{xs:List α}{ys:List β}{f:α->β}(hl:ys.length=xs.length)(h:∀(i:Nat) y,ys[i]? =some y->∃x,xs[i]? =some x/\y=f x):ys=xs.map f:=by
 apply List.ext_getElem?
 intro i;rw[bq];cases e:ys[i]? with
 | none =>
  have:xs[i]? =none:=by
   rw[List.getElem?_eq_none_iff]at e ⊢
   lia
  rw[this];rfl
 | some y =>
  obtain⟨x,hx,rfl⟩:=h i y e;rw[hx];rfl
theorem DW(f:Nat->V)(hn:n<=sizeLine)(hr:ci.map (λi=>(σ[i]?).join)=rest)
  (hs:∀i H1,i<n->Same H H1->∀R:VK,(∀H2,Same H1 H2->R (f i) H2)->te (some (.int (lo+i))::rest) H1 R)
  (hf:∀H1,Same H H1->fin ((el n).map f) H1):dX (Itr lo n) (cF 0) D8 te (cD 1 ci σ) fin H:=by
 refine PJ (λi y=>y=f i) hn hr (λi H1 hi s1 R hR=>hs i H1 hi s1 R λH2 s2=>hR _ H2 rfl s2) ?_;intro ys H1 s1 hl hp;have e:ys=(el n).map f:=by
  refine TV (by rw[hl,fk]) λi y hy=> ?_;have hi:i<n:=by
   rw[←hl];exact(av.mp hy).1
  exact⟨i,by simp[hi],hp i y hy⟩
 rw[e];exact hf H1 s1
theorem Same.at{b:Addr}{o:HO}(s:Same H H')(h:H b=some o):H' b=some o:=s b o h
def SameBut(p:Addr)(H H':Hp):Prop:=∀b o,H b=some o->b≠p->H' b=some o
theorem SameBut.upd{o:HO}:SameBut p H (upd H p o):=λb u e hb=>by rw[aI hb];exact e
theorem SameBut.trans(a:SameBut p H H1)(b:SameBut p H1 H2):SameBut p H H2:=λc o h hc=>b c o (a c o h hc) hc
theorem Same.but(s:Same H H'):SameBut p H H':=λb o e _=>s b o e
theorem SameBut.same{H0:Hp}(n:H0 p=none)(s:Same H0 H)(b:SameBut p H H'):Same H0 H':=λc o e=>b c o (s c o e) (bA e n)
theorem aJ{t:TS}{D:gX}(e:gY N vs=σ)(h:t D σ H):t D (gY N vs) H:=e▸h
theorem SameBut.refl:SameBut p H H:=λ_ _ e _=>e
theorem SameBut.snoc(b:∀c o,H1 c=some o->c≠p->H2 c=some o)(a:SameBut p H H1):SameBut p H H2:=λc o h hc=>b c o (a c o h hc) hc
theorem SameBut.snocS(b:Same H1 H2)(a:SameBut p H H1):SameBut p H H2:=λc o h hc=>b c o (a c o h hc)
theorem Same.snoc(b:Same H1 H2)(a:Same H H1):Same H H2:=a.trans b
theorem aCW{f:Str}{fs:List (Str×V)}:(bT f v fs).lookup f=some v:=by rw[oQ,if_pos rfl]
theorem aGd{f g:Str}{o:Option V}{fs:List (Str×V)}(h:decide (g=f)=false)(l:fs.lookup g=o):(bT f v fs).lookup g=o:=by rw[oQ,if_neg (of_decide_eq_false h)];exact l
theorem XX{f:Str}:([]:List (Str×V)).lookup f=none:=rfl
variable {items:Array ak}
section
variable {st:Stmt}{kV ct:ak}{ps:List Str}
theorem nQ(k:Nat){T:Addr}{ds:List ak}{sl:Array (Option ak)}(lt:K.lookup T=some ⟨oc,od,.seq items n,sl⟩)
  (h:∀us:List ak,us.length=k->∃k,bindArgs (W.fnOf x qual (d8 st) (dF st) (aG st) (.ref T) kV doc pm an cdv ct) ⟨us,[]⟩=seqItems? (.ref T) >>= k/\k (some items)=pure (ps.zip (us++ds)))(hk:k+ds.length=ps.length:=by rfl) :
  Binds K (W.fnOf x qual (d8 st) (dF st) (aG st) (.ref T) kV doc pm an cdv ct) ps ds:=λs us hK hl=>by
 obtain⟨k,h1,h2⟩:=h us (by rw[ao]at hl;lia);exact .of_defaults (T:=T) (items:=items) (n:=n) rfl (hK T _ lt) rfl h1 h2
end
theorem cT(s:String):(mx s).length=s.length:=by
 rw[Str.ofString_eq_toList];show (s.toList.map Char.toNat).toArray.size=_;rw[bj,ae,String.length_toList]
def sgB(c:Nat):Bool:=decide (97<=c)&&decide (c<=122)
def aE7(z:Str):Bool:=z.cps.toList.all sgB
def bD(z:Str):Bool:=decide (1<=(z.length:Int))&&decide ((z.length:Int)<=8)&&aE7 z
theorem XL(h:bD z=true):z.length<=8:=by
 unfold bD at h;simp only[dz,decide_eq_true_eq]at h
 lia
theorem ZS(h0:1<=z.length)(h1:z.length<=8)(h2:aE7 z=true):bD z=true:=by
 unfold bD;simp only[dz,decide_eq_true_eq];exact⟨⟨by lia,by lia⟩,h2⟩
theorem C0(x y:Str):(x++y).cps.toList=x.cps.toList++y.cps.toList:=by
 show (x.cps++y.cps).toList=_;simp
theorem uZ(x y:Str):(x++y).length=x.length+y.length:=by
 show (x.cps++y.cps).size=_;rw[Array.size_append];rfl
theorem GF(c:Nat):(⟨#[c]⟩:Str).length=1:=rfl
theorem aCh{y:Str}(h:x.cps.toList=y.cps.toList):x=y:=by
 cases x;cases y;have:_=_:=Array.ext' h;cases this;rfl
theorem FH{l:Addr}(hl:h.IsList l items)(x:uu it h h')(hne:l≠it):h'.IsList l items:=by
 obtain⟨o,ho,r⟩:=hl;exact⟨o,x l o hne ho,r⟩
theorem IU{t:Addr}(hne:t≠it):∀(n i:Nat) (s:ba) (Q:List ak->ba->Prop),s.heap.IsListIter it t i->s.heap.IsList t items->i+n<=items.size →
  (∀h':Heap,h'.IsListIter it t (i+n)->ip it s.heap h'->Q ((items.toList.drop i).take n) { s with heap:=h' })->cb (ck prog w) A (draw (.ref it) n) Q E s
 | 0,i,s,Q,hit,_,_,hQ=>by
  show cb _ _ (pure []) Q E s;exact ax (by simpa using hQ s.heap hit (ip.refl ..))
 | n+1,i,s,Q,hit,ht,hle,hQ=>by
  have hlt:i<items.size:=by lia
  show cb _ _ (qf (.ref it) >>= _) Q E s;refine af (wpAny_pyNext_list_item hit ht (x:=items[i]) (by simp[hlt]) λh₁ hit₁ hs₁=> ?_);refine af (ie (IU hne n (i+1) _ _ hit₁ (FH ht hs₁.extBut hne) (by lia) λh₂ hit₂ hs₂=>ax ?_));have hd:items.toList.drop i=items[i]::items.toList.drop (i+1):=by simp[ui,hlt]
  have:=hQ h₂ (by rw[show i+(n+1)=i+1+n by lia];exact hit₂) (hs₁.trans hs₂);rw[hd,List.take_succ_cons]at this;exact this
theorem DD{t:Addr}{Q:List ak->ba->Prop}(hh:A.handled=none)(ht:s.heap.IsList t items)
  (hQ:∀h',uu s.heap.objs.size s.heap h'->Q items.toList { s with heap:=h' }):cb (ck prog w) A (unpackItems (.ref t) items.size none) Q E s:=by
 have hlt:t≠s.heap.objs.size:=by obtain⟨o,ho,_⟩:=ht;exact cf (bc ho)
 unfold unpackItems;refine af ?_
 .unfold notIterableAtAll;refine af (wz ht.typeIs slot_list_iter.lookup ?_);refine ax ?_;simp only[gb,if_false];refine af (ie (ma ht ?_));refine af (ie (IU hlt items.size 0 _ _ ⟨_,be _ rfl,rfl,rfl⟩ (ht.push _) (by lia) λh₁ hit₁ hs₁=> ?_));have hall:List.take items.size (List.drop 0 items.toList)=items.toList:=by
   rw[List.drop_zero];exact iq (by simp)
  rw[hall];rw[if_neg (by simp)];have ht₁:h₁.IsList t items:=FH (ht.push _) hs₁.extBut hlt;refine af (ie (wpAny_pyNext_list_end hh hit₁ ht₁ (by simp) λh₂ he₂=> ?_));simp only[Option.isSome_none,gb,if_false];refine ax (hQ h₂ λb o hb e=>he₂ b o hb (hs₁.extBut b o hb (aj _ e)))
theorem CD{elts:List Expr}{x1}{t:Addr}{Q:Unit->ba->Prop}(hh:A.handled=none)(ht:s.heap.IsList t items)
  (hn:(je elts env).length=items.size)(hstar:(je elts env).findIdx? (·.1)=none)
  (h:∀h',uu s.heap.objs.size s.heap h'->cb (ck prog w) A (assignInOrder ((je elts env).map (·.2)) items.toList) Q E { s with heap:=h' }) :
  cb (ck prog w) A (xl (.Tuple elts x1 pos) env (.ref t)) Q E s:=by
 rw[assign_Tuple];refine af (wpAny_standAt ?_);unfold unpack;rw[hn,hstar];exact af (ie (DD hh ht h))
def aBy(K:W.Frag)(n:Nat)(t:TGs):TG:=λv σ H Q=>∃a xs,v= .ref a/\SqL K H a xs/\xs.length=n/\t xs σ H Q
theorem QM{k:Nat}{t:TGs}(hc:X.calm=true)(h:PGs X es t)
  (hn:(je es X.env).length=n:=by rfl)(hst:(je es X.env).findIdx? (·.1)=none:=by rfl):PG X (.Tuple es k pos) (aBy X.K n t):=by
 intro pins s σ H v u Q I r hw;obtain⟨a,xs,e1,hq,hl,hw⟩:=hw;subst e1;cases r;obtain⟨its,rv,ht,hz⟩:=I.list hq;refine CD (I.ok.hd hc) ht.isList (by simp[hn,←hl,rv.length]) hst λh' hx=> ?_;have I1:Inv X pins σ H { s with heap:=h' }:=I.kept (t':=s.toks) λb o e=>hx b o (cf (bc e)) e;exact h pins _ σ H xs _ Q I1 (by simpa using rv) hw
theorem aAf{q:St->Hp->Prop}(e:SqL K H a vs)(hl:vs.length=n)(h:gs vs σ H q):aBy K n gs (.ref a) σ H q:=⟨a,vs,rfl,e,hl,h⟩
section
variable {bk:St->Hp->Prop}
end
theorem aDx{j:Int}(h0:0<j)(h:0<=i%j->i%j<j->Q (.int (i%j)) H):rI (λ_ j=>0<j) (λi j=> .int (i%j)) (.int i) (.int j) H Q:=⟨i,j,rfl,rfl,h0,h (jw _ (by lia)) (og _ h0)⟩
open PySem.W
section
variable {g:Array GenState}{d:Drawn}{t:Nat}{os:OsState}{o:Obj}{vs:Array ak}{K:Frag}
end
variable {outer:List Env}
section
variable {M:Model}{L:Addr}{Q:Unit->ba->Prop}
end
section
variable {o:HO}
end
section
variable {s1:ba}{h2 B:Heap}
end
section
variable {E:XK}{cpos:Pos}{t:TA}
end
section
variable {k:Nat}{sp:Sp}{p:Pos}{o:Expr}{t:TA}{E:XK}{ps:List Str}
end
section
variable {M:Model}{L:Addr}{Q:Unit->ba->Prop}
end
section
variable {k:Nat}{sp:Sp}{p:Pos}{o:Expr}{t:TA}{f:Addr}{ds:List ak}{R:XK}{ps:List Str}
end
section
variable {k:Nat}{sp:Sp}{p:Pos}{o:Expr}{t:TA}{R:XK}
end
section
variable {i:Nat}{n:Str}{T:Addr}{hpos epos:Pos}{tc:XK->TE}{b₀:Stmt}{suite:List Stmt}{ts:TS}
end
section
variable {p:Pos}{v1 v2:Expr}{t:TJ}
end
section
variable {K:Frag}{D:Addr}{cd:ClassData}{b:Bool}
end
variable {K:Frag}{H:Hp}{Q:VK}
end L2
set_option maxHeartbeats 0
namespace L2
open PySem PySem.Spec PyProof.Rows
abbrev kn(o:Obj):HO:= .frz o (.ext λ_=>True)
variable {P prog:gd}{w:gx}{H H' H1 H2:Hp}{base h h':Heap}{PL a c cL it p q:Addr}{o:Obj}
theorem KU(e:h.get? a=some o):ObjOk P w H h a (kn o):=⟨e,trivial,⟨o,e⟩,λ_ _ _ _=>trivial⟩
theorem zN(x:HOk P w H h)(e:H a=some (kn o)):h.get? a=some o:=(x a _ e).1
variable {rest σ σ0:St}{s:ba}{X:Cx}{pins:List (Addr×Obj)}
variable {m p4 p5 qual x y z:Str}{body e tg value:Expr}{CX:CXT}{ep j k' n:Nat}{apos cpos pos tpos:Pos}{elts es:List Expr}
section
variable {k:Nat}{sp:Sp}{E:XK}{p:Pos}{t:TA}{i:Nat}
end
def cxL(CX:CXT)(P:gd)(w:gx)(K:W.Frag)(mg:Str->Option ak)(base:Heap)(N:List Str)(qual:Str)(scope:rm)(f:Addr)(cd:ak)(cl:List (Str×Addr))(A:ke)(outer:List Env)(s:ba)(H:Hp)(E:XK):Cx where
 prog:=P
 w:=w
 K:=K
 mg:=mg
 base:=base
 A:=A.deeper (W.envX qual scope s.heap.objs.size f cd cl)
 N:=N
 s₀:=s
 H₀:=H
 env:=W.envX qual scope s.heap.objs.size f cd cl
 outer:=outer
 stack:=W.envX qual scope s.heap.objs.size f cd cl::outer
 ex:=[]
 calm:=true
 fn:=λ_=>false
 pn:=[]
 xe:=λe s'=>cb (ck P w) (A.deeper (W.envX qual scope s.heap.objs.size f cd cl)) (leaving (W.envX qual scope s.heap.objs.size f cd cl) e) (λ_ s''=>CX outer H s E e s'') (λe' s''=>CX outer H s E e' s'') s'
def LamAt(H:Hp)(F:Addr)(fd:gy)(qual:Str)(args:tm)(body:Expr)(sc:rm)(y:Str)(c:Addr):Prop :=
 ∃(c':Addr) (pm ctv:ak) (oc:Obj) (fv:Array ak) (t:Tok),fd=W.kla_fn "<lambda>" qual args body sc [(y,c)] pm (.ref c') ctv ∧
  H F=some (kn (W.kla_obj "<lambda>" qual args body sc [(y,c)] pm c' ctv))/\H c'=some (kn oc)/\oc.data= .fields fv/\fv[1]? =some (.str qual t)
variable {fd:gy}{args:tm}{lsc sc:rm}
theorem LamAt.same{F:Addr}(x:LamAt H F fd qual args body sc y c)(s:Same H H'):LamAt H' F fd qual args body sc y c :=
 let ⟨c',pm,ctv,oc,fv,t,e1,e2,e3,r⟩:=x;⟨c',pm,ctv,oc,fv,t,e1,s _ _ e2,s _ _ e3,r⟩
variable {K:W.Frag}{mg:Str->Option ak}
section
variable {k:Nat}{p:Pos}{t:TA}
def aFB(F:Addr->gy->List Str->Sp->Prop)(K:W.Frag)(i:Nat)(t:TA):TE:=λσ H Q=>∃f o fd,σ[i]? =some (some (.ref f))/\H f=some (kn o)/\o.data= .func fd ∧
 t σ H λvs H1=>∃ps sp,H1 f=some (kn o)/\Binds K fd ps []/\F f fd ps sp/\sp vs H1 Q E0
theorem RG{f:Addr}(e:h.get? f=some o)(d:o.data= .func fd):W.FnAt f h:=by
 obtain⟨oc,od,dt,sl⟩:=o;have d':dt= .func fd:=d;subst d';exact⟨oc,od,fd,sl,e⟩
theorem Z0(k:Nat)(i:Nat)(hr:Room k' X.A)(ha:PA X (e::es) t)(hk:k<=k':=by decide)(hN:X.N[i]? =some x:=by rfl)(hv:Vis X.env.scope x:=by first|exact xk rfl|exact we (xk rfl)|exact we (we rfl))
  (hdb:(x==("__debug__" :Str))=false:=by decide)(hcd:(x==("__classdict__" :Str))=false:=by decide)(he:cy (e::es) X.env=(false,eval e X.env)::cy es X.env:=by rfl)(hpl:(jl pos (cy es X.env)).any (·.1)=false:=by rfl) :
  PE X (.Call (.Name x p) (e::es) [] pos) (aFB (λf fd ps sp=>FnOk X.prog X.w X.K X.mg X.base CX0 k f fd ps sp) X.K i t):=by
 intro pins s σ H Q I h;obtain⟨f,o,fd,hi,hf,hd,h⟩:=h;refine jn (thn (X6 (i:=i) hN hv hdb hcd pins s σ H (λv' H'=>v'= .ref f/\H' f=some (kn o)/\t σ H' λvs H1=>∃ps sp,H1 f=some (kn o)/\Binds X.K fd ps []/\FnOk X.prog X.w X.K X.mg X.base CX0 k f fd ps sp/\sp vs H1 Q E0) I ⟨_,hi,rfl,hf,h⟩) ?_);rintro u s1 ⟨v1,H1,I1,rv,e1,hf1,q1⟩;subst e1;obtain rfl:u=cu f:=rv;refine W.callWith_F (RG (zN I1.hok hf1) hd) (thn (ha pos pins s1 σ H1 _ I1 q1) ?_) he hpl;rintro us s2 ⟨vs,H2,I2,r,ps,sp,hf2,hb,F,q⟩;refine⟨RG (zN I2.hok hf2) hd,?_⟩;have q':sp (vs++[]) H2 Q E0:=by rw[dj];exact q
 exact vW (us:=us) (vs:=vs) F (hr.mono hk) hb .nil t7 I2 r q'
end
theorem W9{mb:Str->Option ak}{k:Nat}{fa:Addr}{sp:Sp}{s₁:ba}{vs:List ak}{ns:List Int}
  (KX:K.In s₁.heap)(hns:s₁.heap.Ns bf mg)(hb:s₁.heap.Ns wg mb)(hbb:∀x:Str,x≠ "__name__" ->mb x=fm x)(hlim:s₁.heap.NoLimit)(hg:s₁.gens= #[])
  (C:W.CodeHd s₁.heap cL PL)(hP:s₁.heap.get? PL=some (W.tabObj #[]))(hKP:K.lookup PL=none)
  (hbm:∃bm ob,mg "__builtins__" =some (.ref bm)/\bm≠wg/\s₁.heap.get? bm=some ob/\ob.cls= .type "module" /\ob.dict=some wg/\ob.data= .plain)
  (ha:s₁.heap.get? a=some { cls:= .type "list",data:= .seq vs.toArray })(hi:IntsAre vs ns)(hl:ns.length<=sizeLine)(hr:Room k yj)
  (F:∀base:Heap,W.CodeHd base cL PL->base.BuiltinsAt mg PL->FnOk P w K mg base CX k fa fd [x] sp)(hbind:∀(s:ba) (u:ak),BindsTo s fd ⟨[u],[]⟩ [(x,u)])
  (hsp:∀H:Hp,SqL K H a (ns.map V.int)->H PL=some (.tbl #[])->sp [.ref a] H (λv _=>v= .bl true) λ_ _ _=>False)
  (hCX:∀H e s',CX [] H s₁ (λ_ _ _=>False) e s'->False) :
  mr (ck P w) yj (.call (.ref fa) ⟨[.ref a],[]⟩) (λr s'=>r= .ok (.ret (.bool true))/\OldK s₁.heap s'.heap/\s'.os=s₁.os/\uj s'.gens) s₁:=by
 have rv:=IK hi;have lenV:=hi.length;have naP:a≠PL:=λz=>by rw[z,hP]at ha;cases ha
 have core:∀H:Hp,H PL=some (.tbl #[])->SqL K H a (ns.map V.int)->HOk P w H s₁.heap->(∀b,H b≠none->b=a∨b=PL)->(H a≠none->K.lookup a=none)->(∀u,H a=some u->∃o xs,u= .frz o (.lst xs)) →
   mr (ck P w) yj (.call (.ref fa) ⟨[.ref a],[]⟩) (λr s'=>r= .ok (.ret (.bool true))/\OldK s₁.heap s'.heap/\s'.os=s₁.os/\uj s'.gens) s₁:=by
  intro H hHP hS hok hA hK hfz;have base_of:∀{b:Addr}{o:Obj},s₁.heap.get? b=some o->H b=none->(sT s₁.heap H).get? b=some o:=λe n=>aAn e n;have noT:∀{b:Addr}{o:Obj},s₁.heap.get? b=some o->o.cls≠ .none->o.cls≠ .type "list" ->H b=none:=λ{b o} e n1 n2=>by
   cases q:H b with
   | none=>rfl
   | some u =>
    rcases hA b (by rw[q];simp) with z|z
    .rw[z,ha]at e;cases e;exact absurd rfl n2
    .rw[z,hP]at e;cases e;exact absurd rfl n1
  have noA:∀{b:Addr}{o:Obj}{es:Array my}{ep:Nat},s₁.heap.get? b=some o->o.data= .dict es ep->H b=none:=λ{b o es ep} e d=>by
   cases q:H b with
   | none=>rfl
   | some u =>
    rcases hA b (by rw[q];simp) with z|z
    .rw[z,ha]at e;cases e;have d':Data.seq vs.toArray _=Data.dict es ep:=d;cases d'
    .rw[z,hP]at e;cases e;have d':zg #[]=Data.dict es ep:=d;cases d'
  have nsK:∀{b:Addr}{m:Str->Option ak},s₁.heap.Ns b m->(sT s₁.heap H).Ns b m:=λ{b m} ⟨o,es,ep,e,d,r⟩=>⟨o,es,ep,base_of e (noA e d),d,r⟩
  have hKb:K.In (sT s₁.heap H):=λb o e=>base_of (KX b o e) (by
   cases q:H b with
   | none=>rfl
   | some u =>
    rcases hA b (by rw[q];simp) with z|z
    .subst z;rw[hK (by rw[q];simp)]at e;cases e
    .rw[z,hKP]at e;cases e)
  have hM:Mod K mg (sT s₁.heap H):=⟨hKb,nsK hns,⟨mb,nsK hb,hbb⟩,let ⟨mc,h1,h2⟩:=hlim;⟨mc,nsK h1,h2⟩⟩
  have e0:Env0 P w K mg (sT s₁.heap H) yj [] s₁ H:=⟨rfl,hM,λb o e=>aCM e,za (X4 _ _),trivial,λb hb=>absurd (show b∈([]:List Addr) from hb) (by simp),hok,.of_eq hg⟩
  have hC:W.CodeHd (sT s₁.heap H) cL PL:=by
   obtain⟨o,fv,file,tf,flags,tg,inF,text,tt,e1,e2,r⟩:=C;exact⟨o,fv,file,tf,flags,tg,inF,text,tt,base_of e1 (noT e1 (by rw[e2];intro z;cases z) (by rw[e2];decide)),e2,r⟩
  have hB:(sT s₁.heap H).BuiltinsAt mg PL:=by
   obtain⟨bm,ob,b1,b2,b3,b4,b5,b6⟩:=hbm;refine⟨bm,ob,b1,b2,λz=> ?_,λz=> ?_,base_of b3 (noT b3 (by rw[b4];intro z;cases z) (by rw[b4];decide)),b4,b5,b6⟩
   .obtain⟨o,es,ep,e,hd,_⟩:=hns;rw[z,e]at b3;cases b3;rw[hd]at b6;cases b6
   .rw[z,hP]at b3;cases b3;cases b4
  refine wm ((F _ hC hB).run yj [] s₁ H ⟨[.ref a],[]⟩ [.ref a] [.ref a] _ _ hr e0 (hbind s₁ (.ref a)) (.cons rfl .nil) (hsp H hS hHP)) λr s' h=> ?_;cases r with
  | error e=>exact(hCX H e s' h).elim
  | ok fl =>
   cases fl with
   | next=>exact gz h
   | brk=>exact gz h
   | cont=>exact gz h
   | ret u =>
    obtain⟨v,H',os,bare,un,hok',r',q⟩:=h;have q':v= .bl true:=q;subst q';obtain rfl:u=tp true:=r';have kept:∀b o,b≠PL->s₁.heap.get? b=some o->s'.heap.get? b=some o:=λb o nb e=>by
     cases q:H b with
     | none=>exact un.keep b o e q (by intro z;exact absurd (show b∈([]:List Addr) from z) (by simp)) (by simp)
     | some u =>
      rcases hA b (by rw[q];simp) with z|z
      .subst z;obtain⟨ob,xs,rfl⟩:=hfz u q;have z2:=un.frzs b ob _ q;obtain⟨e1,_⟩:=hok b _ q;obtain⟨e2,_⟩:=hok' b _ z2;rw[e]at e1;cases e1;exact e2
      .exact absurd z nb
    obtain⟨more,hm⟩:=un.tbls PL #[] hHP;have gP':s'.heap.get? PL=some (W.tabObj (#[]++more)):=hok' PL _ hm;refine⟨rfl,⟨λb o e=> ?_,λb o e=> ?_⟩,os,bare⟩
    .by_cases hb:b=PL
     .subst hb;rw[hP]at e;cases e;exact .inr (.inl ⟨(C.tab hP).isCodeTable,rfl,#[],more,rfl,gP'⟩)
     .exact .inl (kept b o hb e)
    .by_cases hb:b=PL
     .subst hb;exact⟨_,gP'⟩
     .exact⟨o,kept b o hb e⟩
 cases hk:K.lookup a with
 | some o =>
  have e:=KX a o hk;rw[ha]at e;cases e;refine core (λb=>if b=PL then some (.tbl #[]) else none) (if_pos rfl) (.inr ⟨_,vs.toArray,_,hk,rfl,rfl,rfl,by rw[bj,lenV];exact hl,by simpa using rv⟩) (λb u z=> ?_) (λb z=> ?_) (λz=>absurd (if_neg naP) z) (λu z=> ?_)
  .by_cases hb:b=PL
   .have z':=(if_pos hb).symm.trans z;cases z';subst hb;exact hP
   .have z':=(if_neg hb).symm.trans z;cases z'
  .by_cases hb:b=PL
   .exact .inr hb
   .exact absurd (if_neg hb) z
  .have z':=(if_neg naP).symm.trans z;cases z'
 | none =>
  have eP:(if PL=a then some (HO.frz { cls:= .type "list",data:= .seq vs.toArray } (.lst (ns.map V.int))) else if PL=PL then some (.tbl #[]) else none)=some (.tbl #[]):=by rw[if_neg (fb naP),if_pos rfl]
  refine core (λb=>if b=a then some (.frz { cls:= .type "list",data:= .seq vs.toArray } (.lst (ns.map V.int))) else if b=PL then some (.tbl #[]) else none) eP (.inl (.inr ⟨{ cls:= .type "list",data:= .seq vs.toArray },if_pos rfl⟩)) (λb u z=> ?_) (λb z=> ?_) (λ_=>hk) (λu z=> ?_)
  .by_cases hb:b=a
   .have z':=(if_pos hb).symm.trans z;cases z';subst hb;exact⟨ha,by rw[ae];exact hl,vs,_,rv,ha⟩
   .have z1:=(if_neg hb).symm.trans z
    by_cases hb2:b=PL
    .have z':=(if_pos hb2).symm.trans z1;cases z';subst hb2;exact hP
    .have z':=(if_neg hb2).symm.trans z1;cases z'
  .by_cases hb:b=a
   .exact .inl hb
   .by_cases hb2:b=PL
    .exact .inr hb2
    .exact absurd ((if_neg hb).trans (if_neg hb2)) z
  .have z':=(if_pos rfl).symm.trans z;cases z';exact⟨_,_,rfl⟩
variable {Q rt:VK}{i lo:Int}{ta td te tv tx:TE}
section
variable {o:Expr}{to:TE}{ap:Pos}
def aBb(i j:Int):Prop:=0<j/\j<2^100
theorem aAF:OpR X (ky .FloorDiv) (rI aBb λi j=> .int (i/j)):=opI λi j _ _ _ _ _ hc q=>by
 have h1:(0:Int)<j:=hc.1;have h2:j<2^100:=hc.2;refine floordiv_int (by lia) (by rw[me i (by lia)];exact q) (.inl (PyProof.noPylong_of_log2 ?_));have h3:j.natAbs<2^100:=by lia
 have h4:=Nat.log2_lt (n:=j.natAbs) (k:=100) (by lia)
 lia
def rBL:V->List V->Hp->VK->Prop:=λx xs H Q=>∃i,x= .int i/\xs=[]/\Q (.int (jg i)) H
theorem WO:MtR X "int.bit_length" rBL:=by
 intro pins s σ H x xs v us Q I rx rs h;obtain⟨i,rfl,rfl,q⟩:=h;obtain⟨t,rfl⟩:=rx;cases rs;exact call_int_bit_length ⟨.int (jg i),H,I.tok _,⟨_,rfl⟩,q⟩
theorem W6{b t:Int}(hb:0<=b)(h:(jg b:Int)<=t):b/2^t.toNat%2=0:=by
 have ht:jg b<=t.toNat:=by lia
 have hlt:b<2^t.toNat:=by
  unfold jg at ht
  by_cases h0:b=0
  .subst h0;exact Int.pow_pos (by decide)
  .rw[if_neg (by simpa using h0)]at ht;have h1:b.natAbs<2^(b.natAbs.log2+1):=Nat.lt_log2_self;have h2:2^(b.natAbs.log2+1)<=2^t.toNat:=Nat.pow_le_pow_right (by decide) ht;have h3:((2^t.toNat:Nat):Int)=(2:Int)^t.toNat:=by simp
   lia
 rw[Int.ediv_eq_zero_of_lt hb hlt];rfl
theorem VQ(h:Q (.int (jg i)) H):rBL (.int i) [] H Q:=⟨i,rfl,rfl,h⟩
theorem aC3{f:Int->Int->V}{j:Int}(h0:0<j)(h1:j<2^100)(h:Q (f i j) H):rI aBb f (.int i) (.int j) H Q:=⟨i,j,rfl,rfl,⟨h0,h1⟩,h⟩
theorem LO:∀{xs:List V}{us:List ak},xs.length=us.length->(∀(i:Nat) x u,xs[i]? =some x->us[i]? =some u->RelV x u)->Vals xs us
 | [],[],_,_=> .nil
 | [],_::_,h,_=>by simp at h
 | _::_,[],h,_=>by simp at h
 | x::xs,u::us,h,k=> .cons (k 0 x u rfl rfl) (LO (by simpa using h) λi y w e1 e2=>k (i+1) y w (by simpa using e1) (by simpa using e2))
end
structure DcD(P:gd)(w:gx)(K:W.Frag)(mg:Str->Option ak)(base:Heap)(x m:Str)(k:Nat)(dvs:List V)(sp:Sp):Prop where
 ex:∃C f fd ps ds,mg x=some (.ref C)/\W.specialIn K (.ref C) "__getattribute__" =some (some (.builtin "type.__getattribute__"))/\W.readsIn K C (.type "type")=true/\W.findCls K (.ref C) (.type "type") m=some (.val (.ref f)) ∧
  W.keepIn K (.ref f)=true/\Vals dvs ds/\Binds K fd ps ds/\FnOk P w K mg base CX0 k f fd ps sp
variable {vs xs:List V}
section
variable {k:Nat}{sp:Sp}{p:Pos}{t:TA}{dvs:List V}
theorem aE4{pl:Sem Bool}(F:DcD X.prog X.w X.K X.mg X.base x m k dvs sp)(hr:Room k' X.A)(ha:PA X (e::es) t)(hk:k<=k':=by decide)(hg:Gl X x:=by rfl)(hdb:(x==("__debug__" :Str))=false:=by decide)
  (hst:cy (e::es) X.env=(false,eval e X.env)::cy es X.env:=by rfl)(hpl:(jl pos (cy es X.env)).any (·.1)=false:=by rfl)
  (ht:eval (.Call (.Attribute (.Name x p) m apos) (e::es) [] pos) X.env=(do
   let ov ←eval (.Name x p) X.env
   yg apos.atName
   let (f,first) ←uk [ov] (qg ov m pl)
   xv pos f first (jl pos (cy (e::es) X.env)) (ub pos (mh [] X.env))):=by rfl) :
  PE X (.Call (.Attribute (.Name x p) m apos) (e::es) [] pos) (wW sp dvs E0 t):=by
 intro pins s σ H Q I h;obtain⟨C,f,fd,ps,ds,hm,hga,hrd,hfc,kp,hd,hb,G⟩:=F.ex;refine W.methodCall_KW (pl:=pl) (rF I hg hm ?_ hdb) ht;refine W.method_cls I.kIn hga (W.cls_value I.kIn hrd hfc (AE (v:= .ref f) rfl) ?_);have I1:=I.tok (s.toks+1);refine W.callWith_K (first:=[]) (h₀:=X.base) I.ok.mod.kin kp (thn (ha pos pins _ σ H _ I1 h) ?_) hst hpl;rintro us s2 ⟨vs,H2,I2,r,q2⟩;refine⟨I2.kIn,?_⟩;exact vW G (hr.mono hk) hb hd t7 I2 r q2
theorem ZH{E:XK}(h:t σ H λvs H1=>sp (vs++dvs) H1 Q E):wW sp dvs E t σ H Q:=h
end
def K0(H:Hp)(c:Addr)(v:V):Prop:=∃o u,H c=some (kn o)/\o.data= .cell (some u)/\RelV v u
def off(H:Hp)(c:Addr):Hp:=λb=>if b=c then none else H b
theorem rP:off H c c=none:=by unfold off;rw[if_pos rfl]
theorem hU{b:Addr}(h:b≠c):off H c b=H b:=by unfold off;rw[if_neg h]
theorem aAJ{b:Addr}{u:HO}(h:off H c b=some u):b≠c/\H b=some u:=by
 by_cases hb:b=c
 .subst hb;rw[rP]at h;cases h
 .rw[hU hb]at h;exact⟨hb,h⟩
theorem Z1{u:HO}(h:H c=some u):upd (off H c) c u=H:=by
 funext b
 by_cases hb:b=c
 .subst hb;rw[aR,h]
 .rw[aI hb,hU hb]
theorem aDG(x:HOk P w H h)(e:H c=some (kn o)):HOk P w (off H c) h:=λb u q=>by
 obtain⟨hb,q'⟩:=aAJ q;refine(x b u q').stay (λ_ _ _ z=>z) (λd z=> ?_) λd xs z=> ?_
 .rw[hU (by rintro rfl;rw[e]at z;cases z)];exact z
 .rw[hU (by rintro rfl;rw[e]at z;cases z)];exact z
theorem WZ(x:HOk P w H h)(n:H c=none)(g:h.get? c=some o):HOk P w (upd H c (kn o)) h:=λb u q=>by
 by_cases hb:b=c
 .subst hb;rw[aR]at q;cases q;exact KU g
 .rw[aI hb]at q;exact(x b u q).stay (λ_ _ _ z=>z) (λd z=>by rw[aI (bA z n)];exact z) λd xs z=>by rw[aI (bA z n)];exact z
theorem aFs{fs:List Addr}(e:H c=some (kn o))(g:h.get? c=some o)(hf:c∉fs)(x:Un fs [] (off H c) H' h h'):Un fs [] H (upd H' c (kn o)) h h' where
 keep:=λb ob q n hb hx=>x.keep b ob q (by rw[hU (by rintro rfl;rw[e]at n;cases n)];exact n) hb hx
 slot:=λb ob q n hb hx=>x.slot b ob q (by rw[hU (by rintro rfl;rw[e]at n;cases n)];exact n) hb hx
 free:=λb ob q n hx=>by
  have hb:b≠c:=by rintro rfl;rw[e]at n;cases n
  rw[aI hb];exact x.free b ob q (by rw[hU hb];exact n) hx
 there:=x.there
 tups:=λb xs q=>by
  have hb:b≠c:=by rintro rfl;rw[e]at q;cases q
  rw[aI hb];exact x.tups b xs (by rw[hU hb];exact q)
 frzs:=λb ob u q=>by
  by_cases hb:b=c
  .subst hb;rw[e]at q;cases q;exact aR
  .rw[aI hb];exact x.frzs b ob u (by rw[hU hb];exact q)
 tbls:=λb ps q=>by
  have hb:b≠c:=by rintro rfl;rw[e]at q;cases q
  obtain⟨m,z⟩:=x.tbls b ps (by rw[hU hb];exact q);exact⟨m,by rw[aI hb];exact z⟩
variable {v:V}
theorem aDy{k:Nat}{f:Addr}{sp:Sp}
  (hk:sc.kind= .function)(hco:sc.isCoroutine=false)(hgen:sc.isGenerator=false)(hcell:∀z∈sc.names,z.2≠ .cell)(hx:sc.names.lookup x=some .local)(hfree:∀z,sc.names.lookup z=some .free->z=y)(hy:sc.names.lookup y=some .free)
  (len:∀vs H Q E,sp vs H Q E->∃a,vs=[a]/\LamAt H f fd qual args body sc y c/\K0 H c v)
  (hbody:∀(cdv:ak) (A:ke) (outer:List Env) (s:ba) (H:Hp) (a:V) (Q:VK) (E:XK),Room k (A.deeper (W.envX qual sc s.heap.objs.size f cdv [(y,c)]))->sp [a] H Q E →
   ∃t,PE (cxL CX0 P w K mg base [x,y] qual sc f cdv [(y,c)] A outer s (off H c) E).nox body t/\∀o,H c=some (kn o)->t [some a,some v] (off H c) (λr H'=>Q r (upd H' c (kn o)))) :
  FnOk P w K mg base CX0 (k+1) f fd [x] sp:=by
 refine⟨λvs H Q E h=> ?_,λA outer s H ar us vs Q E hr e0 hb r hsp=> ?_⟩
 .obtain⟨a,rfl,_⟩:=len vs H Q E h;rfl
 obtain⟨a,rfl,⟨c',pm,ctv,oc,fv,tt,rfl,hF,hc',hd,hv⟩,oC,uv,eC,hdC,rv⟩:=len vs H Q E hsp;obtain⟨u,rfl,ra⟩:∃u,us=[u]/\RelV a u:=by
  cases r with
  | cons r1 r2=>cases r2;exact⟨_,rfl,r1⟩
 obtain⟨t,ht,hq⟩:=hbody (.ref c') A outer s H a Q E (hr.deeper _) hsp;have hq:=hq oC eC;have gC:=zN e0.hok eC;have lim:s.heap.NoLimit:=e0.mod.nolimit.keeps λb o e=>(e0.bs b o e).1;refine W.kla_callFunE hr.depth (zN e0.hok hF) rfl hco hgen rfl ⟨c',oc,fv,tt,rfl,zN e0.hok hc',hd,hv⟩ (hb _ _ _ _ ?_);refine wpAny_newFunctionEnv hcell (λz hz=>by
  have hz':z∈[(x,u)]:=hz;rw[bz]at hz';rw[hz'];exact hx) (λh₁ hns hsb=>⟨lim.fresh _ hsb,?_⟩) hk
 have hk₁:∀b o,s.heap.get? b=some o->h₁.get? b=some o:=λb o e=>hsb.extBut b o (cf (bc e)) (aj _ e);have lkY:∀z (d:Addr),([(y,c)]:List (Str×Addr)).lookup z=some d->z=y/\d=c:=λz d e=>by
  rw[fe]at e;cases q:z==y with
  | true=>rw[q]at e;cases e;exact⟨eq_of_beq q,rfl⟩
  | false=>rw[q]at e;cases e
 have lkC:([(y,c)]:List (Str×Addr)).lookup y=some c:=by rw[fe,beq_self_eq_true]
 have nc:∀b o,base.get? b=some o->b≠c:=λb o e z=>by
  have:=(e0.bs b o e).2;rw[z,eC]at this;cases this
 have ncf:c∉frs outer:=λz=>by rw[e0.frf c z]at eC;cases eC
 show mr (ck P w) A (.expr body (W.envX qual sc s.heap.objs.size f (.ref c') [(y,c)])) _ _;have hokO:=aDG e0.hok eC;have I:Inv (cxL CX0 P w K mg base [x,y] qual sc f (.ref c') [(y,c)] A outer s (off H c) E) [] [some a,some v] (off H c) { s with heap:=h₁,toks:=s.toks+([x].zip [u]).length }:=by
  have noA:∀b:Addr,b∉(cxL CX0 P w K mg base [x,y] qual sc f (.ref c') [(y,c)] A outer s (off H c) E).ex:=λb z=>absurd (show b∈([]:List Addr) from z) (by simp);refine⟨⟨e0.mod,hk,rfl,rfl,aq _,λz1 z2 d h1 h2=> ?_,λz hz=> ?_,λz d hf _=>absurd (show false=true from hf) bg,λ_=>hr.hd,xq e0.frames,.inr ⟨rfl,rfl⟩,λb z=>absurd z (noA b),λb o e=>⟨(e0.bs b o e).1,by show off H c b=none;rw[hU (nc b o e)];exact(e0.bs b o e).2⟩,e0.bsz,λb _ _=>noA b,λb z=>absurd z (noA b),e0.funs,λb hb=> ?_⟩,
   rfl,e0.bare,Un.kept hk₁,⟨_,hns,λi z v' h1 h2 h3=> ?_⟩,λz d h=> ?_,hokO.fresh (aq _),λz d h=> ?_,λp hp=>absurd (show p∈([]:List (Addr×Obj)) from hp) (by simp),hokO.kept hk₁,rfl⟩
  .exact(lkY z1 d h1).1.trans (lkY z2 d h2).1.symm
  .have hz:sc.names.lookup z=some .cell∨sc.names.lookup z=some .free:=hz;rcases hz with hz|hz
   .exact absurd rfl (hcell _ (ia hz))
   .rw[hfree z hz];exact⟨c,lkC⟩
  .show off H c b=none
   by_cases hbc:b=c
   .rw[hbc];exact rP
   .rw[hU hbc];exact e0.frf b hb
  .match i,h1,h2 with
   | 0,h1,h2 =>
    cases h1;cases h2;refine⟨u,ra,.inl ⟨hx,?_⟩⟩;show ([(x,u)].reverse).lookup x=some u;rw[List.reverse_singleton,fe,beq_self_eq_true]
   | 1,h1,h2 =>
    cases h1;cases h2;exact⟨uv,rv,.inr ⟨.inr hy,c,lkC,oC,hk₁ _ _ gC,hdC⟩⟩
   | i+2,h1,h2=>cases h1
  .rw[(lkY z d h).2];exact⟨_,oC,hk₁ _ _ gC,hdC⟩
  .rw[(lkY z d h).2];exact rP
 refine W.kla_codeExpr (fq (PE.nox ht [] _ [some a,some v] (off H c) _ I hq) (λu' s' ⟨v',H',J,rv',q⟩=> ?_) λe s' hs=> ?_)
 .have Jb:Un (frs outer) [] (off H c) H' s.heap s'.heap:=J.base;have gC':s'.heap.get? c=some oC:=Jb.keep c oC gC rP ncf (by simp);have nC':H' c=none:=Jb.free c oC gC rP (by simp);exact⟨v',upd H' c (kn oC),J.os,J.bare,aFs eC gC ncf Jb,WZ J.hok nC' gC',rv',q⟩
 .exact fq hs (λ_ s'' z=>z.elim) λ_ s'' z=>z.elim
def SPr(X:Cx)(pins:List (Addr×Obj))(D:gX)(R:St->V->Hp->Prop)(f:Flow)(s':ba):Prop :=
 match f with
 | .ret u=>∃v σ' H',Inv X pins σ' H' s'/\RelV v u/\(D.rt v H'∨R σ' v H')
 | f=>SP X pins D f s'
def PRs(X:Cx)(st:List Stmt)(t:gX->(St->V->Hp->Prop)->St->Hp->Prop):Prop :=
 ∀(pins:List (Addr×Obj)) (s:ba) (σ:St) (H:Hp) (D:gX) (R:St->V->Hp->Prop),Inv X pins σ H s->t D R σ H->cb (ck X.prog X.w) X.A (execs st X.env) (SPr X pins D R) X.xe s
variable {ct nx:St->Hp->Prop}{tb:TS}
section
variable {st:Stmt}{rest:List Stmt}{t:TS}{u:gX->(St->V->Hp->Prop)->St->Hp->Prop}
def aBi(t:TS)(u:gX->(St->V->Hp->Prop)->St->Hp->Prop):gX->(St->V->Hp->Prop)->St->Hp->Prop:=λD R=>t { D with nx:=u D R }
def aA4(te:TE):gX->(St->V->Hp->Prop)->St->Hp->Prop:=λ_ R σ H=>te σ H (R σ)
theorem aDm{bk:St->Hp->Prop}{R:St->V->Hp->Prop}(h:t ⟨u ⟨nx,rt,bk,ct⟩ R,rt,bk,ct⟩ σ H):aBi t u ⟨nx,rt,bk,ct⟩ R σ H:=h
theorem aCe{D:gX}{R:St->V->Hp->Prop}(h:te σ H (R σ)):aA4 te D R σ H:=h
theorem m9(h1:PS X st t)(h2:PRs X rest u):PRs X (st::rest) (aBi t u):=by
 intro pins s σ H D R I h;refine qe (thn (h1 pins s σ H { D with nx:=u D R } I h) λf s1 q=> ?_);cases f with
 | next =>
  obtain⟨σ',H',I',q⟩:=q;exact h2 pins s1 σ' H' D R I' q
 | ret v=>obtain⟨v,σ',H',I,r,q⟩:=q;exact⟨v,σ',H',I,r,.inl q⟩
 | brk=>exact q
 | cont=>exact q
theorem aBN(he:PE X e te):PRs X [.Return (some e) pos] (aA4 te):=by
 intro pins s σ H D R I h;refine qe ?_;refine wpAny_Return_some (thn (he pins s σ H _ I h) ?_);rintro v s1 ⟨x,H1,I1,r1,q1⟩;exact⟨x,σ,H1,I1,r1,.inr q1⟩
end
theorem aGn{fs:List Addr}{u:HO}(n:H' c=none)(hc:h.objs.size<=c)(x:Un fs [] H H' h h'):Un fs [] H (upd H' c u) h h' where
 keep:=x.keep
 slot:=x.slot
 free:=λb ob q n' hx=>by
  rw[aI (cf (bt (bc q) hc))];exact x.free b ob q n' hx
 there:=x.there
 tups:=λb xs q=>by rw[aI (bA (x.tups b xs q) n)];exact x.tups b xs q
 frzs:=λb ob u' q=>by rw[aI (bA (x.frzs b ob u' q) n)];exact x.frzs b ob u' q
 tbls:=λb ps q=>by
  obtain⟨m,z⟩:=x.tbls b ps q;exact⟨m,by rw[aI (bA z n)];exact z⟩
variable {N:List Str}
def aG6(i:Nat)(c:Addr)(Q:VK):St->V->Hp->Prop:=λσ v H'=>∃cv,σ[i]? =some (some cv)/\∀H2,Same H' H2->H' c=none->K0 H2 c cv->Q v H2
theorem FunV.okR{st:Stmt}{f:Addr}{ps:List Str}{k i:Nat}{sp:Sp}(F:FunV K x qual st f fd)(S:aN N ps (aG st))(hi:N[i]? =some y)(hyc:(aG st).names.lookup y=some .cell)(len:∀vs H Q E,sp vs H Q E->vs.length=ps.length)
  (hbody:∀(cdv:ak) (A:ke) (outer:List Env) (s:ba) (H:Hp) (vs:List V) (Q:VK) (E:XK) (c:Addr),fd.code=cdv->(tj (s.heap.objs.size+1) (aG st).names []).lookup y=some c->Room k (A.deeper (wo qual (aG st) s.heap.objs.size f cdv))->sp vs H Q E →
   ∃t,PRs (xJ CX0 P w K mg base N qual (aG st) f cdv A outer s H E).nox (dF st) t/\t { nx:=λ_ H'=>Q .non H',rt:=Q } (aG6 i c Q) (gY N vs) H):FnOk P w K mg base CX0 (k+1) f fd ps sp:=by
 obtain⟨oc,od,dV,kV,doc,pm,an,cdv,ct,osl,rfl,lk,hcd⟩:=F.ex;refine⟨len,λA outer s H args us vs Q E hr e0 hb r hsp=> ?_⟩;have hl:=len _ _ _ _ hsp;have KX:K.In s.heap:=e0.mod.kin.keeps λb o e=>(e0.bs b o e).1;have lim:s.heap.NoLimit:=e0.mod.nolimit.keeps λb o e=>(e0.bs b o e).1;have hkind:∀y∈ps.zip us,(aG st).names.lookup y.1=some .local∨((aG st).names.lookup y.1=some .cell/\((tj (s.heap.objs.size+1) (aG st).names []).lookup y.1).isSome=true):=λ⟨n,v⟩ hy=>by
  rcases S.par n (qz hy).1 with q|q
  .exact .inl q
  .exact .inr ⟨q,W.cellsFrom_some _ _ _ (.inl q)⟩
 refine codeAny_call_function hr.depth (KX _ _ lk) rfl S.co S.gen rfl (W.codeRec_of KX hcd) (hb _ _ _ _ ?_);refine tz S.kind hkind λenv he s1 x=> ?_;subst he;refine⟨lim.keeps x.toInCall.keep,codeAny_func ?_⟩;obtain⟨c,hc⟩:=wN (n:=s.heap.objs.size+1) hyc;obtain⟨t,ht,hq⟩:=hbody cdv A outer s H vs Q E c rfl hc (hr.deeper _) hsp;have I:Inv (xJ CX0 P w K mg base N qual (aG st) f cdv A outer s H E) [] (gY N vs) H s1:=IT S hr.hd e0 hl r x;refine fq (ht [] s1 (gY N vs) H _ _ (I.wish _) hq) (λfl s' hs=> ?_) λe s' hs=>gz hs;have fin:∀{σ':St}{H':Hp}{v:V}{u:ak},Inv (xJ CX0 P w K mg base N qual (aG st) f cdv A outer s H E).nox [] σ' H' s'->RelV v u->Q v H'->CE outer P w H s Q u s' :=
  λ{σ' H' v u} J rv q=>⟨v,H',J.os,J.bare,J.base,J.hok,rv,q⟩
 cases fl with
 | ret u =>
  obtain⟨v,σ',H',J,rv,q⟩:=hs;rcases q with q|⟨cv,hi',q⟩
  .exact fin J rv q
  .obtain⟨m,hn,hl'⟩:=J.loc;obtain⟨u',ru,lk'⟩:=hl' i y cv hi hi' (.inr (.inl hyc));have hcell:s'.heap.IsCell c (some u'):=by
    rcases lk' with⟨z,_⟩|⟨_,c2,e1,e2⟩
    .have z':(aG st).names.lookup y=some .local:=z;rw[hyc]at z';cases z'
    .have e1':(tj (s.heap.objs.size+1) (aG st).names []).lookup y=some c2:=e1;rw[hc]at e1';cases e1';exact e2
   obtain⟨oC,hoC,hdC⟩:=hcell;have nC:H' c=none:=J.freeC y c hc;have cs:s.heap.objs.size<=c:=J.ok.cab y c rfl hc;exact⟨v,upd H' c (kn oC),J.os,J.bare,aGn nC cs J.base,WZ J.hok nC hoC,rv,q _ (λb o e=>by rw[aI (bA e nC)];exact e) nC ⟨oC,u',aR,hdC,ru⟩⟩
 | next =>
  obtain⟨σ',H',J,q⟩:=hs;exact fin (v:=V.non) (u:=fu) J rfl q
 | brk =>
  obtain⟨_,_,_,q⟩:=hs;exact gz q
 | cont =>
  obtain⟨_,_,_,q⟩:=hs;exact gz q
section
open PySem.W
variable {i:Nat}{n:Str}{T:Addr}{np yp hpos epos:Pos}{tc:XK->TE}{b₀:Stmt}{suite:List Stmt}{ts:TS}
end
theorem UQ{t:gX->(St->V->Hp->Prop)->St->Hp->Prop}{D:gX}{R:St->V->Hp->Prop}(e:gY N vs=σ)(h:t D R σ H):t D R (gY N vs) H:=e▸h
theorem walk_ofT2{l:W.OpenLaw}{k:Nat}{q:gd}{loose:List Str}{XP:(Str->Option ak)->Heap->Prop}{YP:gx->Heap->Prop}{d d2:DefRec}{K:Params->W.Frag}{CX:gx->CXT}{sp:gx->Addr->Sp}
  (hn:l.most=some n)(hn2:n<=sizeLine)(hdf:d.params.defaults=[])(hr:Room k yj)(hrec:d2∈recsOf q)(hnt:∀w:gx,W.noTabs (K w.params)=true)
  (hY:∀(w:gx) (h:Heap),YP w h->(K w.params).In h)
  (F:∀(w:gx) (mg:Str->Option ak) (fa:Addr) (h:Heap),(K w.params).In h->h.Ns bf mg->mg d.name=some (.ref fa) →
   ∃(fd:gy) (f2:Addr) (fd2:gy),mg d2.name=some (.ref f2)/\(∃oc od osl,(K w.params).lookup f2=some ⟨oc,od,.func fd2,osl⟩)/\(∀(s:ba) (u:ak),BindsTo s fd ⟨[u],[]⟩ [(x,u)]) ∧
    ∀(base:Heap) (cL PL:Addr),fd2.code= .ref cL->W.CodeHd base cL PL->base.BuiltinsAt mg PL->FnOk l.prog w (K w.params) mg base (CX w) k fa fd [x] (sp w PL))
  (hsp:∀(w:gx) (PL:Addr) (H:Hp) (a:Addr) (ns:List Int),ns.length<=n->SqL (K w.params) H a (ns.map V.int)->H PL=some (.tbl #[])->sp w PL [.ref a] H (λv _=>v= .bl true) λ_ _ _=>False)
  (hCX:∀(w:gx) (H:Hp) (s:ba) (e:ak) (s':ba),CX w [] H s (λ_ _ _=>False) e s'->False) :
  W.WalkO q loose XP YP l.row.toRowW d [] (λf vs=>PySem.call f vs):=by
 refine Att.attach_call hn hdf λw s₀ s₁ mg mb fa o pm cd doc a vs ns G Y ho hd hcd hmg hobj hints hlen hg=> ?_;have KX:=hY w _ Y;obtain⟨fd,f2,fd2,hm2,⟨oc,od,osl,lk⟩,hb,hF⟩:=F w mg fa _ KX G.T.g hmg;obtain⟨a',o',fd',c,PL,h1,h2,h3,h4,h5,h6⟩:=G.T.tab d2 hrec;rw[hm2]at h1;cases h1;have e1:=KX _ _ lk;rw[h2]at e1;cases e1;have h3':fd2=fd':=by injection h3
 subst h3';have C:=W.CodeHd.of h5 h6;have hKP:(K w.params).lookup PL=none:=by
  cases q:(K w.params).lookup PL with
  | none=>rfl
  | some o2 =>
   have e2:=KX _ _ q;rw[h6.2]at e2;cases e2;have z:=jk.mp (hnt w) (PL,_) (W.mem_of_lookupK q);exact absurd (show false=true from z) bg
 exact W9 KX G.T.g G.T.b G.T.builtins G.T.nolimit hg C h6.2 hKP G.T.bmain hobj hints (dy hlen hn2) hr (λbase hc hB=>hF base c PL h4 hc hB) hb (λH hS hP=>hsp w PL H a ns hlen hS hP) λH e s'=>hCX w H s₁ e s'
variable {u:ak}{α β κ:Type}
section
variable [DecidableEq κ]
def aW(kvs:List (κ×V))(k:κ):Option V:=(kvs.find? λkv=>decide (kv.1=k)).map (·.2)
def cB(kvs:List (κ×V))(k:κ)(v:V):List (κ×V) :=
 if (kvs.any λkv=>decide (kv.1=k))=true then kvs.map (λkv=>if kv.1=k then (kv.1,v) else kv) else kvs++[(k,v)]
theorem dO{p:κ×V}{r:List (κ×V)}{k:κ}(e:p.1=k):aW (p::r) k=some p.2:=by simp[aW,lg,e]
theorem dJ{p:κ×V}{r:List (κ×V)}{k:κ}(e:¬p.1=k):aW (p::r) k=aW r k:=by simp[aW,lg,e]
theorem nX(k:κ):∀kvs:List (κ×V),(kvs.any λkv=>decide (kv.1=k))=(aW kvs k).isSome
 | []=>rfl
 | p::r=>by
  rw[fz]
  by_cases e:p.1=k
  .simp only[dO e,decide_eq_true e,Bool.true_or,Option.isSome_some]
  .rw[dJ e,decide_eq_false e,Bool.false_or];exact nX k r
theorem MS(k j:κ)(y:V):∀kvs:List (κ×V),aW (kvs.map λkv=>if kv.1=k then (kv.1,y) else kv) j=(aW kvs j).map λx=>if j=k then y else x
 | []=>rfl
 | p::r=>by
  have ih:=MS k j y r;rw[bo]
  by_cases h:p.1=k
  .rw[if_pos h]
   by_cases e:p.1=j
   .rw[dO (p:=(p.1,y)) e,dO e,rg,if_pos (e.symm.trans h)]
   .rw[dJ (p:=(p.1,y)) e,dJ e,ih]
  .rw[if_neg h]
   by_cases e:p.1=j
   .rw[dO (p:=p) e,dO e,rg,if_neg (λz=>h (e.trans z))]
   .rw[dJ (p:=p) e,dJ e,ih]
theorem IF(k j:κ)(y:V):∀kvs:List (κ×V),aW kvs k=none->aW (kvs++[(k,y)]) j=if j=k then some y else aW kvs j
 | [],_=>by
  by_cases e:k=j
  .rw[if_pos e.symm];exact dO (p:=(k,y)) e
  .rw[if_neg (λz=>e z.symm)];exact dJ (p:=(k,y)) e
 | p::r,hn=>by
  rw[iy];have hk:¬p.1=k:=λz=>by rw[dO z]at hn;cases hn
  rw[dJ hk]at hn;have ih:=IF k j y r hn
  by_cases e:p.1=j
  .rw[dO e,dO e,if_neg (λz=>hk (e.trans z))]
  .rw[dJ e,dJ e,ih]
theorem xS(kvs:List (κ×V))(k j:κ)(y:V):aW (cB kvs k y) j=if j=k then some y else aW kvs j:=by
 unfold cB
 by_cases a:(kvs.any λkv=>decide (kv.1=k))=true
 .rw[if_pos a,MS];rw[nX]at a
  by_cases e:j=k
  .obtain⟨x,hx⟩:=vc.mp a;rw[if_pos e,e,hx,rg,if_pos rfl]
  .rw[if_neg e];cases aW kvs j with
   | none=>rfl
   | some x=>rw[rg,if_neg e]
 .rw[if_neg a];refine IF k j y kvs ?_;rw[nX]at a;cases q:aW kvs k with
  | none=>rfl
  | some x=>rw[q]at a;exact(a rfl).elim
theorem kC(kvs:List (κ×V))(k:κ)(v:V):(cB kvs k v).length<=kvs.length+1:=by
 unfold cB
 split
 .rw[ae];lia
 .rw[ao,bb,oa];lia
theorem eF{kvs:List (κ×V)}{k:κ}(v:V)(h:aW kvs k=none):cB kvs k v=kvs++[(k,v)]:=by
 unfold cB;rw[nX,h];exact if_neg (by decide)
theorem RelO.isSome_eq{o:Option V}{u:Option ak}(r:RelO o u):o.isSome=u.isSome:=by
 cases o with
 | none=>cases u with
  | none=>rfl
  | some _=>exact(show False from r).elim
 | some _=>cases u with
  | none=>exact(show False from r).elim
  | some _=>rfl
theorem RelO.getD{o:Option V}{u:Option ak}{d:V}{d':ak}(r:RelO o u)(rd:RelV d d'):RelV (o.getD d) (u.getD d'):=by
 cases o with
 | none=>cases u with
  | none=>exact rd
  | some _=>exact(show False from r).elim
 | some _=>cases u with
  | none=>exact(show False from r).elim
  | some _=>exact r
theorem KV.val{kvs:List (κ×V)}{vs:List (κ×ak)}(r:KV kvs vs)(k:κ):RelO (aW kvs k) (yk vs k):=by
 unfold KV at r
 induction r with
 | nil=>exact jm
 | @cons p q ps qs h t ih =>
  obtain⟨h1,h2⟩:=h
  by_cases e:p.1=k
  .have e':q.1=k:=h1.symm.trans e;have b:yk (q::qs) k=some q.2:=by simp[yk,lg,e']
   rw[dO e,b];exact h2
  .have e':¬q.1=k:=λz=>e (h1.trans z);have b:yk (q::qs) k=yk qs k:=by simp[yk,lg,e']
   rw[dJ e,b];exact ih
theorem KV.any{kvs:List (κ×V)}{vs:List (κ×ak)}(r:KV kvs vs)(k:κ):(kvs.any λkv=>decide (kv.1=k))=vs.any λkv=>decide (kv.1=k):=by
 unfold KV at r
 induction r with
 | nil=>rfl
 | cons h t ih=>rw[fz,fz,ih,h.1]
theorem KV.repl{kvs:List (κ×V)}{vs:List (κ×ak)}(r:KV kvs vs)(k:κ){y:V}(ry:RelV y u):
  KV (kvs.map λkv=>if kv.1=k then (kv.1,y) else kv) (vs.map λkv=>if kv.1=k then (kv.1,u) else kv):=by
 unfold KV at r ⊢
 induction r with
 | nil=>exact .nil
 | @cons p q ps qs h t ih =>
  rw[bo,bo];refine .cons ?_ ih;obtain⟨h1,h2⟩:=h
  by_cases e:p.1=k
  .rw[if_pos e,if_pos (h1.symm.trans e)];exact⟨h1,ry⟩
  .rw[if_neg e,if_neg (λz=>e (h1.trans z))];exact⟨h1,h2⟩
theorem KV.put{kvs:List (κ×V)}{vs:List (κ×ak)}(r:KV kvs vs)(k:κ){y:V}(ry:RelV y u):KV (cB kvs k y) (stored vs k u):=by
 unfold cB stored;rw[r.any k]
 by_cases e:(vs.any λkv=>decide (kv.1=k))=true
 .rw[if_pos e,if_pos e];exact r.repl k ry
 .rw[if_neg e,if_neg e];exact Paired.snoc r ⟨rfl,ry⟩
theorem KV.length{kvs:List (κ×V)}{vs:List (κ×ak)}(r:KV kvs vs):kvs.length=vs.length:=bx r
end
theorem uD{k:Key}(r:RelV (kV k) u):(b9 P w).is k u=true:=by
 cases k with
 | inl i=>obtain⟨t,e⟩:=(show ∃t,u=mn i t from r);subst e;exact O2 P w i t
 | inr x=>obtain⟨t,e⟩:=(show ∃t,u=sy x t from r);subst e;exact O1 P w x t
theorem JK:∀{ks:List Key}{us:List ak},Vals (ks.map kV) us->ItemsAre (b9 P w) ks us
 | [],_,r=>by rw[List.map_nil]at r;cases r;exact .nil
 | k::ks,_,r=>by
  rw[bo]at r;cases r with
  | cons h t=>exact .cons (uD h) (JK t)
abbrev KT(H:Hp):List (List Key×V)->List (List Key×Addr×ak)->Prop:=bu λp q=>p.1=q.1/\H q.2.1=some (.tup (p.1.map kV))/\RelV p.2 q.2.2
theorem KT.val{kvs:List (List Key×V)}{xs:List (List Key×Addr×ak)}(r:KT H kvs xs)(k:List Key):RelO (aW kvs k) ((atKey xs k).map (·.2)):=by
 induction r with
 | nil=>exact jm
 | @cons p q ps qs h t ih =>
  obtain⟨h1,_,h2⟩:=h
  by_cases e:p.1=k
  .have e':q.1=k:=h1.symm.trans e;have b:atKey (q::qs) k=some q.2:=by simp[atKey,lg,e']
   rw[dO e,b];exact h2
  .have e':¬q.1=k:=λz=>e (h1.trans z);have b:atKey (q::qs) k=atKey qs k:=by simp[atKey,lg,e']
   rw[dJ e,b];exact ih
theorem KT.repl{kvs:List (List Key×V)}{xs:List (List Key×Addr×ak)}(r:KT H kvs xs)(k:List Key){y:V}(ry:RelV y u):
  KT H (kvs.map λkv=>if kv.1=k then (kv.1,y) else kv) (xs.map (putAt k u)):=by
 induction r with
 | nil=>exact .nil
 | @cons p q ps qs h t ih =>
  rw[bo,bo];refine .cons ?_ ih;obtain⟨h1,h2,h3⟩:=h;unfold putAt
  by_cases e:p.1=k
  .rw[if_pos e,if_pos (h1.symm.trans e)];exact⟨h1,h2,ry⟩
  .rw[if_neg e,if_neg (λz=>e (h1.trans z))];exact⟨h1,h2,h3⟩
theorem KT.put{kvs:List (List Key×V)}{xs:List (List Key×Addr×ak)}(r:KT H kvs xs)(k:List Key){b:Addr}{y:V}(hb:H b=some (.tup (k.map kV)))(ry:RelV y u):
  KT H (cB kvs k y) (storedH xs k b u):=by
 have e:(kvs.any λkv=>decide (kv.1=k))=(atKey xs k).isSome:=by
  rw[nX,(r.val k).isSome_eq,uw]
 unfold cB storedH;rw[e]
 by_cases q:(atKey xs k).isSome=true
 .rw[if_pos q,if_pos q];exact r.repl k ry
 .rw[if_neg q,if_neg q];exact Paired.snoc r ⟨rfl,hb,ry⟩
theorem KT.keeps{kvs:List (List Key×V)}{xs:List (List Key×Addr×ak)}(r:KT H kvs xs)(ht:∀b ys,H b=some (.tup ys)->H' b=some (.tup ys)):KT H' kvs xs :=
 Paired.mapP r λ_ _ z=>⟨z.1,ht _ _ z.2.1,z.2.2⟩
variable {kvs:List (Key×V)}
theorem aAW{u:HO}(ok:HOk P w H h)(e:Rd H a u):ObjOk P w H h a u:=e.ok ok
theorem oT(ok:HOk P w H h)(e:Rd H a (.dK kvs)):kvs.length<=sizeLine/\(a==ij)=false/\∃vs,KV kvs vs/\h.DictOf (b9 P w) a vs :=
 show ObjOk P w H h a (.dK kvs) from aAW ok e
theorem aBr(ok:HOk P w H h)(e:H a=some (.dK kvs)):kvs.length<=sizeLine/\(a==ij)=false/\∃vs,KV kvs vs/\h.DictOf (b9 P w) a vs:=oT ok (.inl e)
theorem vR{ks:List Key}(ok:HOk P w H h)(e:H a=some (.tup (ks.map kV))):(vt (b9 P w)).is h ks a:=by
 obtain⟨_,its,r,o,h1,h2,n,h3⟩:=(show ObjOk P w H h a (.tup (ks.map kV)) from ok a _ e)
 exact⟨o,its.toArray,n,h1,h2,h3,by simpa using JK r⟩
theorem wD{kvs:List (List Key×V)}(ok:HOk P w H h)(e:Rd H a (.dT kvs)):kvs.length<=sizeLine/\(a==ij)=false ∧
  ∃xs,KT H kvs xs/\h.DictOfH (vt (b9 P w)) a xs:=by
 obtain⟨z,y,xs,r,o,es,ep,h1,h2,h3,h4,h5⟩:=(show ObjOk P w H h a (.dT kvs) from aAW ok e)
 refine⟨z,y,xs,r,o,es,ep,h1,h2,h3,h4,λx hx=> ?_,h5⟩;have all:∀{l:List (List Key×V)}{m:List (List Key×Addr×ak)},KT H l m->∀x∈m,(vt (b9 P w)).is h x.1 x.2.1:=by
  intro l m q
  induction q with
  | nil=>intro x hx;exact nomatch hx
  | @cons p q ps qs hq t ih =>
   intro x hx;rcases az.mp hx with e|hx
   .subst e;exact vR ok (by rw[←hq.1];exact hq.2.1)
   .exact ih x hx
 exact all r x hx
theorem aGw{kvs:List (List Key×V)}(ok:HOk P w H h)(e:H a=some (.dT kvs)):kvs.length<=sizeLine/\(a==ij)=false ∧
  ∃xs,KT H kvs xs/\h.DictOfH (vt (b9 P w)) a xs:=wD ok (.inl e)
def DGet(H:Hp)(a:Addr)(y:V)(r:Option V):Prop :=
 (∃kvs k,Rd H a (.dK kvs)/\y=kV k/\r=aW kvs k)∨∃kvs k b,Rd H a (.dT kvs)/\y= .ref b/\H b=some (.tup (k.map kV))/\r=aW kvs k
def DPut(H:Hp)(a:Addr)(y v:V)(H':Hp):Prop :=
 (∃kvs k,H a=some (.dK kvs)/\y=kV k/\kvs.length<sizeLine/\H'=upd H a (.dK (cB kvs k v))) ∨
 ∃kvs k b,H a=some (.dT kvs)/\y= .ref b/\H b=some (.tup (k.map kV))/\kvs.length<sizeLine/\H'=upd H a (.dT (cB kvs k v))
theorem DGet.t{b:Addr}{kvs:List (List Key×V)}{k:List Key}(e:H a=some (.dT kvs))(eb:H b=some (.tup (k.map kV))):DGet H a (.ref b) (aW kvs k):= .inr ⟨kvs,k,b,.inl e,rfl,eb,rfl⟩
theorem DPut.k{k:Key}(e:H a=some (.dK kvs))(hl:kvs.length<sizeLine):DPut H a (kV k) v (upd H a (.dK (cB kvs k v))):= .inl ⟨kvs,k,e,rfl,hl,rfl⟩
theorem DPut.t{b:Addr}{kvs:List (List Key×V)}{k:List Key}(e:H a=some (.dT kvs))(eb:H b=some (.tup (k.map kV)))(hl:kvs.length<sizeLine):
  DPut H a (.ref b) v (upd H a (.dT (cB kvs k v))):= .inr ⟨kvs,k,b,e,rfl,eb,hl,rfl⟩
variable {A:ke}{E:ak->ba->Prop}
section
variable {y:V}{r:ak}{o:Option V}
theorem Inv.big(I:Inv X pins σ H s):ij<s.heap.objs.size:=by
 have h:bf<s.heap.objs.size:=(I.mod.glob.keeps I.bk).lt;exact zd (by decide) h
theorem IW{Q:ak->ba->Prop}(hu:A.units+1<om)(I:Inv X pins σ H s)(g:DGet H a y (some v))(ry:RelV y u)(h:∀w' s',Inv X pins σ H s'->RelV v w'->Q w' s'):
  cb (ck X.prog X.w) A (yi (.ref a) u) Q E s:=by
 rcases g with⟨kvs,k,e,ey,l⟩|⟨kvs,k,b,e,ey,eb,l⟩
 .subst ey;obtain⟨z,hd,vs,rel,dd⟩:=oT I.hok e;obtain⟨w',hw,rw'⟩:=RelO.some_of (v:=v) (o:=yk vs k) (by rw[l];exact rel.val k);exact wpAny_getItem_of (uD ry) dd.mapOf hw (h w' _ (I.tok _) rw')
 .subst ey;cases (show u=cu b from ry);obtain⟨z,hd,xs,rel,dd⟩:=wD I.hok e;obtain⟨w',hw,rw'⟩:=RelO.some_of (v:=v) (o:=(atKey xs k).map (·.2)) (by rw[l];exact rel.val k);obtain⟨p,hp,hp2⟩:=cj.mp hw;refine wpAny_getItem_heap (ko hu) (vR I.hok eb) dd hp ?_;rw[hp2];exact h w' _ (I.tok _) rw'
theorem aG1{Q:ak->ba->Prop}(hu:A.units+1<om)(I:Inv X pins σ H s)(g:DGet H a y o)(ry:RelV y u)(h:∀s',Inv X pins σ H s'->Q (.bool o.isSome) s'):
  cb (ck X.prog X.w) A (gg .In u (.ref a)) Q E s:=by
 rcases g with⟨kvs,k,e,ey,l⟩|⟨kvs,k,b,e,ey,eb,l⟩
 .subst ey;obtain⟨z,hd,vs,rel,dd⟩:=oT I.hok e;refine wpAny_in_of (uD ry) hd dd.mapOf ?_;rw[←(rel.val k).isSome_eq,←l];exact h _ (I.tok _)
 .subst ey;cases (show u=cu b from ry);obtain⟨z,hd,xs,rel,dd⟩:=wD I.hok e;refine wpAny_in_heap (ko hu) (vR I.hok eb) hd dd ?_;have q:=(rel.val k).isSome_eq;rw[uw]at q;rw[←q,←l];exact h _ (I.tok _)
theorem aCB{Q:ak->ba->Prop}(hu:A.units+1<om)(I:Inv X pins σ H s)(g:DGet H a y o)(ry:RelV y u)(h:∀s',Inv X pins σ H s'->Q (.bool (!o.isSome)) s'):
  cb (ck X.prog X.w) A (gg .NotIn u (.ref a)) Q E s:=by
 rcases g with⟨kvs,k,e,ey,l⟩|⟨kvs,k,b,e,ey,eb,l⟩
 .subst ey;obtain⟨z,hd,vs,rel,dd⟩:=oT I.hok e;refine wpAny_notIn_of (uD ry) hd dd.mapOf ?_;rw[←(rel.val k).isSome_eq,←l];exact h _ (I.tok _)
 .subst ey;cases (show u=cu b from ry);obtain⟨z,hd,xs,rel,dd⟩:=wD I.hok e;refine wpAny_notIn_heap (ko hu) (vR I.hok eb) hd dd ?_;have q:=(rel.val k).isSome_eq;rw[uw]at q;rw[←q,←l];exact h _ (I.tok _)
theorem G9{t':Nat}{ob:HO}(I:Inv X pins σ H s)(mu:Mut (H a))(hs:ip a s.heap h')(he:∃q,h'.get? a=some q)(new:ObjOk X.prog X.w (upd H a ob) h' a ob):
  Inv X pins σ (upd H a ob) { s with heap:=h',toks:=t' } :=
 I.write (x:=a) (e:=a) mu (.inl rfl) (λb q hb z=>(hs.2 b hb).trans z) he new
theorem zL{vs:List (Key×ak)}(z:kvs.length<=sizeLine)(hd:(a==ij)=false)(rel:KV kvs vs)(dd:h'.DictOf (b9 P w) a vs):
  ObjOk P w H' h' a (.dK kvs):=⟨z,hd,vs,rel,dd⟩
theorem JB{Q:Unit->ba->Prop}(hu:A.units+1<om)(I:Inv X pins σ H s)(g:DPut H a y v H')(ry:RelV y u)(rv:RelV v r)(h:∀s',Inv X pins σ H' s'->Q () s'):
  cb (ck X.prog X.w) A (setItem (.ref a) u r) Q E s:=by
 rcases g with⟨kvs,k,e,ey,l,eH⟩|⟨kvs,k,b,e,ey,eb,l,eH⟩
 .subst ey eH;obtain⟨z,hd,vs,rel,dd⟩:=aBr I.hok e;have hz:vs.length<=sizeLine:=by rw[←rel.length];exact z
  have hl:(cB kvs k v).length<=sizeLine:=by have:=kC kvs k v;lia
  refine wpAny_setItem_pairs (hsz:=hz) (uD ry) dd λh' dd' hs=>h _ ?_;have he:∃q,h'.get? a=some q:=let ⟨q,_,_,hq,_⟩:=dd';⟨q,hq⟩;exact G9 I (by rw[e];exact jm) hs he (zL hl hd (rel.put k rv) dd')
 .subst ey eH;cases (show u=cu b from ry);obtain⟨z,hd,xs,rel,dd⟩:=aGw I.hok e;have hz:xs.length<=sizeLine:=by rw[←bx rel];exact z
  have hl:(cB kvs k v).length<=sizeLine:=by have:=kC kvs k v;lia
  refine wpAny_setItem_heap (hsz:=hz) (ko hu) (vR I.hok eb) dd λh' dd' hs=>h _ ?_;obtain⟨q,es,ep,hq,h2,h3,h4,_,h5⟩:=dd';refine G9 I (by rw[e];exact jm) hs ⟨q,hq⟩ ⟨hl,hd,_,(rel.put k eb rv).keeps λc ys ec=> ?_,q,es,ep,hq,h2,h3,h4,h5⟩;rw[aI (aGG ec e (λz=>nomatch z))];exact ec
end
section
variable {k:Key}
end
def aD7(i:Expr):Prop:=∀ov iv,xt i false ov iv=operate [ov,iv] (yi ov iv)
theorem aCK{env:Env}{slice:Expr}{T id:String}{Q:ak->ba->Prop}
  (hl:ua (.type T) "__getitem__" =pure (some (.builtin id)))(hs:aD7 slice)
  (h:cb (ck prog w) A (eval value env) (λo s₁=>cb (ck prog w) A (eval slice env) (λi s₂=>s₂.TypeIs o T/\cb (ck prog w) A (yi o i) Q E s₂) E s₁) E s) :
  cb (ck prog w) A (eval (.Subscript value slice pos) env) Q E s:=by
 refine yr (fq h (λo s₁ h₁=>fq h₁ (λi s₂ h₂=> ?_) λ_ _ x=>x) λ_ _ x=>x);obtain⟨hT,h₂⟩:=h₂;unfold ve;refine af ?_;rw[getitemInPython_of_ne hT.not_modules];refine af (wz hT hl ?_);have fin:cb (ck prog w) A (xt slice false o i) (λr s₃=>cb (ck prog w) A (letTemporaryGo value o r >>= λ_=>pure r) Q E s₃) E s₂:=by
  rw[hs o i];exact wpAny_operating (fq h₂ (λr s₃ h₃=>af (wpAny_letTemporaryGo (ax h₃))) λ_ _ x=>x)
 first
  | exact ax (af fin)
  | exact af (ax (af fin))
  | exact af fin
theorem PU{y:V}{o:Option V}(I:Inv X pins σ H s)(g:DGet H a y o):s.TypeIs (.ref a) "dict" :=by
 rcases g with⟨kvs,k,e,_,_⟩|⟨kvs,k,b,e,_,_,_⟩
 .obtain⟨_,_,vs,_,dd⟩:=oT I.hok e;exact dd.typeIs
 .obtain⟨_,_,xs,_,dd⟩:=wD I.hok e;exact dd.typeIs
def aA2(td ty:TE):TE:=λσ H Q=>td σ H λx H1=>ty σ H1 λy H2=>∃a v,x= .ref a/\DGet H2 a y (some v)/\Q v H2
def aFi(ty td:TE):TE:=λσ H Q=>ty σ H λy H1=>td σ H1 λx H2=>∃a o,x= .ref a/\DGet H2 a y o/\Q (.bl o.isSome) H2
def RF(ty td:TE):TE:=λσ H Q=>ty σ H λy H1=>td σ H1 λx H2=>∃a o,x= .ref a/\DGet H2 a y o/\Q (.bl (!o.isSome)) H2
def aBa(td ty tv:TE):TS:=λD σ H=>tv σ H λv H1=>td σ H1 λx H2=>ty σ H2 λy H3=>∃a H4,x= .ref a/\DPut H3 a y v H4/\D.nx σ H4
def aBp(td ty tv:TE)(rd:V->V->Hp->VK->Prop):TS:=λD σ H=>td σ H λx H1=>ty σ H1 λy H2=>∃a v,x= .ref a/\DGet H2 a y (some v) ∧
 tv σ H2 λy2 H3=>rd v y2 H3 λz H4=>∃H5,DPut H4 a y z H5/\D.nx σ H5
variable {rd:V->V->Hp->VK->Prop}
section
variable {o i:Expr}{pos':Pos}{ty:TE}
theorem dL(hu:X.A.units+1<om)(ho:PE X o td)(hi:PE X i ty)(hs:aD7 i):PE X (.Subscript o i pos) (aA2 td ty):=by
 intro pins s σ H Q I h;refine aCK PySem.F.slot_dict_getitem.lookup hs (thn (ho pins s σ H _ I h) ?_);rintro u s1 ⟨x,H1,I1,rx,q1⟩;refine thn (hi pins s1 σ H1 _ I1 q1) ?_;rintro iv s2 ⟨y,H2,I2,ry,a,v,ex,g,q2⟩;subst ex;obtain rfl:u=cu a:=rx;exact⟨PU I2 g,IW hu I2 g ry λw' s3 I3 rw'=>⟨v,H2,I3,rw',q2⟩⟩
theorem FI(hu:X.A.units+1<om)(hi:PE X i ty)(ho:PE X o td):PC X .In i o (aFi ty td):=by
 intro pins s σ H Q I h;refine thn (hi pins s σ H _ I h) ?_;rintro iv s1 ⟨y,H1,I1,ry,q1⟩;refine thn (ho pins s1 σ H1 _ I1 q1) ?_;rintro u s2 ⟨x,H2,I2,rx,a,ov,ex,g,q2⟩;subst ex;obtain rfl:u=cu a:=rx;exact aG1 hu I2 g ry λs3 I3=>⟨.bl ov.isSome,H2,I3,rfl,q2⟩
theorem uO(hu:X.A.units+1<om)(hi:PE X i ty)(ho:PE X o td):PC X .NotIn i o (RF ty td):=by
 intro pins s σ H Q I h;refine thn (hi pins s σ H _ I h) ?_;rintro iv s1 ⟨y,H1,I1,ry,q1⟩;refine thn (ho pins s1 σ H1 _ I1 q1) ?_;rintro u s2 ⟨x,H2,I2,rx,a,ov,ex,g,q2⟩;subst ex;obtain rfl:u=cu a:=rx;exact aCB hu I2 g ry λs3 I3=>⟨.bl (!ov.isSome),H2,I3,rfl,q2⟩
theorem gB(hu:X.A.units+1<om)(ho:PE X o td)(hi:PE X i ty)(hv:PE X value tv)(hs:yh value (some (.Subscript o i pos')) pos.line X.env=pure false):
  PS X (.Assign [.Subscript o i pos'] value pos) (aBa td ty tv):=by
 intro pins s σ H D I h;refine wpAny_Assign_Subscript (thn (hv pins s σ H _ I h) ?_) hs;rintro r s1 ⟨v,H1,I1,rv,q1⟩;refine thn (ho pins s1 σ H1 _ I1 q1) ?_;rintro u s2 ⟨x,H2,I2,rx,q2⟩;refine thn (hi pins s2 σ H2 _ I2 q2) ?_;rintro iv s3 ⟨y,H3,I3,ry,a,H4,ex,g,q3⟩;subst ex;obtain rfl:u=cu a:=rx;exact JB hu I3 g ry rv λs4 I4=>⟨σ,H4,I4,q3⟩
theorem aCn{op:vv}(hu:X.A.units+1<om)(ho:PE X o td)(hi:PE X i ty)(hv:PE X value tv)(hop:ZR X op rd)
  (ha:∀ov iv new,augStore i ov iv new=(do uk [new,ov,iv] (setItem ov iv new);release [new,ov,iv] [];pure .next)):PS X (.AugAssign (.Subscript o i tpos) op value pos) (aBp td ty tv rd):=by
 intro pins s σ H D I h;refine qx (thn (ho pins s σ H _ I h) ?_) ha;rintro u s1 ⟨x,H1,I1,rx,q1⟩;refine thn (hi pins s1 σ H1 _ I1 q1) ?_;rintro iv s2 ⟨y,H2,I2,ry,a,v,ex,g,q2⟩;subst ex;obtain rfl:u=cu a:=rx;refine IW hu I2 g ry λw' s3 I3 rw'=>thn (hv pins s3 σ H2 _ I3 q2) ?_;rintro w2 s4 ⟨y2,H3,I4,ry2,q3⟩;refine thn (hop pins s4 σ H3 v y2 w' w2 _ I4 rw' ry2 q3) ?_;rintro w3 s5 ⟨z,H4,I5,rz,H5,g5,q4⟩;exact JB hu I5 g5 ry rz λs6 I6=>⟨σ,H5,I6,q4⟩
end
theorem OE(h:Heap)(hb:ij<h.objs.size):ObjOk P w H (h.push { cls:= .type "dict",data:= .dict #[] }) h.objs.size (.dK []) :=
 ⟨et _,beq_eq_false_iff_ne.mpr (fb (cf hb)),[],.nil,zh h⟩
theorem aAI(h:Heap)(hb:ij<h.objs.size):ObjOk P w H (h.push { cls:= .type "dict",data:= .dict #[] }) h.objs.size (.dT []) :=
 ⟨et _,beq_eq_false_iff_ne.mpr (fb (cf hb)),[],.nil,_,#[],0,be _ rfl,⟨rfl,rfl,rfl⟩,rfl,rfl,oy⟩
def VF:TE:=λ_ H Q=>∀p,H p=none->Q (.ref p) (upd H p (.dK []))
def U7:TE:=λ_ H Q=>∀p,H p=none->Q (.ref p) (upd H p (.dT []))
theorem m6:PE X (.Dict [] [] pos) VF:=λpins s σ H Q I h =>
 wpAny_Dict_empty ⟨.ref s.heap.objs.size,_,I.laid (a:=s.heap.objs.size) (o:= .dK []) (t':=s.toks) (λ_ _ q=>aj _ q) (aq _) (OE s.heap I.big),rfl,h _ (I.hok.fresh (aq _))⟩
theorem D7:PE X (.Dict [] [] pos) U7:=λpins s σ H Q I h =>
 wpAny_Dict_empty ⟨.ref s.heap.objs.size,_,I.laid (a:=s.heap.objs.size) (o:= .dT []) (t':=s.toks) (λ_ _ q=>aj _ q) (aq _) (aAI s.heap I.big),rfl,h _ (I.hok.fresh (aq _))⟩
def lY(kvs more:List (Key×V)):List (Key×V):=more.foldl (λacc kv=>cB acc kv.1 kv.2) kvs
theorem KV.merge:∀{more:List (Key×V)}{rs:List (Key×ak)}{kvs:List (Key×V)}{vs:List (Key×ak)},KV more rs->KV kvs vs->KV (lY kvs more) (merged vs rs):=by
 intro more rs kvs vs r;unfold KV at r
 induction r generalizing kvs vs with
 | nil=>intro q;exact q
 | @cons p q ps qs h t ih =>
  intro r0;have e:KV (cB kvs p.1 p.2) (stored vs q.1 q.2):=by
   have:=r0.put p.1 h.2;rw[←h.1];exact this
  exact ih e
theorem yO:∀(more kvs:List (Key×V)),(lY kvs more).length<=kvs.length+more.length
 | [],kvs=>by show kvs.length<=kvs.length+0;lia
 | p::r,kvs=>by
  have h1:=yO r (cB kvs p.1 p.2);have h2:=kC kvs p.1 p.2;show (lY (cB kvs p.1 p.2) r).length<=_;rw[bb];lia
structure M2(X:Cx)(o:Expr)(m:Str)(apos:Pos)(e f:Expr)(cpos:Pos):Prop where
 base:jz o m X.env (eval o X.env)=eval o X.env
 few:((jl cpos (cy [e,f] X.env)).all (λx=> !x.1)&&(ub cpos (mh [] X.env)).all (λx=>x.1.isSome)
  && decide (([e,f]:List Expr).length+([]:List Keyword).length+(if ([]:List Keyword).isEmpty then 0 else 1)<30))=true
 line:(apos.endLine==cpos.line)=true
 trees:jl cpos (cy [e,f] X.env)=[(false,eval e X.env),(false,eval f X.env)]
def IsD(H:Hp)(a:Addr):Prop:=(∃kvs,Rd H a (.dK kvs))∨∃kvs,Rd H a (.dT kvs)
theorem L3(I:Inv X pins σ H s)(d:IsD H a):
  s.TypeIs (.ref a) "dict" /\(∀b,cu a= .ref b->∃ob,s.heap.get? b=some ob/\ob.dict=none)/\(a==ij)=false:=by
 rcases d with⟨kvs,e⟩|⟨kvs,e⟩
 .obtain⟨_,hd,vs,_,dd⟩:=oT I.hok e;refine⟨dd.typeIs,λb q=> ?_,hd⟩;cases q;obtain⟨ob,_,_,h1,h2,_⟩:=dd;exact⟨ob,h1,h2.2.1⟩
 .obtain⟨_,hd,xs,_,dd⟩:=wD I.hok e;refine⟨dd.typeIs,λb q=> ?_,hd⟩;cases q;obtain⟨ob,_,_,h1,h2,_⟩:=dd;exact⟨ob,h1,h2.2.1⟩
section
variable {y d:V}{r:ak}{o:Option V}
theorem aEb{Q:ak->ba->Prop}(hu:A.units+1<om)(I:Inv X pins σ H s)(g:DGet H a y o)(ry:RelV y u)(rd:RelV d r)(h:∀w' s',Inv X pins σ H s'->RelV (o.getD d) w'->Q w' s'):
  cb (ck X.prog X.w) A (call (.builtin "dict.get") [.ref a,u,r]) Q E s:=by
 rcases g with⟨kvs,k,e,ey,l⟩|⟨kvs,k,b,e,ey,eb,l⟩
 .subst ey;obtain⟨z,hd,vs,rel,dd⟩:=oT I.hok e;refine call_meetsIn px dd.typeIs wq (vz _ _ _) (meets_dict_get_default (b9 X.prog X.w) a (uD ry) hd r) ⟨_,dd.mapOf,h _ _ (I.tok _) ?_⟩;rw[l];exact(rel.val k).getD rd
 .subst ey;cases (show u=cu b from ry);obtain⟨z,hd,xs,rel,dd⟩:=wD I.hok e;refine call_meetsIn px dd.typeIs wq (vz _ _ _) (meetsH_dict_get_default (vt (b9 X.prog X.w)) a b hd r) ⟨ko hu,k,xs,vR I.hok eb,dd,h _ _ (I.tok _) ?_⟩;rw[l];exact(rel.val k).getD rd
end
def UN(td ty tx:TE):TE:=λσ H Q=>td σ H λx H1=>∃a,x= .ref a/\IsD H1 a/\ty σ H1 λy H2=>tx σ H2 λz H3=>∃o,DGet H3 a y o/\Q (o.getD z) H3
section
variable {o f:Expr}{ty:TE}
theorem aAA(hu:X.A.units+1<om)(ho:PE X o td)(he:PE X e ty)(hf:PE X f tx)(m:M2 X o "get" apos e f cpos):PE X (.Call (.Attribute o "get" apos) [e,f] [] cpos) (UN td ty tx):=by
 intro pins s σ H Q I h;refine wpAny_Call_method m.base m.few m.line PySem.F.plainAttrs_dict px PySem.F.type_dict_get (thn (ho pins s σ H _ I h) ?_);rintro u s1 ⟨x,H1,I1,rx,a,ex,d,q1⟩;subst ex;obtain rfl:u=cu a:=rx;obtain⟨t1,t2,_⟩:=L3 I1 d;refine⟨t1,t2,?_⟩;rw[m.trees];refine ji rfl (xu (tu (thn (he pins s1 σ H1 _ I1 q1) λiv s2 ⟨y,H2,I2,ry,q2⟩ =>
  tu (thn (hf pins s2 σ H2 _ I2 q2) λfv s3 ⟨z,H3,I3,rz,ov,g,q3⟩=>Calls.spliced_nil ?_))))
 exact aEb hu I3 g ry rz λw' s4 I4 rw'=>⟨_,H3,I4,rw',q3⟩
end
section
variable {y:V}
end
section
variable [DecidableEq κ]
theorem nd_snoc:∀{l:List κ}{k:κ},l.Nodup->¬k∈l->(l++[k]).Nodup
 | [],k,_,_=>by simp
 | a::r,k,h,hk=>by
  obtain⟨h1,h2⟩:=cm.mp h;show (a::(r++[k])).Nodup;refine cm.mpr ⟨λm=> ?_,nd_snoc h2 λm=>hk (az.mpr (we m))⟩;rcases bh.mp m with q|q
  .exact h1 q
  .exact hk (az.mpr (xk (bz.mp q).symm))
end
open PySem.W
def bC(c:Nat->Nat->Bool):KasT α->α
 | .ret a=>a
 | .ask i j k=>bC c (k (c i j))
def KasIn(n:Nat)(R:α->Prop):KasT α->Prop
 | .ret a=>R a
 | .ask i j k=>i<n/\j<n/\∀b,KasIn n R (k b)
theorem KasIn.bind{β:Type}{R:α->Prop}{S:β->Prop}{f:α->KasT β}(hf:∀a,R a->KasIn n S (f a)):∀{t:KasT α},KasIn n R t->KasIn n S (t.bind f)
 | .ret _,h=>hf _ h
 | .ask _ _ _,h=>⟨h.1,h.2.1,λb=>KasIn.bind hf (h.2.2 b)⟩
theorem KasIn.val{R:α->Prop}(c:Nat->Nat->Bool):∀{t:KasT α},KasIn n R t->R (bC c t)
 | .ret _,h=>h
 | .ask i j k,h=>KasIn.val c (t:=k (c i j)) (h.2.2 (c i j))
theorem KasIn.wp{R:α->Prop}{c:Nat->Nat->Bool}{cmp:Nat->Nat->(Bool->ba->Prop)->ba->Prop}(hc:∀i j,i<n->j<n->∀C,C (c i j) s->cmp i j C s){Q:α->ba->Prop}:
  ∀{t:KasT α},KasIn n R t->Q (bC c t) s->t.kasWp cmp Q s
 | .ret _,_,q=>q
 | .ask i j k,h,q=>hc i j h.1 h.2.1 _ (KasIn.wp hc (t:=k (c i j)) (h.2.2 (c i j)) q)
abbrev Places(n:Nat)(p:Array Nat):Prop:=p.Perm (el n).toArray
theorem Places.lt{p:Array Nat}(h:Places n p)(h0:0<n)(i:Nat):p.getD i 0<n:=by
 by_cases hi:i<p.size
 .have e:p.getD i 0=p[i]:=by simp[ud,hi]
  rw[e];have:=h.mem_iff.mp (Array.getElem_mem hi)
  simpa using this
 .have e:p.getD i 0=0:=by simp[ud,hi]
  rw[e];exact h0
theorem lR{p:Array Nat}(h:Places n p)(i j:Nat):Places n (kas_rev p i j):=(mirror_perm _ _ _ _).trans h
theorem OI{p:Array Nat}(h0:0<n)(hp:Places n p):∀(f k:Nat),KasIn n (λ_=>True) (qo p f k)
 | 0,_=>trivial
 | f+1,k=>⟨hp.lt h0 _,hp.lt h0 _,λb=>by cases b with|true=>exact trivial|false=>exact OI h0 hp f (k+1)⟩
theorem BE(h0:0<n):∀(f:Nat) {p:Array Nat},Places n p->∀k q,KasIn n (λr:Array Nat×Nat×Nat=>Places n r.1) (kas_desc f p k q)
 | 0,_,hp,_,_=>hp
 | f+1,p,hp,k,q=>by
  refine⟨hp.lt h0 _,hp.lt h0 _,λb=> ?_⟩;cases b with
  | true =>
   show KasIn n _ (if q>0 then _ else _)
   split
   .exact BE h0 f (lR hp _ _) _ _
   .exact BE h0 f hp _ _
  | false =>
   refine⟨hp.lt h0 _,hp.lt h0 _,λb=> ?_⟩;cases b with
   | true=>exact hp
   | false=>exact BE h0 f hp _ _
theorem N4{k m:Nat}{p:Array Nat}(h0:0<n)(hp:Places n p):KasIn n (λr:Nat×Array Nat=>Places n r.2) (kas_tail3 k m p) :=
 KasIn.bind (R:=λ_=>True) (S:=λr:Nat×Array Nat=>Places n r.2) (f:=λj=> .ret (j,kas_rev p 0 k)) (λ_ _=>lR hp 0 k) (OI h0 (lR hp 0 k) (m - k) k)
theorem C1{k m:Nat}{p:Array Nat}(h0:0<n)(hp:Places n p):KasIn n (λr:Nat×Array Nat=>Places n r.2) (kas_descPart k m p) :=
 KasIn.bind (λr hr=>by
  split
  .exact N4 h0 (lR hr _ _)
  .exact N4 h0 hr) (BE h0 _ hp _ _)
theorem aAt{m:Nat}{p:Array Nat}(h0:0<n)(hp:Places n p):KasIn n (λr:Nat×Array Nat=>Places n r.2) (kas_count m p) :=
 KasIn.bind (λk _=>by
  split
  .exact hp
  .split
   .refine⟨hp.lt h0 _,hp.lt h0 _,λb=> ?_⟩;cases b with
    | true=>exact hp
    | false=>exact C1 h0 (lR hp _ _)
   .exact C1 h0 hp) (OI h0 hp _ _)
theorem DQ{k:Nat}{p:Array Nat}(h0:0<n)(hp:Places n p):∀(f l r:Nat),KasIn n (λ_=>True) (ls p k f l r)
 | 0,_,_=>trivial
 | f+1,l,r=>by
  unfold ls
  split
  .exact trivial
  .refine⟨hp.lt h0 _,hp.lt h0 _,λb=> ?_⟩;cases b with
   | true=>exact DQ h0 hp f _ _
   | false=>exact DQ h0 hp f _ _
theorem XE(h0:0<n):∀(f:Nat) {p:Array Nat} (k:Nat),Places n p->KasIn n (Places n) (kas_bin f p k)
 | 0,_,_,hp=>hp
 | f+1,_,k,hp=>KasIn.bind (λ_ _=>XE h0 f (k+1) ((bubble_perm _ _ _).trans hp)) (DQ h0 hp _ _ _)
theorem F8(h0:0<n):KasIn n (Places n) (kas_sort n) :=
 KasIn.bind (λr hr=>by
  split
  .exact XE h0 _ _ hr
  .exact hr) (aAt h0 (Array.Perm.refl _))
def cM(d:α)(c:Nat->Nat->Bool)(l:List α):List α:=if l.length<2 then l else (bC c (kas_sort l.length)).toList.map λi=>l.getD i d
theorem eI(c:Nat->Nat->Bool)(h:0<n):Places n (bC c (kas_sort n)):=(F8 h).val c
theorem vJ(d:α)(c:Nat->Nat->Bool)(l:List α):(cM d c l).length=l.length:=by
 unfold cM
 split
 .rfl
 .have h:=(eI (n:=l.length) c (by lia)).size_eq;rw[ae,gf,h];simp
open PySem.Calls
abbrev vO(a:Addr)(h h':Heap):Prop:=∀b o,b≠a->h.get? b=some o->h'.get? b=some o
theorem aCv{vs:List ak}{P:PySem.Fin->ba->Prop}(c:Nat->Nat->Bool)(κ:mi)(ho:s.heap.get? a=some (lx "list" vs.toArray n))(h64:vs.length<64)
  (hk:2<=vs.length->∀h',vO a s.heap h'->∀R:mi->ba->Prop,R κ { s with heap:=h' }->cb (ck prog w) A (keyKind' vs.toArray) R (λ_ _=>False) { s with heap:=h' })
  (hc:2<=vs.length->∀h',vO a s.heap h'->∀i j,i<vs.length->j<vs.length->∀C,C (c i j) { s with heap:=h' }->kas_ask prog w A κ vs i j C { s with heap:=h' })
  (h:∀h' e,vO a s.heap h'->h'.get? a=some (lx "list" (cM fu c vs).toArray e)->P (.done (.ret .none)) { s with heap:=h' }) :
  cb (ck prog w) A (ux.«list.sort» ⟨[.ref a],[]⟩) P E s:=by
 have lt:a<s.heap.objs.size:=bc ho;generalize hg1:s.heap.update a (ix λ_=>(#[]:Array ak))=g1;have sb1:ip a s.heap g1:=hg1▸kb s.heap a (ix λ_=>(#[]:Array ak));obtain⟨e1,o1⟩:∃e1,g1.get? a=some (lx "list" #[] e1):=hg1▸⟨_,get?_update_seq ho λ_=> #[]⟩;have lt1:a<g1.objs.size:=bc o1;have kp:vO a s.heap ((g1.push (lx "tuple" vs.toArray 0)).push (lx "list" #[] 0)):=λb o hb q =>
  aj _ (aj _ ((sb1.2 b hb).trans q))
 have o3:((g1.push (lx "tuple" vs.toArray 0)).push (lx "list" #[] 0)).get? a=some (lx "list" #[] e1):=aj _ (aj _ o1);generalize hg3:(g1.push (lx "tuple" vs.toArray 0)).push (lx "list" #[] 0)=g3 at kp o3;have fin:∀out:List ak,out.length=vs.length->out=cM fu c vs->cb (ck prog w) A (do
   let touched:=(←seqEpoch a) !=e1
   wa (.ref a) λ_=>out.toArray
   if let some e:=(none:Option ak) then rule "list.sort.comparison-raised";throw e
   if touched then rule "list.sort.modified";raiseError "ValueError" "list modified during sort"
   ret .none) P E { s with heap:=g3 }:=by
  intro out hl ho';obtain⟨e2,o4⟩:∃e2,(g3.update a (ix λ_=>out.toArray)).get? a=some (lx "list" out.toArray e2):=⟨_,get?_update_seq o3 λ_=>out.toArray⟩
  refine af (seqEpoch_at (s:={ s with heap:=g3 }) o3 rfl ?_);refine af (listUpdate_at (s:={ s with heap:=g3 }) o3 rfl ?_ (et _) (by rw[bj,sizeLine_eq];lia));simp only[bne_self_eq_false,gb,if_false];refine ax (h _ e2 (λb o hb q=> ?_) (ho'▸o4));exact((kb g3 a (ix λ_=>out.toArray)).2 b hb).trans (kp b o hb q)
 rw[list_sort_plain];refine af (listItems_at ho rfl (af (listUpdate_at ho rfl ?_ (by rw[bj,sizeLine_eq];lia) (et _))));rw[hg1];refine af (seqEpoch_at (s:={ s with heap:=g1 }) o1 rfl ?_);refine af (wpAny_newTuple ?_ (by show vs.length<=_;rw[sizeLine_eq];lia));refine af (wpAny_newList ?_ (et _));refine ie ?_;show cb (ck prog w) A _ P E { s with heap:=(g1.push (lx "tuple" vs.toArray 0)).push (lx "list" #[] 0) };rw[hg3]
 dsimp only
 by_cases h2:vs.toArray.size<2
 .rw[if_pos h2,if_pos h2];have h2':vs.length<2:=by rwa [bj]at h2
  refine af (ax ?_);rw[StateT.run_pure];refine af (ax ?_)
  dsimp only
  have ez:(arrOf (SortSt.mk' general' (vs.toArray.zip vs.toArray) #[] 7 none)).map (·.2)=vs.toArray:=by
   show (vs.toArray.zip vs.toArray).map (·.2)=_
   apply Array.toList_inj.mp
   rw[Array.toList_map,Array.toList_zip,List.map_snd_zip];exact aq _
  rw[ez];exact fin vs rfl (by unfold cM;rw[if_pos h2'])
 .rw[if_neg h2,if_neg h2];have h2':2<=vs.length:=by rw[bj]at h2;lia
  refine af (fq (hk h2' _ kp (λκ' s'=>κ'=κ/\s'={ s with heap:=g3 }) ⟨rfl,rfl⟩) ?_ λ_ _ x=>x.elim);rintro _ _ ⟨rfl,rfl⟩;refine af (fq (kat_run (Q:=λst' s'=>∃p:Array Nat,p=bC c (kas_sort vs.length)/\arrOf st'=p.map (kas_item (vs.toArray.zip vs.toArray))/\failedOf st'=none/\s'={ s with heap:=g3 }) (G:=λp s'=>p=bC c (kas_sort vs.length)/\s'={ s with heap:=g3 })
   rfl h2' h64 (λp st' s' _ a2 a3 a4=>⟨p,a4.1,a2,a3,a4.2⟩) ((F8 (by lia)).wp (hc h2' _ kp) ⟨rfl,rfl⟩)) ?_ λ_ _ e=>e)
  rintro ⟨⟨⟩,st'⟩ _ ⟨p,rfl,har,hf,rfl⟩
  dsimp only
  rw[kat_snds rfl har,hf];have hz:=(eI (n:=vs.length) c (by lia)).size_eq;exact fin _ (by rw[ae,gf,hz];simp) (by unfold cM;rw[if_neg (by lia)])
theorem JF{l:Addr}{vs:List ak}{Q:ak->ba->Prop}(c:Nat->Nat->Bool)(κ:mi)(hl:s.heap.IsList l vs.toArray)(h64:vs.length<64)
  (hk:2<=vs.length->∀h',(∀b o,s.heap.get? b=some o->h'.get? b=some o)->∀R:mi->ba->Prop,R κ { s with heap:=h' }->cb (ck prog w) A.in1.in1 (keyKind' vs.toArray) R (λ_ _=>False) { s with heap:=h' })
  (hc:2<=vs.length->∀h',(∀b o,s.heap.get? b=some o->h'.get? b=some o)->∀i j,i<vs.length->j<vs.length->∀C,C (c i j) { s with heap:=h' }->kas_ask prog w A.in1.in1 κ vs i j C { s with heap:=h' })
  (h:∀D h' e,s.heap.objs.size<=D->(∀b o,s.heap.get? b=some o->h'.get? b=some o)->h'.get? D=some (lx "list" (cM fu c vs).toArray e)->Q (.ref D) { s with heap:=h' }) :
  cb (ck prog w) A (call (.builtin "sorted") [.ref l]) Q E s:=by
 have hz64:vs.length<=sizeLine:=by rw[sizeLine_eq];lia
 refine Calls.call_function_entry kind_sorted plain_sorted entry_sorted (args_sorted1 _) ?_;unfold ux.«sorted»;refine af (m:=checkCount "sorted" 1 1 _) (ax (af (collect_list hl ?_ hz64)));refine af (wpAny_newList ?_ hz64);generalize hq:(s.heap.push (lx "list" #[] 0)).update s.heap.objs.size (ix (·++vs.toArray))=q;have qs:q.objs.size=s.heap.objs.size+1:=by rw[←hq,Heap.size_update,size_push']
 have qk:∀b o,s.heap.get? b=some o->q.get? b=some o:=λb o e=>by
  have bl:b<s.heap.objs.size:=bc e;rw[←hq,Heap.get?_update_ne _ _ _ _ (cf bl),Heap.get?_push_ne _ _ _ (cf bl)];exact e
 have oD:(q.push (lx "list" vs.toArray 0)).get? q.objs.size=some (lx "list" vs.toArray 0):=be _ rfl;have kD:∀h',vO q.objs.size (q.push (lx "list" vs.toArray 0)) h'->∀b o,s.heap.get? b=some o->h'.get? b=some o:=λh' k b o e =>
  k b o (cf (by rw[qs];exact ur (bc e))) (aj _ (qk b o e))
 refine af (ie (ik slot_list_sort ⟨_,oD,rfl⟩ entry_list_sort ?body (args_list_sort _)))
 case body =>
  refine aCv (s:={ s with heap:=q.push (lx "list" vs.toArray 0) }) c κ oD h64 (λh2 h' k=>hk h2 h' (kD h' k)) (λh2 h' k=>hc h2 h' (kD h' k)) λh' e k o'=> ?_;exact⟨_,rfl,ax ⟨_,rfl,h _ h' e (by show s.heap.objs.size<=q.objs.size;rw[qs];exact uo _) (kD h' k) o'⟩⟩
def fL:Key->Bool
 | .inl _=>true
 | .inr _=>false
def TX:Key->Key->Bool
 | .inl i,.inl j=>decide (i<j)
 | .inr x,.inr y=>decide (x.cps.toList<y.cps.toList)
 | _,_=>false
def LT:List Key->List Key->Bool
 | a::as,b::bs=>if a=b then LT as bs else TX a b
 | _,_=>false
theorem aEz{a b:Key}{v:ak}{Q:Bool->ba->Prop}(k:fL a=fL b)(ru:RelV (kV a) u)(rv:RelV (kV b) v)(q:Q (decide (a=b)) s):cb (ck prog w) A (eqBool u v) Q E s:=by
 cases a<;>cases b<;>first|(cases k;done)|skip
 .obtain⟨t,rfl⟩:=ru;obtain⟨t',rfl⟩:=rv;refine wpAny_eqBool_int ?_;rename_i i j;have e:(i==j)=decide ((nz i:Key)=nz j):=by
   by_cases z:i=j
   .subst z;simp
   .rw[beq_false_of_ne z,decide_eq_false (λy=>z (md y))]
  rw[e];exact q
 .obtain⟨t,rfl⟩:=ru;obtain⟨t',rfl⟩:=rv;refine wpAny_eqBool_str ?_;rename_i i j;have e:decide (i=j)=decide ((km i:Key)=km j):=by
   by_cases z:i=j
   .subst z;simp
   .rw[decide_eq_false z,decide_eq_false (λy=>z (ir y))]
  rw[e];exact q
theorem aFM{a b:Key}{v:ak}{Q:Bool->ba->Prop}(k:fL a=fL b)(ru:RelV (kV a) u)(rv:RelV (kV b) v)(q:Q (TX a b) s)(t:Bool):cb (ck prog w) A (oneLt' t u v) Q E s:=by
 cases a<;>cases b<;>first|(cases k;done)|skip
 .obtain⟨t1,rfl⟩:=ru;obtain⟨t2,rfl⟩:=rv;cases t with
  | true=>exact oneLt_int q
  | false=>exact kat_one _ _ (lt_int q)
 .obtain⟨t1,rfl⟩:=ru;obtain⟨t2,rfl⟩:=rv;cases t with
  | true=>exact oneLt_str q
  | false=>exact kat_one _ _ (lt_str q)
theorem VO{Q:Bool->ba->Prop}:∀{as bs:List Key}{us vs:List ak} (i:Nat),as.map fL=bs.map fL->Vals (as.map kV) us->Vals (bs.map kV) vs->Q (LT as bs) s->KatLex prog w A true false Q (us.zip vs) i s
 | [],[],_,_,_,_,.nil,.nil,q=>kat_nil q
 | [],_::_,_,_,_,k,_,_,_=>by cases k
 | _::_,[],_,_,_,k,_,_,_=>by cases k
 | a::as,b::bs,_,_,i,k,.cons ra rs,.cons rb rt,q=>by
  have k1:fL a=fL b:=(vh k).1;refine kat_cons (aEz k1 ra rb ?_);have q':Q (if a=b then LT as bs else TX a b) s:=q
  by_cases z:a=b
  .rw[if_pos z]at q';rw[decide_eq_true z];exact kat_yes (VO (i+1) (vh k).2 rs rt q')
  .rw[if_neg z]at q';rw[decide_eq_false z];exact kat_no (aFM k1 ra rb q' _)
abbrev KRows(H:Hp):List V->List (List Key)->Prop:=bu λv r=>∃p,v= .ref p/\H p=some (.tup (r.map kV))
theorem KRows.map(f:∀p xs,H p=some (.tup xs)->H' p=some (.tup xs)):∀{vs:List V}{rs:List (List Key)},KRows H vs rs->KRows H' vs rs
 | _,_,.nil=> .nil
 | _,_,.cons ⟨p,e,h⟩ r=> .cons ⟨p,e,f _ _ h⟩ (KRows.map f r)
theorem KRows.same{rs:List (List Key)}(x:KRows H vs rs)(s:Same H H'):KRows H' vs rs:=x.map λp xs h=>s _ _ h
theorem KRows.get:∀{vs:List V}{rs:List (List Key)}{i:Nat}{v:V},KRows H vs rs->vs[i]? =some v->∃p r,v= .ref p/\rs[i]? =some r/\H p=some (.tup (r.map kV))
 | _,_,0,_,.cons ⟨p,e,h⟩ _,z=>by cases z;exact⟨p,_,e,rfl,h⟩
 | _,_,i+1,_,.cons _ t,z=>KRows.get (i:=i) t (by simpa using z)
 | _,_,_,_,.nil,z=>by simp at z
def uH(rs:List (List Key))(i j:Nat):Bool:=LT (rs.getD i []) (rs.getD j [])
def T9(rs:List (List Key))(vs:List V):List V:=cM .non (uH rs) vs
variable {sh:List Bool}
theorem HM(I:Inv X pins σ H s){r:List Key}(e:H p=some (.tup (r.map kV))):∃(o:Obj) (us:List ak) (n:Nat),s.heap.get? p=some o/\o.cls= .type "tuple" /\o.data= .seq us.toArray n/\Vals (r.map kV) us:=by
 obtain⟨_,its,r',o,h1,h2,n,h3⟩:=(show ObjOk X.prog X.w H s.heap p (.tup (r.map kV)) from I.hok p _ e)
 exact⟨o,its,n,h1,h2,h3,r'⟩
theorem JR(I:Inv X pins σ H s){T:ak}(kp:∀b o,s.heap.get? b=some o->h'.get? b=some o)(hT:∀(k:Key) (u:ak),sh.head? =some (fL k)->RelV (kV k) u->Looks (ck X.prog X.w) h' (typeOf u) T):
  ∀{vs:List V}{rs:List (List Key)}{us:List ak},KRows H vs rs->Vals vs us->(∀r∈rs,r.map fL=sh)->sh≠[]->∃fs,KatTups h' us fs/\fs.length=us.length/\∀v∈fs,Looks (ck X.prog X.w) h' (typeOf v) T
 | _,_,_,.nil,.nil,_,_=>⟨[],trivial,rfl,λ_ z=>nomatch z⟩
 | _::_,r::_,_::_,.cons ⟨p,hv,e⟩ q,.cons rv rt,hs,hn=>by
  obtain⟨fs,f1,f2,f3⟩:=JR I kp hT q rt (λr hr=>hs r (ab _ hr)) hn;subst hv;cases rv;have hr:=hs r (.head _);cases r with
  | nil=>exact absurd hr.symm hn
  | cons k ks =>
   obtain⟨o,us,n,o1,o2,o3,o4⟩:=HM I e;cases o4 with
   | cons r1 r2 =>
    rename_i u us;refine⟨u::fs,KatTups.cons (kp _ _ o1) o2 o3 (by simp) f1,by simp[f2],λv hv=> ?_⟩;rcases az.mp hv with rfl|hv
    .exact hT k _ (by rw[←hr];rfl) r1
    .exact f3 v hv
def QH(K:W.Frag):List V->Hp->VK->Prop:=λxs H Q=>∃p vs rs sh,xs=[.ref p]/\SqL K H p vs/\KRows H vs rs/\vs.length<64/\(∀r∈rs,r.map fL=sh)/\sh≠[]/\∀l,H l=none->Q (.ref l) (upd H l (.lst (T9 rs vs)))
theorem zY{us:List ak}(c:Nat->Nat->Bool)(r:Vals xs us):Vals (cM .non c xs) (cM fu c us):=by
 have hl:=r.length;unfold cM;rw[hl]
 split
 .exact r
 .have hp:=eI (n:=us.length) c (by lia);have hm:∀i∈(bC c (kas_sort us.length)).toList,i<us.length:=λi hi=>by
   have h:=hp.mem_iff.mp (mf.mp hi)
   simpa using h
  revert hm;generalize (bC c (kas_sort us.length)).toList=l;intro hm
  induction l with
  | nil=>exact .nil
  | cons i l ih =>
   refine .cons ?_ (ih λj hj=>hm j (ab _ hj));have hi:=hm i (.head _);have hx:xs[i]? =some (xs[i]'(by lia)):=ah _;obtain⟨u,hu,ru⟩:=r.get hx;show RelV (xs.getD i .non) (us.getD i fu);rw[au,au,hx,hu];exact ru
theorem zQ:dZ X (.builtin "sorted") (QH X.K):=by
 intro pins s σ H xs us Q I r h;obtain⟨p,vs,rs,sh,rfl,hq,kr,h64,hs,hn,q⟩:=h;obtain⟨u,rfl,rx⟩:=l6 r;cases rx;obtain⟨its,rv,pl,hz⟩:=I.list hq;have hl:=rv.length;have hT:∃T:ak,(T==T)=true/\(T !=oe "tuple")=true/\∀(h':Heap) (k:Key) (u:ak),sh.head? =some (fL k)->RelV (kV k) u->Looks (ck X.prog X.w) h' (typeOf u) T:=by
  cases sh with
  | nil=>exact absurd rfl hn
  | cons b sh =>
   cases b with
   | true =>
    refine⟨.type "int",rfl,by decide,λh' k u hk ru=> ?_⟩;cases k with
    | inl i=>obtain⟨t,rfl⟩:=ru;exact yn rfl
    | inr x=>cases hk
   | false =>
    refine⟨.type "str",rfl,by decide,λh' k u hk ru=> ?_⟩;cases k with
    | inl i=>cases hk
    | inr x=>obtain⟨t,rfl⟩:=ru;exact yn rfl
 obtain⟨T,t1,t2,t3⟩:=hT;refine JF (uH rs) (tuples' true) pl.isList (by lia) (λh2 h' kp R hR=> ?_) (λh2 h' kp i j hi hj C hC=> ?_) λD h' e hD kp o'=> ?_
 .obtain⟨fs,f1,f2,f3⟩:=JR I kp (λk u=>t3 h' k u) kr rv hs hn;refine kat_kind (s:={ s with heap:=h' }) f1 (by lia) f3 t1 ?_;rw[t2];exact hR
 .obtain⟨p1,r1,x1,y1,z1⟩:=kr.get (i:=i) (ah (by lia));obtain⟨p2,r2,x2,y2,z2⟩:=kr.get (i:=j) (ah (by lia));obtain⟨u1,v1,w1⟩:=rv.get (ah (show i<vs.length by lia));obtain⟨u2,v2,w2⟩:=rv.get (ah (show j<vs.length by lia));rw[x1]at w1;rw[x2]at w2;cases w1;cases w2;obtain⟨o1,us1,n1,g1,c1,d1,l1⟩:=HM I z1;obtain⟨o2,us2,n2,g2,c2,d2,l2⟩:=HM I z2;have s1:=hs r1 (ay y1);have s2:=hs r2 (ay y2);have e1:=l1.length;have e2:=l2.length;rw[ae]at e1 e2;have e3:r1.length=r2.length:=by rw[←ae (f:=fL),s1,←s2,ae]
  unfold kas_ask;rw[au,au,v1,v2];refine kat_lt (s:={ s with heap:=h' }) (kp _ _ g1) d1 (kp _ _ g2) d2 ?_;rw[show decide (us1.toArray.size<us2.toArray.size)=false from decide_eq_false (by rw[bj,bj];lia)];refine VO 0 (s1.trans s2.symm) l1 l2 ?_;have ec:uH rs i j=LT r1 r2:=by
   unfold uH;rw[au,au,y1,y2];rfl
  rw[ec]at hC;exact hC
 .exact⟨.ref D,_,I.laid (t':=s.toks) kp hD (show ObjOk X.prog X.w _ h' _ (.lst _) from⟨by rw[vJ];exact hz,_,e,zY _ rv,o'⟩),rfl,q _ (I.hok.fresh hD)⟩
section
variable {d:Addr}{es:Array my}{i:Nat}
theorem L4{Q:ak->ba->Prop}(hd:(d==ij)=false)(ho:s.heap.get? d=some o)(hc:o.ExactDict)(hq:o.data= .dict es ep)
  (k:Q (.ref s.heap.objs.size) { s with heap:=s.heap.push { cls:= .type "dict_keyiterator",data:= .fields #[.ref d,.int 0 0,.int es.size 0,.int ep 0] } }):cb (ck prog w) A (pyIter (.ref d)) Q E s:=by
 have T:s.TypeIs (.ref d) "dict" :=⟨o,ho,hc.1⟩
 refine uy T F.slot_dict_iter (ik F.slot_dict_iter T F.entry_dict_iter ?_ (F.args_dict_iter_1 _));unfold ux.«dict.__iter__» ux.Dict.dictSlotNone;refine af (af (qa T (ax ?_)));show cb _ A.in1 (ly d >>= _) _ _ s;unfold ly;rw[if_neg (λz=>by rw[hd]at z;cases z)];refine af (ax (af (jy ho hq (af (lh ho hq ?_)))));exact af (gw (ax ⟨_,rfl,"dict_keyiterator",_,⟨_,be _ rfl,rfl⟩,F.slot_dict_keyiterator_next.lookup,k⟩))
theorem ZA{Q:Option ak->ba->Prop}{e:my}(hit:s.heap.IsKeyIter it d i es.size ep)(ho:s.heap.get? d=some o)(hq:o.data= .dict es ep)(hx:es[i]? =some e)
  (k:∀h',h'.IsKeyIter it d (i+1) es.size ep->ip it s.heap h'->Q (some e.key) { s with heap:=h' }):cb (ck prog w) A (qf (.ref it)) Q E s:=by
 obtain⟨oi,hi,ci,di⟩:=id hit;have T:=hit.typeIs;unfold qf;refine af (vi (kg (name:=mx "__next__") T F.slot_dict_keyiterator_next (ik F.slot_dict_keyiterator_next T F.entry_dict_keyiterator_next ?_ (F.args_dict_keyiterator_next_1 _))));refine af (ax (af (af ?_)))
 first|refine af (jc T (ax (af (jo hi di ?_))))|refine af (ka T (ax (af (jo hi di ?_))))
 simp only[show ig "dict_keyiterator" =false by decide,gb,if_false];show cb _ A.in1 (if (cu d==fu)=true then _ else _) _ _ s;rw[if_neg (show ¬(cu d==fu)=true from bg)];refine af (ax (af (jy ho hq ?_)));rw[if_neg (by simp)];refine af (ax (af (lh ho hq ?_)));rw[if_neg (by simp)];refine ax ?_;simp only[show ¬((i:Int)<0) from by lia,if_false,fc,hx];refine af ?_
 first|refine af (jc T (ax (af (qb T ?_))))|refine af (ka T (ax (af (qb T ?_))))
 show cb _ A.in1 (setField (.ref it) 1 (js ((i:Int)+1)) >>= _) _ _ s;refine af (xw hi di (by simp) ?_);have H2:(s.heap.update it (Obj.mapFields (·.setIfInBounds 1 (js ((i:Int)+1))))).IsKeyIter it d (i+1) es.size ep :=
  ⟨_,iw _ hi (xj (ue di _)),(Obj.cls_mapFields ..).trans ci,(ue di _).trans (by simp[js])⟩
 refine af (ie (af (qb (s:={ s with heap:=s.heap.update it (Obj.mapFields (·.setIfInBounds 1 (js ((i:Int)+1)))) }) H2.typeIs ?_)));show cb _ A.in1 (pure e.key) _ _ _;exact ax (ax ⟨_,rfl,ax (k _ H2 (kb ..))⟩)
theorem aCC{Q:Option ak->ba->Prop}(hh:A.handled=none)(hit:s.heap.IsKeyIter it d i es.size ep)(ho:s.heap.get? d=some o)(hq:o.data= .dict es ep)(hx:es.size<=i)
  (k:∀h',uu it s.heap h'->Q none { s with heap:=h' }):cb (ck prog w) A (qf (.ref it)) Q E s:=by
 obtain⟨oi,hi,ci,di⟩:=id hit;have T:=hit.typeIs;unfold qf;refine af (vi (kg (name:=mx "__next__") T F.slot_dict_keyiterator_next (ik F.slot_dict_keyiterator_next T F.entry_dict_keyiterator_next ?_ (F.args_dict_keyiterator_next_1 _))));refine af (ax (af (af ?_)))
 first|refine af (jc T (ax (af (jo hi di ?_))))|refine af (ka T (ax (af (jo hi di ?_))))
 simp only[show ig "dict_keyiterator" =false by decide,gb,if_false];show cb _ A.in1 (if (cu d==fu)=true then _ else _) _ _ s;rw[if_neg (show ¬(cu d==fu)=true from bg)];refine af (ax (af (jy ho hq ?_)));rw[if_neg (by simp)];refine af (ax (af (lh ho hq ?_)));rw[if_neg (by simp)];refine ax ?_;simp only[show ¬((i:Int)<0) from by lia,if_false,fc,wt hx];refine af ?_
 first|refine af (jc T (ax ?_))|refine af (ka T (ax ?_))
 show cb _ A.in1 (setField (.ref it) 0 .none >>= _) _ _ s;refine af (xw hi di (by simp) ?_);show cb _ A.in1 (newExc (.type "StopIteration") [] >>= _) _ _ _;refine af ?_;simp only[newExc,newTuple];refine af (gw (af (m:=mj _ _) (wpAny_of_eq (a:=fu) (by first|rfl|(simp only[mj];rfl)) (gw ?_ (by size_fits)))) (by size_fits));simp only[raiseNew];refine af (wpAny_handled ?_);rw[show A.in1.handled=none from hh];refine af (ax (xy ?_));refine af (kh (b:=true) (T:= "StopIteration") ⟨_,be _ rfl,rfl⟩ isSubtype_stop ?_);exact ax (k _ (((kb ..).extBut.push _).push _))
end
def Itk(a:Addr)(o:Obj)(kvs:List (Key×V)):It :=
 ⟨λi H=>H a=some (.frz o (.dK kvs))/\i<kvs.length,λi H x H'=>H'=H/\∃k v,kvs[i]? =some (k,v)/\x=kV k,λi H=>H a=some (.frz o (.dK kvs))/\kvs.length<=i⟩
theorem KT.len{kvs:List (List Key×V)}{xs:List (List Key×Addr×ak)}(r:KT H kvs xs):kvs.length=xs.length:=bx r
theorem Inv.freeze{u:HO}(I:Inv X pins σ H s)(mu:Mut (some u))(e:H a=some u)(ho:s.heap.get? a=some o)(new:ObjOk X.prog X.w (upd H a (.frz o u)) s.heap a (.frz o u)):Inv X pins σ (upd H a (.frz o u)) s :=
 I.write (t':=s.toks) (h':=s.heap) (by rw[e];exact mu) (.inl rfl) (λb u _ z=>z) ⟨_,ho⟩ new
def qV(n:Nat)(lo hi st:Option Int):List Nat:=sliceRange (jx lo hi st n).1 (jx lo hi st n).2.1 (jx lo hi st n).2.2
def A0(xs:List V)(lo hi st:Option Int):List V:=(qV xs.length lo hi st).filterMap (xs[·]?)
theorem WP(xs:List V)(lo hi st:Option Int):(A0 xs lo hi st).length<=(qV xs.length lo hi st).length:=List.length_filterMap_le _ _
theorem IJ{us:List ak}(r:Vals xs us):∀l:List Nat,Vals (l.filterMap (xs[·]?)) (l.filterMap (us[·]?))
 | []=> .nil
 | i::l=>by
  have ih:=IJ r l;have hl:=r.length
  by_cases hi:i<xs.length
  .have e:xs[i]? =some xs[i]:=ah hi;obtain⟨u,e2,ru⟩:=r.get e;rw[vj e,vj e2];exact .cons ru ih
  .rw[vk (lz (by lia)),vk (lz (by lia))];exact ih
def ZV(K:W.Frag)(x:V)(lo hi st:Option Int)(H:Hp)(Q:VK):Prop:=∃a xs,x= .ref a/\SqL K H a xs/\st≠some 0/\(qV xs.length lo hi st).length<=sizeLine/\∀p,H p=none->Q (.ref p) (upd H p (.lst (A0 xs lo hi st)))
def aFO(K:W.Frag)(te:TE)(tl th ts:TO):TE:=λσ H Q=>te σ H λx H1=>tl σ H1 λl H2=>th σ H2 λu H3=>ts σ H3 λc H4=>ZV K x l u c H4 Q
variable {th tl:TO}
section
variable {c:Expr}{lo hi:Option Expr}{ts:TO}{p2:Pos}
theorem N6(he:PE X e te)(hl:PO X lo tl)(hu:PO X hi th)(hc:PO X (some c) ts):PE X (.Subscript e (.Slice lo hi (some c) p2) pos) (aFO X.K te tl th ts):=by
 intro pins s σ H Q I h;refine yr (thn (he pins s σ H _ I h) ?_);rintro v s1 ⟨x,H1,I1,r1,q1⟩;refine wpAny_Slice (thn (hl pins s1 σ H1 _ I1 q1) ?_);rintro vl s2 ⟨l,H2,I2,pl,q2⟩;refine thn (hu pins s2 σ H2 _ I2 q2) ?_;rintro vu s3 ⟨u,H3,I3,pu,q3⟩;refine thn (hc pins s3 σ H3 _ I3 q3) ?_;rintro vs s4 ⟨st,H4,I4,ps,q4⟩;have I5:Inv X pins σ H4 { s4 with heap:=s4.heap.push { cls:= .type "slice",data:= .fields #[vl,vu,vs] } }:=I4.kept (t':=s4.toks) λb ob q=>aj _ q;obtain⟨a,xs,rfl,hx,h0,hz,q⟩:=q4;cases r1;obtain⟨its,r,ht,hzs⟩:=I5.list hx;have hlen:=r.length;show cb (ck X.prog X.w) X.A (ve e (.Slice lo hi (some c) p2) (.ref a) (.ref s4.heap.objs.size)) (EP X pins σ Q) X.xe { s4 with heap:=s4.heap.push { cls:= .type "slice",data:= .fields #[vl,vu,vs] } };refine tail_any (T:= "list") (ops:=[.ref a,.ref s4.heap.objs.size]) ht.isList.typeIs uq.lookup ?_ (by with_unfolding_all rfl);refine vf ht.isList (yt ..) pl pu ps h0 ?_ (by rw[bj]<;>lia);have ep:slicePick its.toArray l u st=((qV xs.length l u st).filterMap (its[·]?)).toArray:=by
  unfold slicePick qV;rw[bj,←hlen];rw[show (λx:Nat=>its.toArray[x]?)=λx=>its[x]? from funext λi=>by simp]
 rw[ep];refine⟨.ref _,_,I5.laid (t':=s4.toks) (o:= .lst (A0 xs l u st)) (λb ob q=>aj _ q) (aq _) ?_,rfl,q _ (I5.hok.fresh (aq _))⟩;exact⟨dy (WP xs l u st) hz,_,0,IJ r _,be _ rfl⟩
end
def A3:V->Bool
 | .ref _=>true
 | x=>lM x
variable {ti:TT}{fin:List V->Hp->Prop}{ci:List Nat}
theorem uE:fm "sorted" =some (.builtin "sorted"):=by decide +kernel
theorem Room.units1{k:Nat}(r:Room k A):A.units+1<om:=by have:=r.un;lia
theorem UM{lo hi st:Option Int}(e:SqL K H a xs)(h0:st≠some 0)(hz:(qV xs.length lo hi st).length<=sizeLine)(k:∀p H',H p=none->Same H H'->H' p=some (.lst (A0 xs lo hi st))->Q (.ref p) H'):ZV K (.ref a) lo hi st H Q:=⟨a,xs,rfl,e,h0,hz,fA k⟩
theorem YZ(h:∀p H',H p=none->Same H H'->H' p=some (.dT [])->Q (.ref p) H'):U7 σ H Q:=fA h
theorem Z4 [DecidableEq κ]{kvs:List (κ×V)}{k:κ}{e:κ×V}(h:e∈cB kvs k v):e∈kvs∨e.1=k/\e.2=v:=by
 unfold cB at h
 split at h
 .obtain⟨p,hp,e1⟩:=ag.mp h
  by_cases z:p.1=k
  .rw[if_pos z]at e1;subst e1;exact .inr ⟨z,rfl⟩
  .rw[if_neg z]at e1;subst e1;exact .inl hp
 .rcases bh.mp h with h|h
  .exact .inl h
  .cases bz.mp h;exact .inr ⟨rfl,rfl⟩
theorem nM{k:Nat}{t:TGs}{n:Nat}{pos:Pos}(hc:X.calm=true)(h:PGs X es t)(hK:X.K=K:=by rfl)
  (hn:(je es X.env).length=n:=by rfl)(hst:(je es X.env).findIdx? (·.1)=none:=by rfl):PG X (.Tuple es k pos) (F9 K n t):=by
 subst hK;exact v7 hc h hn hst
theorem d0(hK:X.K=K:=by rfl):IxR X (aD2 K):=by
 subst hK;exact c4
def K4(nx:St->Hp->Prop)(σ:St)(x v:V):VK:=λy H3=>∃a H4,x= .ref a/\DPut H3 a y v H4/\nx σ H4
def KY(Q:VK)(x:V):VK:=λy H2=>∃a v,x= .ref a/\DGet H2 a y (some v)/\Q v H2
section
variable {rt bk:St->Hp->Prop}
theorem aDw{ty:TE}{rt:VK}{bk:St->Hp->Prop}(h:tv σ H λv H1=>td σ H1 λx H2=>ty σ H2 (K4 nx σ x v)):aBa td ty tv ⟨nx,rt,bk,ct⟩ σ H:=h
theorem xO{b:Addr}{kvs:List (List Key×V)}(k:List Key)(e:H p=some (.dT kvs))(eb:H b=some (.tup (k.map kV)))(hl:kvs.length<sizeLine)
  (h:∀H',SameBut p H H'->H' p=some (.dT (cB kvs k v))->nx σ H'):K4 nx σ (.ref p) v (.ref b) H :=
 ⟨p,_,rfl,DPut.t e eb hl,h _ SameBut.upd aR⟩
theorem aBZ{ty:TE}(h:td σ H λx H1=>ty σ H1 (KY Q x)):aA2 td ty σ H Q:=h
theorem aAw{b:Addr}{kvs:List (List Key×V)}(k:List Key)(e:Rd H p (.dT kvs))(eb:H b=some (.tup (k.map kV)))(hv:aW kvs k=some v)(h:Q v H):KY Q (.ref p) (.ref b) H :=
 ⟨p,v,rfl,.inr ⟨kvs,k,b,e,rfl,eb,hv.symm⟩,h⟩
theorem aBC{ts:TO}(h:te σ H λx H1=>tl σ H1 λl H2=>th σ H2 λu H3=>ts σ H3 λc H4=>ZV K x l u c H4 Q):aFO K te tl th ts σ H Q:=h
theorem sJ(e:SqL K H p xs)(h0:0<=i)(h1:i<xs.length)(h:∀v∈xs,Q v H):AL K (.ref p) (.int i) H Q:=by
 have hl:i.toNat<xs.length:=by lia
 have e1:=rK (xs:=xs) (j:=i.toNat) (v:=xs[i.toNat]) (ah hl);rw[show ((i.toNat:Nat):Int)=i by lia]at e1;exact⟨p,xs,i,_,rfl,rfl,e,e1,h _ (qi hl)⟩
end
theorem yR:entryFor table "dict_itemiterator.__iter__" =some ux.«dict_keyiterator.__iter__»:=entryFor_alias (id':= "dict_keyiterator.__iter__") (by kernel_rfl) rfl (by decide +kernel) (by kernel_rfl)
theorem QI{k:Key}(h:(b9 P w).is k u=true):RelV (kV k) u:=by
 rcases dB h with⟨i,t,rfl,rfl⟩|⟨x,t,rfl,rfl⟩
 .exact⟨t,rfl⟩
 .exact⟨t,rfl⟩
theorem MV{kvs:List (κ×V)}{vs:List (κ×ak)}{i:Nat}(h:KV kvs vs)(hi:i<kvs.length):∃k v u,kvs[i]? =some (k,v)/\vs[i]? =some (k,u)/\RelV v u:=by
 induction h generalizing i with
 | nil=>exact absurd hi (jf _)
 | @cons x y l m h t ih =>
  cases i with
  | zero=>exact⟨x.1,x.2,y.2,rfl,by rw[h.1];rfl,h.2⟩
  | succ i=>exact ih (oz hi)
theorem II [DecidableEq κ]{knd:KeyKind P w κ}:∀{es:List my}{kvs:List (κ×ak)}{i:Nat}{k:κ}{u:ak},Pairs knd es kvs->kvs[i]? =some (k,u)->∃e,es[i]? =some e/\knd.is k e.key=true/\e.val=u
 | _,_,0,_,_,.cons h1 h2 _,z=>by cases z;exact⟨_,rfl,h1,h2⟩
 | _,_,i+1,_,_,.cons _ _ t,z=>by
  obtain⟨e,e1,e2⟩:=II (i:=i) t (by simpa using z);exact⟨e,by simpa using e1,e2⟩
 | _,_,_,_,_,.nil,z=>by simp at z
theorem TN(a it:Addr){es:Array my}(kvs:List (Key×V))(hd:o.data= .dict es ep)(hz:es.size=kvs.length):
  AN P w K tg (Itk a o kvs) [it] it (λi h=>h.IsKeyIter it a i es.size ep) where
 mem:=by simp
 obj:=λi h st b hb=>by
  have e:b=it:=by simpa using hb
  subst e;obtain⟨ob,e,c,d⟩:=st;exact⟨ob,e,λv z=>by rw[d]at z;cases z⟩
 keep:=λi h h' st k=>st.at λob e=>k it (by simp) ob e
 item:=by
  intro X hP hw hK hc i pins s σ H E I hf st hg;subst hP hw hK;obtain⟨ha,hi⟩:=hg;obtain⟨ho,z,y,vs,r,o',es',ep',h1,h2,h3,h4,h5,h6⟩:=(show ObjOk X.prog X.w H s.heap a (.frz o (.dK kvs)) from I.hok a _ ha)
  rw[ho]at h1;cases h1;rw[hd]at h3;cases h3;obtain⟨k,v,u,e1,e2,e3⟩:=MV r hi;obtain⟨e,f6,f7,f8⟩:=II h5 e2;obtain⟨f0,f1,f2,f3,f4,f5⟩:=hf it (by simp);refine ZA st ho hd (e:=e) (by simpa using f6) λh' st' sb=> ?_;have I1:Inv X pins σ H { s with heap:=h' }:=I.turned (t':=s.toks) (λb o hb e=>(sb.2 b hb).trans e) f0 f1 f3 f4 f5;exact⟨_,rfl,letGo_keyiter (s':={ s with heap:=h' }) st' ⟨kV k,H,I1,QI f7,⟨rfl,k,v,e1,rfl⟩,st',λb hb=>(hf b hb).1⟩⟩
 done:=by
  intro X hP hw hK hc i pins s σ H E I hf st hg;subst hP hw hK;obtain⟨ha,hi⟩:=hg;obtain⟨ho,hok⟩:=(show ObjOk X.prog X.w H s.heap a (.frz o (.dK kvs)) from I.hok a _ ha)
  obtain⟨f0,f1,f2,f3,f4,f5⟩:=hf it (by simp);exact aCC (I.ok.hd hc) st ho hd (by lia) λh' eb=>⟨rfl,I.turned (t':=s.toks) (λb o hb e=>eb b o hb e) f0 f1 f3 f4 f5⟩
 self:=λ_ _ _ _ _ st h=>wpAny_pyIter_keyiter st h
def X5(td:TE):TI:=λσ H R=>td σ H λx H1=>∃a kvs,x= .ref a/\H1 a=some (.dK kvs)/\∀o,R (Itk a o kvs) (upd H1 a (.frz o (.dK kvs)))
theorem N5{l:Expr}(hl:PE X l td):PI X tg l (X5 td):=by
 intro pins s σ H R I h;refine thn (hl pins s σ H _ I h) ?_;rintro v s1 ⟨x,H1,I1,r1,q1⟩;obtain⟨a,kvs,rfl,hq,q⟩:=q1;cases r1;obtain⟨z,y,vs,r,o,es,ep,h1,h2,h3,h4,h5,h6⟩:=(show ObjOk X.prog X.w H1 s1.heap a (.dK kvs) from I1.hok a _ hq)
 have hz:es.size=kvs.length:=by rw[r.length,←h5.length];simp
 have new:ObjOk X.prog X.w (upd H1 a (.frz o (.dK kvs))) s1.heap a (.frz o (.dK kvs)):=⟨h1,z,y,vs,r,o,es,ep,h1,h2,h3,h4,h5,h6⟩
 have I2:Inv X pins σ (upd H1 a (.frz o (.dK kvs))) s1:=I1.freeze trivial hq h1 new;refine L4 y h1 h2 h3 ?_;refine⟨s1.heap.objs.size,[s1.heap.objs.size],_,_,upd H1 a (.frz o (.dK kvs)),rfl,I2.kept (t':=s1.toks) λb o e=>aj _ e,TN a _ kvs h3 hz,⟨_,be _ rfl,rfl,rfl⟩,λb hb=> ?_,q o⟩;have e:b=s1.heap.objs.size:=by simpa using hb
 subst e;exact I2.fpOk (aq _) (I2.hok.fresh (aq _))
section
variable {u:HO}
theorem Inv.thaw(I:Inv X pins σ H s)(h0:∀o u,X.H₀ a≠some (.frz o u))(e:H a=some (.frz o u)):Inv X pins σ (upd H a u) s:=by
 have nn:∀b,H b=none->b≠a:=λb n z=>by rw[z,e]at n;cases n
 have no:∀b c,H b=some (.own c)->b≠a:=λb c n z=>by rw[z,e]at n;cases n
 have nt:∀b xs,H b=some (.tup xs)->b≠a:=λb c n z=>by rw[z,e]at n;cases n
 refine⟨I.ok,I.os,I.bare,⟨I.base.keep,I.base.slot,λb ob q n hx=> ?_,I.base.there,λb xs q=> ?_,λb ob xs q=> ?_,λb ps q=> ?_⟩,I.loc,I.cell,?_,λx c ec=> ?_,λp hp=> ?_,λb v q=> ?_,I.len⟩
 .have z:=I.base.free b ob q n hx;rw[aI (nn b z)];exact z
 .have z:=I.base.tups b xs q;rw[aI (nt b xs z)];exact z
 .have z:=I.base.frzs b ob xs q;have hb:b≠a:=λy=>h0 ob xs (by rw[←y];exact q);rw[aI hb];exact z
 .obtain⟨more,z⟩:=I.base.tbls b ps q;refine⟨more,?_⟩;rw[aI (λy=>by rw[y,e]at z;cases z)];exact z
 .rw[aI (nn _ I.free)];exact I.free
 .rw[aI (nn _ (I.freeC x c ec))];exact I.freeC x c ec
 .obtain⟨p1,p2,p3⟩:=I.pin p hp;exact⟨p1,by rw[aI (nn _ p2)];exact p2,p3⟩
 .have so:∀b c,H b=some (.own c)->upd H a u b=some (.own c):=λb c z=>by rw[aI (no b c z)];exact z
  have st:∀b xs,H b=some (.tup xs)->upd H a u b=some (.tup xs):=λb c z=>by rw[aI (nt b c z)];exact z
  by_cases hb:b=a
  .subst hb;rw[aR]at q;cases q;obtain⟨_,z⟩:=(show ObjOk X.prog X.w H s.heap b (.frz o u) from I.hok b _ e)
   exact z.stay (λ_ _ _ q=>q) (λc z=>so c b z) st
  .rw[aI hb]at q;exact(I.hok b v q).stay (λ_ _ _ q=>q) (λc z=>so c b z) st
theorem Inv.wasFree(I:Inv X pins σ H s)(h:∀o u,H a≠some (.frz o u)):∀o u,X.H₀ a≠some (.frz o u):=λo u z=>h o u (I.base.frzs a o u z)
end
def iY(a:Addr)(R:Hp->Prop):Hp->Prop:=λH=>∃o u,H a=some (.frz o u)/\R (upd H a u)
def aBv(te:TE):TE:=λσ H Q=>∃a,(∀o u,H a≠some (.frz o u))/\te σ H λx=>iY a (Q x)
def aBc(ts:TS):TS:=λD σ H=>∃a,(∀o u,H a≠some (.frz o u))/\ts ⟨λσ'=>iY a (D.nx σ'),λv=>iY a (D.rt v),λσ'=>iY a (D.bk σ'),λσ'=>iY a (D.ct σ')⟩ σ H
theorem GZ(he:PE X e te):PE X e (aBv te):=by
 intro pins s σ H Q I h;obtain⟨a,h0,h⟩:=h;refine thn (he pins s σ H _ I h) ?_;rintro v s1 ⟨x,H1,I1,r1,o,u,e,q⟩;exact⟨x,_,I1.thaw (I.wasFree h0) e,r1,q⟩
theorem aBW{st:Stmt}{ts:TS}(he:PS X st ts):PS X st (aBc ts):=by
 intro pins s σ H D I h;obtain⟨a,h0,h⟩:=h;refine thn (he pins s σ H _ I h) λf s1 z=> ?_;cases f with
 | next=>obtain⟨σ1,H1,I1,o,u,e,q⟩:=z;exact⟨σ1,_,I1.thaw (I.wasFree h0) e,q⟩
 | brk=>obtain⟨σ1,H1,I1,o,u,e,q⟩:=z;exact⟨σ1,_,I1.thaw (I.wasFree h0) e,q⟩
 | cont=>obtain⟨σ1,H1,I1,o,u,e,q⟩:=z;exact⟨σ1,_,I1.thaw (I.wasFree h0) e,q⟩
 | ret v=>obtain⟨x,σ1,H1,I1,r,o,u,e,q⟩:=z;exact⟨x,σ1,_,I1.thaw (I.wasFree h0) e,r,q⟩
theorem MU:∀bs:List Bool,((el bs.length).any λi=>bs.getD i false)=bs.any id
 | []=>rfl
 | b::bs=>by
  rw[bb,ox,fz,se,fz,←MU bs];rfl
theorem wB:∀{ns:List Int}{us:List ak},Vals (ns.map V.int) us->∃xs:List (Int×Tok),us=xs.map (λp=>mn p.1 p.2)/\ns=xs.map (·.1)
 | [],_,.nil=>⟨[],rfl,rfl⟩
 | n::ns,_,.cons r t=>by
  obtain⟨xs,rfl,rfl⟩:=wB t;obtain⟨tk,rfl⟩:=r;exact⟨(n,tk)::xs,rfl,rfl⟩
def aD9(K:W.Frag):List V->Hp->VK->Prop:=λxs H Q=>∃(p:Addr) (bs:List Bool),xs=[.ref p]/\SqL K H p (bs.map V.bl)/\Q (.bl (bs.any id)) H
theorem IH(hc:X.calm=true):dZ X (.builtin "any") (aD9 X.K):=by
 intro pins s σ H xs us Q I r h;obtain⟨p,bs,rfl,hq,q⟩:=h;obtain⟨u,rfl,rx⟩:=l6 r;cases rx;obtain⟨its,r',pl,hz⟩:=I.list hq;have hl:=pl.isList;have hlt:p<s.heap.objs.size:=by obtain⟨_,e,_⟩:=hl;exact bc e
 have hlen:bs.length=its.length:=by have:=r'.length;rw[ae]at this;exact this
 refine call_any_walk (ma hl ?_);refine⟨s.heap.objs.size,_,_,its.toArray.size,_,_,λi=>bs.getD i false,rfl,Walks.list (show X.A.in1.handled=none from I.ok.hd hc) s.heap.objs.size p (cf hlt) its.toArray,⟨⟨_,be _ rfl,rfl,rfl⟩,hl.push _⟩,?_,?_⟩
 .intro i v s' Q' E' hi hQ;have hi':its[i]? =some v:=by simpa using hi
  have hib:i<bs.length:=by rw[hlen];exact(av.mp hi').1
  obtain⟨u,hu,ru⟩:=r'.get (i:=i) (x:=V.bl bs[i]) (by rw[bq,ah hib];rfl);rw[hi']at hu;cases hu;have:v=tp bs[i]:=ru;subst this;refine gj ?_;have eb:bs.getD i false=bs[i]:=by rw[au,ah hib];rfl
  have hQ':Q' (bs.getD i false) s':=hQ;rw[eb]at hQ';exact hQ'
 .intro h' tk hk;have eany:(el its.toArray.size).any (λi=>bs.getD i false)=bs.any id:=by
   rw[bj,←hlen];exact MU bs
  rw[eany];refine⟨.bl (bs.any id),H,?_,rfl,q⟩;have I1:Inv X pins σ H { s with heap:=s.heap.push { cls:= .type "list_iterator",data:= .fields #[.ref p,.int 0 0] },toks:=s.toks }:=I.kept λb u e=>aj _ e;obtain⟨f0,f1,f2,f3,f4,f5⟩:=I.fpOk (aq _) (I.hok.fresh (aq _));exact I1.turned (λb o hb e=>hk b o (by simpa using hb) e) f0 f1 f3 f4 f5
def aFJ(K:W.Frag):List V->Hp->VK->Prop:=λxs H Q=>∃(p:Addr) (ns:List Int),xs=[.ref p]/\SqL K H p (ns.map V.int)/\Q (.int ns.sum) H
theorem uA(hc:X.calm=true):dZ X (.builtin "sum") (aFJ X.K):=by
 intro pins s σ H xs us Q I r h;obtain⟨p,ns,rfl,hq,q⟩:=h;obtain⟨u,rfl,rx⟩:=l6 r;cases rx;obtain⟨its,r',pl,hz⟩:=I.list hq;obtain⟨zs,rfl,rfl⟩:=wB r';have hl:s.heap.IsList p (intItems zs.toArray):=by
  have:=pl.isList
  simpa [intItems] using this
 refine sum_intListG (I.ok.hd hc) hl λh' tk t' hk=> ?_;have e2:preSum (numAt zs.toArray) zs.toArray.size=(zs.map (·.1)).sum:=by
  rw[preSum_eq,iq (by simp)]
 rw[e2];exact⟨.int (zs.map (·.1)).sum,H,I.kept hk,⟨t',rfl⟩,q⟩
theorem XB{bs:List Bool}(e:SqL K H p (bs.map V.bl))(h:Q (.bl (bs.any id)) H):aD9 K [.ref p] H Q:=⟨p,bs,rfl,e,h⟩
theorem E7{ns:List Int}(e:SqL K H p (ns.map V.int))(h:Q (.int ns.sum) H):aFJ K [.ref p] H Q:=⟨p,ns,rfl,e,h⟩
theorem XC:fm "any" =some (.builtin "any"):=by decide +kernel
theorem yS:fm "sum" =some (.builtin "sum"):=by decide +kernel
theorem aBL:ua (.type "list") "keys" =pure none:=by rw[xc,qc];kernel_rfl
theorem aDM:ua (.type "list") "__getattr__" =pure none:=by rw[xc,qc];kernel_rfl
theorem NW:isSubtype (.type "AttributeError") (.type "AttributeError")=pure true:=by rw[isSubtype_type];kernel_rfl
theorem aAk:((Manifest.find? "AttributeError").elim false λt=>t.mro.contains "StopIteration" ||t.mro.contains "SystemExit")=false:=by decide +kernel
variable {its:Array ak}{R:Result->ba->Prop}
theorem YY{α:Type}{v:ak}{Q:α->ba->Prop}(hh:A.handled=none)
  (k:∀e h' tk' o,h'.get? e=some o->o.cls= .type "AttributeError" ->(∀b o,s.heap.get? b=some o->h'.get? b=some o)->E (.ref e) { s with heap:=h',toks:=tk' }) :
  cb (ck prog w) A (do
   let e ←newExc (.type "AttributeError") [v];let l ←mkText "keys"
   noteAttr e (.ref a) l
   raiseNew e) Q E s:=by
 unfold newExc newTuple;refine af (af (gw (af (m:=mj _ _) (wpAny_of_eq (a:=fu) (by simp only[mj,aAk];rfl) (gw ?_ (by size_fits)))) (by size_fits)));refine af (wpAny_mkText ?_);refine af ?_;unfold noteAttr;refine af ?_;unfold lacksNameAndObj;have e1:(#[cu s.heap.objs.size,.none,.none,.none,.bool false,.none]++ownMembersOf (.type "AttributeError") [v]:Array ak)= #[cu s.heap.objs.size,.none,.none,.none,.bool false,.none,qt,qt]:=rfl;rw[e1];generalize hs:s.heap.push { cls:=oe "tuple",data:=Data.seq #[v] }=h1;have ho:(h1.push { cls:= .type "AttributeError",data:= .fields #[cu s.heap.objs.size,.none,.none,.none,.bool false,.none,qt,qt] }).get? h1.objs.size=some { cls:= .type "AttributeError",data:= .fields #[cu s.heap.objs.size,.none,.none,.none,.bool false,.none,qt,qt] }:=be _ rfl;refine af (kh (b:=true) (T:= "AttributeError") ⟨_,ho,rfl⟩ NW ?_);refine af (wpAny_load ho ?_);refine ax ?_;refine af (wpAny_rule ?_);refine af (sf (T:= "AttributeError") ⟨_,ho,rfl⟩ ?_);unfold layMembers;refine af (wpAny_load ho ?_);refine wpAny_update ho ?_;simp only[raiseNew];refine af (wpAny_handled ?_);rw[hh];refine af (ax (xy ?_));refine k h1.objs.size _ _ _ (iw _ ho (xj (ue rfl _))) (Obj.cls_mapFields ..) λb o e=> ?_;have hb:b≠h1.objs.size:=λz=>by
  have h2:h1.objs.size=s.heap.objs.size+1:=by rw[←hs];simp[Heap.push]
  have h3:=bc e;rw[z,h2]at h3;exact absurd h3 (Nat.not_lt.mpr (uo _))
 exact(gm _ _ (fb hb)).trans (aj _ (by rw[←hs];exact aj _ e))
theorem R0{tk:Tok}{Q:Fin->ba->Prop}(hh:A.handled=none)(hx:s.heap.get? a=some { cls:= .type "list",data:= .seq its n })
  (k:∀e h' tk' o,h'.get? e=some o->o.cls= .type "AttributeError" ->(∀b o,s.heap.get? b=some o->h'.get? b=some o)->E (.ref e) { s with heap:=h',toks:=tk' }) :
  cb (ck prog w) A (ux.«object.__getattribute__» ⟨[.ref a,.str "keys" tk],[]⟩) Q E s:=by
 obtain⟨h,g,d,t,os⟩:=s;have hT:(⟨h,g,d,t,os⟩:ba).TypeIs (.ref a) "list" :=⟨_,hx,rfl⟩
 have f4:=aBL
 repeat (any_goals (first|assumption|wp_step))
 refine af (wpAny_mkStr ?_ (by rw[sizeLine_eq];decide +kernel));exact YY hh λe h' tk' o e1 e2 e3=>k e h' tk' o e1 e2 e3
theorem V5{tk:Tok}(hh:A.handled=none)(hx:s.heap.get? a=some { cls:= .type "list",data:= .seq its n })
  (k:∀e h' tk' o,h'.get? e=some o->o.cls= .type "AttributeError" ->(∀b o,s.heap.get? b=some o->h'.get? b=some o)->R (.error (.ref e)) { s with heap:=h',toks:=tk' }) :
  mr (ck prog w) A (.call (.builtin "list.__getattribute__") ⟨[.ref a,.str "keys" tk],[]⟩) R s:=by
 obtain⟨h,g,d,t,os⟩:=s;exact codeAny_call_builtin F.slot_list_getattribute.plain F.entry_list_ga (F.slot_list_getattribute.check _ _ _ _ _ _ _ _ (show (⟨h,g,d,t,os⟩:ba).TypeIs (.ref a) "list" from⟨_,hx,rfl⟩) (F.args_list_getattribute_2 _ _) (R0 hh hx k))
theorem aCJ{Q:Option ak->ba->Prop}(hh:A.handled=none)(hx:s.heap.get? a=some { cls:= .type "list",data:= .seq its n })
  (k:∀h' tk',(∀b o,s.heap.get? b=some o->h'.get? b=some o)->Q none { s with heap:=h',toks:=tk' }):cb (ck prog w) A (getAttr? (.ref a) "keys") Q E s:=by
 obtain⟨h,g,d,t,os⟩:=s;have hT:(⟨h,g,d,t,os⟩:ba).TypeIs (.ref a) "list" :=⟨_,hx,rfl⟩
 have f2:=F.slot_list_getattribute.lookup;have f3:=F.slot_list_getattribute.bind (.ref a);unfold getAttr? getAttrBy?
 repeat (any_goals (first|assumption|wp_step))
 refine V5 hh hx λe h' tk' o e1 e2 e3=> ?_;have hE:(⟨h',g,d,tk',os⟩:ba).TypeIs (.ref e) "AttributeError" :=⟨_,e1,e2⟩
 show cb (ck prog w) A (getattributeRaised (cu a) (sy (mx "keys") t) (.type "list") (.ref e) none false false) _ _ (⟨h',g,d,tk',os⟩:ba);unfold getattributeRaised;refine af (kh (b:=true) hE NW ?_);show cb (ck prog w) A (ua (.type "list") "__getattr__" >>= λx=>hookOrError (cu a) (sy (mx "keys") t) (.ref e) false false x) _ _ (⟨h',g,d,tk',os⟩:ba);rw[aDM];refine af (ax ?_);refine xy ?_;refine af (kh (b:=true) hE NW ?_);exact ax (k h' tk' e3)
theorem vP:entryFor table "dict.update.loop" =some ux.«dict.update.loop»:=entryFor_of_tree (by kernel_rfl)
theorem jB:plainId "dict.update.loop" =true:=by decide +kernel
def XG [DecidableEq κ](kvs ps:List (κ×ak)):List (κ×ak):=ps.foldl (λacc p=>stored acc p.1 p.2) kvs
theorem ST [DecidableEq κ](kvs:List (κ×ak))(k:κ)(v:ak):(stored kvs k v).length<=kvs.length+1:=by
 unfold stored
 split
 .rw[ae];exact uo _
 .rw[ao];exact aq _
section
variable [DecidableEq κ]{knd:KeyKind prog w κ}{I d:Addr}{fp wr:List Addr}{P:Nat->ak->Prop}{St:Nat->Heap->Prop}
def aGe(knd:KeyKind prog w κ)(d:Addr)(wr:List Addr)(P:Nat->ak->Prop)(ps:List (κ×ak))(h:Heap):Prop :=
 ∀i v,P i v->∃(q:Addr) (o:Obj) (key:ak) (k:κ) (u:ak) (c:Nat),v= .ref q/\q∉wr/\q≠d/\h.get? q=some o/\o.cls= .type "tuple" /\o.data= .seq #[key,u] c/\knd.is k key=true/\ps[i]? =some (k,u)
theorem ZW(W:Walks prog w A.in1 I fp wr n P St)(hdf:d∉fp)(ps:List (κ×ak))(hn:ps.length=n)(hsz:n<=sizeLine):
  ∀(k i:Nat) (s:ba) (kvs:List (κ×ak)),n - i=k->i<=n->St i s.heap->kvs.length<=i->s.heap.DictOf knd d kvs->aGe knd d wr P ps s.heap →
  (∀h' tk,h'.DictOf knd d (XG kvs (ps.drop i))->(∀b o,b∉wr->b≠d->s.heap.get? b=some o->h'.get? b=some o)->R (.ok (.ret .none)) { s with heap:=h',toks:=tk }) →
  mr (ck prog w) A (.builtin "dict.update.loop" ⟨[.ref d,.ref I,js i,.none],[]⟩) R s:=by
 have hdw:d∉wr:=λh=>hdf (W.sub _ h);intro k
 induction k with
 | zero =>
  intro i s kvs hk hi hst hl hd hrow hR;have hin:i=n:=by lia
  subst hin;refine codeAny_builtin vP ?_;rw[ya jB _];show cb _ A.in1 (qf (.ref I) >>= _) _ _ s;refine af (W.done s _ _ hst λh' tk hk'=> ?_);show cb _ _ (ux.Dict.addKeywords d [] >>= _) _ _ _;refine af (ax (ax (hR h' tk ?_ λb o hb _ e=>hk' b o hb e)));rw[List.drop_of_length_le (by lia)];exact hd.at λo e=>hk' d o hdw e
 | succ k ih =>
  intro i s kvs hk hi hst hl hd hrow hR;have hlt:i<n:=by lia
  refine codeAny_builtin vP ?_;rw[ya jB _];show cb _ A.in1 (qf (.ref I) >>= _) _ _ s;refine af (W.item i s _ _ hlt hst λv h' tk hP hst' hk'=> ?_);obtain⟨q,o,key,kk,u,c,rfl,hqw,hqd,ho,hc,hdt,his,hps⟩:=hrow i v hP;have ho':=hk' q o hqw ho;refine af (ie (af (wpAny_tryCatch ?_)));unfold ux.Dict.pairItems;refine af (sf (T:= "tuple") ⟨o,ho',hc⟩ ?_);rw[if_pos (by rfl)];refine af (wpAny_seqItems ho' hdt (ax ?_));have hd':h'.DictOf knd d kvs:=hd.at λo e=>hk' d o hdw e;refine ie (wpAny_dictSet_pairs his hd' (λh2 hd2 sb=> ?_) (by lia));have keep:∀b o,b∉wr->b≠d->s.heap.get? b=some o->h2.get? b=some o:=λb o hb hbd e=>(sb.2 b hbd).trans (hk' b o hb e);refine ax ⟨vm jB _,ih (i+1) _ (stored kvs kk u) (by lia) hlt (W.frame _ _ _ hst' λb hb o e=>(sb.2 b (λz=>hdf (z▸hb))).trans e) (dy (ST ..) (by lia)) hd2 (λj v hj=> ?_) λh3 tk3 hd3 hk3=> ?_⟩
  .obtain⟨q,o,key,kk,u,c,e1,e2,e3,e4,e5⟩:=hrow j v hj;exact⟨q,o,key,kk,u,c,e1,e2,e3,keep q o e2 e3 e4,e5⟩
  .refine hR h3 tk3 ?_ λb o hb hbd e=>hk3 b o hb hbd (keep b o hb hbd e);have ed:ps.drop i=(kk,u)::ps.drop (i+1):=by
    have hi2:i<ps.length:=by lia
    rw[ui hi2];have:=(av.mp hps).2;rw[this]
   rw[ed];exact hd3
end
section
variable [DecidableEq κ]{knd:KeyKind prog w κ}{l:Addr}{c:Nat}
theorem VU{ps:List (κ×ak)}{Q:ak->ba->Prop}(hh:A.handled=none)(hl:s.heap.get? l=some { cls:= .type "list",data:= .seq its c })(hsz:its.size<=sizeLine)(hlen:ps.length=its.size)
  (hrow:∀(i:Nat) (v:ak),its[i]? =some v->∃(q:Addr) (o:Obj) (key:ak) (k:κ) (u:ak) (c:Nat),v= .ref q/\s.heap.get? q=some o/\o.cls= .type "tuple" /\o.data= .seq #[key,u] c/\knd.is k key=true/\ps[i]? =some (k,u))
  (h:∀h' tk,h'.DictOf knd s.heap.objs.size (XG [] ps)->(∀b o,s.heap.get? b=some o->h'.get? b=some o)->Q (.ref s.heap.objs.size) { s with heap:=h',toks:=tk }) :
  cb (ck prog w) A (call (.type "dict") [.ref l]) Q E s:=by
 refine callType_codes (Q₁:=λobj s₁=>obj= .ref s.heap.objs.size/\s₁={ s with heap:=s.heap.push { cls:= .type "dict",data:= .dict #[] } }) F.kt_called_dict (F.kt_typeCall_dict_1 _) F.entry_dict_init (kt_code_dict_new _ ⟨rfl,rfl⟩) ?_;rintro obj s₁ ⟨rfl,rfl⟩;have hnew:(s.heap.push { cls:= .type "dict",data:= .dict #[] }).DictOf knd s.heap.objs.size []:=zh s.heap;have hl':(s.heap.push { cls:= .type "dict",data:= .dict #[] }).get? l=some { cls:= .type "list",data:= .seq its c }:=aj _ hl;refine⟨hnew.typeIs,F.args_dict_init_2 _ _,?_⟩;unfold ux.«dict.__init__»;refine af ?_;unfold ux.Dict.selfAndRest;refine af (qa hnew.typeIs ?_);show cb _ _ (pure (s.heap.objs.size,[cu l])) _ _ _;refine ax ?_;show cb _ _ (wb "dict.__init__" s.heap.objs.size (.ref l) [] .none) _ _ _;unfold wb;refine af (sf (T:= "list") ⟨_,hl',rfl⟩ ?_);rw[if_pos (by decide)];refine af (aCJ hh hl' λh1 t1 kp1=> ?_);rw[if_pos (show (none:Option ak).isNone=true from rfl)];refine af (wpAny_rule ?_);have hl1:=kp1 _ _ hl';have isl:h1.IsList l its:=⟨_,hl1,rfl,_,rfl⟩
 have lt1:∀b o,s.heap.get? b=some o->b≠h1.objs.size:=λb o e z=>by
  have:=bc (kp1 b o (aj _ e));rw[z]at this;exact ee _ this
 have hdI:s.heap.objs.size≠h1.objs.size:=λz=>by
  have:=bc (kp1 _ _ (be s.heap (o:={ cls:= .type "dict",data:= .dict #[] }) rfl));rw[z]at this;exact ee _ this
 have hdl:∀b o,s.heap.get? b=some o->b≠s.heap.objs.size:=λb o e z=>by
  have:=bc e;rw[z]at this;exact ee _ this
 refine af (ma isl ?_);refine ax ⟨vm jB _,?_⟩;have W:=Walks.list (prog:=prog) (w:=w) (A:=A.in1.in1) hh h1.objs.size l (lt1 _ _ hl) its;refine ZW (knd:=knd) W (by simp only[az,gi,or_false,not_or];exact⟨hdI,fb (hdl _ _ hl)⟩) ps hlen hsz its.size 0 _ [] (Nat.sub_zero _) (et _) ⟨⟨_,be _ rfl,rfl,rfl⟩,isl.push _⟩ (aq _) ((hnew.at λo e=>kp1 _ o e).push _) (λi v hi=> ?_) λh' tk hd hk=> ?_
 .obtain⟨q,o,key,k,u,c',e1,e2,e3,e4,e5,e6⟩:=hrow i v hi;refine⟨q,o,key,k,u,c',e1,?_,hdl _ _ e2,aj _ (kp1 _ _ (aj _ e2)),e3,e4,e5,e6⟩;simp only[az,gi,or_false];exact lt1 _ _ e2
 .refine⟨rfl,h h' tk hd λb o e=>hk b o ?_ (hdl _ _ e) (aj _ (kp1 _ _ (aj _ e)))⟩;simp only[az,gi,or_false];exact lt1 _ _ e
end
abbrev K3(H:Hp):List V->List (Key×V)->Prop:=bu λv p=>∃q,v= .ref q/\H q=some (.tup [kV p.1,p.2])
theorem aAO(I:Inv X pins σ H s){k:Key}{x:V}(e:H q=some (.tup [kV k,x])):∃(o:Obj) (key u:ak) (n:Nat),s.heap.get? q=some o/\o.cls= .type "tuple" /\o.data= .seq #[key,u] n/\(b9 X.prog X.w).is k key=true/\RelV x u:=by
 obtain⟨_,us,r,o,h1,h2,n,h3⟩:=(show ObjOk X.prog X.w H s.heap q (.tup [kV k,x]) from I.hok q _ e)
 cases r with
 | @cons _ key _ _ r1 r =>
  cases r with
  | @cons _ u _ _ r2 r =>
   cases r;exact⟨o,key,u,n,h1,h2,h3,uD r1,r2⟩
theorem E8(I:Inv X pins σ H s):∀{vs:List V}{ps:List (Key×V)}{us:List ak},K3 H vs ps->Vals vs us →
  ∃rs:List (Key×ak),KV ps rs/\rs.length=us.length/\∀(i:Nat) (v:ak),us[i]? =some v->∃(q:Addr) (o:Obj) (key:ak) (k:Key) (u:ak) (c:Nat),v= .ref q/\s.heap.get? q=some o/\o.cls= .type "tuple" /\o.data= .seq #[key,u] c/\(b9 X.prog X.w).is k key=true/\rs[i]? =some (k,u)
 | _,_,_,.nil,.nil=>⟨[],.nil,rfl,λi v z=>by simp at z⟩
 | _::_,(k,x)::_,_::us,.cons ⟨q,e,hq⟩ t,.cons r rt=>by
  obtain⟨rs,h1,h2,h3⟩:=E8 I t rt;obtain⟨o,key,u,n,o1,o2,o3,o4,o5⟩:=aAO I hq;subst e;cases r;refine⟨(k,u)::rs,.cons ⟨rfl,o5⟩ h1,by simp[h2],λi v z=> ?_⟩;cases i with
  | zero=>cases z;exact⟨q,o,key,k,u,n,rfl,o1,o2,o3,o4,rfl⟩
  | succ i =>
   obtain⟨q,o,key,k,u,c,w1⟩:=h3 i v (by simpa using z);exact⟨q,o,key,k,u,c,by simpa using w1⟩
def VT:List V->Hp->VK->Prop:=λxs H Q=>∃p vs ps,xs=[.ref p]/\Rd H p (.lst vs)/\K3 H vs ps/\∀l,H l=none->Q (.ref l) (upd H l (.dK (lY [] ps)))
theorem SM(hc:X.calm=true):dZ X (.type "dict") VT:=by
 intro pins s σ H xs us Q I r h;obtain⟨p,vs,ps,rfl,hq,pr,q⟩:=h;obtain⟨u,rfl,rx⟩:=l6 r;cases rx;obtain⟨z,its,n,rv,e⟩:=(show ObjOk X.prog X.w H s.heap p (.lst vs) from hq.ok I.hok)
 obtain⟨rs,h1,h2,h3⟩:=E8 I pr rv;have hl:=rv.length;have hlp:=h1.length;refine VU (knd:=b9 X.prog X.w) (ps:=rs) (I.ok.hd hc) e (by rw[bj];lia) (by rw[bj];exact h2) (λi v hv=>h3 i v (by simpa using hv)) λh' tk hd kp=> ?_;have lm:(lY [] ps).length<=sizeLine:=dy (yO ps []) (by simp;lia);have nm:(s.heap.objs.size==ij)=false:=by
  have:=I.big;simp only[beq_eq_false_iff_ne];exact λz=>by rw[z]at this;exact ee _ this
 exact⟨.ref _,_,I.laid (t':=tk) kp (aq _) (zL lm nm (KV.merge h1 .nil) hd),rfl,q _ (I.hok.fresh (aq _))⟩
section
variable {d:Addr}{es:Array my}{i:Nat}{k0 v0:ak}
theorem UZ{Q:Option ak->ba->Prop}{e:my}(st:oh s.heap it d i es.size ep k0 v0)(ho:s.heap.get? d=some o)(hq:o.data= .dict es ep)(hx:es[i]? =some e)
  (k:∀h',IsItemIterOut h' it d (i+1) es.size ep e.key e.val s.heap.objs.size->h'.get? s.heap.objs.size=some { cls:= .type "tuple",data:= .seq #[e.key,e.val] } →
   (∀b u,b≠it->s.heap.get? b=some u->h'.get? b=some u)->Q (some (.ref s.heap.objs.size)) { s with heap:=h' }):cb (ck prog w) A (qf (.ref it)) Q E s:=by
 obtain⟨hp,g,dr,tk,os⟩:=s;have T:ba.TypeIs ⟨hp,g,dr,tk,os⟩ (.ref it) "dict_itemiterator" :=⟨_,st,rfl⟩
 unfold qf;refine af (vi (kg (name:=mx "__next__") T F.slot_dict_itemiterator_next (ik F.slot_dict_itemiterator_next T F.entry_dict_itemiterator_next ?_ (F.args_dict_itemiterator_next_1 _))));refine af (ax (af (af ?_)))
 first|refine af (iz T (ax (af (jo st rfl ?_))))|refine af (jt T (ax (af (jo st rfl ?_))))
 simp only[show ig "dict_itemiterator" =true by decide,if_true];show cb _ A.in1 (if (cu d==fu)=true then _ else _) _ _ (⟨hp,g,dr,tk,os⟩:ba);rw[if_neg (show ¬(cu d==fu)=true from bg)];refine af (ax (af (jy ho hq ?_)));rw[if_neg (by simp)];refine af (ax (af (lh ho hq ?_)));rw[if_neg (by simp)];refine ax ?_;simp only[show ¬((i:Int)<0) from by lia,if_false,fc,hx];refine af ?_
 first|refine af (iz T (ax (af (kq T ?_))))|refine af (jt T (ax (af (kq T ?_))))
 show cb _ A.in1 (setField (.ref it) 3 (js ((i:Int)+1)) >>= _) _ _ (⟨hp,g,dr,tk,os⟩:ba);refine af (ku st (by simp) λh1 e1 s1=> ?_)
 replace s1:ip it hp h1:=s1
 replace e1:oh h1 it d (i+1) es.size ep k0 v0:=by
  unfold oh;rw[show ((i+1:Nat):Int)=(i:Int)+1 by lia];simpa [js] using e1
 have T1:ba.TypeIs ⟨h1,g,dr,tk,os⟩ (.ref it) "dict_itemiterator" :=⟨_,e1,rfl⟩
 refine af (ie (af (kq T1 (af (kq T1 ?_)))));show cb _ A.in1 (ph (.ref it) 6 e.key e.val) _ _ (⟨h1,g,dr,tk,os⟩:ba);unfold ph;refine af (wpAny_newTuple ?_);have e2:oh (h1.push { cls:= .type "tuple",data:= .seq #[e.key,e.val] }) it d (i+1) es.size ep k0 v0:=aj _ e1;generalize q2:h1.push { cls:= .type "tuple",data:= .seq #[e.key,e.val] }=h2 at e2;have z1:h1.objs.size=hp.objs.size:=s1.1;have il:it<hp.objs.size:=bc st;have t2:h2.get? hp.objs.size=some { cls:= .type "tuple",data:= .seq #[e.key,e.val] }:=by rw[←q2,←z1];exact be _ rfl
 have k2:∀b u,b≠it->hp.get? b=some u->h2.get? b=some u:=λb u hb z=>by rw[←q2];exact aj _ (s1.extBut b u hb z)
 show cb _ A.in1 (nv (.ref it) >>= _) _ _ (⟨h2,g,dr,tk,os⟩:ba);rw[z1];clear q2 e1 s1 T1 z1 h1;refine af ?_;unfold nv;refine af (yb e2 rfl (x:= .none) rfl (ax ?_));simp only[if_true];refine af (yb e2 rfl (x:=k0) rfl (af (yb e2 rfl (x:=v0) rfl ?_)));refine af (ku e2 (by simp) λh3 e3 s3=> ?_)
 replace s3:ip it h2 h3:=s3
 replace e3:oh h3 it d (i+1) es.size ep e.key v0:=e3
 refine af (ku e3 (by simp) λh4 e4 s4=> ?_)
 replace s4:ip it h3 h4:=s4
 replace e4:oh h4 it d (i+1) es.size ep e.key e.val:=e4
 refine af (ku e4 (by simp) λh5 e5 s5=> ?_)
 replace s5:ip it h4 h5:=s5
 replace e5:IsItemIterOut h5 it d (i+1) es.size ep e.key e.val hp.objs.size:=e5
 refine af (ku e5 (by simp) λh6 e6 s6=> ?_)
 replace s6:ip it h5 h6:=s6
 replace e6:IsItemIterOut h6 it d (i+1) es.size ep e.key e.val hp.objs.size:=e6
 have kk:∀b u,b≠it->h2.get? b=some u->h6.get? b=some u:=λb u hb z=>s6.extBut b u hb (s5.extBut b u hb (s4.extBut b u hb (s3.extBut b u hb z)));exact af (wpAny_letGo (ax (ax ⟨_,rfl,ax (k h6 e6 (kk _ _ (yz il) t2) λb u hb z=>kk b u hb (k2 b u hb z))⟩)))
theorem YS{Q:Option ak->ba->Prop}(hh:A.handled=none)(st:oh s.heap it d i es.size ep k0 v0)(ho:s.heap.get? d=some o)(hq:o.data= .dict es ep)(hx:es.size<=i)
  (k:∀h',uu it s.heap h'->Q none { s with heap:=h' }):cb (ck prog w) A (qf (.ref it)) Q E s:=by
 have T:s.TypeIs (.ref it) "dict_itemiterator" :=⟨_,st,rfl⟩
 unfold qf;refine af (vi (kg (name:=mx "__next__") T F.slot_dict_itemiterator_next (ik F.slot_dict_itemiterator_next T F.entry_dict_itemiterator_next ?_ (F.args_dict_itemiterator_next_1 _))));refine af (ax (af (af ?_)))
 first|refine af (iz T (ax (af (jo st rfl ?_))))|refine af (jt T (ax (af (jo st rfl ?_))))
 simp only[show ig "dict_itemiterator" =true by decide,if_true];show cb _ A.in1 (if (cu d==fu)=true then _ else _) _ _ s;rw[if_neg (show ¬(cu d==fu)=true from bg)];refine af (ax (af (jy ho hq ?_)));rw[if_neg (by simp)];refine af (ax (af (lh ho hq ?_)));rw[if_neg (by simp)];refine ax ?_;simp only[show ¬((i:Int)<0) from by lia,if_false,fc,wt hx];refine af ?_
 first|refine af (iz T (ax ?_))|refine af (jt T (ax ?_))
 show cb _ A.in1 (setField (.ref it) 2 .none >>= _) _ _ s;refine af (xw st rfl (by simp) ?_);show cb _ A.in1 (newExc (.type "StopIteration") [] >>= _) _ _ _;refine af ?_;simp only[newExc,newTuple];refine af (gw (af (m:=mj _ _) (wpAny_of_eq (a:=fu) (by first|rfl|(simp only[mj];rfl)) (gw ?_ (by size_fits)))) (by size_fits));simp only[raiseNew];refine af (wpAny_handled ?_);rw[show A.in1.handled=none from hh];refine af (ax (xy ?_));refine af (kh (b:=true) (T:= "StopIteration") ⟨_,be _ rfl,rfl⟩ isSubtype_stop ?_);exact ax (k _ (((kb ..).extBut.push _).push _))
end
section
variable {d:Addr}{es:Array my}{i:Nat}
theorem RY{Q:ak->ba->Prop}(hd:(d==ij)=false)(T:s.TypeIs (.ref d) "dict")
  (k:Q (.ref s.heap.objs.size) { s with heap:=s.heap.push { cls:= .type "dict_items",data:= .fields #[.ref d] } }):cb (ck prog w) A (call (.builtin "dict.items") [.ref d]) Q E s:=by
 refine ik F.slot_dict_items T F.entry_dict_items ?_ (F.args_dict_items_1 _);unfold ux.«dict.items» ux.Dict.noArgs;refine af (af (qa T (ax ?_)));show cb _ A.in1 (ly d >>= _) _ _ s;unfold ly;rw[if_neg (λz=>by rw[hd]at z;cases z)];exact af (ax (af (gw (ax ⟨_,rfl,k⟩))))
theorem V4{v:Addr}{Q:ak->ba->Prop}(hv:s.heap.IsItemsView v d)(ho:s.heap.get? d=some o)(hq:o.data= .dict es ep)
  (k:Q (.ref s.heap.objs.size) { s with heap:=s.heap.push { cls:= .type "dict_itemiterator",data:= .fields #[.none,.bool false,.ref d,.int 0 0,.int es.size 0,.int ep 0,.none,.none] } }):cb (ck prog w) A (pyIter (.ref v)) Q E s:=by
 obtain⟨ov,hov,hcv,hdv⟩:=id hv;refine uy hv.typeIs F.slot_dict_items_iter (ik F.slot_dict_items_iter hv.typeIs F.entry_dict_items_iter ?_ (F.args_dict_items_iter_1 _));unfold ux.«dict_items.__iter__» ux.Dict_items.dictOf ux.Dict_items.newIterator;refine af (ax (af (af (yb hov hdv (x:= .ref d) rfl (ax (af (af (jy ho hq (af (lh ho hq ?_))))))))));simp only[show ig "dict_itemiterator" =true by decide,if_true];refine gw (ax ⟨_,rfl,"dict_itemiterator",_,⟨_,be _ rfl,rfl⟩,F.slot_dict_itemiterator_next.lookup,?_⟩) (by simp only[sizeOk,ny,bj,ao,bb,oa,sizeLine_eq];lia)
 simpa [js,ny] using k
end
def Itj(a:Addr)(o:Obj)(kvs:List (List Key×V)):It :=
 ⟨λi H=>H a=some (.frz o (.dT kvs))/\i<kvs.length,λi H x H'=>∃k v p q,kvs[i]? =some (k,v)/\x= .ref q/\H p=some (.tup (k.map kV))/\H q=none/\H'=upd H q (.tup [.ref p,v]),λi H=>H a=some (.frz o (.dT kvs))/\kvs.length<=i⟩
theorem KT.get2:∀{kvs:List (List Key×V)}{xs:List (List Key×Addr×ak)}{i:Nat},KT H kvs xs->i<kvs.length->∃k v b u,kvs[i]? =some (k,v)/\xs[i]? =some (k,b,u)/\H b=some (.tup (k.map kV))/\RelV v u
 | _,_,0,.cons h _,_=>⟨_,_,_,_,rfl,by rw[h.1];rfl,h.2.1,h.2.2⟩
 | _,_,i+1,.cons _ t,hi=>by
  obtain⟨k,v,b,u,e1,e2,e3⟩:=KT.get2 (i:=i) t (by simpa using hi);exact⟨k,v,b,u,by simpa using e1,by simpa using e2,e3⟩
 | _,_,_,.nil,hi=>by simp at hi
theorem PM{x1:Nat}(a it:Addr){es:Array my}(kvs:List (List Key×V))(hd:o.data= .dict es ep)(hz:es.size=kvs.length):
  AN P w K (.Tuple elts x1 tpos) (Itj a o kvs) [it] it (λi h=>∃ok ov,oh h it a i es.size ep ok ov) where
 mem:=by simp
 obj:=λi h st b hb=>by
  have e:b=it:=by simpa using hb
  subst e;obtain⟨ok,ov,e⟩:=st;exact⟨_,e,λv z=>by cases z⟩
 keep:=λi h h' st k=>let ⟨ok,ov,e⟩:=st;⟨ok,ov,k it (by simp) _ e⟩
 item:=by
  intro X hP hw hK hc i pins s σ H E I hf st hg;subst hP hw hK;obtain⟨ha,hi⟩:=hg;obtain⟨ok,ov,st⟩:=st;obtain⟨ho,z,y,xs,r,o',es',ep',h1,h2,h3,h4,h5⟩:=(show ObjOk X.prog X.w H s.heap a (.frz o (.dT kvs)) from I.hok a _ ha)
  rw[ho]at h1;cases h1;rw[hd]at h3;cases h3;obtain⟨k,v,b,u,e1,e2,e3,e5⟩:=KT.get2 r hi;have e4:=entry_at h4 i;rw[e2]at e4;obtain⟨f0,f1,f2,f3,f4,f5⟩:=hf it (by simp);refine UZ st ho hd e4 λh' st' ht kp=> ?_;refine⟨_,rfl,?_⟩;refine wpAny_letOwnedTupleGo_items (s:={ s with heap:=h' }) st' λh'' st'' sb=> ?_;have hq:H s.heap.objs.size=none:=I.hok.fresh (aq _);have hne:s.heap.objs.size≠it:=λz=>by
   have:=bc (show s.heap.get? it=some _ from st);rw[z]at this;exact ee _ this
  have tup:Vals [.ref b,v] [.ref b,u]:= .cons rfl (.cons e5 .nil);have I1:Inv X pins σ (upd H s.heap.objs.size (.tup [.ref b,v])) { s with heap:=s.heap.push { cls:= .type "tuple",data:= .seq #[.ref b,u] } } :=
   I.laid (t':=s.toks) (λb u e=>aj _ e) (aq _) ⟨(show 2<=sizeLine by rw[sizeLine_eq];decide),[.ref b,u],tup,⟨_,be _ rfl,rfl,0,rfl⟩⟩
  have n0:upd H s.heap.objs.size (.tup [.ref b,v]) it=none:=by rw[aI (fb hne)];exact f0
  have I2:Inv X pins σ (upd H s.heap.objs.size (.tup [.ref b,v])) { s with heap:=h'' }:=Inv.turned (s:={ s with heap:=s.heap.push { cls:= .type "tuple",data:= .seq #[.ref b,u] } }) (h':=h'') (t':=s.toks) (it:=it) I1 (λc o hb e=>by
   rcases Heap.get?_push_cases e with⟨rfl,rfl⟩|e
   .exact(sb.2 _ hb).trans ht
   .exact(sb.2 c hb).trans (kp c o hb e)) n0 f1 f3 f4 f5
  exact⟨.ref s.heap.objs.size,_,I2,rfl,⟨k,v,b,_,e1,rfl,e3,hq,rfl⟩,⟨_,_,st''⟩,λb hb=>by
   have e:b=it:=by simpa using hb
   rw[e];exact n0⟩
 done:=by
  intro X hP hw hK hc i pins s σ H E I hf st hg;subst hP hw hK;obtain⟨ha,hi⟩:=hg;obtain⟨ok,ov,st⟩:=st;obtain⟨ho,hok⟩:=(show ObjOk X.prog X.w H s.heap a (.frz o (.dT kvs)) from I.hok a _ ha)
  obtain⟨f0,f1,f2,f3,f4,f5⟩:=hf it (by simp);exact YS (I.ok.hd hc) st ho hd (by lia) λh' eb=>⟨rfl,I.turned (t':=s.toks) (λb o hb e=>eb b o hb e) f0 f1 f3 f4 f5⟩
 self:=λA i s Q E st h=>by
  obtain⟨ok,ov,st⟩:=st;have T:s.TypeIs (.ref it) "dict_itemiterator" :=⟨_,st,rfl⟩
  refine uy T F.slot_dict_itemiterator_iter (ik F.slot_dict_itemiterator_iter T yR ?_ (F.args_dict_itemiterator_iter_1 _));show cb _ _ (ret (.ref it)) _ _ s;exact ax ⟨_,rfl,"dict_itemiterator",_,T,F.slot_dict_itemiterator_next.lookup,h⟩
def RK(td:TE):TI:=λσ H R=>td σ H λx H1=>∃a kvs,x= .ref a/\H1 a=some (.dT kvs)/\∀o,R (Itj a o kvs) (upd H1 a (.frz o (.dT kvs)))
theorem AB{l:Expr}{elts:List Expr}{x1:Nat}{tpos:Pos}(hl:PE X l td)(hbase:jz l "items" X.env (eval l X.env)=eval l X.env:=by rfl)(hline:(apos.endLine==cpos.line)=true:=by rfl):
  PI X (.Tuple elts x1 tpos) (.Call (.Attribute l "items" apos) [] [] cpos) (RK td):=by
 intro pins s σ H R I h;refine ot hbase hline (thn (hl pins s σ H _ I h) ?_);rintro v s1 ⟨x,H1,I1,r1,q1⟩;obtain⟨a,kvs,rfl,hq,q⟩:=q1;cases r1;obtain⟨t1,t2,_⟩:=L3 I1 (.inr ⟨kvs,.inl hq⟩);refine⟨"dict","dict.items",F.plainAttrs_dict,F.slot_dict_items,F.type_dict_items,t1,t2,ji rfl (rp ?_)⟩;obtain⟨z,y,xs,r,o,es,ep,h1,h2,h3,h4,h5⟩:=(show ObjOk X.prog X.w H1 s1.heap a (.dT kvs) from I1.hok a _ hq)
 have hz:es.size=kvs.length:=by rw[size_of_entries h4,KT.len r]
 refine RY y t1 ?_;have hne:∀b ys,H1 b=some (.tup ys)->upd H1 a (.frz o (.dT kvs)) b=some (.tup ys):=λb ys e=>by
  have hb:b≠a:=λz=>by rw[z,hq]at e;cases e
  rw[aI hb];exact e
 have new:ObjOk X.prog X.w (upd H1 a (.frz o (.dT kvs))) s1.heap a (.frz o (.dT kvs)):=⟨h1,z,y,xs,KT.keeps r hne,o,es,ep,h1,h2,h3,h4,h5⟩
 have I2:Inv X pins σ (upd H1 a (.frz o (.dT kvs))) s1:=I1.freeze trivial hq h1 new;have I3:Inv X pins σ (upd H1 a (.frz o (.dT kvs))) { s1 with heap:=s1.heap.push { cls:= .type "dict_items",data:= .fields #[.ref a] } }:=I2.kept (t':=s1.toks) λb o e=>aj _ e;refine V4 ⟨_,be _ rfl,rfl,rfl⟩ (aj _ h1) h3 ?_;refine⟨_,[_],_,_,upd H1 a (.frz o (.dT kvs)),rfl,I3.kept (t':=s1.toks) λb o e=>aj _ e,PM a _ kvs h3 hz,⟨.none,.none,be _ rfl⟩,λb hb=> ?_,q o⟩;obtain rfl:=bz.mp hb;exact I3.fpOk (aq _) (I3.hok.fresh (aq _))
section
variable (r:Nat->Int)
def rk(p:Array Nat)(i:Nat):Int:=r (p.getD i 0)
def Asc(p:Array Nat)(m:Nat):Prop:=∀i j,i<=j->j<m->rk r p i<=rk r p j
def cR(i j:Nat):Bool:=decide (r i<r j)
variable {r}{p:Array Nat}
theorem sK{p q:Array Nat}{i:Nat}(h:p[i]? =q[j]?):rk r p i=rk r q j:=by
 unfold rk;rw[sg,sg,h]
theorem JL{src d:Nat}(hs:src<p.size)(hd:d<=src)(k:Nat):rk r (bubble p src d) k=if k=src - d then rk r p src else if src - d<k/\k<=src then rk r p (k - 1) else rk r p k:=by
 have e:=getElem?_bubble hs d hd k
 split
 .rename_i h;rw[if_pos h]at e;exact sK e
 .rename_i h;rw[if_neg h]at e
  split
  .rename_i h2;rw[if_pos h2]at e;exact sK e
  .rename_i h2;rw[if_neg h2]at e;exact sK e
theorem nF(c:Nat->Nat->Bool)(f:α->KasT β):∀t:KasT α,bC c (t.bind f)=bC c (f (bC c t))
 | .ret _=>rfl
 | .ask i j k=>nF c f (k (c i j))
theorem DJ{k:Nat}(hk:Asc r p k):∀(f a b:Nat),a<=b->b<=k->b - a<=f->(∀i,i<a->rk r p i<=rk r p k)->(∀i,b<=i->i<k->rk r p k<rk r p i) →
  bC (cR r) (ls p k f a b)<=k/\(∀i,i<bC (cR r) (ls p k f a b)->rk r p i<=rk r p k)/\∀i,bC (cR r) (ls p k f a b)<=i->i<k->rk r p k<rk r p i
 | 0,a,b,h1,h2,h3,h4,h5=>by
  have e:bC (cR r) (ls p k 0 a b)=a:=rfl;rw[e];exact⟨by lia,h4,λi hi=>h5 i (by lia)⟩
 | f+1,a,b,h1,h2,h3,h4,h5=>by
  unfold ls
  by_cases hab:a≥b
  .rw[if_pos hab];show a<=k/\(∀i,i<a->_)/\∀i,a<=i->i<k->_;exact⟨by lia,h4,λi hi=>h5 i (by lia)⟩
  .rw[if_neg hab];have ea:bC (cR r) (KasT.ask (p.getD k 0) (p.getD ((a+b)/2) 0) λc=>if c=true then ls p k f a ((a+b)/2) else ls p k f ((a+b)/2+1) b) =
    bC (cR r) (if cR r (p.getD k 0) (p.getD ((a+b)/2) 0)=true then ls p k f a ((a+b)/2) else ls p k f ((a+b)/2+1) b):=rfl
   rw[ea]
   by_cases hc:cR r (p.getD k 0) (p.getD ((a+b)/2) 0)=true
   .rw[if_pos hc];have hc':rk r p k<rk r p ((a+b)/2):=of_decide_eq_true hc;refine DJ hk f a ((a+b)/2) (by lia) (by lia) (by lia) h4 λi hi hik=> ?_;have:=hk ((a+b)/2) i hi hik
    lia
   .rw[if_neg hc];have hc':¬rk r p k<rk r p ((a+b)/2):=λz=>hc (decide_eq_true z);refine DJ hk f ((a+b)/2+1) b (by lia) h2 (by lia) (λi hi=> ?_) h5;have:=hk i ((a+b)/2) (by lia) (by lia)
    lia
theorem TZ{k l:Nat}(hs:k<p.size)(hk:Asc r p k)(hl:l<=k)(h1:∀i,i<l->rk r p i<=rk r p k)(h2:∀i,l<=i->i<k->rk r p k<rk r p i):Asc r (bubble p k (k - l)) (k+1):=by
 intro i j hij hj;rw[JL hs (by lia),JL hs (by lia),show k - (k - l)=l by lia]
 by_cases e1:i=l
 .rw[if_pos e1]
  by_cases e2:j=l
  .rw[if_pos e2];exact gc _
  .rw[if_neg e2];rw[if_pos (by lia)];have:=h2 (j - 1) (by lia) (by lia)
   lia
 .rw[if_neg e1]
  by_cases e2:j=l
  .rw[if_pos e2,if_neg (by lia)];exact h1 i (by lia)
  .rw[if_neg e2]
   by_cases e3:l<i
   .rw[if_pos (by lia),if_pos (by lia)];exact hk (i - 1) (j - 1) (by lia) (by lia)
   .rw[if_neg (by lia)]
    by_cases e4:l<j
    .rw[if_pos (by lia)];exact hk i (j - 1) (by lia) (by lia)
    .rw[if_neg (by lia)];exact hk i j hij (by lia)
theorem WV:∀(f:Nat) {p:Array Nat} (k:Nat),p.size=n->k+f=n->Asc r p k->Asc r (bC (cR r) (kas_bin f p k)) n
 | 0,p,k,hs,hk,h=>by
  have e:k=n:=by lia
  rw[←e];exact h
 | f+1,p,k,hs,hk,h=>by
  unfold kas_bin;rw[nF];obtain⟨h1,h2,h3⟩:=DJ h k 0 k (et _) (aq _) (by lia) (λi hi=>by lia) (λi h1 h2=>by lia);exact WV f (k+1) ((bubble_size _ _ _).trans hs) (by lia) (TZ (by lia) h h1 h2 h3)
theorem L6:∀(f k:Nat),1<=k->Asc r p k->k<=bC (cR r) (qo p f k)/\bC (cR r) (qo p f k)<=k+f/\Asc r p (bC (cR r) (qo p f k))/\(bC (cR r) (qo p f k)<k+f->rk r p (bC (cR r) (qo p f k))<rk r p (bC (cR r) (qo p f k) - 1))
 | 0,k,h0,h=>by
  show k<=k/\k<=k+0/\Asc r p k/\(k<k+0->_);exact⟨aq _,aq _,h,λz=>by lia⟩
 | f+1,k,h0,h=>by
  unfold qo;have ea:bC (cR r) (KasT.ask (p.getD k 0) (p.getD (k - 1) 0) λc=>if c=true then .ret k else qo p f (k+1))=bC (cR r) (if cR r (p.getD k 0) (p.getD (k - 1) 0)=true then .ret k else qo p f (k+1)):=rfl;rw[ea]
  by_cases hc:cR r (p.getD k 0) (p.getD (k - 1) 0)=true
  .rw[if_pos hc];show k<=k/\k<=k+(f+1)/\Asc r p k/\(k<k+(f+1)->rk r p k<rk r p (k - 1));exact⟨aq _,by lia,h,λ_=>of_decide_eq_true hc⟩
  .rw[if_neg hc];have hc':¬rk r p k<rk r p (k - 1):=λz=>hc (decide_eq_true z);have h':Asc r p (k+1):=λi j hij hj=>by
    by_cases e:j=k
    .subst e
     by_cases e2:i=j
     .subst e2;exact gc _
     .have:=h i (j - 1) (by lia) (by lia)
      lia
    .exact h i j hij (by lia)
   obtain⟨a1,a2,a3,a4⟩:=L6 f (k+1) (by lia) h';exact⟨by lia,by lia,a3,λz=>a4 (by lia)⟩
end
section
variable {r:Nat->Int}{p:Array Nat}
def Dif(r:Nat->Int)(p:Array Nat):Prop:=∀i j,i<p.size->j<p.size->rk r p i=rk r p j->i=j
def Dsc(r:Nat->Int)(p:Array Nat)(m:Nat):Prop:=∀i j,i<j->j<m->rk r p j<rk r p i
theorem VL{m:Nat}(hm:m<=p.size)(k:Nat):rk r (kas_rev p 0 m) k=if k<m then rk r p (m - 1 - k) else rk r p k:=by
 have e:=getElem?_mirror_all (i:=0) hm k
 split
 .rename_i h;rw[if_pos ⟨et _,h⟩,si]at e;exact sK e
 .rename_i h;rw[if_neg (by lia)]at e;exact sK e
theorem QO(hd:Dif r p):∀(f k:Nat),1<=k->k+f<=p.size->Dsc r p k->∃m,bC (cR r) (kas_desc f p k 0)=(p,m,0)/\k<=m/\m<=k+f/\Dsc r p m
 | 0,k,h0,h1,h=>⟨k,rfl,aq _,aq _,h⟩
 | f+1,k,h0,h1,h=>by
  unfold kas_desc
  by_cases hc:cR r (p.getD k 0) (p.getD (k - 1) 0)=true
  .have hc':rk r p k<rk r p (k - 1):=of_decide_eq_true hc;have h':Dsc r p (k+1):=λi j hij hj=>by
    by_cases e:j=k
    .subst e
     by_cases e2:i=j - 1
     .subst e2;exact hc'
     .have:=h i (j - 1) (by lia) (by lia)
      lia
    .exact h i j hij (by lia)
   obtain⟨m,e,a1,a2,a3⟩:=QO hd f (k+1) (by lia) (by lia) h';refine⟨m,?_,by lia,by lia,a3⟩;rw[←e];show bC (cR r) (if cR r (p.getD k 0) (p.getD (k - 1) 0)=true then _ else _)=_;rw[if_pos hc];rfl
  .have hc':¬rk r p k<rk r p (k - 1):=λz=>hc (decide_eq_true z);have hn:rk r p (k - 1)<rk r p k:=by
    have h2:rk r p (k - 1)≠rk r p k:=λz=>by
     have:=hd (k - 1) k (by lia) (by lia) z
     lia
    lia
   refine⟨k,?_,aq _,by lia,h⟩;show bC (cR r) (if cR r (p.getD k 0) (p.getD (k - 1) 0)=true then _ else _)=_;rw[if_neg hc];show bC (cR r) (if cR r (p.getD (k - 1) 0) (p.getD k 0)=true then _ else _)=_;rw[if_pos (show cR r (p.getD (k - 1) 0) (p.getD k 0)=true from decide_eq_true hn)];rfl
theorem Y5{m:Nat}(h1:1<=m)(hm:m<=n)(hs:p.size=n)(h:Dsc r p m):∃a q,bC (cR r) (kas_tail3 m n p)=(a,q)/\a<=n/\q.size=n/\Asc r q a:=by
 have hasc:Asc r (kas_rev p 0 m) m:=λi j hij hj=>by
  rw[VL (by lia),VL (by lia),if_pos (by lia),if_pos hj]
  by_cases e:i=j
  .subst e;exact gc _
  .exact Int.le_of_lt (h (m - 1 - j) (m - 1 - i) (by lia) (by lia))
 obtain⟨a1,a2,a3,_⟩:=L6 (n - m) m h1 hasc;refine⟨_,kas_rev p 0 m,by unfold kas_tail3;rw[nF];rfl,by lia,(mirror_size _ _ _ _).trans hs,a3⟩
theorem aAo(hn:1<=n)(hs:p.size=n)(hd:Dif r p):∃a q,bC (cR r) (kas_count n p)=(a,q)/\a<=n/\q.size=n/\Asc r q a:=by
 have h0:Asc r p 1:=λi j hij hj=>by
  have:i=j:=by lia
  subst this;exact gc _
 obtain⟨a1,a2,a3,a4⟩:=L6 (n - 1) 1 (aq _) h0;unfold kas_count;rw[nF];generalize bC (cR r) (qo p (n - 1) 1)=k at a1 a2 a3 a4 ⊢
 by_cases e1:k=n
 .rw[if_pos (by rw[e1];exact beq_self_eq_true _)];exact⟨k,p,rfl,by lia,hs,a3⟩
 .rw[if_neg (by rw[beq_iff_eq];exact e1)]
  by_cases e2:k>1
  .rw[if_pos e2];have hlt:rk r p 0<rk r p (k - 1):=by
    have h2:=a3 0 (k - 1) (et _) (by lia);have h3:rk r p 0≠rk r p (k - 1):=λz=>by
     have:=hd 0 (k - 1) (by lia) (by lia) z
     lia
    lia
   refine⟨k,p,?_,by lia,hs,a3⟩;show bC (cR r) (if cR r (p.getD 0 0) (p.getD (k - 1) 0)=true then _ else _)=_;rw[if_pos (show cR r (p.getD 0 0) (p.getD (k - 1) 0)=true from decide_eq_true hlt)];rfl
  .rw[if_neg e2];have ek:k=1:=by lia
   subst ek;have h10:rk r p 1<rk r p 0:=a4 (by lia);unfold kas_descPart;rw[nF];obtain⟨m,e,b1,b2,b3⟩:=QO hd (n - (1+1)) (1+1) (by lia) (by lia) (λi j hij hj=>by
    have:i=0/\j=1:=by lia
    rw[this.1,this.2];exact h10)
   rw[e];have hmn:m<=n:=by
    have:2<=n:=by lia
    lia
   exact Y5 (p:=p) (m:=m) (n:=n) (by lia) hmn hs b3
theorem aAc(hn:1<=n)(hr:∀i j,i<n->j<n->r i=r j->i=j):Asc r (bC (cR r) (kas_sort n)) n:=by
 unfold kas_sort;rw[nF];have hs:(el n).toArray.size=n:=by simp
 have eg:∀i,i<n->(el n).toArray.getD i 0=i:=λi hi=>by simp[ud,hi]
 obtain⟨a,q,e,h1,h2,h3⟩:=aAo (r:=r) hn hs (λi j hi hj z=>by
  unfold rk at z;rw[hs]at hi hj;rw[eg i hi,eg j hj]at z;exact hr i j hi hj z)
 rw[e]
 by_cases hlt:a<n
 .show Asc r (bC (cR r) (if a<n then _ else _)) n;rw[if_pos hlt];refine WV _ _ h2 (by lia) λi j hij hj=> ?_
  by_cases ha:a=0
  .have:i=j:=by lia
   subst this;exact gc _
  .exact h3 i j hij (by lia)
 .show Asc r (bC (cR r) (if a<n then _ else _)) n;rw[if_neg hlt];have:a=n:=by lia
  rw[←this];exact h3
end
theorem IN{R:α->Prop}{c c':Nat->Nat->Bool}(h:∀i j,i<n->j<n->c i j=c' i j):∀{t:KasT α},KasIn n R t->bC c t=bC c' t
 | .ret _,_=>rfl
 | .ask i j k,q=>by
  show bC c (k (c i j))=bC c' (k (c' i j));rw[h i j q.1 q.2.1];exact IN h (q.2.2 _)
theorem JG{p q:α->Bool}:∀{l:List α},(∀y∈l,p y=true->q y=true)->(∃x∈l,q x=true/\p x=false)->l.countP p<l.countP q
 | [],_,⟨x,hx,_⟩=>nomatch hx
 | a::l,h,⟨x,hx,h1,h2⟩=>by
  have hl:l.countP p<=l.countP q:=List.countP_mono_left λy hy=>h y (ab _ hy);rcases az.mp hx with e|hx
  .subst e;rw[ki h1,ou (by rw[h2];exact bg)]
   lia
  .have ih:=JG (λy hy=>h y (ab _ hy)) ⟨x,hx,h1,h2⟩;cases hp:p a with
   | true =>
    rw[ki hp,ki (h a (.head _) hp)]
    lia
   | false =>
    rw[ou (by rw[hp];exact bg)];cases hq:q a with
    | true=>rw[ki hq];lia
    | false=>rw[ou (by rw[hq];exact bg)];exact ih
structure Ord{α:Type}(lt:α->α->Bool)(l:List α):Prop where
 irr:∀x∈l,lt x x=false
 tr:∀x∈l,∀y∈l,∀z∈l,lt x y=true->lt y z=true->lt x z=true
 tot:∀x∈l,∀y∈l,x≠y->lt x y=true∨lt y x=true
section
variable {lt:α->α->Bool}{l:List α}{d:α}
theorem eN{i:Nat}(h:i<l.length):l.getD i d∈l:=by
 rw[au,ah h];exact qi h
theorem wI(nd:l.Nodup){i:Nat}(hi:i<l.length)(hj:j<l.length)(e:l.getD i d=l.getD j d):i=j:=by
 rw[au,ah hi,au,ah hj]at e;have hp:=nh.mp nd;rcases uz i j with h|h|h
 .exact absurd e (hp i j hi hj h)
 .exact h
 .exact absurd e.symm (hp j i hj hi h)
theorem VX(o:Ord lt l)(nd:l.Nodup)(h2:2<=l.length):∀i j,i<j->j<l.length->lt (l.getD ((bC (λi j=>lt (l.getD i d) (l.getD j d)) (kas_sort l.length)).getD i 0) d) (l.getD ((bC (λi j=>lt (l.getD i d) (l.getD j d)) (kas_sort l.length)).getD j 0) d)=true:=by
 let r:Nat->Int:=λi=>((l.countP λy=>lt y (l.getD i d):Nat):Int)
 have hlt:∀i j,i<l.length->j<l.length->lt (l.getD i d) (l.getD j d)=true->r i<r j:=λi j hi hj h=>by
  have:=JG (l:=l) (p:=λy=>lt y (l.getD i d)) (q:=λy=>lt y (l.getD j d)) (λy hy h'=>o.tr y hy _ (eN hi) _ (eN hj) h' h) ⟨l.getD i d,eN hi,h,o.irr _ (eN hi)⟩;exact Int.ofNat_lt.mpr this
 have hrc:∀i j,i<l.length->j<l.length->(λi j=>lt (l.getD i d) (l.getD j d)) i j=cR r i j:=λi j hi hj=>by
  show lt (l.getD i d) (l.getD j d)=decide (r i<r j);cases e:lt (l.getD i d) (l.getD j d) with
  | true=>rw[decide_eq_true (hlt i j hi hj e)]
  | false =>
   rw[decide_eq_false];intro z
   by_cases e2:l.getD i d=l.getD j d
   .rw[wI nd hi hj e2]at z;exact absurd z (Int.lt_irrefl _)
   .rcases o.tot _ (eN hi) _ (eN hj) e2 with h|h
    .rw[h]at e;cases e
    .have:=hlt j i hj hi h
     lia
 have hinj:∀i j,i<l.length->j<l.length->r i=r j->i=j:=λi j hi hj e=>by
  by_cases e2:l.getD i d=l.getD j d
  .exact wI nd hi hj e2
  .rcases o.tot _ (eN hi) _ (eN hj) e2 with h|h
   .have:=hlt i j hi hj h;lia
   .have:=hlt j i hj hi h;lia
 rw[IN hrc (F8 (by lia))];have hs:=aAc (n:=l.length) (by lia) hinj;have hp:=eI (n:=l.length) (cR r) (by lia);generalize bC (cR r) (kas_sort l.length)=q at hs hp;intro i j hij hj;have hqs:q.size=l.length:=by have:=hp.size_eq;simpa using this
 have li:=hp.lt (by lia) i;have lj:=hp.lt (by lia) j;have hne:q.getD i 0≠q.getD j 0:=λz=>by
  have hnd:q.toList.Nodup:=by
   have h1:=uf.mp hp;exact h1.nodup_iff.mpr (by simpa using mz)
  have ei:q.getD i 0=q.toList.getD i 0:=by simp[ud,au,show i<q.size by lia]
  have ej:q.getD j 0=q.toList.getD j 0:=by simp[ud,au,show j<q.size by lia]
  rw[ei,ej]at z;have:=wI hnd (by rw[gf];lia) (by rw[gf];lia) z
  lia
 have hle:=hs i j (by lia) (by lia);have e3:l.getD (q.getD i 0) d≠l.getD (q.getD j 0) d:=λz=>hne (wI nd li lj z);rcases o.tot _ (eN li) _ (eN lj) e3 with h|h
 .exact h
 .have:=hlt _ _ lj li h;unfold rk at hle
  lia
theorem yU(c:Nat->Nat->Bool):(cM d c l).Perm l:=by
 unfold cM
 split
 .exact List.Perm.refl _
 .have h:=uf.mp (eI (n:=l.length) c (by lia));refine(h.map λi=>l.getD i d).trans ?_;have e:((el l.length).toArray.toList.map λi=>l.getD i d)=l:=by
   apply List.ext_getElem?
   intro i
   by_cases hi:i<l.length
   .simp[hi,au]
   .simp[hi]
  rw[e]
theorem TW(o:Ord lt l)(nd:l.Nodup):(cM d (λi j=>lt (l.getD i d) (l.getD j d)) l).Pairwise λx y=>lt x y=true:=by
 unfold cM
 split
 .rename_i h
  match l,h with
  | [],_=>exact .nil
  | [x],_=>exact List.pairwise_singleton _ _
 .rename_i h;have ha:=VX (d:=d) o nd (by lia);have hp:=eI (n:=l.length) (λi j=>lt (l.getD i d) (l.getD j d)) (by lia);generalize bC (λi j=>lt (l.getD i d) (l.getD j d)) (kas_sort l.length)=q at ha hp;have hqs:q.size=l.length:=by have:=hp.size_eq;simpa using this
  rw[nh];intro i j hi hj hij;rw[ae,gf]at hi hj;have:=ha i j hij (by lia)
  simpa [ud,hi,hj] using this
theorem QQ:∀{l k:List α},(∀x∈l,lt x x=false)->(∀x∈l,∀y∈l,∀z∈l,lt x y=true->lt y z=true->lt x z=true)->l.Perm k->l.Pairwise (λx y=>lt x y=true)->k.Pairwise (λx y=>lt x y=true)->l=k
 | [],k,_,_,hp,_,_=>(List.nil_perm.mp hp).symm
 | a::l,[],_,_,hp,_,_=>nomatch (List.perm_nil.mp hp)
 | a::l,b::k,hi,ht,hp,h1,h2=>by
  have ha:a∈b::k:=hp.mem_iff.mp (.head _);have hb:b∈a::l:=hp.mem_iff.mpr (.head _);have e:a=b:=by
   rcases az.mp ha with e|ha'
   .exact e
   .rcases az.mp hb with e|hb'
    .exact e.symm
    .have q1:=(jq.mp h2).1 a ha';have q2:=(jq.mp h1).1 b hb';have:=ht a (.head _) b hb a (.head _) q2 q1;rw[hi a (.head _)]at this;cases this
  subst e;rw[QQ (λx hx=>hi x (ab _ hx)) (λx hx y hy z hz=>ht x (ab _ hx) y (ab _ hy) z (ab _ hz)) (List.perm_cons a |>.mp hp) (jq.mp h1).2 (jq.mp h2).2]
end
def ltS(x y:Str):Bool:=decide (x.cps.toList<y.cps.toList)
theorem aAB(h:x.cps.toList=y.cps.toList):x=y:=by
 cases x;cases y
 congr 1
 exact Array.toList_inj.mp h
theorem QL(x:Str):ltS x x=false:=decide_eq_false (List.lt_irrefl _)
theorem V2(h1:ltS x y=true)(h2:ltS y z=true):ltS x z=true:=decide_eq_true (List.lt_trans (of_decide_eq_true h1) (of_decide_eq_true h2))
theorem aCt(h:x≠y):ltS x y=true∨ltS y x=true:=by
 by_cases h1:x.cps.toList<y.cps.toList
 .exact .inl (decide_eq_true h1)
 .by_cases h2:y.cps.toList<x.cps.toList
  .exact .inr (decide_eq_true h2)
  .exact absurd (aAB (List.le_antisymm (List.not_lt.mp h2) (List.not_lt.mp h1))) h
theorem aBV(l:List Str):Ord ltS l:=⟨λx _=>QL x,λ_ _ _ _ _ _ h1 h2=>V2 h1 h2,λ_ _ _ _ h=>aCt h⟩
def eX(ss:List Str):List Str:=cM ll (λi j=>ltS (ss.getD i ll) (ss.getD j ll)) ss
theorem mE(ss:List Str):(eX ss).Perm ss:=yU _
theorem OF{ss:List Str}(nd:ss.Nodup):(eX ss).Pairwise λx y=>ltS x y=true:=TW (aBV ss) nd
theorem PH(f:α->β)(d:α)(e:β)(c:Nat->Nat->Bool)(l:List α):cM e c (l.map f)=(cM d c l).map f:=by
 unfold cM;rw[ae]
 split
 .rfl
 .rename_i h;rw[bw]
  apply dw
  intro i hi;have h':=(eI (n:=l.length) c (by lia)).mem_iff.mp (mf.mp hi);have hl:i<l.length:=by simpa using h'
  show (l.map f).getD i e=f (l.getD i d);rw[au,au,bq,ah hl];rfl
def U4(K:W.Frag):List V->Hp->VK->Prop:=λxs H Q=>∃p ss,xs=[.ref p]/\SqL K H p (ss.map V.str)/\ss.length<64/\∀l,H l=none->Q (.ref l) (upd H l (.lst ((eX ss).map V.str)))
theorem z9:dZ X (.builtin "sorted") (U4 X.K):=by
 intro pins s σ H xs us Q I r h;obtain⟨p,ss,rfl,hq,h64,q⟩:=h;obtain⟨u,rfl,rx⟩:=l6 r;cases rx;obtain⟨its,rv,pl,hz⟩:=I.list hq;have hl:=rv.length;rw[ae]at hl;have hat:∀i,i<its.length->∃t,its[i]? =some (.str (ss.getD i ll) t):=λi hi=>by
  have hi':i<ss.length:=by lia
  obtain⟨u,e,t,rfl⟩:=rv.get (i:=i) (x:=V.str (ss.getD i ll)) (by rw[bq,au,ah hi'];rfl);exact⟨t,e⟩
 refine JF (λi j=>ltS (ss.getD i ll) (ss.getD j ll)) oneType' pl.isList (by lia) (λh2 h' kp R hR=> ?_) (λh2 h' kp i j hi hj C hC=> ?_) λD h' e hD kp o'=> ?_
 .refine kas_kind (s:={ s with heap:=h' }) (T:= .type "str") h2 (λv hv=> ?_) (by decide) rfl hR;obtain⟨i,hi,e⟩:=rq hv;obtain⟨t,e2⟩:=hat i hi;rw[ah hi,e]at e2;cases e2;exact yn rfl
 .obtain⟨t1,e1⟩:=hat i hi;obtain⟨t2,e2⟩:=hat j hj;unfold kas_ask;rw[au,au,e1,e2,keyLt'_oneType];exact oneLt_str hC
 .have ev:=zY (λi j=>ltS (ss.getD i ll) (ss.getD j ll)) rv;rw[PH V.str ll V.non]at ev;exact⟨.ref D,_,I.laid (t':=s.toks) kp hD (show ObjOk X.prog X.w _ h' _ (.lst ((eX ss).map V.str)) from⟨by rw[ae];unfold eX;rw[vJ];rw[sizeLine_eq];lia,_,e,ev,o'⟩),rfl,q _ (I.hok.fresh hD)⟩
def lV(rs:List (List Key)):List (List Key):=cM [] (uH rs) rs
theorem qN(rs:List (List Key)):(lV rs).Perm rs:=yU _
theorem SQ{rs:List (List Key)}(k:KRows H vs rs):KRows H (T9 rs vs) (lV rs):=by
 have hl:vs.length=rs.length:=bx k;unfold T9 lV cM;rw[hl]
 split
 .exact k
 .have hp:=eI (n:=rs.length) (uH rs) (by lia);have hm:∀i∈(bC (uH rs) (kas_sort rs.length)).toList,i<rs.length:=λi hi=>by
   have h:=hp.mem_iff.mp (mf.mp hi)
   simpa using h
  revert hm;generalize (bC (uH rs) (kas_sort rs.length)).toList=l;intro hm
  induction l with
  | nil=>exact .nil
  | cons i l ih =>
   refine .cons ?_ (ih λj hj=>hm j (ab _ hj));have hi:=hm i (.head _);obtain⟨p,r,e1,e2,e3⟩:=k.get (i:=i) (v:=vs.getD i .non) (by rw[au,ah (by lia)];rfl);refine⟨p,e1,?_⟩;show H p=some (.tup ((rs.getD i []).map kV));rw[au,e2];exact e3
theorem Paired.snoc{F:α->β->Prop}:∀{l:List α}{m:List β}{a:α}{b:β},bu F l m->F a b->bu F (l++[a]) (m++[b])
 | _,_,_,_,.nil,h=> .cons h .nil
 | _,_,_,_,.cons r t,h=> .cons r (Paired.snoc t h)
theorem Paired.at2{F:α->β->Prop}:∀{l:List α}{m:List β}{i:Nat}{a:α}{b:β},bu F l m->l[i]? =some a->m[i]? =some b->F a b
 | _,_,0,_,_,.cons r _,h1,h2=>by cases h1;cases h2;exact r
 | _,_,i+1,_,_,.cons _ t,h1,h2=>Paired.at2 (i:=i) t (by simpa using h1) (by simpa using h2)
 | _,_,_,_,_,.nil,h1,_=>by simp at h1
variable {J:It}{g:TG}
theorem nG(xs:List α)(c:α->Bool)(P:α->V->Hp->Prop)(hm:∀x y H1 H2,P x y H1->Same H1 H2->P x y H2)(hn:xs.length<=sizeLine)
  (hgo:∀i H1,Same H H1->i<xs.length->J.go i H1)(hst:∀H1,Same H H1->J.stop xs.length H1)
  (hb:∀i x H1,xs[i]? =some x->Same H H1->∀v H',J.yld i H1 v H'->Same H1 H'/\∃σ2:St,σ2.length=σ0.length/\(∀(j:Nat) v,σ0[j]? =some (some v)->σ2[j]? =some (some v))/\(∀R:St->Hp->Prop,R σ2 H'->g v σ0 H' R) ∧
   (∀R:Bool->Hp->Prop,(∀H2,Same H' H2->R (c x) H2)->ti σ2 H' R)/\(c x=true->∀H2,Same H' H2->∀R:VK,(∀y H3,P x y H3->Same H2 H3->R y H3)->te σ2 H2 R))
  (hf:∀ys H1,Same H H1->bu (λx y=>P x y H1) (xs.filter c) ys->fin ys H1):dX J g ti te σ0 fin H:=by
 refine⟨λi m ys H1=>i+m=xs.length/\Same H H1/\bu (λx y=>P x y H1) ((xs.take i).filter c) ys,⟨xs.length,by lia,Same.refl _,.nil⟩,?_⟩;rintro i m ys H1 ⟨e1,s1,pr⟩;cases m with
 | zero =>
  have ei:i=xs.length:=by lia
  subst ei;rw[cp]at pr;exact .inl ⟨hst H1 s1,hf ys H1 s1 pr⟩
 | succ m =>
  have hi:i<xs.length:=by lia
  refine .inr ⟨hgo i H1 s1 hi,λv H' y=> ?_⟩;have ex:xs[i]? =some xs[i]:=ah hi;have etake:xs.take (i+1)=xs.take i++[xs[i]]:=by rw[pj,ex];rfl
  have hlen:ys.length<=i:=by
   rw[←bx pr];exact dy (du _ _) (by rw[cw];lia)
  obtain⟨s2,σ2,l2,c2,hg,ht,he⟩:=hb i xs[i] H1 ex s1 v H' y;refine hg _ ⟨⟨l2,c2⟩,ht _ λH2 s3=> ?_⟩;cases hc:c xs[i] with
  | true =>
   show te σ2 H2 _;refine he hc H2 s3 _ λy H3 py s4=>⟨by lia,m,by lia,by lia,((s1.trans s2).trans s3).trans s4,?_⟩
   rw[etake,fh,da hc];exact Paired.snoc (Paired.imp' (λa b h=>hm a b _ _ h ((s2.trans s3).trans s4)) pr) py
  | false =>
   show ∃m',_;refine⟨m,by lia,by lia,(s1.trans s2).trans s3,?_⟩;rw[etake,fh,cx (by rw[hc];exact bg),List.filter_nil,dj];exact Paired.imp' (λa b h=>hm a b _ _ h (s2.trans s3)) pr
theorem NU(hr:ci.map (λi=>(σ[i]?).join)=rest):cD n ci σ=tw n none++rest:=by unfold cD;rw[hr]
theorem GA{xs:List α}(f1 f2:α->V)(c:α->Bool)(P:α->V->Hp->Prop)(hm:∀x y H1 H2,P x y H1->Same H1 H2->P x y H2)(hn:xs.length<=sizeLine)(hr:ci.map (λi=>(σ[i]?).join)=rest)(hl:SqL K H a vs)
  (hv:bu (λv x=>∃q,v= .ref q/\H q=some (.tup [f1 x,f2 x])) vs xs)
  (ht:∀x H1,x∈xs->Same H H1->∀R:Bool->Hp->Prop,(∀H2,Same H1 H2->R (c x) H2)->ti (some (f1 x)::some (f2 x)::rest) H1 R)
  (he:∀x H1,x∈xs->c x=true->Same H H1->∀R:VK,(∀y H2,P x y H2->Same H1 H2->R y H2)->te (some (f1 x)::some (f2 x)::rest) H1 R)
  (hf:∀ys H1,Same H H1->bu (λx y=>P x y H1) (xs.filter c) ys->fin ys H1):dX (Itl K a) (F9 K 2 (qT (cF 0) (qT (cF 1) L1))) ti te (cD 2 ci σ) fin H:=by
 have e0:cD 2 ci σ=none::none::rest:=NU hr;rw[e0];have hlen:vs.length=xs.length:=bx hv;refine nG xs c P hm hn (λi H1 s hi=>⟨vs,vs[i],s.seq hl,ah (by lia)⟩) (λH1 s=>⟨vs,s.seq hl,by lia⟩) (λi x H1 hx s1 v H' y=> ?_) hf;obtain⟨rfl,e2⟩:=y;have ev:=e2 vs (s1.seq hl);obtain⟨q,rfl,hq⟩:∃q,v= .ref q/\H q=some (.tup [f1 x,f2 x]):=Paired.at2 hv ev hx;have hmem:=ay hx;refine⟨Same.refl _,some (f1 x)::some (f2 x)::rest,rfl,λj v hv=> ?_,λR h=>⟨q,[f1 x,f2 x],rfl,.inl (.inl (s1 _ _ hq)),rfl,f1 x,[f2 x],rfl,f2 x,[],rfl,rfl,h⟩,λR h=>ht x _ hmem s1 R h,λhc H2 s2 R h=>he x H2 hmem hc (s1.trans s2) R h⟩
 match j,hv with
 | 0,hv=>cases hv
 | 1,hv=>cases hv
 | j+2,hv=>exact hv
theorem same_upd{o:HO}(h:H q=none):Same H (upd H q o):=λb u e=>by
 have:b≠q:=λz=>by rw[z,h]at e;cases e
 rw[aI this];exact e
theorem aBT{xs:List α}(f1 f2 f3:α->V)(c:α->Bool)(P:α->V->Hp->Prop)(hm:∀x y H1 H2,P x y H1->Same H1 H2->P x y H2)(hn:xs.length<=sizeLine)(hr:ci.map (λi=>(σ[i]?).join)=rest)(hl:SqL K H a vs)
  (hv:bu (λv x=>∃q,v= .ref q/\H q=some (.tup [f1 x,f2 x,f3 x])) vs xs)
  (ht:∀x H1,x∈xs->Same H H1->∀R:Bool->Hp->Prop,(∀H2,Same H1 H2->R (c x) H2)->ti (some (f1 x)::some (f2 x)::some (f3 x)::rest) H1 R)
  (he:∀x H1,x∈xs->c x=true->Same H H1->∀R:VK,(∀y H2,P x y H2->Same H1 H2->R y H2)->te (some (f1 x)::some (f2 x)::some (f3 x)::rest) H1 R)
  (hf:∀ys H1,Same H H1->bu (λx y=>P x y H1) (xs.filter c) ys->fin ys H1):dX (Itl K a) (F9 K 3 (qT (cF 0) (qT (cF 1) (qT (cF 2) L1)))) ti te (cD 3 ci σ) fin H:=by
 have e0:cD 3 ci σ=none::none::none::rest:=NU hr;rw[e0];have hlen:vs.length=xs.length:=bx hv;refine nG xs c P hm hn (λi H1 s hi=>⟨vs,vs[i],s.seq hl,ah (by lia)⟩) (λH1 s=>⟨vs,s.seq hl,by lia⟩) (λi x H1 hx s1 v H' y=> ?_) hf;obtain⟨rfl,e2⟩:=y;have ev:=e2 vs (s1.seq hl);obtain⟨q,rfl,hq⟩:∃q,v= .ref q/\H q=some (.tup [f1 x,f2 x,f3 x]):=Paired.at2 hv ev hx;have hmem:=ay hx;refine⟨Same.refl _,some (f1 x)::some (f2 x)::some (f3 x)::rest,rfl,λj v hv=> ?_,λR h=>⟨q,[f1 x,f2 x,f3 x],rfl,.inl (.inl (s1 _ _ hq)),rfl,f1 x,[f2 x,f3 x],rfl,f2 x,[f3 x],rfl,f3 x,[],rfl,rfl,h⟩,λR h=>ht x _ hmem s1 R h,λhc H2 s2 R h=>he x H2 hmem hc (s1.trans s2) R h⟩
 match j,hv with
 | 0,hv=>cases hv
 | 1,hv=>cases hv
 | 2,hv=>cases hv
 | j+3,hv=>exact hv
theorem aFN(c:Key×V->Bool)(P:Key×V->V->Hp->Prop)(hm:∀x y H1 H2,P x y H1->Same H1 H2->P x y H2)(hn:kvs.length<=sizeLine)(hr:ci.map (λi=>(σ[i]?).join)=rest)(h0:H a=some (.frz o (.dK kvs)))
  (ht:∀x H1,x∈kvs->Same H H1->∀R:Bool->Hp->Prop,(∀H2,Same H1 H2->R (c x) H2)->ti (some (kV x.1)::rest) H1 R)
  (he:∀x H1,x∈kvs->c x=true->Same H H1->∀R:VK,(∀y H2,P x y H2->Same H1 H2->R y H2)->te (some (kV x.1)::rest) H1 R)
  (hf:∀ys H1,Same H H1->bu (λx y=>P x y H1) (kvs.filter c) ys->fin ys H1):dX (Itk a o kvs) (cF 0) ti te (cD 1 ci σ) fin H:=by
 rw[AC hr];refine nG kvs c P hm hn (λi H1 s hi=>⟨s _ _ h0,hi⟩) (λH1 s=>⟨s _ _ h0,aq _⟩) (λi x H1 hx s1 v H' y=> ?_) hf;obtain⟨rfl,k,u,e2,rfl⟩:=y;rw[hx]at e2;cases e2;have hmem:=ay hx;refine⟨Same.refl _,some (kV k)::rest,rfl,λj v hv=> ?_,λR h=>h,λR h=>ht _ _ hmem s1 R h,λhc H2 s2 R h=>he _ H2 hmem hc (s1.trans s2) R h⟩;cases j with
 | zero=>cases hv
 | succ j=>exact hv
theorem MZ{kvs:List (List Key×V)}(c:List Key×V->Bool)(P:List Key×V->V->Hp->Prop)(hm:∀x y H1 H2,P x y H1->Same H1 H2->P x y H2)(hn:kvs.length<=sizeLine)(hr:ci.map (λi=>(σ[i]?).join)=rest)(h0:H a=some (.frz o (.dT kvs)))
  (ht:∀x H1 p,x∈kvs->Same H H1->H1 p=some (.tup (x.1.map kV))->∀R:Bool->Hp->Prop,(∀H2,Same H1 H2->R (c x) H2)->ti (some (.ref p)::some x.2::rest) H1 R)
  (he:∀x H1 p,x∈kvs->c x=true->Same H H1->H1 p=some (.tup (x.1.map kV))->∀R:VK,(∀y H2,P x y H2->Same H1 H2->R y H2)->te (some (.ref p)::some x.2::rest) H1 R)
  (hf:∀ys H1,Same H H1->bu (λx y=>P x y H1) (kvs.filter c) ys->fin ys H1):dX (Itj a o kvs) (F9 K 2 (qT (cF 0) (qT (cF 1) L1))) ti te (cD 2 ci σ) fin H:=by
 have e0:cD 2 ci σ=none::none::rest:=NU hr;rw[e0];refine nG kvs c P hm hn (λi H1 s hi=>⟨s _ _ h0,hi⟩) (λH1 s=>⟨s _ _ h0,aq _⟩) (λi x H1 hx s1 v H' y=> ?_) hf;obtain⟨k,u,p,q,e2,rfl,hp,hq,rfl⟩:=y;rw[hx]at e2;cases e2;have hmem:=ay hx;have sq:Same H1 (upd H1 q (.tup [.ref p,u])):=same_upd hq;refine⟨sq,some (.ref p)::some u::rest,rfl,λj v hv=> ?_,λR h=>⟨q,[.ref p,u],rfl,.inl (.inl aR),rfl,.ref p,[u],rfl,u,[],rfl,rfl,h⟩,λR h=>ht _ _ p hmem (s1.trans sq) (sq _ _ hp) R h,λhc H2 s2 R h=>he _ H2 p hmem hc ((s1.trans sq).trans s2) (s2 _ _ (sq _ _ hp)) R h⟩
 match j,hv with
 | 0,hv=>cases hv
 | 1,hv=>cases hv
 | j+2,hv=>exact hv
section
variable {bk:St->Hp->Prop}
theorem YX(kvs:List (Key×V))(Pv:Nat->St->Hp->Prop)(h0:Pv 0 σ H)(hl:∀i σ H,Pv i σ H->H p=some (.frz o (.dK kvs)))
  (hs:∀i k v σ H,kvs[i]? =some (k,v)->Pv i σ H->g (kV k) σ H λσ2 H2=>tb ⟨Pv (i+1),rt,nx,Pv (i+1)⟩ σ2 H2)(hd:∀σ H,Pv kvs.length σ H->nx σ H):MP (Itk p o kvs) g tb ⟨nx,rt,bk,ct⟩ σ H:=by
 refine⟨λi m σ H=>m=kvs.length - i/\i<=kvs.length/\Pv i σ H,⟨kvs.length,by simp,et _,h0⟩,?_⟩;rintro i m σ H ⟨rfl,hi,q⟩
 by_cases hlt:i<kvs.length
 .refine .inr ⟨⟨hl i σ H q,hlt⟩,Pv (i+1),λσ' H' p'=>⟨kvs.length - (i+1),by lia,rfl,hlt,p'⟩,λx H' y=> ?_⟩;obtain⟨rfl,k,v,e,rfl⟩:=y;exact hs i k v σ _ e q
 .have e:i=kvs.length:=by lia
  subst e;exact .inl ⟨⟨hl _ σ H q,aq _⟩,hd σ H q⟩
end
def VH(R:It->Hp->Prop):VK:=λx H1=>∃a kvs,x= .ref a/\H1 a=some (.dK kvs)/\∀o,R (Itk a o kvs) (upd H1 a (.frz o (.dK kvs)))
def RN(R:It->Hp->Prop):VK:=λx H1=>∃a kvs,x= .ref a/\H1 a=some (.dT kvs)/\∀o,R (Itj a o kvs) (upd H1 a (.frz o (.dT kvs)))
def aAq(Q:VK)(y:V):VK:=λx H2=>∃a o,x= .ref a/\DGet H2 a y o/\Q (.bl o.isSome) H2
def GD(Q:VK)(y:V):VK:=λx H2=>∃a o,x= .ref a/\DGet H2 a y o/\Q (.bl (!o.isSome)) H2
def XH(σ:St)(ty tx:TE)(Q:VK):VK:=λx H1=>∃a,x= .ref a/\IsD H1 a/\ty σ H1 λy H2=>tx σ H2 λz H3=>∃o,DGet H3 a y o/\Q (o.getD z) H3
def aEq(a:Addr)(Q:VK)(y:V):VK:=λz H3=>∃o,DGet H3 a y o/\Q (o.getD z) H3
section
variable {R:It->Hp->Prop}{ty:TE}
theorem UV(h:td σ H (VH R)):X5 td σ H R:=h
theorem SY(h:td σ H (RN R)):RK td σ H R:=h
theorem NL(e:H p=some (.dK kvs))(h:∀o H',SameBut p H H'->H' p=some (.frz o (.dK kvs))->R (Itk p o kvs) H'):VH R (.ref p) H:=⟨p,kvs,rfl,e,λo=>h o _ SameBut.upd aR⟩
theorem z7{kvs:List (List Key×V)}(e:H p=some (.dT kvs))(h:∀o H',SameBut p H H'->H' p=some (.frz o (.dT kvs))->R (Itj p o kvs) H'):RN R (.ref p) H:=⟨p,kvs,rfl,e,λo=>h o _ SameBut.upd aR⟩
theorem aEt(h:ty σ H λy H1=>td σ H1 (aAq Q y)):aFi ty td σ H Q:=h
theorem XV(h:ty σ H λy H1=>td σ H1 (GD Q y)):RF ty td σ H Q:=h
theorem Q7(e:Rd H p (.dK kvs))(h:Q (.bl (aW kvs (.inr z)).isSome) H):aAq Q (.str z) (.ref p) H:=⟨p,_,rfl,.inl ⟨kvs,.inr z,e,rfl,rfl⟩,h⟩
theorem wY(e:Rd H p (.dK kvs))(h:Q (.bl (!(aW kvs (.inr z)).isSome)) H):GD Q (.str z) (.ref p) H:=⟨p,_,rfl,.inl ⟨kvs,.inr z,e,rfl,rfl⟩,h⟩
theorem nZ(e:H p=some (.dK kvs))(hl:kvs.length<sizeLine)(h:∀H',SameBut p H H'->H' p=some (.dK (cB kvs (.inr z) v))->nx σ H'):K4 nx σ (.ref p) v (.str z) H :=
 ⟨p,_,rfl,DPut.k (k:= .inr z) e hl,h _ SameBut.upd aR⟩
theorem d9(e:Rd H p (.dK kvs))(hv:aW kvs (.inr z)=some v)(h:Q v H):KY Q (.ref p) (.str z) H:=⟨p,v,rfl,.inl ⟨kvs,.inr z,e,rfl,hv.symm⟩,h⟩
theorem aAe(h:∀p H',H p=none->Same H H'->H' p=some (.dK [])->Q (.ref p) H'):VF σ H Q:=fA h
theorem ZN(h:td σ H (XH σ ty tx Q)):UN td ty tx σ H Q:=h
theorem U0{kvs:List (List Key×V)}(e:H p=some (.dT kvs))(h:ty σ H λy H2=>tx σ H2 (aEq p Q y)):XH σ ty tx Q (.ref p) H:=⟨p,rfl,.inr ⟨kvs,.inl e⟩,h⟩
theorem YF{b:Addr}{z:V}{kvs:List (List Key×V)}(k:List Key)(e:H p=some (.dT kvs))(eb:H b=some (.tup (k.map kV)))(h:Q ((aW kvs k).getD z) H):aEq p Q (.ref b) z H:=⟨_,DGet.t e eb,h⟩
theorem aAy{ps:List (Key×V)}(e:H p=some (.lst vs))(r:K3 H vs ps)(h:∀l H',H l=none->Same H H'->H' l=some (.dK (lY [] ps))->Q (.ref l) H'):VT [.ref p] H Q:=⟨p,vs,ps,rfl,.inl e,r,fA h⟩
theorem MD{ss:List Str}(e:SqL K H p (ss.map V.str))(h64:ss.length<64)(h:∀l H',H l=none->Same H H'->H' l=some (.lst ((eX ss).map V.str))->Q (.ref l) H'):U4 K [.ref p] H Q:=⟨p,ss,rfl,e,h64,fA h⟩
theorem LA{rs:List (List Key)}(e:SqL K H p vs)(kr:KRows H vs rs)(hl:vs.length<64)(hs:∀r∈rs,r.map fL=sh)(hn:sh≠[])(h:∀l ws H',H l=none->Same H H'->H' l=some (.lst ws)->KRows H' ws (lV rs)->Q (.ref l) H'):QH K [.ref p] H Q :=
 ⟨p,vs,rs,sh,rfl,e,kr,hl,hs,hn,fA λl H' n S e=>h l _ H' n S e ((SQ kr).same S)⟩
theorem DX{u:HO}(e:H p=some u)(nf:∀o x,u≠ .frz o x)(h:te σ H λx=>iY p (Q x)):aBv te σ H Q:=⟨p,λo x z=>nf o x (by rw[e]at z;exact dg z),h⟩
theorem ZF{ts:TS}{bk:St->Hp->Prop}{u:HO}(e:H p=some u)(nf:∀o x,u≠ .frz o x)(h:ts ⟨λσ'=>iY p (nx σ'),λv=>iY p (rt v),λσ'=>iY p (bk σ'),λσ'=>iY p (ct σ')⟩ σ H):aBc ts ⟨nx,rt,bk,ct⟩ σ H :=
 ⟨p,λo x z=>nf o x (by rw[e]at z;exact dg z),h⟩
theorem uB{u:HO}{R:Hp->Prop}(e:H p=some (.frz o u))(h:∀H',SameBut p H H'->H' p=some u->R H'):iY p R H:=⟨o,u,e,h _ SameBut.upd aR⟩
theorem XM{Hf:Hp}{u:HO}(e:H p=some u)(a:SameBut p H Hf)(b:SameBut p Hf H1)(c:SameBut p H1 H2)(e2:H2 p=some u):Same H H2:=λx o z=>by
 by_cases hx:x=p
 .subst hx;rw[e]at z;cases z;exact e2
 .exact c x o (b x o (a x o z hx) hx) hx
end
theorem rE{f:Str}(he:PE X e ta)(hb:jz e f X.env (eval e X.env)=eval e X.env)(hK:X.K=K:=by rfl):PE X (.Attribute e f pos) (aAa K ta f):=by
 subst hK;exact aH he hb
theorem R1(hK:X.K=K:=by rfl):OpR X (gg .In) (rIn K false):=by
 subst hK;exact VG
theorem iF{xs:List α}(F:V->α->Prop)(c:α->Bool)(P:α->V->Hp->Prop)(hm:∀x y H1 H2,P x y H1->Same H1 H2->P x y H2)(hn:xs.length<=sizeLine)(hr:ci.map (λi=>(σ[i]?).join)=rest)(hl:SqL K H a vs)(hv:bu F vs xs)
  (ht:∀v x H1,F v x->x∈xs->Same H H1->∀R:Bool->Hp->Prop,(∀H2,Same H1 H2->R (c x) H2)->ti (some v::rest) H1 R)
  (he:∀v x H1,F v x->x∈xs->c x=true->Same H H1->∀R:VK,(∀y H2,P x y H2->Same H1 H2->R y H2)->te (some v::rest) H1 R)
  (hf:∀ys H1,Same H H1->bu (λx y=>P x y H1) (xs.filter c) ys->fin ys H1):dX (Itl K a) (cF 0) ti te (cD 1 ci σ) fin H:=by
 rw[AC hr];have hlen:vs.length=xs.length:=bx hv;refine nG xs c P hm hn (λi H1 s hi=>⟨vs,vs[i],s.seq hl,ah (by lia)⟩) (λH1 s=>⟨vs,s.seq hl,by lia⟩) (λi x H1 hx s1 v H' y=> ?_) hf;obtain⟨rfl,e2⟩:=y;have ev:=e2 vs (s1.seq hl);have hF:=Paired.at2 hv ev hx;have hmem:=ay hx;refine⟨Same.refl _,some v::rest,rfl,λj v hv=> ?_,λR h=>h,λR h=>ht v x _ hF hmem s1 R h,λhc H2 s2 R h=>he v x H2 hF hmem hc (s1.trans s2) R h⟩;cases j with
 | zero=>cases hv
 | succ j=>exact hv
theorem lJ{f:α->V}:∀{l:List α}{ys:List V},bu (λx y=>y=f x) l ys->ys=l.map f
 | _,_,.nil=>rfl
 | _,_,.cons h t=>by rw[h,lJ t];rfl
theorem dM(l:List α):l.filter (λ_=>true)=l:=by simp
theorem aEU{ss:List Str}(e:SqL K H p (ss.map V.str))(h:Q (.bl (decide (z∈ss))) H):rIn K false (.str z) (.ref p) H Q:=by
 refine⟨p,_,rfl,.inl e,rfl,?_,?_⟩
 .rw[jk];intro x hx;obtain⟨y,_,rfl⟩:=ag.mp hx;rfl
 .have e2:inV (.str z) (ss.map V.str)=decide (z∈ss):=by
   rw[kz,decide_eq_true_eq];unfold inV;rw[wc]
   constructor
   .rintro ⟨x,hx,h⟩;obtain⟨y,hy,rfl⟩:=ag.mp hx;have:y=z:=by simpa [eqV] using h
    rw[←this];exact hy
   .intro h;exact⟨.str z,ag.mpr ⟨z,h,rfl⟩,by simp[eqV]⟩
  show Q (.bl (inV (.str z) (ss.map V.str))) H;rw[e2];exact h
abbrev bQ:=Int×Str×Int
def bV(t:Int)(n:Str):List Key:=[.inl t,.inr n]
def fP(r:bQ):List Key:=[.inl r.1,.inr r.2.1,.inl r.2.2]
def KZ:V->Int
 | .int i=>i
 | _=>0
def NY(kvs:List (List Key×V))(r:bQ):List (List Key×V):=cB kvs (bV r.1 r.2.1) (.int (KZ ((aW kvs (bV r.1 r.2.1)).getD (.int 0))+r.2.2))
def jJ(rows:List bQ):List (List Key×V):=rows.foldl NY []
theorem o7(rows:List bQ)(r:bQ):jJ (rows++[r])=NY (jJ rows) r:=by unfold jJ;rw[va];rfl
def qR(rows:List bQ)(t:Int)(n:Str):Int:=((rows.filter λr=>decide (r.1=t)&&decide (r.2.1=n)).map (·.2.2)).sum
theorem R5(rows:List bQ)(r:bQ)(t:Int)(n:Str):qR (rows++[r]) t n=qR rows t n+if r.1=t/\r.2.1=n then r.2.2 else 0:=by
 unfold qR;rw[fh,aw,iu]
 congr 1
 by_cases h:r.1=t/\r.2.1=n
 .rw[if_pos h,da (by simp[h])];simp
 .rw[if_neg h,cx (by simpa using h)];simp
theorem gU{t t':Int}{n n':Str}(h:bV t n=bV t' n'):t=t'/\n=n':=by
 unfold bV at h;injection h with h1 h2;injection h2 with h2;exact⟨md h1,ir h2⟩
theorem BB{P:List α->Prop}(h0:P [])(hs:∀l a,P l->P (l++[a]))(l:List α):P l:=by
 have:∀m:List α,P m.reverse:=λm=>by
  induction m with
  | nil=>exact h0
  | cons a m ih=>rw[vb];exact hs _ _ ih
 rw[←List.reverse_reverse l];exact this _
theorem LU(t:Int)(n:Str)(rows:List bQ):KZ ((aW (jJ rows) (bV t n)).getD (.int 0))=qR rows t n:=by
 induction rows using BB with
 | h0=>rfl
 | hs l r ih =>
  rw[o7,R5];unfold NY;rw[xS]
  by_cases e:bV t n=bV r.1 r.2.1
  .obtain⟨rfl,rfl⟩:=gU e;rw[if_pos rfl,if_pos ⟨rfl,rfl⟩,←ih];rfl
  .rw[if_neg e,if_neg (λh=>e (by rw[h.1,h.2])),ih];lia
theorem X1 [DecidableEq κ]{kvs:List (κ×V)}{k:κ}(nd:(kvs.map (·.1)).Nodup):((cB kvs k v).map (·.1)).Nodup:=by
 unfold cB
 split
 .have e:(kvs.map λkv=>if kv.1=k then (kv.1,v) else kv).map (·.1)=kvs.map (·.1):=by
   rw[bw]
   apply dw
   intro x _;show (if x.1=k then (x.1,v) else x).1=x.1
   split<;>rfl
  rw[e];exact nd
 .rename_i h;rw[aw];refine nd_snoc nd λhk=>h ?_;obtain⟨x,hx,e⟩:=ag.mp hk;rw[wc];exact⟨x,hx,decide_eq_true e⟩
theorem eZ [DecidableEq κ]:∀{kvs:List (κ×V)}{e:κ×V},(kvs.map (·.1)).Nodup->e∈kvs->aW kvs e.1=some e.2
 | a::l,e,nd,h=>by
  have nd':=jq.mp nd;rcases az.mp h with rfl|h
  .exact dO rfl
  .rw[dJ (nd'.1 e.1 (ag.mpr ⟨e,h,rfl⟩))];exact eZ nd'.2 h
theorem tZ [DecidableEq κ]{kvs:List (κ×V)}{k:κ}(h:aW kvs k=some v):(k,v)∈kvs:=by
 unfold aW at h;obtain⟨x,hx,e⟩:=cj.mp h;have h1:=xf hx;have h2:=ju hx;have h3:x.1=k:=of_decide_eq_true h1;rw[←h3,←e];exact h2
def aGR(kvs:List (List Key×V)):Prop:=(kvs.map (·.1)).Nodup/\∀e∈kvs,∃t n i,e=(bV t n,.int i)
theorem lF(rows:List bQ):aGR (jJ rows):=by
 induction rows using BB with
 | h0=>exact⟨oy,λe h=>nomatch h⟩
 | hs l r ih =>
  rw[o7];refine⟨X1 ih.1,λe he=> ?_⟩;rcases Z4 he with h|⟨h1,h2⟩
  .exact ih.2 e h
  .exact⟨_,_,_,Prod.ext h1 h2⟩
theorem aAs(rows:List bQ)(t:Int)(n:Str):∃i,(aW (jJ rows) (bV t n)).getD (.int 0)= .int i:=by
 cases h:aW (jJ rows) (bV t n) with
 | none=>exact⟨0,rfl⟩
 | some v =>
  obtain⟨t',n',i,e⟩:=(lF rows).2 _ (tZ h);cases e;exact⟨i,rfl⟩
theorem DL(rows:List bQ):(jJ rows).length<=rows.length:=by
 induction rows using BB with
 | h0=>exact aq _
 | hs l r ih =>
  rw[o7,ao];exact dy (kC _ _ _) (by simp;lia)
def aAD(e:List Key×V):Bool:=decide (0<KZ e.2)
def TL(e:List Key×V):List Key:=e.1++[.inl (KZ e.2)]
def fE(rows:List bQ):List (List Key):=((jJ rows).filter aAD).map TL
theorem mem_told{rows:List bQ}{k:List Key}:k∈fE rows↔∃t n,k=fP (t,n,qR rows t n)/\0<qR rows t n:=by
 unfold fE
 constructor
 .intro h;obtain⟨e,he,rfl⟩:=ag.mp h;obtain⟨h1,h2⟩:=cg.mp he;obtain⟨t,n,i,rfl⟩:=(lF rows).2 e h1;have hv:=eZ (lF rows).1 h1;have ht:=LU t n rows;rw[hv]at ht;have ht':i=qR rows t n:=ht;refine⟨t,n,?_,?_⟩
  .rw[←ht'];rfl
  .rw[←ht'];exact of_decide_eq_true h2
 .rintro ⟨t,n,rfl,h⟩;have ht:=LU t n rows;cases hv:aW (jJ rows) (bV t n) with
  | none =>
   rw[hv]at ht;have:(0:Int)=qR rows t n:=ht
   lia
  | some v =>
   have hm:=tZ hv;obtain⟨t',n',i,e⟩:=(lF rows).2 _ hm;obtain⟨e1,e2⟩:=Prod.mk.inj e;subst e2;rw[hv]at ht;have ht':i=qR rows t n:=ht;refine ag.mpr ⟨(bV t n,.int i),cg.mpr ⟨hm,?_⟩,?_⟩
   .show decide (0<i)=true;rw[ht'];exact decide_eq_true h
   .rw[ht'];rfl
theorem T7(rows:List bQ):∀r∈fE rows,r.map fL=[true,false,true]:=λr hr=>by
 obtain⟨t,n,rfl,_⟩:=mem_told.mp hr;rfl
theorem YR{a b:bQ}(h:fP a=fP b):a=b:=by
 unfold fP at h;injection h with h1 h2;injection h2 with h2 h3;injection h3 with h3;exact Prod.ext (md h1) (Prod.ext (ir h2) (md h3))
theorem aDz:ua (.type "dict") "__len__" =pure (some (.builtin "dict.__len__")):=by rw[xc,qc];kernel_rfl
section
variable {d:Addr}[DecidableEq κ]{knd:KeyKind prog w κ}{ps:List (κ×ak)}
theorem U1(T:s.TypeIs (.ref d) "dict"){Q:Bool->ba->Prop}(h:Q false s):cb (ck prog w) A (sk (.ref d)) Q E s:=by
 unfold sk;refine af (wz T aDz ?_);generalize q:("dict.__len__" :String)=i0
 wp_delta
 rw[show splitId i0=some ("dict","__len__") from by subst q;decide +kernel];subst q;refine af (kh (T:= "dict") (b:=true) T (by rw[isSubtype_type];kernel_rfl) (xg (λz=>absurd z (by decide)) (λ_=>xg (λ_=> ?_) (λz=>absurd (by decide +kernel) z))));exact af (sf T (ax h))
theorem O7(hh:A.handled=none)(hm:s.heap.DictAt knd d ps ep)(hd0:(d==ij)=false)(S:Addr)(hSd:S≠d)(c0:Nat)(hS:s.heap.get? S=some { cls:= .type "list",data:= .seq #[] c0 })(hn:ps.length<=sizeLine)
  (k:∀h' tk acc c,(∀b o,b≠S->s.heap.get? b=some o->h'.get? b=some o)->h'.get? S=some { cls:= .type "list",dict:=none,data:= .seq acc c,slots:= #[] }->ItemsOf (λi v=>∃k x,ps[i]? =some (k,x)/\knd.is k v=true) acc ps.length->R (.ok (.ret .none)) { s with heap:=h',toks:=tk }) :
  cb (ck prog w) A.in1 (jj (.ref S) (.ref d) .none) (λfin s'=>match fin with| .done f=>R (.ok f) s'| .again c'=>c'.quiet=true/\mr (ck prog w) A c' R s') (λe s'=>R (.error e) s') s:=by
 obtain⟨o,es,ho,hc,hq,hk,hp,hnd⟩:=id hm;have T:s.TypeIs (.ref d) "dict" :=⟨o,ho,hc.1⟩
 have lS:S<s.heap.objs.size:=bc hS;have ld:d<s.heap.objs.size:=bc ho;have hsz:es.size=ps.length:=by rw[←hp.length];simp
 have W:=(Walks.dictKeys (prog:=prog) (w:=w) (knd:=knd) (A:=A.in1) hh s.heap.objs.size d (cf ld) ps ep).toS;have run:∀(h:Heap) (c1 tk:Nat),h.IsKeyIter s.heap.objs.size d 0 ps.length ep->(∀b u,b≠S->s.heap.get? b=some u->h.get? b=some u)->h.get? S=some { cls:= .type "list",data:= .seq #[] c1 } →
   mr (ck prog w) A (.builtin "list.extend.loop" ⟨[.ref S,.ref s.heap.objs.size,.none],[]⟩) R { s with heap:=h,toks:=tk }:=by
  intro h c1 tk hit kp hS1;refine codeAny_extend_loopS W hn S (by simp only[az,gi,or_false,not_or];exact⟨cf lS,hSd⟩) .none ps.length 0 _ #[] c1 rfl (et _) ⟨hit,o,es,kp d o (fb hSd) ho,hc,hq,hk,hp,hnd⟩ hS1 (ItemsOf.nil _) λs' acc c' mv hS2 hacc=> ?_;rw[Moved.eq_with mv];refine k s'.heap s'.toks acc c' (λb u hb e=>mv.heap b u (λz=> ?_) (kp b u hb e)) hS2 hacc;rcases az.mp z with z|z
  .exact hb z
  .have:=bc e;rw[bz.mp z]at this;exact ee _ this
 unfold jj;refine af (sf (T:= "dict") T ?_);simp only[show vn (.ref S) (.ref d)=false by simp[vn,hSd],show (oe "dict" ==oe "list")=false by decide,show (oe "dict" ==oe "tuple")=false by decide,ql,gb,if_false];refine af (L4 hd0 ho hc hq ?_);have hS1:=aj { cls:= .type "dict_keyiterator",data:= .fields #[.ref d,.int 0 0,.int es.size 0,.int ep 0] } hS;refine af (ie (U1 ⟨o,aj _ ho,hc.1⟩ ?_));have hit:(s.heap.push { cls:= .type "dict_keyiterator",data:= .fields #[.ref d,.int 0 0,.int es.size 0,.int ep 0] }).IsKeyIter s.heap.objs.size d 0 ps.length ep:=⟨_,be _ rfl,rfl,by rw[hsz];rfl⟩
 refine xg (λz=> ?_) (λ_=>ax ⟨vm F.plain_extend_loop _,run _ c0 _ hit (λb u _ e=>aj _ e) hS1⟩);refine af (wpAny_rule (af ?_));show cb _ A.in1 (updateSeq S (·.push .none) >>= λ_=>updateSeq S (·.pop)) _ _ _;have u1:=iw (ix (·.push fu)) hS1 rfl;have u2:=iw (ix (·.pop)) u1 rfl;refine af (xh hS1 rfl (xh (hz:=by seq_fits) u1 rfl (ax ⟨vm F.plain_extend_loop _,run _ _ _ ?_ (λb u hb e=> ?_) u2⟩)))
 .exact hit.at λu e=>(gm _ _ (cf lS)).trans ((gm _ _ (cf lS)).trans e)
 .exact(gm _ _ (fb hb)).trans ((gm _ _ (fb hb)).trans (aj _ e))
theorem WE{Q:ak->ba->Prop}(hh:A.handled=none)(hm:s.heap.DictAt knd d ps ep)(hd0:(d==ij)=false)(hn:ps.length<=sizeLine)
  (k:∀h' tk acc c,(∀b o,s.heap.get? b=some o->h'.get? b=some o)->h'.get? s.heap.objs.size=some { cls:= .type "list",dict:=none,data:= .seq acc c,slots:= #[] }->ItemsOf (λi v=>∃k x,ps[i]? =some (k,x)/\knd.is k v=true) acc ps.length->Q (.ref s.heap.objs.size) { s with heap:=h',toks:=tk }) :
  cb (ck prog w) A (call (.type "list") [.ref d]) Q E s:=by
 refine callType_codes (Q₁:=λx s1=>x= .ref s.heap.objs.size/\s1={ s with heap:=s.heap.push { cls:= .type "list",data:= .seq #[] } }) F.called_list (F.typeCall_list_1 _) F.entry_list_init (code_list_new _ ⟨rfl,rfl⟩) ?_;rintro x s1 ⟨rfl,rfl⟩;have hS:(s.heap.push { cls:= .type "list",data:= .seq #[] }).get? s.heap.objs.size=some { cls:= .type "list",data:= .seq #[] }:=be _ rfl;have hm1:(s.heap.push { cls:= .type "list",data:= .seq #[] }).DictAt knd d ps ep:=hm.at' λo e=>aj _ e;have hdS:s.heap.objs.size≠d:=λz=>by
  obtain⟨o,_,ho,_⟩:=hm;have:=bc ho;rw[←z]at this;exact ee _ this
 refine⟨⟨_,hS,rfl⟩,F.args_list_init_2 _ _,?_⟩;show cb _ A.in1.in1 (wu (.ref s.heap.objs.size) >>= λold=>wa (.ref s.heap.objs.size) (λ_=> #[]) >>= λ_=>letGo old.toList.reverse >>= λ_=>jj (.ref s.heap.objs.size) (.ref d) .none) _ _ _;refine af ?_;unfold wu;refine af (wpAny_seqItems hS rfl (ax ?_));show cb _ A.in1.in1 (updateSeq s.heap.objs.size (λ_=> #[]) >>= λ_=>letGo (#[]:Array ak).toList.reverse >>= λ_=>jj (.ref s.heap.objs.size) (.ref d) .none) _ _ _;have u1:=iw (ix (λ_=>(#[]:Array ak))) hS rfl;have kp:∀b o,b≠s.heap.objs.size->(s.heap.push { cls:= .type "list",data:= .seq #[] }).get? b=some o->((s.heap.push { cls:= .type "list",data:= .seq #[] }).update s.heap.objs.size (ix (λ_=>(#[]:Array ak)))).get? b=some o:=λb o hb e=>(gm _ _ (fb hb)).trans e;refine af (xh hS rfl (af (wpAny_letGo ?_)));refine O7 (A:=A.in1) hh (hm1.at' λo e=>kp d o (fb hdS) e) hd0 _ hdS _ u1 hn λh' tk acc c kk hS' hacc=> ?_;exact⟨rfl,k h' tk acc c (λb o e=>kk b o (cf (bc e)) (kp b o (cf (bc e)) (aj _ e))) hS' hacc⟩
end
def U5:List V->Hp->VK->Prop:=λxs H Q=>∃p kvs,xs=[.ref p]/\Rd H p (.dK kvs)/\∀l,H l=none->Q (.ref l) (upd H l (.lst (kvs.map λe=>kV e.1)))
theorem KA{rs:List (Key×ak)}(r:KV kvs rs){acc:Array ak}(h:ItemsOf (λi v=>∃k x,rs[i]? =some (k,x)/\(b9 P w).is k v=true) acc rs.length):Vals (kvs.map λe=>kV e.1) acc.toList:=by
 have e0:acc.toList.length=rs.length:=by rw[gf];exact h.1
 refine LO (by rw[ae,e0];exact r.length) λi x u h1 h2=> ?_;obtain⟨k,y,e1,e2⟩:=h.2 i u (by simpa using h2);rw[bq]at h1;obtain⟨e,he,rfl⟩:=cj.mp h1;have hi:i<kvs.length:=(av.mp he).1;obtain⟨k',v',u',f1,f2,f3⟩:=MV r hi;rw[he]at f1;cases f1;rw[e1]at f2;cases f2;exact QI e2
theorem EJ(hc:X.calm=true):dZ X (.type "list") U5:=by
 intro pins s σ H xs us Q I r h;obtain⟨p,kvs,rfl,hq,q⟩:=h;obtain⟨u,rfl,rx⟩:=l6 r;cases rx;obtain⟨z,y,rs,kv,o,es,ep,h1,h2,h3,h4,h5,h6⟩:=oT I.hok hq;have hl:=kv.length;refine WE (knd:=b9 X.prog X.w) (ps:=rs) (ep:=ep) (I.ok.hd hc) ⟨o,es,h1,h2,h3,h4,h5,h6⟩ y (by lia) λh' tk acc c kp hS hacc=> ?_;exact⟨.ref _,_,I.laid (t':=tk) kp (aq _) (show ObjOk X.prog X.w _ h' _ (.lst (kvs.map λe=>kV e.1)) from⟨by rw[ae];exact z,acc.toList,c,KA kv hacc,by rw[Array.toArray_toList];exact hS⟩),rfl,q _ (I.hok.fresh (aq _))⟩
def A4(v d:Addr):HO:= .ext λh=>h.IsValuesView v d
def T0(Q:VK):VK:=λx H1=>∃a kvs,x= .ref a/\Rd H1 a (.dK kvs)/\∀v,H1 v=none->Q (.ref v) (upd H1 v (A4 v a))
def aA8(td:TE):TE:=λσ H Q=>td σ H (T0 Q)
theorem SU{l:Expr}(hl:PE X l td)(hbase:jz l "values" X.env (eval l X.env)=eval l X.env:=by rfl)(hline:(apos.endLine==cpos.line)=true:=by rfl):
  PE X (.Call (.Attribute l "values" apos) [] [] cpos) (aA8 td):=by
 intro pins s σ H Q I h;refine ot hbase hline (thn (hl pins s σ H _ I h) ?_);rintro v s1 ⟨x,H1,I1,r1,q1⟩;obtain⟨a,kvs,rfl,hq,q⟩:=q1;cases r1;obtain⟨t1,t2,_⟩:=L3 I1 (.inl ⟨kvs,hq⟩);refine⟨"dict","dict.values",F.plainAttrs_dict,F.slot_dict_values,F.type_dict_values,t1,t2,ji rfl (rp ?_)⟩;obtain⟨z,y,vs,r,o,es,ep,h1,h2,h3,h4,h5,h6⟩:=oT I1.hok hq;refine call_meetsIn F.slot_dict_values t1 F.entry_dict_values (F.args_dict_values_1 _) (meets_dict_values (b9 X.prog X.w) a y) ⟨⟨vs,o,es,ep,h1,h2,h3,h4,h5,h6⟩,?_⟩;have hv:(s1.heap.push { cls:= .type "dict_values",data:= .fields #[.ref a] }).IsValuesView s1.heap.objs.size a:=⟨_,be _ rfl,rfl,rfl⟩
 refine⟨.ref s1.heap.objs.size,_,I1.laid (t':=s1.toks) (λb u e=>aj _ e) (aq _) (show ObjOk X.prog X.w _ _ _ (A4 s1.heap.objs.size a) from⟨hv,⟨_,be _ rfl⟩,λg1 g2 p k=> ?_⟩),rfl,q _ (I1.hok.fresh (aq _))⟩;obtain⟨o,e,c⟩:=p;exact⟨o,k o e,c⟩
theorem OG(ns:List Int):∀j,j<=ns.length->preSum (λi=>ns.getD i 0) j=(ns.take j).sum
 | 0,_=>by simp[preSum]
 | j+1,h=>by
  rw[preSum,OG ns j (by lia),pj,ah (by lia),iu];rw[au,ah (by lia)];simp
theorem aBP(ns:List Int):preSum (λi=>ns.getD i 0) ns.length=ns.sum:=by rw[OG ns _ (aq _),cp]
def aAX:List V->Hp->VK->Prop:=λxs H Q=>∃(v d:Addr) (kvs:List (Key×V)) (ns:List Int),xs=[.ref v]/\H v=some (A4 v d)/\Rd H d (.dK kvs)/\kvs.map (·.2)=ns.map V.int/\Q (.int ns.sum) H
theorem U3(hc:X.calm=true):dZ X (.builtin "sum") aAX:=by
 intro pins s σ H xs us Q I r h;obtain⟨v,d,kvs,ns,rfl,hv,hq,hns,q⟩:=h;obtain⟨u,rfl,rx⟩:=l6 r;cases rx;obtain⟨hview,_,_⟩:=(show ObjOk X.prog X.w H s.heap v (A4 v d) from I.hok v _ hv)
 have hview:s.heap.IsValuesView v d:=hview;obtain⟨z,y,rs,kv,o,es,ep,h1,h2,h3,h4,h5,h6⟩:=oT I.hok hq;have hl:=kv.length;have hln:kvs.length=ns.length:=by have:=congrArg oq hns;rwa [ae,ae]at this
 have ld:d<s.heap.objs.size:=bc h1;have hm:s.heap.DictAt (b9 X.prog X.w) d rs ep:=⟨o,es,h1,h2,h3,h4,h5,h6⟩
 refine call_sum_walkG (wpAny_pyIter_values hview hm ?_);refine⟨s.heap.objs.size,_,_,rs.length,_,_,λi=>ns.getD i 0,rfl,Walks.dictValues (knd:=b9 X.prog X.w) (show X.A.in1.handled=none from I.ok.hd hc) s.heap.objs.size d (cf ld) rs ep,⟨⟨_,be _ rfl,rfl,rfl⟩,hm.at' λo e=>aj _ e⟩,?_,?_,?_⟩
 .intro b hb;simp only[az,gi,or_false]at hb;have hsz:(s.heap.push { cls:= .type "dict_valueiterator",data:= .fields #[.ref d,.int 0 0,.int rs.length 0,.int ep 0] }).objs.size=s.heap.objs.size+1:=by simp[Heap.push]
  rcases hb with rfl|rfl
  .show s.heap.objs.size<_;rw[hsz];exact mw _
  .show b<_;rw[hsz];exact ur ld
 .rintro i u ⟨kk,hk⟩;have hi:i<kvs.length:=by rw[hl];exact(av.mp hk).1
  obtain⟨k',v',u',f1,f2,f3⟩:=MV kv hi;rw[hk]at f2;cases f2;have e1:(kvs.map (·.2))[i]? =some v':=by rw[bq,f1];rfl
  rw[hns,bq]at e1;obtain⟨n,hn,rfl⟩:=cj.mp e1;obtain⟨t,rfl⟩:=f3;refine⟨t,?_⟩;show mn n t=mn (ns.getD i 0) t;rw[au,hn];rfl
 .intro h' tk t' hk;have e2:preSum (λi=>ns.getD i 0) rs.length=ns.sum:=by
   rw[←hl,hln];exact aBP ns
  rw[e2];have I1:Inv X pins σ H { s with heap:=s.heap.push { cls:= .type "dict_valueiterator",data:= .fields #[.ref d,.int 0 0,.int rs.length 0,.int ep 0] },toks:=s.toks }:=I.kept λb u e=>aj _ e;obtain⟨f0,f1,f2,f3,f4,f5⟩:=I.fpOk (aq _) (I.hok.fresh (aq _));exact⟨.int ns.sum,H,I1.turned (λb o hb e=>hk b o (by simpa using hb) e) f0 f1 f3 f4 f5,⟨t',rfl⟩,q⟩
def aD4(σ:St)(tv:TE)(rd:V->V->Hp->VK->Prop)(nx:St->Hp->Prop)(x:V):VK:=λy H2=>∃a v,x= .ref a/\DGet H2 a y (some v)/\tv σ H2 λy2 H3=>rd v y2 H3 λz H4=>∃H5,DPut H4 a y z H5/\nx σ H5
def aEl(σ:St)(p:Addr)(k:V)(nx:St->Hp->Prop):VK:=λz H4=>∃H5,DPut H4 p k z H5/\nx σ H5
section
variable {ty:TE}{bk:St->Hp->Prop}{R:It->Hp->Prop}
theorem aDr(h:td σ H λx H1=>ty σ H1 (aD4 σ tv rd nx x)):aBp td ty tv rd ⟨nx,rt,bk,ct⟩ σ H:=h
theorem aAb(e:Rd H p (.dK kvs))(hv:aW kvs (.inr z)=some v)(h:tv σ H λy2 H3=>rd v y2 H3 (aEl σ p (.str z) nx)):aD4 σ tv rd nx (.ref p) (.str z) H:=⟨p,v,rfl,.inl ⟨kvs,.inr z,e,rfl,hv.symm⟩,h⟩
theorem BK(e:H p=some (.dK kvs))(hl:kvs.length<sizeLine)(h:∀H',SameBut p H H'->H' p=some (.dK (cB kvs (.inr z) v))->nx σ H'):aEl σ p (.str z) nx v H:=⟨_,DPut.k (k:= .inr z) e hl,h _ SameBut.upd aR⟩
theorem MK(e:Rd H p (.dK kvs))(h:∀l H',H l=none->Same H H'->H' l=some (.lst (kvs.map λe=>kV e.1))->Q (.ref l) H'):U5 [.ref p] H Q:=⟨p,kvs,rfl,e,fA h⟩
theorem IX{l b:Addr}{zs:List V}(e:H l=some (.lst xs))(e2:H b=some (.lst zs))(hz:xs.length+zs.length<=sizeLine)(h:∀H',SameBut l H H'->H' l=some (.lst (xs++zs))->Q .non H'):QE (.ref l) [.ref b] H Q:=⟨l,b,xs,zs,rfl,rfl,e,e2,hz,h _ SameBut.upd aR⟩
theorem aDo(h:td σ H (T0 Q)):aA8 td σ H Q:=h
theorem aAH(e:Rd H a (.dK kvs))(h:∀v H',H v=none->Same H H'->H' v=some (A4 v a)->Q (.ref v) H'):T0 Q (.ref a) H :=
 ⟨a,kvs,rfl,e,λv hv=>h v _ hv (same_upd hv) aR⟩
theorem aDb{v d:Addr}{ns:List Int}(e:H v=some (A4 v d))(e2:Rd H d (.dK kvs))(hn:kvs.map (·.2)=ns.map V.int)(h:Q (.int ns.sum) H):aAX [.ref v] H Q:=⟨v,d,kvs,ns,rfl,e,e2,hn,h⟩
end
def dA(ps:List (Str×Int))(z:Str):Int:=((ps.filter λp=>decide (p.1=z)).map (·.2)).sum
theorem V3(ps:List (Str×Int))(p:Str×Int)(z:Str):dA (ps++[p]) z=dA ps z+if p.1=z then p.2 else 0:=by
 unfold dA;rw[fh,aw,iu]
 congr 1
 by_cases h:p.1=z
 .rw[if_pos h];simp[h]
 .rw[if_neg h];simp[h]
theorem UX(P:Nat->V->Hp->Prop)(hm:∀x y H1 H2,P x y H1->Same H1 H2->P x y H2)(hn:n<=sizeLine)(hr:ci.map (λi=>(σ[i]?).join)=rest)
  (he:∀(i:Nat) H1,i<n->Same H H1->∀R:VK,(∀y H2,P i y H2->Same H1 H2->R y H2)->te (some (.int (lo+i))::rest) H1 R)
  (hf:∀ys H1,Same H H1->bu (λx y=>P x y H1) (el n) ys->fin ys H1):dX (Itr lo n) (cF 0) D8 te (cD 1 ci σ) fin H:=by
 rw[AC hr];refine nG (el n) (λ_=>true) P hm (by rw[fk];exact hn) (λi H1 s hi=>by rw[fk]at hi;exact hi) (λH1 s=>by rw[fk];exact aq _) (λi x H1 hx s1 v H' y=> ?_) (λys H1 s1 h=>hf ys H1 s1 (by rw[dM]at h;exact h));obtain⟨rfl,rfl⟩:=y;obtain⟨hi,e⟩:=av.mp hx;rw[fk]at hi;rw[List.getElem_range]at e;subst e;refine⟨Same.refl _,some (.int (lo+(i:Nat)))::rest,rfl,λj v hv=> ?_,λR h=>h,λR h=>h _ (Same.refl _),λhc H2 s2 R h=>he i H2 hi (s1.trans s2) R h⟩;cases j with
 | zero=>cases hv
 | succ j=>exact hv
section
variable {d v:Addr}{es:Array my}
end
theorem DG(h:X.K=K:=by rfl):IxR X (AL K):=by subst h;exact bF
section
variable {o:Expr}{t:TA}
theorem MT(k:Nat){pl:Sem Bool}(hr:Room k' X.A)(ho:PE X o ta)(ha:PA X (e::es) t)(hk:k<=k':=by decide)(hst:cy (e::es) X.env=(false,eval e X.env)::cy es X.env:=by rfl)(hpl:(jl pos (cy es X.env)).any (·.1)=false:=by rfl)
  (ht:eval (.Call (.Attribute o m apos) (e::es) [] pos) X.env=(do let ov ←eval o X.env;yg apos.atName;let (f,first) ←uk [ov] (qg ov m pl);xv pos f first (jl pos (cy (e::es) X.env)) (ub pos (mh [] X.env))):=by rfl)
  (h1:X.prog=P:=by rfl)(h2:X.w=w:=by rfl)(h3:X.K=K:=by rfl)(h4:X.mg=mg:=by rfl)(h5:X.base=base:=by rfl):PE X (.Call (.Attribute o m apos) (e::es) [] pos) (tMD (λC sp=>Mc P w K mg base C m k sp) m ta t):=by
 subst h1 h2 h3 h4 h5;exact cQ k hr ho ha hk hst hpl ht
theorem aBX(k:Nat){pl:Sem Bool}(hr:Room k' X.A)(ho:PE X o ta)(hk:k<=k':=by decide)
  (ht:eval (.Call (.Attribute o m apos) [] [] pos) X.env=(do let ov ←eval o X.env;yg apos.atName;let (f,first) ←uk [ov] (qg ov m pl);xv pos f first (jl pos (cy [] X.env)) (ub pos (mh [] X.env))):=by rfl)
  (h1:X.prog=P:=by rfl)(h2:X.w=w:=by rfl)(h3:X.K=K:=by rfl)(h4:X.mg=mg:=by rfl)(h5:X.base=base:=by rfl):PE X (.Call (.Attribute o m apos) [] [] pos) (tMD (λC sp=>Mc P w K mg base C m k sp) m ta GJ):=by
 subst h1 h2 h3 h4 h5;exact cA k hr ho hk ht
end
theorem Room.units9{k:Nat}(r:Room k A):A.units+9<om:=by have:=r.un;have:om=9900:=rfl;lia
def DeepEq(K:W.Frag)(H:Hp):Nat->V->V->Prop
 | 0,x,y=>x=y/\A3 x=true
 | n+1,x,y=>(x=y/\A3 x=true)∨(∃a b xs ys,x= .ref a/\y= .ref b/\SqL K H a xs/\SqL K H b ys/\bu (DeepEq K H n) xs ys)∨(∃a b xs ys,x= .ref a/\y= .ref b/\H a=some (.tup xs)/\H b=some (.tup ys)/\bu (DeepEq K H n) xs ys)
theorem IL{x:V}{v:ak}(h:A3 x=true)(ru:RelV x u)(rv:RelV x v):qh A s u v true:=by
 have base:lM x=true->qh A s u v true:=λhx=>by
  have:=V8 (A:=A) (s:=s) ru rv hx hx;rw[Z9 hx]at this;exact this
 cases x<;>first|(cases ru;cases rv;exact rf _)|exact base h
theorem wV{F:V->V->Prop}(hF:∀x y u v,F x y->RelV x u->RelV y v->qh A s u v true):∀{xs ys:List V}{us ws:List ak},bu F xs ys->Vals xs us->Vals ys ws->∀j (h1:j<us.length) (h2:j<ws.length),qh A s us[j] ws[j] true
 | _,_,_,_,.nil,.nil,.nil,j,h1,_=>absurd h1 (jf _)
 | _,_,_,_,.cons h _,.cons r1 _,.cons r2 _,0,_,_=>hF _ _ _ _ h r1 r2
 | _,_,_,_,.cons _ t,.cons _ t1,.cons _ t2,j+1,h1,h2=>wV hF t t1 t2 j (oz h1) (oz h2)
theorem G0(I:Inv X pins σ H s):∀(n:Nat) (A:ke),A.units+n<om->∀x y u v,DeepEq X.K H n x y->RelV x u->RelV y v->qh A s u v true
 | 0,A,hu,x,y,u,v,h,ru,rv=>by obtain⟨rfl,h⟩:=h;exact IL h ru rv
 | n+1,A,hu,x,y,u,v,h,ru,rv=>by
  rcases h with⟨rfl,h⟩|⟨a,b,xs,ys,rfl,rfl,ha,hb,pr⟩|⟨a,b,xs,ys,rfl,rfl,ha,hb,pr⟩
  .exact IL h ru rv
  .cases ru;cases rv
   by_cases hab:a=b
   .subst hab;exact rf _
   .obtain⟨its,r,pl,hz⟩:=I.list ha;obtain⟨its2,r2,pl2,_⟩:=I.list hb;have hl:its.length=its2.length:=by rw[←r.length,←r2.length];exact bx pr
    have:=yu hab (SeqAt.RcAt.lists (A:=A) (e:=λ_=>true) pl.isList pl2.isList (by simpa using hl) (by lia) λj h1 h2=>by
     have h1':j<its.length:=by simpa using h1
     have h2':j<its2.length:=by simpa using h2
     have:=wV (A:=A.in1) (G0 I n A.in1 (by show A.units+1+n<om;lia)) pr r r2 j h1' h2'
     simpa using this)
    rw[DZ]at this;exact this
  .cases ru;cases rv
   by_cases hab:a=b
   .subst hab;exact rf _
   .obtain⟨_,its,r,o1,g1,c1,n1,d1⟩:=(show ObjOk X.prog X.w H s.heap a (.tup xs) from I.hok a _ ha)
    obtain⟨_,its2,r2,o2,g2,c2,n2,d2⟩:=(show ObjOk X.prog X.w H s.heap b (.tup ys) from I.hok b _ hb)
    have hl:its.length=its2.length:=by rw[←r.length,←r2.length];exact bx pr
    have:=yu hab (SeqAt.RcAt.tuples (A:=A) (e:=λ_=>true) ⟨o1,g1,c1,n1,d1⟩ ⟨o2,g2,c2,n2,d2⟩ (by lia) λj h1 h2=>by
     have h1':j<its.length:=by simpa using h1
     have h2':j<its2.length:=by simpa using h2
     have:=wV (A:=A.in1) (G0 I n A.in1 (by show A.units+1+n<om;lia)) pr r r2 j h1' h2'
     simpa using this)
    simpa [DZ,hl] using this
def X3(K:W.Frag)(r:Bool):R2:=λx y H Q=>∃a b xs ys,x= .ref a/\y= .ref b/\SqL K H a xs/\SqL K H b ys/\bu (DeepEq K H 4) xs ys/\Q (.bl r) H
theorem aEN(hu:X.A.units+9<om):OpR X (gg .NotEq) (X3 X.K false):=by
 intro pins s σ H x y v u Q I rx ry h;obtain⟨a,b,xs,ys,rfl,rfl,ha,hb,pr,q⟩:=h;cases rx;cases ry;obtain⟨its,r,pl,hz⟩:=I.list ha;obtain⟨its2,r2,pl2,_⟩:=I.list hb;have hl:its.length=its2.length:=by rw[←r.length,←r2.length];exact bx pr
 refine SeqAt.RcNeAt.lists (e:=λ_=>true) pl.isList pl2.isList (by simpa using hl) (by lia) (λj h1 h2=> ?_) X.prog X.w X.xe _ ⟨.bl false,H,I,by rw[DZ];rfl,q⟩;have:=wV (A:=X.A.in1) (G0 I 4 X.A.in1 (by show X.A.units+1+4<om;lia)) pr r r2 j (by simpa using h1) (by simpa using h2)
 simpa using this
theorem YJ{b:Addr}{ys:List V}{r:Bool}(ha:SqL K H a xs)(hb:SqL K H b ys)(pr:bu (DeepEq K H 4) xs ys)(h:Q (.bl r) H):X3 K r (.ref a) (.ref b) H Q:=⟨a,b,xs,ys,rfl,rfl,ha,hb,pr,h⟩
theorem DeepEq.self{x:V}(h:A3 x=true):DeepEq K H n x x:=by cases n with|zero=>exact⟨rfl,h⟩|succ n=>exact .inl ⟨rfl,h⟩
theorem E1:∀{xs:List V},xs.all A3=true->bu (DeepEq K H n) xs xs
 | [],_=> .nil
 | x::xs,h=>by
  rw[lq,dz]at h;exact .cons (DeepEq.self h.1) (E1 h.2)
section
variable {ty:TE}
end
def SameT(H H':Hp):Prop:=∀b u,H b=some u->(∀ps,u≠ .tbl ps)->H' b=some u
theorem SameT.refl(H:Hp):SameT H H:=λ_ _ e _=>e
theorem Same.t(s:Same H H'):SameT H H':=λb u e _=>s b u e
theorem SameT.trans(s:SameT H H1)(t:SameT H1 H2):SameT H H2:=λb u e n=>t b u (s b u e n) n
theorem SameT.snoc(s:SameT H H1)(a:Same H1 H2):SameT H H2:=λb u e n=>a b u (s b u e n)
theorem SameT.seq(T:SameT H H')(h:SqL K H a xs):SqL K H' a xs:=by
 rcases h with (h|⟨o,h⟩)|h
 .exact .inl (.inl (T _ _ h λps z=>by cases z))
 .exact .inl (.inr ⟨o,T _ _ h λps z=>by cases z⟩)
 .exact .inr h
theorem SameT.tup{H H':Hp}{a:Addr}{xs:List V}(T:SameT H H')(h:H a=some (.tup xs)):H' a=some (.tup xs):=T _ _ h λps z=>by cases z
theorem SameT.lst{H H':Hp}{a:Addr}{xs:List V}(T:SameT H H')(h:H a=some (.lst xs)):H' a=some (.lst xs):=T _ _ h λps z=>by cases z
def TabS(H:Hp)(PL:Addr)(pos:Pos)(qual:Str):Prop:=H PL=some (.tbl #[])∨∃(c':Addr) (oc:Obj) (fv:Array ak) (t:Tok),H PL=some (.tbl #[js pos.line,js pos.col,.ref c'])/\H c'=some (kn oc)/\oc.data= .fields fv/\fv[1]? =some (.str qual t)
theorem TabS.same(x:TabS H PL pos qual)(s:Same H H'):TabS H' PL pos qual:=by
 rcases x with h|⟨c',oc,fv,t,h1,h2,h3⟩
 .exact .inl (s _ _ h)
 .exact .inr ⟨c',oc,fv,t,s _ _ h1,s _ _ h2,h3⟩
def aGv(qual:Str)(args:tm)(body:Expr)(lsc:rm)(y:Str)(c PL:Addr)(pos:Pos):TE:=λ_ H Q=>TabS H PL pos qual ∧
 ∀F fd H',H F=none->LamAt H' F fd qual args body lsc y c->SameT H H'->TabS H' PL pos qual->Q (.ref F) H'
theorem aDK(hcode:X.env.code= .ref cL)(C:W.CodeHd X.base cL PL)(B:X.base.BuiltinsAt X.mg PL)(hcl:closureFor lsc X.env=pure [(y,c)])(hdef:defaultsOf args X.env=([],[]):=by rfl):
  PE X (.Lambda args body lsc pos) (aGv (X.env.qual++ "<lambda>") args body lsc y c PL pos):=by
 intro pins s σ H Q I h;obtain⟨hT,h⟩:=h;refine W.kla_eval hdef ?_;have hg:s.heap.Ns bf X.mg:=I.mod.glob.keeps I.bk;obtain⟨bm,ob,b1,b2,b3,b4,b5,b6⟩:=B;rcases hT with hP|⟨c',oc,fv,t,hP,hc',hd,hv⟩
 .have gP:s.heap.get? PL=some (W.tabObj #[]):=I.hok PL _ hP;have hgP:bf≠PL:=λq=>by
   obtain⟨o,es,ep,e,hd,_⟩:=hg;rw[q,gP]at e;cases e;cases hd
  refine W.kla_makeFunction (mg:=X.mg) (ps:= #[]) hcl I.ok.glob hg hcode (C.keeps I.bk) gP trivial rfl hgP ⟨bm,ob,b1,b2,b3,b4,I.bk _ _ b5,b6⟩ λc' ctv h' tk hx hge hlt hrec htb=> ?_;obtain⟨c₂,oc,fv,t,e2,hoc,hd,hv⟩:=hrec;cases e2;have hps:(#[]++ #[js pos.line,js pos.col,cu c']:Array ak)= #[js pos.line,js pos.col,cu c']:=yv;rw[hps]at htb;generalize hps2:(#[js pos.line,js pos.col,cu c']:Array ak)=ps' at htb;generalize hoF:W.kla_obj "<lambda>" (X.env.qual++ "<lambda>") args body lsc [(y,c)] ((X.mg "__name__").getD .none) c' ctv=oF;have pu:∀b o,h'.get? b=some o->(h'.push oF).get? b=some o:=λb o e=>aj _ e;have gF:(h'.push oF).get? h'.objs.size=some oF:=be _ (by subst hoF;rfl);have nPc:PL≠c':=cf (bt (bc gP) hge);have ncF:c'≠h'.objs.size:=cf hlt;have nPF:PL≠h'.objs.size:=cf (bc htb);have ltc:∀b u,H b=some u->b≠c':=λb u e=>cf (bt (I.hok.lt e) hge);have ltF:∀b u,H b=some u->b≠h'.objs.size:=λb u e=>cf (zd (bt (I.hok.lt e) hge) hlt);have at0:∀b,b≠PL->b≠c'->b≠h'.objs.size->upd (upd (upd H PL (.tbl ps')) c' (kn oc)) h'.objs.size (kn oF) b=H b:=λb n1 n2 n3=>by rw[aI n3,aI n2,aI n1]
  have atP:upd (upd (upd H PL (.tbl ps')) c' (kn oc)) h'.objs.size (kn oF) PL=some (.tbl ps'):=by rw[aI nPF,aI nPc,aR]
  have atc:upd (upd (upd H PL (.tbl ps')) c' (kn oc)) h'.objs.size (kn oF) c'=some (kn oc):=by rw[aI ncF,aR]
  have atF:upd (upd (upd H PL (.tbl ps')) c' (kn oc)) h'.objs.size (kn oF) h'.objs.size=some (kn oF):=aR;generalize upd (upd (upd H PL (.tbl ps')) c' (kn oc)) h'.objs.size (kn oF)=H3 at at0 atP atc atF;have keepH:∀b u,H b=some u->(∀ps,u≠ .tbl ps)->H3 b=some u:=λb u e nt=>by
   rw[at0 b (λz=>by rw[z,hP]at e;cases e;exact nt _ rfl) (ltc b u e) (ltF b u e)];exact e
  have sz:∀b o,s.heap.get? b=some o->b≠c'/\b≠h'.objs.size:=λb o e =>
   ⟨cf (bt (bc e) hge),cf (zd (bt (bc e) hge) hlt)⟩
  have nP:∀b,H b=none->b≠PL:=λb n z=>by rw[z,hP]at n;cases n
  have I':Inv X pins σ H3 { s with heap:=h'.push oF,toks:=tk }:=by
   refine I.un ⟨λb o e n _ _=>pu b o (hx b o (nP b n) e),λb o e n _ _=>⟨o.slots,pu b o (hx b o (nP b n) e)⟩,λb o e n _=> ?_,λb o e _=> ?_,λb xs e=>keepH b _ e (λps z=>by cases z),λb o u e=>keepH b _ e (λps z=>by cases z),λb ps e=> ?_⟩ λb o e=> ?_
   .rw[at0 b (nP b n) (sz b o e).1 (sz b o e).2];exact n
   .by_cases hb:b=PL
    .subst hb;exact⟨_,pu _ _ htb⟩
    .exact⟨o,pu b o (hx b o hb e)⟩
   .by_cases hb:b=PL
    .subst hb;rw[hP]at e;cases e;exact⟨ps',by rw[atP,yv]⟩
    .refine⟨#[],?_⟩;rw[at0 b hb (ltc b _ e) (ltF b _ e),e,yw]
   .by_cases hF:b=h'.objs.size
    .subst hF;rw[atF]at e;cases e;exact KU gF
    by_cases hc':b=c'
    .subst hc';rw[atc]at e;cases e;exact KU (pu _ _ hoc)
    by_cases hb:b=PL
    .subst hb;rw[atP]at e;cases e;exact pu _ _ htb
    rw[at0 b hb hc' hF]at e;refine(I.hok b o e).stay (λd u hd' q=>pu d u (hx d u ?_ q)) (λd q=>keepH d _ q λps z=>by cases z) λd xs q=>keepH d _ q λps z=>by cases z
    rcases hd' with z|z
    .rw[z];exact hb
    .intro z2;rw[z2,hP]at z;cases z
  refine⟨.ref h'.objs.size,H3,I',rfl,h _ _ H3 ?_ ⟨c',_,ctv,oc,fv,t,rfl,by rw[hoF];exact atF,atc,hd,hv⟩ keepH (.inr ⟨c',oc,fv,t,by rw[atP,hps2],atc,hd,hv⟩)⟩;exact I.hok.fresh (dy hge (mq hlt))
 .have gP:s.heap.get? PL=some (W.tabObj #[js pos.line,js pos.col,.ref c']):=I.hok PL _ hP;refine W.kla_makeFunctionHit (mg:=X.mg) (ps:= #[js pos.line,js pos.col,.ref c']) (cv:= .ref c') hcl I.ok.glob hg hcode (C.keeps I.bk) gP (by simp[TriplesOk,js]) (by simp[codeAmong,js]) ⟨bm,ob,b1,b2,b3,b4,I.bk _ _ b5,b6⟩ λctv h' tk hx hge=> ?_;generalize hoF:W.kla_obj "<lambda>" (X.env.qual++ "<lambda>") args body lsc [(y,c)] ((X.mg "__name__").getD .none) c' ctv=oF;have hoF':=hoF;unfold W.kla_obj at hoF';rw[hoF'];have pu:∀b o,h'.get? b=some o->(h'.push oF).get? b=some o:=λb o e=>aj _ e;have gF:(h'.push oF).get? h'.objs.size=some oF:=be _ (by subst hoF;rfl);have ltF:∀b u,H b=some u->b≠h'.objs.size:=λb u e=>cf (bt (I.hok.lt e) hge);have sF:Same H (upd H h'.objs.size (kn oF)):=λb u e=>by rw[aI (ltF b u e)];exact e
  have I':Inv X pins σ (upd H h'.objs.size (kn oF)) { s with heap:=h'.push oF,toks:=tk }:=by
   refine I.un ⟨λb o e n _ _=>pu b o (hx b o e),λb o e n _ _=>⟨o.slots,pu b o (hx b o e)⟩,λb o e n _=> ?_,λb o e _=>⟨o,pu b o (hx b o e)⟩,λb xs e=>sF _ _ e,λb o u e=>sF _ _ e,λb ps e=>⟨#[],by rw[yw];exact sF _ _ e⟩⟩ λb o e=> ?_
   .rw[aI (cf (bt (bc e) hge))];exact n
   .by_cases hF:b=h'.objs.size
    .subst hF;rw[aR]at e;cases e;exact KU gF
    .rw[aI hF]at e;exact(I.hok b o e).stay (λd u hd' q=>pu d u (hx d u q)) (λd q=>sF _ _ q) λd xs q=>sF _ _ q
  refine⟨.ref h'.objs.size,_,I',rfl,h _ _ _ (I.hok.fresh hge) ⟨c',_,ctv,oc,fv,t,rfl,by rw[hoF];exact aR,sF _ _ hc',hd,hv⟩ (Same.t sF) (.inr ⟨c',oc,fv,t,sF _ _ hP,sF _ _ hc',hd,hv⟩)⟩
theorem W4(S:Hp->Hp->Prop)(sr:∀H,S H H)(st:∀H1 H2 H3,S H1 H2->S H2 H3->S H1 H3)(xs:List α)(c:α->Bool)(P:α->V->Hp->Prop)(hm:∀x y H1 H2,P x y H1->S H1 H2->P x y H2)(hn:xs.length<=sizeLine)
  (hgo:∀i H1,S H H1->i<xs.length->J.go i H1)(hst:∀H1,S H H1->J.stop xs.length H1)
  (hb:∀i x H1,xs[i]? =some x->S H H1->∀v H',J.yld i H1 v H'->S H1 H'/\∃σ2:St,σ2.length=σ0.length/\(∀(j:Nat) v,σ0[j]? =some (some v)->σ2[j]? =some (some v))/\(∀R:St->Hp->Prop,R σ2 H'->g v σ0 H' R) ∧
   (∀R:Bool->Hp->Prop,(∀H2,S H' H2->R (c x) H2)->ti σ2 H' R)/\(c x=true->∀H2,S H' H2->∀R:VK,(∀y H3,P x y H3->S H2 H3->R y H3)->te σ2 H2 R))
  (hf:∀ys H1,S H H1->bu (λx y=>P x y H1) (xs.filter c) ys->fin ys H1):dX J g ti te σ0 fin H:=by
 refine⟨λi m ys H1=>i+m=xs.length/\S H H1/\bu (λx y=>P x y H1) ((xs.take i).filter c) ys,⟨xs.length,by lia,sr _,.nil⟩,?_⟩;rintro i m ys H1 ⟨e1,s1,pr⟩;cases m with
 | zero =>
  have ei:i=xs.length:=by lia
  subst ei;rw[cp]at pr;exact .inl ⟨hst H1 s1,hf ys H1 s1 pr⟩
 | succ m =>
  have hi:i<xs.length:=by lia
  refine .inr ⟨hgo i H1 s1 hi,λv H' y=> ?_⟩;have ex:xs[i]? =some xs[i]:=ah hi;have etake:xs.take (i+1)=xs.take i++[xs[i]]:=by rw[pj,ex];rfl
  have hlen:ys.length<=i:=by
   rw[←bx pr];exact dy (du _ _) (by rw[cw];lia)
  obtain⟨s2,σ2,l2,c2,hg,ht,he⟩:=hb i xs[i] H1 ex s1 v H' y;refine hg _ ⟨⟨l2,c2⟩,ht _ λH2 s3=> ?_⟩;have s13:=st _ _ _ s2 s3;cases hc:c xs[i] with
  | true =>
   show te σ2 H2 _;refine he hc H2 s3 _ λy H3 py s4=>⟨by lia,m,by lia,by lia,st _ _ _ s1 (st _ _ _ s13 s4),?_⟩
   rw[etake,fh,da hc];exact Paired.snoc (Paired.imp' (λa b h=>hm a b _ _ h (st _ _ _ s13 s4)) pr) py
  | false =>
   show ∃m',_;refine⟨m,by lia,by lia,st _ _ _ s1 s13,?_⟩;rw[etake,fh,cx (by rw[hc];exact bg),List.filter_nil,dj];exact Paired.imp' (λa b h=>hm a b _ _ h s13) pr
theorem aDN{xs:List α}(S:Hp->Hp->Prop)(sr:∀H,S H H)(st:∀H1 H2 H3,S H1 H2->S H2 H3->S H1 H3)(F:V->α->Prop)(P:α->V->Hp->Prop)(hm:∀x y H1 H2,P x y H1->S H1 H2->P x y H2)(hn:xs.length<=sizeLine)(hr:ci.map (λi=>(σ[i]?).join)=rest)(hl:∀H1,S H H1->SqL K H1 a vs)(hv:bu F vs xs)
  (ht:∀v x H1,F v x->x∈xs->S H H1->∀R:Bool->Hp->Prop,(∀H2,S H1 H2->R true H2)->ti (some v::rest) H1 R)
  (he:∀v x H1,F v x->x∈xs->S H H1->∀R:VK,(∀y H2,P x y H2->S H1 H2->R y H2)->te (some v::rest) H1 R)
  (hf:∀ys H1,S H H1->bu (λx y=>P x y H1) xs ys->fin ys H1):dX (Itl K a) (cF 0) ti te (cD 1 ci σ) fin H:=by
 rw[AC hr];have hlen:vs.length=xs.length:=bx hv;refine W4 S sr st xs (λ_=>true) P hm hn (λi H1 s hi=>⟨vs,vs[i],hl _ s,ah (by lia)⟩) (λH1 s=>⟨vs,hl _ s,by lia⟩) (λi x H1 hx s1 v H' y=> ?_) (λys H1 s h=>hf ys H1 s (by rw[dM]at h;exact h));obtain⟨rfl,e2⟩:=y;have ev:=e2 vs (hl _ s1);have hF:=Paired.at2 hv ev hx;have hmem:=ay hx;refine⟨sr _,some v::rest,rfl,λj v hv=> ?_,λR h=>h,λR h=>ht v x _ hF hmem s1 R h,λhc H2 s2 R h=>he v x H2 hF hmem (st _ _ _ s1 s2) R h⟩;cases j with
 | zero=>cases hv
 | succ j=>exact hv
open Classical in
open Classical in
open Classical in
open Classical in
section
variable {ek ev:Expr}{tk:TE}
def D1P(p:Addr)(Q:VK)(y:V):VK:=λv H2=>∃k,y=kV k/\H2 p=some (.dK [])/\Q (.ref p) (upd H2 p (.dK [(k,v)]))
def tD1(tk tv:TE):TE:=λσ H Q=>∀p,H p=none->tk σ (upd H p (.dK [])) λy H1=>tv σ H1 (D1P p Q y)
theorem aF0(hk:PE X ek tk)(hv:PE X ev tv):PE X (.Dict [some ek] [ev] pos) (tD1 tk tv):=by
 intro pins s σ H Q I h;have I0:=I.laid (a:=s.heap.objs.size) (o:= .dK []) (t':=s.toks) (λ_ _ q=>aj _ q) (aq _) (OE s.heap I.big);have h0:=h s.heap.objs.size (I.hok.fresh (aq _));refine wpAny_Dict_walk (knd:=b9 X.prog X.w) rfl rfl (by simp) (by show 1<=15;decide) (pairTrees_cons_walk ?_);refine thn (hk pins _ σ _ _ I0 h0) λu s1 x1=> ?_;obtain⟨y,H1,I1,ry,q1⟩:=x1;refine thn (hv pins s1 σ H1 _ I1 q1) λr s2 x2=>pairTrees_nil_walk ?_;obtain⟨v,H2,I2,rv,k,ey,e,q⟩:=x2;subst ey;obtain⟨z,hd,vs,rel,dd⟩:=aBr I2.hok e;have hvs:vs=[]:=by cases rel;rfl
 subst hvs;refine⟨[(k,r)],⟨uD ry,rfl,trivial⟩,dd,λh' dd' hs=> ?_⟩;have he:∃q,h'.get? s.heap.objs.size=some q:=let ⟨q,_,_,hq,_⟩:=dd';⟨q,hq⟩;exact⟨.ref _,_,G9 I2 (by rw[e];exact jm) hs he (zL (by rw[sizeLine_eq];show 1<=16777216;decide) hd (.cons ⟨rfl,rv⟩ .nil) dd'),rfl,q⟩
theorem aGp(h:∀p H',H p=none->Same H H'->H' p=some (.dK [])->tk σ H' λy H1=>tv σ H1 (D1P p Q y)):tD1 tk tv σ H Q:=λp hp=>h p _ hp (same_upd hp) aR
theorem aFr(e:H p=some (.dK []))(h:∀H',SameBut p H H'->H' p=some (.dK [(.inl i,v)])->Q (.ref p) H'):D1P p Q (.int i) v H:=⟨.inl i,rfl,e,h _ SameBut.upd aR⟩
def aAU(K:W.Frag):V->V->Hp->VK->Prop:=λo i H Q=>∃(p:Addr) (xs:List V) (j:Nat) (v:V),o= .ref p/\i= .int (j:Int)/\SqL K H p xs/\xs[j]? =some v/\Q v H
theorem LI:aFk X (aAU X.K):=by
 intro pins s σ H o i ov iv Q I ro ri h;obtain⟨p,xs,j,v,rfl,rfl,hq,he,q⟩:=h;cases ro;obtain⟨t,rfl⟩:=ri;obtain⟨its,r,pl,hz⟩:=I.list hq;obtain⟨w,ew,rw'⟩:=r.get he;have hl:=r.length;have hn:=sO;have hj:=(av.mp he).1;have fin:EP X pins σ Q w s:=⟨v,H,I,rw',q⟩
 exact wpAny_getItem_list pl.isList (by lia) (by lia) (by rw[fc];simpa using ew) fin
theorem QC(e:SqL K H p xs)(l:xs[j]? =some v)(h:Q v H):aAU K (.ref p) (.int (j:Int)) H Q:=⟨p,xs,j,v,rfl,rfl,e,l,h⟩
end
structure FX(K:Frag)(nm qual:Str)(st:Stmt)(ps:List Str)(a:Addr) where
 d:gy
 F:FunV K nm qual st a d
 b:Binds K d ps []
inductive FnL(K:Frag)(nm qual:Str)(st:Stmt)(f:Addr):Prop
 | mk {oc:ak}{od an:Option Addr}{osl:Array (Option ak)}{kV doc pm cdv ct:ak} (l:K.lookup f=some ⟨oc,od,.func (fnOf nm qual (d8 st) (dF st) (aG st) .none kV doc pm an cdv ct),osl⟩) (c:codeIn K cdv qual=true) (k:keepIn K (.ref f)=true):FnL K nm qual st f
section
variable {K:Frag}{st:Stmt}{f:Addr}
abbrev fnB(x qual:Str)(st:Stmt)(kV doc pm cdv ct:ak)(an:Option Addr)(us:List ak):Sem (List (Str×ak)):=bindArgs (fnOf x qual (d8 st) (dF st) (aG st) .none kV doc pm an cdv ct) ⟨us,[]⟩
theorem FnL.ne{ps:List Str}(L:FnL K x qual st f)(h:∀kV doc pm cdv ct an (us:List ak),us.length=ps.length->fnB x qual st kV doc pm cdv ct an us=pure (ps.zip us)):Nonempty (FX K x qual st ps f):=by
 cases L with
 | mk l c k=>exact⟨⟨_,rH l c k,.all λus hl=>h _ _ _ _ _ _ us hl⟩⟩
noncomputable def FnL.xn{ps:List Str}(L:FnL K x qual st f)(h:∀kV doc pm cdv ct an (us:List ak),us.length=ps.length->fnB x qual st kV doc pm cdv ct an us=pure (ps.zip us)):FX K x qual st ps f:=Classical.choice (L.ne h)
noncomputable def FnL.x1{p1:Str}(L:FnL K x qual st f)(h:∀kV doc pm cdv ct an a,fnB x qual st kV doc pm cdv ct an [a]=pure [(p1,a)]):FX K x qual st [p1] f:=L.xn λkV doc pm cdv ct an us hl=>by
 obtain _|⟨a,_|⟨b,us⟩⟩:=us
 .cases hl
 .exact h ..
 .cases hl
noncomputable def FnL.x2{p1 p2:Str}(L:FnL K x qual st f)(h:∀kV doc pm cdv ct an a b,fnB x qual st kV doc pm cdv ct an [a,b]=pure [(p1,a),(p2,b)]):FX K x qual st [p1,p2] f:=L.xn λkV doc pm cdv ct an us hl=>by
 obtain _|⟨a,_|⟨b,_|⟨c,us⟩⟩⟩:=us
 .cases hl
 .cases hl
 .exact h ..
 .cases hl
noncomputable def FnL.x3{p1 p2 p3:Str}(L:FnL K x qual st f)(h:∀kV doc pm cdv ct an a b c,fnB x qual st kV doc pm cdv ct an [a,b,c]=pure [(p1,a),(p2,b),(p3,c)]):FX K x qual st [p1,p2,p3] f:=L.xn λkV doc pm cdv ct an us hl=>by
 obtain _|⟨a,_|⟨b,_|⟨c,_|⟨d,us⟩⟩⟩⟩:=us
 .cases hl
 .cases hl
 .cases hl
 .exact h ..
 .cases hl
noncomputable def FnL.x4{p1 p2 p3:Str}(L:FnL K x qual st f)(h:∀kV doc pm cdv ct an a b c d,fnB x qual st kV doc pm cdv ct an [a,b,c,d]=pure [(p1,a),(p2,b),(p3,c),(p4,d)]):FX K x qual st [p1,p2,p3,p4] f:=L.xn λkV doc pm cdv ct an us hl=>by
 obtain _|⟨a,_|⟨b,_|⟨c,_|⟨d,_|⟨e,us⟩⟩⟩⟩⟩:=us
 .cases hl
 .cases hl
 .cases hl
 .cases hl
 .exact h ..
 .cases hl
noncomputable def FnL.x5{p1 p2 p3:Str}(L:FnL K x qual st f)(h:∀kV doc pm cdv ct an a b c d e,fnB x qual st kV doc pm cdv ct an [a,b,c,d,e]=pure [(p1,a),(p2,b),(p3,c),(p4,d),(p5,e)]):FX K x qual st [p1,p2,p3,p4,p5] f:=L.xn λkV doc pm cdv ct an us hl=>by
 obtain _|⟨a,_|⟨b,_|⟨c,_|⟨d,_|⟨e,_|⟨g,us⟩⟩⟩⟩⟩⟩:=us
 .cases hl
 .cases hl
 .cases hl
 .cases hl
 .cases hl
 .exact h ..
 .cases hl
noncomputable def FnL.x6{p1 p2 p3 p6:Str}(L:FnL K x qual st f)(h:∀kV doc pm cdv ct an a b c d e g,fnB x qual st kV doc pm cdv ct an [a,b,c,d,e,g]=pure [(p1,a),(p2,b),(p3,c),(p4,d),(p5,e),(p6,g)]):FX K x qual st [p1,p2,p3,p4,p5,p6] f:=L.xn λkV doc pm cdv ct an us hl=>by
 obtain _|⟨a,_|⟨b,_|⟨c,_|⟨d,_|⟨e,_|⟨g,_|⟨i,us⟩⟩⟩⟩⟩⟩⟩:=us
 .cases hl
 .cases hl
 .cases hl
 .cases hl
 .cases hl
 .cases hl
 .exact h ..
 .cases hl
def noF(K:Frag)(C:Addr)(fs:List Str):Bool:=fs.all λx=>(findIn K (.ref C) x).any (·.isNone)
theorem cE{C:Addr}{fs:List Str}(h:noF K C fs=true)(i:Nat)(e:fs[i]? =some x):NoAttr K C x:=by
 have h2:=jk.mp h x (ay e);unfold NoAttr;cases h3:findIn K (.ref C) x with
 | none=>rw[h3]at h2;cases h2
 | some o =>
  rw[h3]at h2;cases o with
  | none=>rfl
  | some v=>cases h2
end
variable {ρ:Keyed->Int}{st:SortSt}
section
variable {κ:mi}{D:Keyed->Prop}
end
section
variable {all o p ra rb:List Keyed}
end
section
variable {κ:mi}{D:Keyed->Prop}
end
section
variable {κ:mi}{D:Keyed->Prop}
end
section
variable {κ:mi}{D:Keyed->Prop}
end
section
variable {κ:mi}{D:Keyed->Prop}
end
section
variable {κ:mi}{D:Keyed->Prop}
end
variable {a₀:Array Keyed}
section
variable {κ:mi}{D:Keyed->Prop}
end
section
variable {κ:mi}{D:Keyed->Prop}
end
section
variable {f:ak->α}{lt:α->α->Bool}{d:α}{l:List α}
end
open Sem (wp) in
open AutoSeq1 (wpAny_loadPart') in
section
variable {R:It->Hp->Prop}{bk:St->Hp->Prop}
end
theorem IS(xs:List V):A0 xs none none (some (-1))=xs.reverse:=by
 unfold A0 qV;rw[krv_bounds];show (sliceRange ((xs.length:Int) - 1) (-1) (-1)).filterMap (xs[·]?)=_;rw[krv_sliceRange,krv_range,List.filterMap_reverse]
 congr 1
 have h:=krv_all xs.toArray
 simpa using h
theorem JE(n:Nat):(qV n none none (some (-1))).length=n:=by
 unfold qV;rw[krv_bounds];show (sliceRange ((n:Int) - 1) (-1) (-1)).length=_;rw[krv_sliceRange,ae,fk]
def Itd(lo:Int)(n:Nat):It:=⟨λi _=>i<n,λi H x H'=>H'=H/\x= .int (lo - i),λi _=>n<=i⟩
theorem VE(it:Addr)(lo:Int)(n:Nat):AN P w K tg (Itd lo n) [it] it (λi h=>xm h it (lo+(i:Nat) * -1) ((n:Int) - (i:Nat)) (-1)) where
 mem:=by simp
 obj:=λi h st b hb=>by
  have e:b=it:=by simpa using hb
  subst e;exact⟨_,st,λv z=>by
   have z':zg _=Data.cell v:=z;cases z'⟩
 keep:=λi h h' st k=>k it (by simp) _ st
 item:=by
  intro X hP hw hK hc i pins s σ H E I hf st hg;subst hP hw hK;obtain⟨f0,f1,f2,f3,f4,f5⟩:=hf it (by simp);have W:=Walks.range (prog:=X.prog) (w:=X.w) (I.ok.hd hc) it lo (-1) n;refine W.item i s _ _ hg st λv h' tk hv st' kk=> ?_;obtain⟨t,rfl⟩:=hv;have I1:Inv X pins σ H { s with heap:=h',toks:=tk }:=I.turned (λb o hb e=>kk b o (by simpa using hb) e) f0 f1 f3 f4 f5;refine⟨_,rfl,KS (s:={ s with heap:=h',toks:=tk }) (n:= "range_iterator") st' rfl rfl (by decide) ⟨.int (lo - i),H,I1,⟨t,?_⟩,⟨rfl,rfl⟩,st',λb hb=>(hf b hb).1⟩⟩;rw[show lo+(i:Int) * -1=lo - i by lia]
 done:=by
  intro X hP hw hK hc i pins s σ H E I hf st hg;subst hP hw hK;obtain⟨f0,f1,f2,f3,f4,f5⟩:=hf it (by simp);exact wpAny_pyNext_range_end (I.ok.hd hc) st (by have:n<=i:=hg;lia) λh' eb=>⟨rfl,I.turned (t':=s.toks) (λb o hb e=>eb b o hb e) f0 f1 f3 f4 f5⟩
 self:=λ_ _ _ _ _ st h=>wpAny_pyIter_rangeiter st h
theorem aBR{R:It->Hp->Prop}{hi:Int}{t u v:Tok}{tk:Nat}(I:Inv X pins σ H s)(h1: -(2^62)<=lo)(h2:lo<2^62)(h3: -(2^62)<=hi)(h4:hi<2^62)
  (q:R (Itd lo (lo - hi).toNat) H):cb (ck X.prog X.w) X.A (pyIter (.ref s.heap.objs.size)) (PIE X pins σ tg R) E { s with heap:=s.heap.push { cls:= .type "range",data:= .fields #[.int lo t,.int hi u,.int (-1) v] },toks:=tk }:=by
 refine wpAny_pyIter_range (IsRange.new ..) (W.small_down h1 h2 h3 h4) ?_;have I1:Inv X pins σ H { s with heap:=s.heap.push { cls:= .type "range",data:= .fields #[.int lo t,.int hi u,.int (-1) v] },toks:=tk }:=I.kept λb o e=>aj _ e;refine⟨(s.heap.push { cls:= .type "range",data:= .fields #[.int lo t,.int hi u,.int (-1) v] }).objs.size,[(s.heap.push { cls:= .type "range",data:= .fields #[.int lo t,.int hi u,.int (-1) v] }).objs.size],_,_,H,rfl,
  I1.kept (t':=tk) λb o e=>aj _ e,VE _ lo (lo - hi).toNat,?_,λb hb=> ?_,q⟩
 .have e1:lo+((0:Nat):Int) * -1=lo:=by simp
  have e2:(((lo - hi).toNat:Nat):Int) - ((0:Nat):Int)=vw lo hi (-1):=by rw[W.rangeSize_downNat];lia
  show xm _ _ (lo+((0:Nat):Int) * -1) ((((lo - hi).toNat:Nat):Int) - ((0:Nat):Int)) (-1);rw[e1,e2];exact be _ rfl
 .have e:b=(s.heap.push { cls:= .type "range",data:= .fields #[.int lo t,.int hi u,.int (-1) v] }).objs.size:=by simpa using hb
  subst e;exact I1.fpOk (aq _) (I1.hok.fresh (aq _))
def aAu(R:It->Hp->Prop)(vs:List V)(H1:Hp):Prop:=∃i j:Int,vs=[.int i,.int j,.int (-1)]/\(-1000000000000000000<=i/\i<1000000000000000000/\ -1000000000000000000<=j/\j<1000000000000000000)/\R (Itd i (i - j).toNat) H1
def aBf(ta:TA):TI:=λσ H R=>ta σ H (aAu R)
theorem XR{a b c:Expr}{ta:TA}{p pos:Pos}(hg:Gl X "range")(hm:X.mg "range" =none)(ha:PA X [a,b,c] ta)(hs:cy [a,b,c] X.env=[(false,eval a X.env),(false,eval b X.env),(false,eval c X.env)]:=by rfl)(hs2:cy [b,c] X.env=[(false,eval b X.env),(false,eval c X.env)]:=by rfl):
  PI X tg (.Call (.Name "range" p) [a,b,c] [] pos) (aBf ta):=by
 intro pins s σ H R I h;refine Call_ (vL I hg hm boot_range (jh (thn (ha pos pins s σ H _ I h) λus s1 ⟨vs,H1,I1,r1,q1⟩=> ?_) (by rw[hs,hs2]) (by rw[hs2];rfl)));obtain⟨i,j,e,⟨q1,q2,q3,q4⟩,q⟩:=q1;subst e;cases r1 with
 | cons r rr =>
  cases rr with
  | cons r' rr =>
   cases rr with
   | cons r'' rr =>
    cases rr;obtain⟨t,rfl⟩:=r;obtain⟨t',rfl⟩:=r';obtain⟨t'',rfl⟩:=r'';exact call_range_3 (by decide) (aBR I1 (by lia) (by lia) (by lia) (by lia) q) (.inl (wk (by lia)))
section
variable {bk:St->Hp->Prop}{R:It->Hp->Prop}{tr:TA}
theorem YN(h:tr σ H (aAu R)):aBf tr σ H R:=h
theorem WN{j:Int}(h0: -1000000000000000000<=i)(h1:i<1000000000000000000)(h2: -1000000000000000000<=j)(h3:j<1000000000000000000)(h:R (Itd i (i - j).toNat) H):aAu R [.int i,.int j,.int (-1)] H:=⟨i,j,rfl,⟨h0,h1,h2,h3⟩,h⟩
theorem aDh(Pv:Nat->St->Hp->Prop)(h0:Pv 0 σ H)
  (hs:∀i σ H,i<n->Pv i σ H->g (.int (lo - i)) σ H λσ2 H2=>tb ⟨Pv (i+1),rt,nx,Pv (i+1)⟩ σ2 H2)(hd:∀σ H,Pv n σ H->nx σ H):MP (Itd lo n) g tb ⟨nx,rt,bk,ct⟩ σ H:=by
 refine⟨λi m σ H=>i+m=n/\Pv i σ H,⟨n,by lia,h0⟩,?_⟩;rintro i m σ H ⟨e,p⟩
 by_cases h:i<n
 .refine .inr ⟨h,Pv (i+1),λσ' H' q=>⟨m - 1,by lia,by lia,q⟩,?_⟩;rintro x H' ⟨rfl,rfl⟩;exact hs i σ _ h p
 .have e':i=n:=by lia
  subst e';exact .inl ⟨aq _,hd _ _ p⟩
end
def aD8:Nat->(List α->Prop)->Prop
 | 0,p=>p []
 | n+1,p=>∀a,aD8 n (λl=>p (a::l))
theorem QJ:∀(n:Nat) (p:List α->Prop),aD8 n p->∀us:List α,us.length=n->p us
 | 0,_,h,[],_=>h
 | n+1,_,h,a::us,e=>QJ n _ (h a) us (by simpa using e)
 | 0,_,_,_::_,e=>by simp at e
 | _+1,_,_,[],e=>by simp at e
end L2
namespace Prf
open PySem L2
set_option hygiene false
local macro_rules| `(tactic| tm_at"c")=> `(tactic| exact⟨rfl,rfl,rfl,by decide +kernel,rfl,by decide +kernel,by decide +kernel⟩)
local macro_rules| `(tactic| tm_at"d")=> `(tactic| (have hu0:=Room.units0 hr;have hu1:=Room.units1 hr;have hu9:=Room.units9 hr))
set_option hygiene true
def top(i:Nat):Stmt:=PySem.Challenge.pw_firstout_k84_whole_names_and_order.main.body.getD i (.Pass ⟨0,0,0,0⟩)
abbrev x8:Stmt:=top 10
theorem aIx:aN ["plan","going","turn","name","number"] ["plan"] (aG x8):=by tm_at"c"
abbrev AJ:Stmt:=top 11
theorem aIB:aN ["plan"] ["plan"] (aG AJ):=by tm_at"c"
abbrev jM:Stmt:=top 12
theorem aHw:aN ["house","plan","doors"] ["house","plan"] (aG jM):=by tm_at"c"
abbrev DE:Stmt:=top 13
theorem aIH:aN ["house","plan","turn","rows"] ["house","plan","turn"] (aG DE):=by tm_at"c"
abbrev F6:Stmt:=top 14
theorem aIO:aN ["house","plan","total"] ["house","plan"] (aG F6):=by tm_at"c"
abbrev nK:Stmt:=bH (top 16) 0
theorem aHM:aN ["self"] ["self"] (aG nK):=by tm_at"c"
abbrev nI:Stmt:=bH (top 16) 1
theorem aHP:aN ["self"] ["self"] (aG nI):=by tm_at"c"
abbrev pU:Stmt:=bH (top 16) 2
theorem aH1:aN ["self","start","target","most","arc"] ["self","start","target","most"] (aG pU):=by tm_at"c"
abbrev xC:Stmt:=bH (top 16) 3
theorem aIw:aN ["self","arc"] ["self","arc"] (aG xC):=by tm_at"c"
abbrev mB:Stmt:=bH (top 16) 4
theorem aHK:aN ["self","source","ways","reached","at","node","arc","target"] ["self","source"] (aG mB):=by tm_at"c"
abbrev pI:Stmt:=bH (top 16) 5
theorem aH2:aN ["self","ways","node","path","arc"] ["self","ways","node"] (aG pI):=by tm_at"c"
abbrev kP:Stmt:=bH (top 16) 6
theorem aHy:aN ["self","path","number","arc"] ["self","path"] (aG kP):=by tm_at"c"
abbrev nW:Stmt:=bH (top 16) 7
theorem aHN:aN ["self","source","sink","number","ways"] ["self","source","sink"] (aG nW):=by tm_at"c"
abbrev iI:Stmt:=bH (top 17) 0
theorem aHo:aN ["self","house","room","node"] ["self","house"] (aG iI):=by tm_at"c"
abbrev jH:Stmt:=bH (top 17) 1
theorem aHr:aN ["self","room"] ["self","room"] (aG jH):=by tm_at"c"
abbrev iJ:Stmt:=bH (top 17) 2
theorem aHn:aN ["self","door","target","number"] ["self","door","target"] (aG iJ):=by tm_at"c"
abbrev iG:Stmt:=bH (top 17) 3
theorem aHp:aN ["self","outside","name","door"] ["self"] (aG iG):=by tm_at"c"
abbrev eR:Stmt:=bH (top 17) 4
theorem aHj:aN ["self","ways"] ["self"] (aG eR):=by tm_at"c"
abbrev fO:Stmt:=bH (top 17) 5
theorem aHm:aN ["self","entries","room"] ["self"] (aG fO):=by tm_at"c"
abbrev kU:Stmt:=bH (top 17) 6
theorem aHB:aN ["self","entries","name","door","room","node"] ["self"] (aG kU):=by tm_at"c"
abbrev fN:Stmt:=bH (top 17) 7
theorem aHl:aN ["self","inside","room"] ["self"] (aG fN):=by tm_at"c"
abbrev lU:Stmt:=bH (top 17) 8
theorem aHL:aN ["self"] ["self"] (aG lU):=by tm_at"c"
abbrev rS:Stmt:=top 18
theorem aH9:aN ["house","net"] ["house"] (aG rS):=by tm_at"c"
abbrev u3:Stmt:=top 20
theorem aIp:aN ["house"] ["house"] (aG u3):=by tm_at"c"
abbrev zU:Stmt:=top 21
theorem aIA:aN ["house","turn"] ["house","turn"] (aG zU):=by tm_at"c"
abbrev zF:Stmt:=top 22
theorem aID:aN ["house","outs","turn"] ["house"] (aG zF):=by tm_at"c"
abbrev wT:Stmt:=top 23
theorem aIy:aN ["house","door","turn","saved"] ["house","door","turn","saved"] (aG wT):=by tm_at"c"
abbrev N2:Stmt:=top 24
theorem aIR:aN ["house","doors","saved","turn","starts","room"] ["house"] (aG N2):=by tm_at"c"
abbrev xP:Stmt:=top 26
theorem aIu:aN ["thing"] ["thing"] (aG xP):=by tm_at"c"
abbrev z6:Stmt:=top 29
theorem aIE:aN ["thing"] ["thing"] (aG z6):=by tm_at"c"
abbrev u4:Stmt:=top 30
theorem aIl:aN ["part","thing"] ["part","thing"] (aG u4):=by tm_at"c"
abbrev sU:Stmt:=top 31
theorem aH6:aN ["part","thing","least"] ["part","thing","least"] (aG sU):=by tm_at"c"
abbrev fJ:Stmt:=bH (top 32) 0
theorem aHI:aN ["self","name","start","end","wide"] ["self","name","start","end","wide"] (aG fJ):=by tm_at"c"
abbrev u5:Stmt:=bH (top 32) 1
theorem aIi:aN ["self","turn"] ["self","turn"] (aG u5):=by tm_at"c"
abbrev nH:Stmt:=bH (top 32) 2
theorem aHR:aN ["self"] ["self"] (aG nH):=by tm_at"c"
abbrev kM:Stmt:=bH (top 33) 0
theorem aHD:aN ["self","name","start","end","wide","since"] ["self","name","start","end","wide","since"] (aG kM):=by tm_at"c"
abbrev rW:Stmt:=bH (top 33) 1
theorem aIb:aN ["self","turn"] ["self","turn"] (aG rW):=by tm_at"c"
abbrev kQ:Stmt:=bH (top 34) 0
theorem aHE:aN ["self","name","start","end","wide","until"] ["self","name","start","end","wide","until"] (aG kQ):=by tm_at"c"
abbrev rO:Stmt:=bH (top 34) 1
theorem aH5:aN ["self","turn"] ["self","turn"] (aG rO):=by tm_at"c"
abbrev fF:Stmt:=bH (top 35) 0
theorem aHF:aN ["self","name","start","end","wide","every","since"] ["self","name","start","end","wide","every","since"] (aG fF):=by tm_at"c"
abbrev uX:Stmt:=bH (top 35) 1
theorem aIn:aN ["self","turn","waited"] ["self","turn"] (aG uX):=by tm_at"c"
abbrev jQ:Stmt:=bH (top 36) 0
theorem aHs:aN ["self","name","start","end","wide","bits"] ["self","name","start","end","wide","bits"] (aG jQ):=by tm_at"c"
abbrev pR:Stmt:=bH (top 36) 1
theorem aHZ:aN ["self","turn"] ["self","turn"] (aG pR):=by tm_at"c"
abbrev lN:Stmt:=bH (top 37) 0
theorem aHJ:aN ["self","name","start","end","letting"] ["self","name","start","end","letting"] (aG lN):=by tm_at"c"
abbrev u6:Stmt:=bH (top 37) 1
theorem aIo:aN ["self","turn","letting"] ["self","turn"] (aG u6):=by tm_at"c"
abbrev rR:Stmt:=top 39
theorem aIg:aN ["first","last"] ["first","last"] (aG rR):=by tm_at"c"
abbrev kN:Stmt:=top 40
theorem aHA:aN ["names","seen","name"] ["names"] (aG kN):=by tm_at"c"
abbrev jK:Stmt:=top 41
theorem aHt:aN ["doors","people","names","door"] ["doors","people"] (aG jK):=by tm_at"c"
abbrev sQ:Stmt:=top 42
theorem aH4:aN ["names","sizes","name"] ["names","sizes"] (aG sQ):=by tm_at"c"
abbrev m3:Stmt:=top 43
theorem aHS:aN ["sizes","people","inside","room","number"] ["sizes","people"] (aG m3):=by tm_at"c"
abbrev sN:Stmt:=top 44
theorem aIc:aN ["sizes","people","inside"] ["sizes","people"] (aG sN):=by tm_at"c"
abbrev eU:Stmt:=bH (top 45) 0
theorem aHC:aN ["self","rooms","doors","people","last","first","sizes","door"] ["self","rooms","doors","people","last","first"] (aG eU):=by tm_at"c"
abbrev pG:Stmt:=bH (top 45) 1
theorem aHV:aN ["self"] ["self"] (aG pG):=by tm_at"c"
abbrev pK:Stmt:=bH (top 45) 2
theorem aHY:aN ["self"] ["self"] (aG pK):=by tm_at"c"
abbrev jP:Stmt:=bH (top 45) 3
theorem aHu:aN ["self","room"] ["self","room"] (aG jP):=by tm_at"c"
abbrev pO:Stmt:=bH (top 45) 4
theorem aHW:aN ["self","room"] ["self","room"] (aG pO):=by tm_at"c"
abbrev pJ:Stmt:=bH (top 45) 5
theorem aH0:aN ["self","room"] ["self","room"] (aG pJ):=by tm_at"c"
abbrev rV:Stmt:=bH (top 45) 8
theorem aH7:aN ["self","name"] ["self","name"] (aG rV):=by tm_at"c"
abbrev rX:Stmt:=bH (top 45) 9
theorem aIa:aN ["self","name","turn","door"] ["self","name","turn"] (aG rX):=by tm_at"c"
abbrev pF:Stmt:=bH (top 45) 10
theorem aHU:aN ["self"] ["self"] (aG pF):=by tm_at"c"
abbrev nY:Stmt:=top 47
theorem aHO:aN ["_law_script","_law_k"] ["_law_script","_law_k"] (aG nY):=by tm_at"c"
abbrev sI:Stmt:=top 48
theorem aIf:aN ["_law_cell","_law_k","_law_number"] ["_law_cell","_law_k"] (aG sI):=by tm_at"c"
abbrev uY:Stmt:=top 49
theorem aIm:aN ["_law_cell","_law_k","_law_number","_law_word"] ["_law_cell","_law_k"] (aG uY):=by tm_at"c"
abbrev rZ:Stmt:=top 50
theorem aH8:aN ["_law_cells","_law_rooms_here","_law_k","_law_number","_law_holds","_law_found"] ["_law_cells"] (aG rZ):=by tm_at"c"
abbrev uW:Stmt:=top 51
theorem aIk:aN ["_law_cell","_law_k","_law_rooms_here","_law_turns","_law_number","_law_wide","_law_start","_law_end","_law_kind","_law_first","_law_more"] ["_law_cell","_law_k","_law_rooms_here","_law_turns"] (aG uW):=by tm_at"c"
abbrev eM:Stmt:=top 53
theorem aIh:aN ["_law_spec_here","_law_name_here","_law_start","_law_end","_law_kind","_law_wide","_law_first","_law_more"] ["_law_spec_here"] (aG eM):=by tm_at"c"
abbrev pN:Stmt:=top 54
theorem aHX:aN ["_law_cell","_law_bases","_law_found","_law_base"] ["_law_cell","_law_bases"] (aG pN):=by tm_at"c"
abbrev jN:Stmt:=top 55
theorem aHv:aN ["_law_cells","_law_numbers","_law_rooms_here","_law_k"] ["_law_cells"] (aG jN):=by tm_at"c"
abbrev kT:Stmt:=top 56
theorem aHz:aN ["_law_cell","_law_k","_law_rooms_here","_law_turns","_law_many","_law_kind","_law_start","_law_end","_law_wide","_law_first","_law_more","_law_into"] ["_law_cell","_law_k","_law_rooms_here","_law_turns"] (aG kT):=by tm_at"c"
abbrev jO:Stmt:=top 57
theorem aHx:aN ["_law_script","_law_cells","_law_rooms_here","_law_more","_law_first","_law_turns","_law_specs"] ["_law_script"] (aG jO):=by tm_at"c"
abbrev sL:Stmt:=top 58
theorem aIe:aN ["_law_script","_law_cells","_law_rooms_here","_law_first","_law_turns","_law_specs"] ["_law_script"] (aG sL):=by tm_at"c"
abbrev rL:Stmt:=top 59
theorem aId:aN ["_law_rooms_here","_law_specs","_law_turns","_law_people","_law_doors"] ["_law_rooms_here","_law_specs","_law_turns"] (aG rL):=by tm_at"c"
abbrev nN:Stmt:=top 60
theorem aHQ:aN ["_law_cell","_law_rooms_here","_law_specs","_law_names","_law_k","_law_newly","_law_found","_law_start","_law_end"] ["_law_cell","_law_rooms_here","_law_specs"] (aG nN):=by tm_at"c"
abbrev uF:Stmt:=top 61
theorem aIY:aN ["_law_script","_law_rooms_here","_law_specs","_law_turns","_law_house_here","_law_names","_law_newly","_law_found","_law_other","_law_at","_law_turn"] ["_law_script"] (aG uF):=by tm_at"c"
theorem YI:("" :Str).length=0:=by rw[cT];rfl
theorem aAp:("name" :Str).length=4:=by rw[cT];rfl
theorem aAN:("start" :Str).length=5:=by rw[cT];rfl
theorem ZZ:("wide" :Str).length=4:=by rw[cT];rfl
theorem Y8:("since" :Str).length=5:=by rw[cT];rfl
theorem aAh:("until" :Str).length=5:=by rw[cT];rfl
theorem Y2:("every" :Str).length=5:=by rw[cT];rfl
theorem YW:("bits" :Str).length=4:=by rw[cT];rfl
theorem aAK:("the first turn is below 0" :Str).length=25:=by rw[cT];rfl
theorem Z5:("the last turn is below the first one" :Str).length=36:=by rw[cT];rfl
theorem R8:("a row of people is below 0" :Str).length=26:=by rw[cT];rfl
theorem SK:("more are in a room than it holds" :Str).length=32:=by rw[cT];rfl
theorem SH:(" is no name" :Str).length=11:=by rw[cT];rfl
theorem S0:(" is no whole number from " :Str).length=25:=by rw[cT];rfl
theorem RW:(" on" :Str).length=3:=by rw[cT];rfl
theorem RV:("end" :Str).length=3:=by rw[cT];rfl
theorem TR:("abcdefghijklmnopqrstuvwxyz" :Str).length=26:=by rw[cT];rfl
theorem SV:("a" :Str).length=1:=by rw[cT];rfl
theorem TQ:("z" :Str).length=1:=by rw[cT];rfl
abbrev aGZ:List Str:=["targets","spare","arcs","house","turn","outs","cuts","net","source","pair_nodes","door_arcs","plenty","name","start","end","wide","since","until","every","bits","letting","first","last","sizes","people","named_doors"]
structure DCls(K:W.Frag)(C:Addr):Prop where
 ic:ICls K C
 nf:noF K C aGZ=true
variable {K:W.Frag}{C CH CHo CN F PL a c cL dx hn p p1 p2 p3 q:Addr}
theorem DCls.n_targets(d:DCls K C):NoAttr K C "targets" :=cE d.nf 0 rfl
theorem DCls.n_spare(d:DCls K C):NoAttr K C "spare" :=cE d.nf 1 rfl
theorem DCls.n_arcs(d:DCls K C):NoAttr K C "arcs" :=cE d.nf 2 rfl
theorem DCls.n_house(d:DCls K C):NoAttr K C "house" :=cE d.nf 3 rfl
theorem DCls.n_turn(d:DCls K C):NoAttr K C "turn" :=cE d.nf 4 rfl
theorem DCls.n_outs(d:DCls K C):NoAttr K C "outs" :=cE d.nf 5 rfl
theorem DCls.n_cuts(d:DCls K C):NoAttr K C "cuts" :=cE d.nf 6 rfl
theorem DCls.n_net(d:DCls K C):NoAttr K C "net" :=cE d.nf 7 rfl
theorem DCls.n_source(d:DCls K C):NoAttr K C "source" :=cE d.nf 8 rfl
theorem DCls.n_pair_nodes(d:DCls K C):NoAttr K C "pair_nodes" :=cE d.nf 9 rfl
theorem DCls.n_door_arcs(d:DCls K C):NoAttr K C "door_arcs" :=cE d.nf 10 rfl
theorem DCls.n_plenty(d:DCls K C):NoAttr K C "plenty" :=cE d.nf 11 rfl
theorem DCls.n_name(d:DCls K C):NoAttr K C "name" :=cE d.nf 12 rfl
theorem DCls.n_start(d:DCls K C):NoAttr K C "start" :=cE d.nf 13 rfl
theorem DCls.n_end(d:DCls K C):NoAttr K C "end" :=cE d.nf 14 rfl
theorem DCls.n_wide(d:DCls K C):NoAttr K C "wide" :=cE d.nf 15 rfl
theorem DCls.n_since(d:DCls K C):NoAttr K C "since" :=cE d.nf 16 rfl
theorem DCls.n_until(d:DCls K C):NoAttr K C "until" :=cE d.nf 17 rfl
theorem DCls.n_every(d:DCls K C):NoAttr K C "every" :=cE d.nf 18 rfl
theorem DCls.n_bits(d:DCls K C):NoAttr K C "bits" :=cE d.nf 19 rfl
theorem DCls.n_letting(d:DCls K C):NoAttr K C "letting" :=cE d.nf 20 rfl
theorem DCls.n_first(d:DCls K C):NoAttr K C "first" :=cE d.nf 21 rfl
theorem DCls.n_last(d:DCls K C):NoAttr K C "last" :=cE d.nf 22 rfl
theorem DCls.n_sizes(d:DCls K C):NoAttr K C "sizes" :=cE d.nf 23 rfl
theorem DCls.n_people(d:DCls K C):NoAttr K C "people" :=cE d.nf 24 rfl
theorem DCls.n_named_doors(d:DCls K C):NoAttr K C "named_doors" :=cE d.nf 25 rfl
set_option genInjectivity false in set_option genSizeOf false in structure M (K:W.Frag) (mg:Str->Option Value) where
 yH:Addr
 qZ:FX K "added_up" "added_up" x8 ["plan"] yH
 AO:Addr
 uT:FX K "as_told" "as_told" AJ ["plan"] AO
 jW:Addr
 fW:FX K "rows_that_count" "rows_that_count" jM ["house","plan"] jW
 EF:Addr
 yG:FX K "out_by" "out_by" DE ["house","plan","turn"] EF
 IA:Addr
 BT:FX K "spent" "spent" F6 ["house","plan"] IA
 sW:Addr
 mR:FX K "filled_net" "filled_net" rS ["house"] sW
 vC:Addr
 oX:FX K "first_out" "first_out" u3 ["house"] vC
 AS:Addr
 uR:FX K "most_by" "most_by" zU ["house","turn"] AS
 AR:Addr
 uU:FX K "all_out" "all_out" zF ["house"] AR
 yL:Addr
 rA:FX K "leads_on" "leads_on" wT ["house","door","turn","saved"] yL
 OS:Addr
 F0:FX K "lost" "lost" N2 ["house"] OS
 yE:Addr
 q0:FX K "is_whole" "is_whole" xP ["thing"] yE
 AU:Addr
 uV:FX K "is_name" "is_name" z6 ["thing"] AU
 vG:Addr
 oW:FX K "need_name" "need_name" u4 ["part","thing"] vG
 tJ:Addr
 mU:FX K "need_whole" "need_whole" sU ["part","thing","least"] tJ
 tI:Addr
 mN:FX K "need_turns" "need_turns" rR ["first","last"] tI
 k5:Addr
 g9:FX K "need_each_once" "need_each_once" kN ["names"] k5
 jS:Addr
 fX:FX K "rooms_spoken_of" "rooms_spoken_of" jK ["doors","people"] jS
 tL:Addr
 mJ:FX K "need_rooms" "need_rooms" sQ ["names","sizes"] tL
 oH:Addr
 jD:FX K "added_people" "added_people" m3 ["sizes","people"] oH
 tG:Addr
 mP:FX K "need_space" "need_space" sN ["sizes","people"] tG
 oP:Addr
 jF:FX K "_law_cell_at" "_law_cell_at" nY ["_law_script","_law_k"] oP
 tE:Addr
 mG:FX K "_law_mixed" "_law_mixed" sI ["_law_cell","_law_k"] tE
 u8:Addr
 oY:FX K "_law_name" "_law_name" uY ["_law_cell","_law_k"] u8
 sZ:Addr
 mY:FX K "_law_rooms" "_law_rooms" rZ ["_law_cells"] sZ
 vE:Addr
 oU:FX K "_law_spec" "_law_spec" uW ["_law_cell","_law_k","_law_rooms_here","_law_turns"] vE
 vA:Addr
 eO:gy
 oV:FunV K "_law_door" "_law_door" eM vA eO
 P5:Binds K eO ["_law_spec_here"] []
 pY:Addr
 kJ:FX K "_law_digits" "_law_digits" pN ["_law_cell","_law_bases"] pY
 jV:Addr
 fY:FX K "_law_rooms_told" "_law_rooms_told" jN ["_law_cells"] jV
 lB:Addr
 g7:FX K "_law_spec_told" "_law_spec_told" kT ["_law_cell","_law_k","_law_rooms_here","_law_turns"] lB
 jR:Addr
 fZ:FX K "_law_drawn_told" "_law_drawn_told" jO ["_law_script"] jR
 tQ:Addr
 mH:FX K "_law_drawn" "_law_drawn" sL ["_law_script"] tQ
 tD:Addr
 mX:FX K "_law_house" "_law_house" rL ["_law_rooms_here","_law_specs","_law_turns"] tD
 oM:Addr
 jG:FX K "_law_renamed" "_law_renamed" nN ["_law_cell","_law_rooms_here","_law_specs"] oM
 UG:Addr
 UE:gy
 aGK:FunV K "law" "law" uF UG UE
 aG9:Binds K UE ["_law_script"] []
 oA:Addr
 oO:FX K "__init__" "Net.__init__" nK ["self"] oA
 oG:Addr
 oJ:FX K "new_node" "Net.new_node" nI ["self"] oG
 pV:Addr
 pW:FX K "new_arc" "Net.new_arc" pU ["self","start","target","most"] pV
 yI:Addr
 yD:FX K "sent" "Net.sent" xC ["self","arc"] yI
 mL:Addr
 mQ:FX K "ways_from" "Net.ways_from" mB ["self","source"] mL
 qF:Addr
 qK:FX K "path_to" "Net.path_to" pI ["self","ways","node"] qF
 k8:Addr
 kY:FX K "send_along" "Net.send_along" kP ["self","path"] k8
 oI:Addr
 oB:FX K "send_all" "Net.send_all" nW ["self","source","sink"] oI
 iP:Addr
 iM:FX K "__init__" "HouseNet.__init__" iI ["self","house"] iP
 jX:Addr
 jU:FX K "now_in" "HouseNet.now_in" jH ["self","room"] jX
 iK:Addr
 iL:FX K "add_door" "HouseNet.add_door" iJ ["self","door","target"] iK
 iN:Addr
 iO:FX K "send_out" "HouseNet.send_out" iG ["self"] iN
 eV:Addr
 eW:FX K "reached_pairs" "HouseNet.reached_pairs" eR ["self"] eV
 fS:Addr
 fU:FX K "new_entries" "HouseNet.new_entries" fO ["self"] fS
 k7:Addr
 kZ:FX K "go_on" "HouseNet.go_on" kU ["self"] k7
 fT:Addr
 fV:FX K "keep_others" "HouseNet.keep_others" fN ["self"] fT
 mO:Addr
 mW:FX K "rows" "HouseNet.rows" lU ["self"] mO
 iR:Addr
 fM:gy
 mM:FunV K "__init__" "Door.__init__" fJ iR fM
 uS:Binds K fM ["self","name","start","end","wide"] []
 vH:Addr
 vB:FX K "lets" "Door.lets" u5 ["self","turn"] vH
 c8:Addr
 c9:FX K "is_exit" "Door.is_exit" nH ["self"] c8
 lC:Addr
 lA:FX K "__init__" "Since.__init__" kM ["self","name","start","end","wide","since"] lC
 tO:Addr
 tS:FX K "lets" "Since.lets" rW ["self","turn"] tO
 lD:Addr
 kX:FX K "__init__" "Until.__init__" kQ ["self","name","start","end","wide","until"] lD
 sX:Addr
 tK:FX K "lets" "Until.lets" rO ["self","turn"] sX
 mI:Addr
 iQ:gy
 FU:FunV K "__init__" "Beat.__init__" fF mI iQ
 FS:Binds K iQ ["self","name","start","end","wide","every","since"] []
 u9:Addr
 vF:FX K "lets" "Beat.lets" uX ["self","turn"] u9
 jY:Addr
 jZ:FX K "__init__" "Marked.__init__" jQ ["self","name","start","end","wide","bits"] jY
 pX:Addr
 qD:FX K "lets" "Marked.lets" pR ["self","turn"] pX
 mV:Addr
 mT:FX K "__init__" "Told.__init__" lN ["self","name","start","end","letting"] mV
 vD:Addr
 u7:FX K "lets" "Told.lets" u6 ["self","turn"] vD
 k6:Addr
 g8:gy
 EA:FunV K "__init__" "House.__init__" eU k6 g8
 EC:Binds K g8 ["self","rooms","doors","people","last","first"] []
 qC:Addr
 qH:FX K "rooms" "House.rooms" pG ["self"] qC
 qA:Addr
 qE:FX K "doors" "House.doors" pK ["self"] qA
 jT:Addr
 j6:FX K "need_room" "House.need_room" jP ["self","room"] jT
 qM:Addr
 pZ:FX K "holds" "House.holds" pO ["self","room"] qM
 qB:Addr
 qJ:FX K "found" "House.found" pJ ["self","room"] qB
 tN:Addr
 tF:FX K "door" "House.door" rV ["self","name"] tN
 tP:Addr
 tH:FX K "lets" "House.lets" rX ["self","name","turn"] tP
 qI:Addr
 qG:FX K "total" "House.total" pF ["self"] qI
 UF:mg "added_up" =some (.ref yH)
 YD:mg "as_told" =some (.ref AO)
 CK:mg "rows_that_count" =some (.ref jW)
 aAS:mg "out_by" =some (.ref EF)
 aDR:mg "spent" =some (.ref IA)
 OR:mg "filled_net" =some (.ref sW)
 P4:mg "first_out" =some (.ref vC)
 X7:mg "most_by" =some (.ref AS)
 YB:mg "all_out" =some (.ref AR)
 UI:mg "leads_on" =some (.ref yL)
 aFT:mg "lost" =some (.ref OS)
 UH:mg "is_whole" =some (.ref yE)
 YC:mg "is_name" =some (.ref AU)
 P3:mg "need_name" =some (.ref vG)
 OU:mg "need_whole" =some (.ref tJ)
 OM:mg "need_turns" =some (.ref tI)
 ED:mg "need_each_once" =some (.ref k5)
 CJ:mg "rooms_spoken_of" =some (.ref jS)
 ON:mg "need_rooms" =some (.ref tL)
 HY:mg "added_people" =some (.ref oH)
 OP:mg "need_space" =some (.ref tG)
 HZ:mg "_law_cell_at" =some (.ref oP)
 OJ:mg "_law_mixed" =some (.ref tE)
 P2:mg "_law_name" =some (.ref u8)
 OO:mg "_law_rooms" =some (.ref sZ)
 PY:mg "_law_spec" =some (.ref vE)
 P0:mg "_law_door" =some (.ref vA)
 KL:mg "_law_digits" =some (.ref pY)
 CO:mg "_law_rooms_told" =some (.ref jV)
 EH:mg "_law_spec_told" =some (.ref lB)
 CP:mg "_law_drawn_told" =some (.ref jR)
 OL:mg "_law_drawn" =some (.ref tQ)
 OT:mg "_law_house" =some (.ref tD)
 ID:mg "_law_renamed" =some (.ref oM)
 aG8:mg "law" =some (.ref UG)
 AV:∃ds,Vals [.int 1] ds/\Binds K fM ["self","name","start","end","wide"] ds
 X9:∃ds,Vals [.non,.int 1] ds/\Binds K fM ["self","name","start","end","wide"] ds
 YA:∃ds,Vals [.int 0] ds/\Binds K iQ ["self","name","start","end","wide","every","since"] ds
 UJ:∃ds,Vals [.int 0] ds/\Binds K g8 ["self","rooms","doors","people","last","first"] ds
 aV:Addr
 aGL:mg "Net" =some (.ref aV)
 aQ:Addr
 UD:mg "HouseNet" =some (.ref aQ)
 iE:Addr
 OQ:mg "Door" =some (.ref iE)
 jC:Addr
 aDV:mg "Since" =some (.ref jC)
 jE:Addr
 aDS:mg "Until" =some (.ref jE)
 mK:Addr
 aFW:mg "Beat" =some (.ref mK)
 g6:Addr
 aAQ:mg "Marked" =some (.ref g6)
 mS:Addr
 aFY:mg "Told" =some (.ref mS)
 aM:Addr
 aDU:mg "House" =some (.ref aM)
 cJ:DCls K aV
 aFX:Mk K aV oA
 FZ:Meth K aV "new_node" oG
 IE:Meth K aV "new_arc" pV
 P1:Meth K aV "sent" yI
 EB:Meth K aV "ways_from" mL
 HX:Meth K aV "path_to" qF
 CI:Meth K aV "send_along" k8
 FV:Meth K aV "send_all" oI
 bM:DCls K aQ
 PZ:Mk K aQ iP
 AT:Meth K aQ "now_in" jX
 yF:Meth K aQ "add_door" iK
 yJ:Meth K aQ "send_out" iN
 qY:Meth K aQ "reached_pairs" eV
 tY:Meth K aQ "new_entries" fS
 CM:Meth K aQ "go_on" k7
 tX:Meth K aQ "keep_others" fT
 D9:Meth K aQ "rows" mO
 v8:DCls K iE
 aDT:Mk K iE iR
 OV:Meth K iE "lets" vH
 FW:Meth K iE "is_exit" c8
 tM:DCls K jC
 aAR:Mk K jC lC
 KK:Meth K jC "lets" tO
 EE:Meth K jC "is_exit" c8
 sY:DCls K jE
 aAP:Mk K jE lD
 KN:Meth K jE "lets" sX
 EG:Meth K jE "is_exit" c8
 v9:DCls K mK
 aDQ:Mk K mK mI
 OK:Meth K mK "lets" u9
 FT:Meth K mK "is_exit" c8
 pE:DCls K g6
 X8:Mk K g6 jY
 IC:Meth K g6 "lets" pX
 CL:Meth K g6 "is_exit" c8
 wA:DCls K mS
 aDW:Mk K mS mV
 OW:Meth K mS "lets" vD
 FY:Meth K mS "is_exit" c8
 bJ:DCls K aM
 aAT:Mk K aM k6
 HV:Meth K aM "rooms" qC
 IB:Meth K aM "doors" qA
 AQ:Meth K aM "need_room" jT
 HS:Meth K aM "holds" qM
 HU:Meth K aM "found" qB
 KM:Meth K aM "door" tN
 KJ:Meth K aM "lets" tP
 HW:Meth K aM "total" qI
 dP:W.specialIn K (.ref iE) "__getattribute__" =some (some (.builtin "type.__getattribute__"))/\W.readsIn K iE (.type "type")=true/\W.findCls K (.ref iE) (.type "type") "__init__" =some (.val (.ref iR))
 yK:mg "sorted" =none
 F1:mg "sum" =none
 gL:mg "range" =none
 aBE:mg "any" =none
 kK:mg "len" =none
 K6:mg "min" =none
 tR:mg "isinstance" =none
 aGO:mg "int" =none
 aGM:mg "str" =none
 aGN:mg "all" =none
 aFU:mg "dict" =none
 YE:mg "list" =none
 aFV:mg "bool" =none
 oK:∃t:Tok,mg "LONGEST_NAME" =some (.int 8 t)
theorem gl_{G:Prop}(h:∀G':Prop,G'=G->G'):G:=h G rfl
set_option hygiene false
local macro_rules| `(tactic| tm_at"h")=> `(tactic| (intro vs H Q E h;cases h;subst_vars;rfl))
local macro_rules| `(tactic| tm_at"g")=> `(tactic| (intro cdv A outer s H vs Q E hr h;refine gl_ ?_;intro G_ hG_))
local macro_rules| `(tactic| tm_at"r")=> `(tactic| (refine gl_ ?_;intro G_ hG_))
local macro_rules| `(tactic| tm_at"f")=> `(tactic| subst hG_)
local macro_rules|`(tactic|obtain $p:rcasesPatMed:=$e:term)=>`(tactic|(tm_at"r";rcases $e:term with $p:rcasesPatMed<;>tm_at"f"))
local macro_rules| `(tactic| tm_at"e")=> `(tactic| try dsimp only[cxK,cxP,cxW,cxM,cxB])
set_option hygiene true
local macro_rules| `(tactic| tm_at"k")=> `(tactic| first|assumption|(refine' Same.at ?s ?h;(case s=>assumption);(case h=>tm_at"k"))|(refine' SqL.of ?h;(case h=>tm_at"k"))|(refine' SqT.of ?h;(case h=>tm_at"k"))|(refine' Same.seq ?s ?h;(case s=>assumption);(case h=>tm_at"k"))|(refine' Same.sqT ?s ?h;(case s=>assumption);(case h=>tm_at"k")))
local macro_rules| `(tactic| tm_at"q")=> `(tactic| first|assumption|exact Same.refl _|(refine' Same.snoc ?s ?h;(case s=>assumption);(case h=>tm_at"q")))
local macro_rules| `(tactic| tm_at"m")=> `(tactic| first|assumption|exact SameBut.refl|(refine' SameBut.snoc ?s ?h;(case s=>assumption);(case h=>tm_at"m"))|(refine' SameBut.snocS ?s ?h;(case s=>assumption);(case h=>tm_at"m")))
local macro_rules| `(tactic| tm_at"i")=> `(tactic| first|assumption|(with_reducible exact XX)|(with_reducible exact aCW)|(refine' aGd ?d ?h;(case d=>decide +kernel);(case h=>tm_at"i"))|exact XX)
local macro_rules| `(tactic| tm_at"p")=> `(tactic| first|with_reducible assumption|lia|omega|(simp only[uZ,GF,YI,aAp,aAN,ZZ,Y8,aAh,Y2,YW,aAK,Z5,R8,SK,SH,S0,RW,RV,TR,SV,TQ,sizeLine_eq,bb,oa,ao,ae];done)|(simp only[uZ,GF,YI,aAp,aAN,ZZ,Y8,aAh,Y2,YW,aAK,Z5,R8,SK,SH,S0,RW,RV,TR,SV,TQ,sizeLine_eq,bb,oa,ao,ae];omega)|(simp only[uZ,GF,YI,aAp,aAN,ZZ,Y8,aAh,Y2,YW,aAK,Z5,R8,SK,SH,S0,RW,RV,TR,SV,TQ,sizeLine_eq,bb,oa,ao,ae]at *;omega))
local macro_rules| `(tactic| tm_at"j")=> `(tactic| first|with_reducible assumption|lia|omega|decide)
local macro_rules| `(tactic| tm_at"o")=> `(tactic| first|((with_reducible refine ICls.cl (DCls.ic ?_));assumption)|((with_reducible refine DCls.ic ?_);assumption)|((with_reducible refine DCls.n_targets ?_);assumption)|((with_reducible refine DCls.n_spare ?_);assumption)|((with_reducible refine DCls.n_arcs ?_);assumption)|((with_reducible refine DCls.n_house ?_);assumption)|((with_reducible refine DCls.n_turn ?_);assumption)|((with_reducible refine DCls.n_outs ?_);assumption)|((with_reducible refine DCls.n_cuts ?_);assumption)|((with_reducible refine DCls.n_net ?_);assumption)|((with_reducible refine DCls.n_source ?_);assumption)|((with_reducible refine DCls.n_pair_nodes ?_);assumption)|((with_reducible refine DCls.n_door_arcs ?_);assumption)|((with_reducible refine DCls.n_plenty ?_);assumption)|((with_reducible refine DCls.n_name ?_);assumption)|((with_reducible refine DCls.n_start ?_);assumption)|((with_reducible refine DCls.n_end ?_);assumption)|((with_reducible refine DCls.n_wide ?_);assumption)|((with_reducible refine DCls.n_since ?_);assumption)|((with_reducible refine DCls.n_until ?_);assumption)|((with_reducible refine DCls.n_every ?_);assumption)|((with_reducible refine DCls.n_bits ?_);assumption)|((with_reducible refine DCls.n_letting ?_);assumption)|((with_reducible refine DCls.n_first ?_);assumption)|((with_reducible refine DCls.n_last ?_);assumption)|((with_reducible refine DCls.n_sizes ?_);assumption)|((with_reducible refine DCls.n_people ?_);assumption)|((with_reducible refine DCls.n_named_doors ?_);assumption))
local macro_rules| `(tactic| tm_at"l")=> `(tactic| first|(with_reducible first|refine aEn ?_|refine aE5 ?_|refine aG0 ?_|refine aGr ?_|refine aF5 ?_|refine aGb ?_|refine aGy ?_|refine aGk ?_|refine aGh ?_|refine aGc ?_|refine aGC ?_|refine aF2 ?_|refine aGu ?_|refine aGi ?_|refine aEr ?_|refine aFG ?_|refine aDs ?_|refine aEV ?_|refine aGf ?_|refine aGB ?_|refine aDd ?_|refine aF3 ?_|refine aFP ?_|refine aCY ?_|refine aGm ?_|refine aFc ?_|refine aF1 ?_|refine K9 ?_|refine NG ?_|refine aCk ?_|refine aB8 ?_|refine aGo ?_|refine aGI ?_|refine aGs ?_|refine aGD ?_|refine aGF ?_|refine aGq ?_|refine aGg ?_|refine aF4 ?_|refine aGz ?_|refine aF6 ?_|refine aFC ?_|refine aEk ?_|refine aFL ?_|refine aCi ?_|refine aCr ?_|refine aEH ?_|refine aEA ?_|refine aF8 ?_|refine aDv ?_|refine aED ?_|refine aEm ?_|refine Z7 ?_|refine aGj ?_|refine aGU ?_|refine aEQ ?_|refine aER ?_|refine aFt ?_|refine aCD ?_|refine aDj ?_|refine aCq ?_|refine aB2 ?_|refine aFE ?_|refine aEO ?_|refine aCA ?_|refine aB5 ?_|refine aCI ?_|refine aGE ?_|refine aF7 ?_|refine aEF ?_|refine aDD ?_|refine aDt ?_|refine WJ ?_|refine aDF ?_|refine aEW ?_|refine aCG ?_|refine Y6 ?_|refine aEY ?_|refine aAL ?_|refine Z8 ?_|refine ZL ?_|refine aFx ?_)|((with_reducible refine' aE9 ?s ?_);(case s=>decide))|((with_reducible refine' aDx ?s ?_);(case s=>tm_at"j");intro h0' h1')|((with_reducible refine' aD3 ?s ?r ?_);(case s=>tm_at"j");(case r=>tm_at"j"))|((with_reducible refine' aB0 ?s ?r ?_);(case s=>tm_at"j");(case r=>tm_at"j"))|((with_reducible refine' aDn ?s ?r ?_);(case s=>tm_at"j");(case r=>tm_at"j"))|((with_reducible refine' aCL ?s ?_);(case s=>tm_at"p");intro p' H' n' S' e')|((with_reducible refine' aCy ?s ?_);(case s=>tm_at"p");intro p' H' n' S' e')|((with_reducible refine aDH ?_);intro p' H' n' S' e')|((with_reducible refine' aCE ?e ?c ?n ?l ?_);(case e=>tm_at"k");(case c=>tm_at"o");(case n=>tm_at"o");(case l=>tm_at"i"))|((with_reducible refine' aAg ?e ?c ?n ?l ?_);(case e=>tm_at"k");(case c=>tm_at"o");(case n=>tm_at"o");(case l=>kernel_rfl);intro H' B' e')|((with_reducible refine' aD1 ?e ?l ?F ?_);(case e=>tm_at"k");(case l=>tm_at"i");(case F=>assumption))|((with_reducible refine' aET ?e ?l ?_);(case e=>tm_at"k");(case l=>rfl))|((with_reducible refine' aB7 ?e ?s ?r ?_);(case e=>tm_at"k");(case s=>tm_at"j");(case r=>tm_at"j");intro v' hv')|((with_reducible refine' DC ?e ?l ?_);(case e=>tm_at"k");(case l=>rfl);intro H' B' e')|((with_reducible refine' aDi ?e ?_);(case e=>tm_at"k"))|((with_reducible refine' aB1 ?e ?_);(case e=>tm_at"p"))|((with_reducible refine' aEJ ?e ?_);(case e=>tm_at"k");intro p' H' n' S' e')|((with_reducible refine' XS ?e ?_);(case e=>tm_at"k");intro p' H' n' S' e')|((with_reducible refine' aCR ?e ?f ?s ?_);(case e=>tm_at"k");(case f=>tm_at"k");(case s=>tm_at"p");intro p' H' n' S' e')|((with_reducible refine' aFb ?e ?_);(case e=>tm_at"k"))|((with_reducible refine' IO ?e ?_);(case e=>tm_at"k"))|((with_reducible refine' VJ ?s ?r ?_);(case s=>tm_at"j");(case r=>tm_at"j"))|((with_reducible refine' VY ?s ?r ?t ?u ?_);(case s=>tm_at"j");(case r=>tm_at"j");(case t=>tm_at"j");(case u=>tm_at"j"))|((with_reducible refine' aAf ?e ?l ?_);(case e=>tm_at"k");(case l=>rfl))|((with_reducible refine' aBF ?e ?l ?_);(case e=>tm_at"k");(case l=>rfl))|((with_reducible refine' aFe ?s ?_);(case s=>tm_at"j"))|((with_reducible refine' aB3 ?s ?_);(case s=>tm_at"j"))|((with_reducible refine' aCz ?s ?_);(case s=>tm_at"j")))
local macro_rules| `(tactic| tm_at"a")=> `(tactic| repeat tm_at"l")
local macro_rules| `(tactic| tm_at"n")=> `(tactic| repeat ((fail_if_success (with_reducible refine YH ?_));tm_at"l"))
local macro_rules| `(tactic| tm_at"s")=> `(tactic| repeat first|exact nn_nil|refine nn_app ?_ ?_|refine nn_cons (by omega) ?_|exact nn_map (λn=>by omega))
variable {H H' H1:Hp}{Q rt:VK}{cell f i i0 i1 l pl wd:Int}{nm part qual x y z:Str}{α β:Type}{cv dvs us vs ws xs:List V}{kL:Option Nat}{dv v:V}{ps rz:List (Str×Int)}{kvs nk:List (Key×V)}{rows:List bQ}{j n:Nat}{fd:gy}{sc:rm}{args:tm}{body:Expr}{o1 o2 os outs s1 s2 sp' ts ts':List Int}{as as':List (List Int)}{tb:TS}{ct nx:St->Hp->Prop}{σ:St}{X:Cx}{dk pk:List (List Key×V)}{pn:Str->Nat}{tv:TE}{rd:V->V->Hp->VK->Prop}{w:gx}{mg:Str->Option ak}
section
variable {P:gd}{w:gx}{K:W.Frag}{mg:Str->Option ak}{base:Heap}
def aFl:V->Bool
 | .int _=>true
 | _=>false
def DV(K:W.Frag):Sp:=λvs H Q _=>∃x n,vs=[x]/\BTy K H x n/\Q (.bl (aFl x)) H
theorem ZC{E:XK}(h:Q (.bl true) H):DV K [.int i] H Q E:=⟨_,_,rfl,.int i,h⟩
theorem PQ(m:M K mg):FnOk P w K mg base CX0 1 m.yE m.q0.d ["thing"] (DV K):=by
 refine m.q0.F.ok aIu (λvs H Q E h=> ?_) (λcdv A outer s H vs Q E hr h=> ?_)
 .obtain⟨x,n,rfl,b,k⟩:=h;rfl
 .obtain⟨x,n,rfl,b,k⟩:=h;have nd:=aIu.nd;tm_at"d";refine⟨_,(aE (aS (NH (bL DY rfl m.tR pP (aA (pv 0) (aA (UC rfl m.aGO aEX) aC))) (ES (aFg (bL DY rfl m.tR pP (aA (pv 0) (aA (UC rfl m.aFV aCZ) aC)))))))),?_⟩;refine aJ (σ:=[some (x)]) rfl ?_;tm_at"e";refine⟨_,rfl,_,_,_,_,_,rfl,b.ty,rfl,TK b "int" (.inl rfl),_,rfl,?_⟩;refine HQ (λh1=>⟨_,rfl,_,_,_,_,_,rfl,b.ty,rfl,TK b "bool" (.inr (.inl rfl)),_,rfl,?_⟩) (λh1=> ?_)
  .cases b<;>first|exact k|exact absurd h1 (by decide)
  .cases b<;>first|exact k|exact absurd (by decide) h1
theorem OX(m:M K mg):Fc P w K mg base "is_whole" 1 ["thing"] (DV K):=⟨_,_,m.UH,m.q0.F.kp,m.q0.b,PQ m⟩
def nmB:V->Bool
 | .str z=>bD z
 | _=>false
def F3(K:W.Frag):Sp:=λvs H Q _=>∃x n,vs=[x]/\BTy K H x n/\(∀z,x= .str z->z.length<=1000)/\∀H',Same H H'->Q (.bl (nmB x)) H'
theorem aBI{E:XK}(hz:bD z=true)(h:∀H',Same H H'->Q (.bl true) H'):F3 K [.str z] H Q E :=
 ⟨_,_,rfl,.str z,λy e=>by cases e;exact dy (XL hz) (by decide),λH' s=>by rw[show nmB (.str z)=true from hz];exact h H' s⟩
theorem le1(a c:Nat):(!decide ([c]<[a]))=decide (a<=c):=by
 have:([c]<[a])↔c<a:=by
  constructor
  .intro h;cases h with
   | rel h=>exact h
   | cons h=>cases h
  .exact λh=> .rel h
 by_cases h:c<a
 .rw[decide_eq_true (this.mpr h),decide_eq_false (by lia)];rfl
 .rw[decide_eq_false (λz=>h (this.mp z)),decide_eq_true (by lia)];rfl
theorem aF9:("a" :Str).cps.toList=[97]:=by decide +kernel
theorem aGl:("z" :Str).cps.toList=[122]:=by decide +kernel
theorem JI(p:α->Bool)(d:α):∀l:List α,((el l.length).map λi=>p (l.getD i d)).all id=l.all p
 | []=>rfl
 | a::l=>by
  rw[bb,ox,bo,lq,bw,lq,←JI p d l];rfl
theorem ZQ{o:HO}(h:H p=none):Same H (upd H p o):=λb u e=>by rw[aI (bA e h)];exact e
theorem R6(m:M K mg):FnOk P w K mg base CX0 1 m.AU m.uV.d ["thing"] (F3 K):=by
 refine m.uV.F.ok aIE (λvs H Q E h=> ?_) (λcdv A outer s H vs Q E hr h=> ?_)
 .obtain⟨x,n,rfl,b,hz,k⟩:=h;rfl
 .obtain⟨x,n,rfl,b,hz,k⟩:=h;have nd:=aIE.nd;tm_at"d";rcases m.oK with⟨aI5,oK⟩;refine⟨_,(aB (b8 (AF (kA (bL DY rfl m.tR pP (aA (pv 0) (aA (UC rfl m.aGM aE1) aC))))) (aE (aS A8)) bK)
   (aE (aS (NH (NI R3 R3 aD (bL XW rfl m.kK hZ (aA (pv 0) aC)) (aDA rfl oK)) (ES (bL (Y0 rfl) rfl m.aGN aFj (aA (dG (N:=["sign"]) (nl:=1) (ci:=[]) rfl (blk (s.heap.objs.size+1) rfl rfl rfl (by kernel_rfl)) (aFm (pv 0)) (λ_ _ _ _=>(aL (i:=0) (show (["sign"]:List Str).Nodup by decide +kernel) rfl (by tm_at"b"))) (λ_ _ _ _=>dI) (λ_ _ _ _=>(NI V9 V9 fK (pv 0) fK))) aC))))))),?_⟩
  refine aJ (σ:=[some (x)]) rfl ?_;tm_at"e";refine⟨_,rfl,_,_,_,_,_,rfl,b.ty,rfl,TK b "str" (.inr (.inr rfl)),_,rfl,?_⟩;refine HQ (λh1=> ?_) (λh1=> ?_)
  .show Q (.bl false) H;cases b<;>first|exact k H (Same.refl H)|exact absurd h1 (by decide)
  .have hs:∃z,x= .str z:=by
    cases b<;>first|exact⟨_,rfl⟩|exact absurd (by decide) h1
   rcases hs with⟨z,rfl⟩;have hl:=hz z rfl;have hl':z.length<=sizeLine:=mq (WX hl);refine⟨_,rfl,z,rfl,hl',_,_,rfl,rfl,_,rfl,?_⟩;refine HQ (λh2=>⟨_,_,rfl,rfl,_,rfl,?_⟩) (λh2=>⟨_,rfl,?_⟩)
   .refine HQ (λh3=> ?_) (λh3=> ?_)
    .refine⟨_,rfl,z,rfl,?_⟩;refine aCH z.cps.size (λi=> .bl (sgB (z.cps.toList.getD i 0))) hl' (λH'=>H'=H) rfl (λ_ _=>rfl) (λi _ hi _=>hi) ?_ ?_ ?_ ?_ ?_
     .rintro i _ x H' hi rfl hq_;obtain⟨rfl,c,hc,rfl⟩:=hq_;refine⟨⟨rfl,λj v hv=> ?_⟩,rfl,?_⟩
      .match j,hv with
       | 0,hv=>cases hv
       | j+1,hv=>cases hv
      .have hc':z.cps.toList.getD i 0=c:=by
        rw[au,Array.getElem?_toList,hc];rfl
       refine⟨_,rfl,_,_,rfl,rfl,_,rfl,?_⟩;rw[aF9,hc'];refine HQ (λh4=>⟨_,_,rfl,rfl,?_,rfl⟩) (λh4=>⟨?_,rfl⟩)
       .have h4':97<=c:=by rw[show (⟨#[c]⟩:Str).cps.toList=[c] from rfl,le1]at h4;exact of_decide_eq_true h4
        rw[aGl,show (⟨#[c]⟩:Str).cps.toList=[c] from rfl,le1];unfold sgB;rw[decide_eq_true h4',lu]
       .have h4':¬97<=c:=by rw[show (⟨#[c]⟩:Str).cps.toList=[c] from rfl,le1]at h4;exact λz=>h4 (decide_eq_true z)
        unfold sgB;rw[decide_eq_false h4',kf]
     .exact λ_ _ _ _ f q=>f _ _ q
     .rintro σ H Q Q' f hq_;obtain⟨v,e,i,j,e1,e2,k,e3,q⟩:=hq_;refine⟨v,e,i,j,e1,e2,k,e3,?_⟩;revert q
      split
      .rintro hq_;obtain⟨i,j,e1,e2,q⟩:=hq_;exact⟨i,j,e1,e2,f _ _ q⟩
      .exact λq=>f _ _ q
     .exact λ_ _ _ _ _ f q=>f _ _ q
     .rintro _ rfl p hp;refine⟨p,(el z.cps.size).map (λi=>sgB (z.cps.toList.getD i 0)),rfl,SqL.of ?_,?_⟩
      .rw[aR,bw];rfl
      .have e:=JI sgB 0 z.cps.toList;rw[gf]at e;rw[e];have e2:nmB (.str z)=z.cps.toList.all sgB:=by
        show bD z=_;unfold bD;rw[show decide (1<=(z.length:Int))=true from h2,show decide ((z.length:Int)<=8)=true from h3];rfl
       rw[←e2];exact k _ (ZQ hp)
    .have e2:nmB (.str z)=false:=by
      show bD z=_;unfold bD;rw[show decide ((z.length:Int)<=8)=false from by simpa using h3];simp
     have:=k H (Same.refl H);rw[e2]at this;exact this
   .have e2:nmB (.str z)=false:=by
     show bD z=_;unfold bD;rw[show decide (1<=(z.length:Int))=false from by simpa using h2];simp
    have:=k H (Same.refl H);rw[e2]at this;exact this
theorem RT(m:M K mg):Fc P w K mg base "is_name" 1 ["thing"] (F3 K):=⟨_,_,m.YC,m.uV.F.kp,m.uV.b,R6 m⟩
local macro_rules| `(tactic| tm_at"l")=> `(tactic| first|(with_reducible refine ZC ?_)|((with_reducible refine' aBI ?s ?_);(case s=>assumption);intro H' S'))
inductive mF(K:W.Frag)(vs:List V)(H:Hp)(Q:VK)(E:XK):Prop
 | mk (part z:Str) (_:vs=[.str part,.str z]) (_:bD z=true) (_:∀H',Same H H'->Q .non H'):mF K vs H Q E
theorem PK{E:XK}(hz:bD z=true)(h:∀H',Same H H'->Q .non H'):mF K [.str part,.str z] H Q E:=⟨_,_,rfl,hz,h⟩
theorem N3(m:M K mg):FnOk P w K mg base CX0 2 m.vG m.oW.d ["part","thing"] (mF K):=by
 refine m.oW.F.ok aIl ?_ ?_;tm_at"h";tm_at"g";rcases h with⟨part,z,rfl,hz,k⟩;tm_at"f";have nd:=aIl.nd;tm_at"d";have aI3:= @RT P w K mg base m;refine⟨_,(aE (b8 (AF (kA (bI aI3 hr (aA (pv 1) aC)))) (aE gW) bK)),?_⟩;refine aJ (σ:=[some (.str part),some (.str z)]) rfl ?_;tm_at"e";tm_at"a";exact k _ (by tm_at"q")
theorem LW(m:M K mg):Fc P w K mg base "need_name" 2 ["part","thing"] (mF K):=⟨_,_,m.P3,m.oW.F.kp,m.oW.b,N3 m⟩
inductive kG(K:W.Frag)(vs:List V)(H:Hp)(Q:VK)(E:XK):Prop
 | mk (part:Str) (i l:Int) (_:vs=[.str part,.int i,.int l]) (_:l<=i) (_:Q .non H):kG K vs H Q E
theorem NC{E:XK}(hz:l<=i)(h:Q .non H):kG K [.str part,.int i,.int l] H Q E:=⟨_,_,_,rfl,hz,h⟩
theorem JW(m:M K mg):FnOk P w K mg base CX0 2 m.tJ m.mU.d ["part","thing","least"] (kG K):=by
 refine m.mU.F.ok aH6 ?_ ?_;tm_at"h";tm_at"g";rcases h with⟨part,i,l,rfl,hz,k⟩;tm_at"f";have nd:=aH6.nd;tm_at"d";have aIU:= @OX P w K mg base m;refine⟨_,(aE (b8 (PW.pt (KW (AF (kA (bI aIU hr (aA (pv 1) aC)))) (EN (bB kF (pv 1) (pv 2) (bG _))))) (aE gW) bK)),?_⟩;refine aJ (σ:=[some (.str part),some (.int i),some (.int l)]) rfl ?_;tm_at"e";tm_at"a";exact k
theorem iC(m:M K mg):Fc P w K mg base "need_whole" 2 ["part","thing","least"] (kG K):=⟨_,_,m.OU,m.mU.F.kp,m.mU.b,JW m⟩
local macro_rules| `(tactic| tm_at"l")=> `(tactic| first|((with_reducible refine' PK ?s ?_);(case s=>assumption);intro H' S')|((with_reducible refine' NC ?s ?_);(case s=>tm_at"j")))
abbrev lL(n s e w:V):List (Str×V):=bT "wide" w (bT "end" e (bT "start" s (bT "name" n [])))
def dQ(e:V):Prop:=e= .non∨∃z,e= .str z/\bD z=true
inductive dW(K:W.Frag)(vs:List V)(H:Hp)(Q:VK)(E:XK):Prop
 | mk (p C dx:Addr) (n s:Str) (e:V) (wd:Int) (_:vs=[.ref p,.str n,.str s,e,.int wd]) (_:DCls K C) (_:H p=some (.ins C dx [])) (_:bD n=true) (_:bD s=true) (_:dQ e) (_:0<=wd) (_:∀H',SameBut p H H'->H' p=some (.ins C dx (lL (.str n) (.str s) e (.int wd)))->Q .non H'):dW K vs H Q E
theorem CV{E:XK}{n s:Str}{e:V}(dc:DCls K C)(hp:H p=some (.ins C dx []))(hn:bD n=true)(hs:bD s=true)(he:dQ e)(hw:0<=wd)
  (k:∀H',SameBut p H H'->H' p=some (.ins C dx (lL (.str n) (.str s) e (.int wd)))->Q .non H'):dW K [.ref p,.str n,.str s,e,.int wd] H Q E:=⟨_,_,_,_,_,_,_,rfl,dc,hp,hn,hs,he,hw,k⟩
theorem kW(m:M K mg):FnOk P w K mg base CX0 3 m.iR m.fM ["self","name","start","end","wide"] (dW K):=by
 refine m.mM.ok aHI ?_ ?_;tm_at"h";tm_at"g";rcases h with⟨p,C,dx,n,st,e,wd,rfl,dc,hp,hn,hs,he,hw,k⟩;tm_at"f";have nd:=aHI.nd;tm_at"d";have aHT:= @LW P w K mg base m;have aHd:= @iC P w K mg base m;refine⟨_,(aB (aY (bI aHT hr (aA fK (aA (pv 1) aC))))
  (aB (aY (bI aHT hr (aA fK (aA (pv 2) aC))))
  (aB (b8 (bB G7 (pv 3) pB (bG _)) (aE (aY (bI aHT hr (aA fK (aA (pv 3) aC))))) bK)
  (aB (aY (bI aHd hr (aA fK (aA (pv 4) (aA aD aC)))))
  (aB (cC (pv 0) (pv 1) rfl)
  (aB (cC (pv 0) (pv 2) rfl)
  (aB (cC (pv 0) (pv 3) rfl)
  (aE (cC (pv 0) (pv 4) rfl))))))))),?_⟩
 refine aJ (σ:=[some (.ref p),some (.str n),some (.str st),some (e),some (.int wd)]) rfl ?_;tm_at"e";rcases he with rfl|⟨z,rfl,hz⟩
 .tm_at"a";exact k _ (by tm_at"m") (by assumption)
 .tm_at"a";exact k _ (by tm_at"m") (by assumption)
theorem WY(m:M K mg):Kc P w K mg base "Door" m.iE 3 [] (dW K):=⟨_,_,_,_,m.OQ,m.aDT,.nil,m.uS,kW m⟩
theorem eY(m:M K mg):Dc P w K mg base "Door" "__init__" 3 (dW K):=⟨_,_,_,_,m.OQ,m.dP.1,m.dP.2.1,m.dP.2.2,m.mM.kp,m.uS,kW m⟩
theorem u0(m:M K mg):DcD P w K mg base "Door" "__init__" 3 [.int 1] (dW K):=by
 rcases m.AV with⟨ds,h1,h2⟩;exact⟨_,_,_,_,_,m.OQ,m.dP.1,m.dP.2.1,m.dP.2.2,m.mM.kp,h1,h2,kW m⟩
theorem YV{E:XK}{n s:Str}{e:V}(ev:vs++dvs=[.str n,.str s,e,.int wd])(dc:DCls K C)(hn:bD n=true)(hs:bD s=true)(he:dQ e)(hw:0<=wd)
  (k:∀p dx H',H p=none->Same H H'->H' p=some (.ins C dx (lL (.str n) (.str s) e (.int wd)))->Q (.ref p) H'):lX C (dW K) dvs E Q vs H :=
 m8 (λp dx H0 Q' h k' s0=>by rw[ev];exact CV dc h hn hs he hw k') k
local macro_rules| `(tactic| tm_at"l")=> `(tactic| ((with_reducible refine' YV ?v ?d ?hn ?hs ?he ?hw ?_);(case v=>rfl);(case d=>assumption);(case hn=>assumption);(case hs=>assumption);(case he=>first|assumption|exact .inl rfl|exact .inr ⟨_,rfl,by assumption⟩);(case hw=>tm_at"j");intro p' dx' H' n' S' e'))
inductive fB(K:W.Frag)(vs:List V)(H:Hp)(Q:VK)(E:XK):Prop
 | mk (p C dx:Addr) (fs:List (Str×V)) (e:V) (_:vs=[.ref p]) (_:DCls K C) (_:H p=some (.ins C dx fs)) (_:fs.lookup ("end" :Str)=some e) (_:Q (.bl (decide (e= .non))) H):fB K vs H Q E
theorem aDf{E:XK}{fs:List (Str×V)}(hp:H p=some (.ins C dx fs))(dc:DCls K C)(l:fs.lookup ("end" :Str)=some .non)(k:Q (.bl true) H):fB K [.ref p] H Q E:=⟨_,_,_,_,_,rfl,dc,hp,l,k⟩
theorem aCf{E:XK}{fs:List (Str×V)}(hp:H p=some (.ins C dx fs))(dc:DCls K C)(l:fs.lookup ("end" :Str)=some (.str z))(k:Q (.bl false) H):fB K [.ref p] H Q E :=
 ⟨_,_,_,_,_,rfl,dc,hp,l,by rw[decide_eq_false (λz=>by cases z)];exact k⟩
theorem d6(m:M K mg):FnOk P w K mg base CX0 1 m.c8 m.c9.d ["self"] (fB K):=by
 refine m.c9.F.ok aHR ?_ ?_;tm_at"h";tm_at"g";rcases h with⟨p,C,dx,fs,e,rfl,dc,hp,l,k⟩;tm_at"f";have nd:=aHR.nd;tm_at"d";refine⟨_,(aE (aS (vZ aFF (aH (pv 0) rfl) pB (bG _)))),?_⟩;refine aJ (σ:=[some (.ref p)]) rfl ?_;tm_at"e";tm_at"a";exact k
theorem FP(m:M K mg):Mc P w K mg base m.iE "is_exit" 1 (fB K):=⟨_,_,_,m.v8.ic.cl,m.FW,m.c9.b,d6 m⟩
theorem DA(m:M K mg):Mc P w K mg base m.jC "is_exit" 1 (fB K):=⟨_,_,_,m.tM.ic.cl,m.EE,m.c9.b,d6 m⟩
theorem DF(m:M K mg):Mc P w K mg base m.jE "is_exit" 1 (fB K):=⟨_,_,_,m.sY.ic.cl,m.EG,m.c9.b,d6 m⟩
theorem FA(m:M K mg):Mc P w K mg base m.mK "is_exit" 1 (fB K):=⟨_,_,_,m.v9.ic.cl,m.FT,m.c9.b,d6 m⟩
theorem CA(m:M K mg):Mc P w K mg base m.g6 "is_exit" 1 (fB K):=⟨_,_,_,m.pE.ic.cl,m.CL,m.c9.b,d6 m⟩
theorem FB(m:M K mg):Mc P w K mg base m.mS "is_exit" 1 (fB K):=⟨_,_,_,m.wA.ic.cl,m.FY,m.c9.b,d6 m⟩
local macro_rules| `(tactic| tm_at"l")=> `(tactic| first|((with_reducible refine' aDf ?e ?d ?l ?_);(case e=>tm_at"k");(case d=>assumption);(case l=>tm_at"i"))|((with_reducible refine' aCf ?e ?d ?l ?_);(case e=>tm_at"k");(case d=>assumption);(case l=>tm_at"i")))
inductive lO(K:W.Frag)(vs:List V)(H:Hp)(Q:VK)(E:XK):Prop
 | mk (p C dx:Addr) (fs:List (Str×V)) (t wd:Int) (_:vs=[.ref p,.int t]) (_:DCls K C) (_:H p=some (.ins C dx fs)) (_:fs.lookup ("wide" :Str)=some (.int wd)) (_:Q (.int wd) H):lO K vs H Q E
theorem OY{E:XK}{fs:List (Str×V)}{t:Int}(hp:H p=some (.ins C dx fs))(dc:DCls K C)(l:fs.lookup ("wide" :Str)=some (.int wd))(k:Q (.int wd) H):lO K [.ref p,.int t] H Q E:=⟨_,_,_,_,_,_,rfl,dc,hp,l,k⟩
theorem K7(m:M K mg):FnOk P w K mg base CX0 1 m.vH m.vB.d ["self","turn"] (lO K):=by
 refine m.vB.F.ok aIi ?_ ?_;tm_at"h";tm_at"g";rcases h with⟨p,C,dx,fs,t,wd,rfl,dc,hp,l,k⟩;tm_at"f";have nd:=aIi.nd;tm_at"d";refine⟨_,(aE (aS (aH (pv 0) rfl))),?_⟩;refine aJ (σ:=[some (.ref p),some (.int t)]) rfl ?_;tm_at"e";tm_at"a";exact k
theorem LC(m:M K mg):Mc P w K mg base m.iE "lets" 1 (lO K):=⟨_,_,_,m.v8.ic.cl,m.OV,m.vB.b,K7 m⟩
local macro_rules| `(tactic| tm_at"l")=> `(tactic| ((with_reducible refine' CV ?d ?e ?hn ?hs ?he ?hw ?_);(case d=>assumption);(case e=>tm_at"k");(case hn=>assumption);(case hs=>assumption);(case he=>assumption);(case hw=>tm_at"j");intro H' B' e'))
abbrev AX(n s e w i0:V):List (Str×V):=bT "since" i0 (lL n s e w)
inductive iD(K:W.Frag)(vs:List V)(H:Hp)(Q:VK)(E:XK):Prop
 | mk (p C dx:Addr) (n s:Str) (e:V) (wd i0:Int) (_:vs=[.ref p,.str n,.str s,e,.int wd,.int i0]) (_:DCls K C) (_:H p=some (.ins C dx [])) (_:bD n=true) (_:bD s=true) (_:dQ e) (_:0<=wd) (_:0<=i0) (_:∀H',SameBut p H H'->H' p=some (.ins C dx (AX (.str n) (.str s) e (.int wd) (.int i0)))->Q .non H'):iD K vs H Q E
theorem MI{E:XK}{n s:Str}{e:V}(dc:DCls K C)(hp:H p=some (.ins C dx []))(hn:bD n=true)(hs:bD s=true)(he:dQ e)(hw:0<=wd)(b0:0<=i0)
  (k:∀H',SameBut p H H'->H' p=some (.ins C dx (AX (.str n) (.str s) e (.int wd) (.int i0)))->Q .non H'):iD K [.ref p,.str n,.str s,e,.int wd,.int i0] H Q E:=⟨_,_,_,_,_,_,_,_,rfl,dc,hp,hn,hs,he,hw,b0,k⟩
theorem B0(m:M K mg):FnOk P w K mg base CX0 4 m.lC m.lA.d ["self","name","start","end","wide","since"] (iD K):=by
 refine m.lA.F.ok aHD ?_ ?_;tm_at"h";tm_at"g";rcases h with⟨p,C,dx,n,st,e,wd,i0,rfl,dc,hp,hn,hs,he,hw,b0,k⟩;tm_at"f";have nd:=aHD.nd;tm_at"d";have aHf:= @eY P w K mg base m;have aHd:= @iC P w K mg base m;refine⟨_,(aB (aY (K5 aHf hr (aA (pv 0) (aA (pv 1) (aA (pv 2) (aA (pv 3) (aA (pv 4) aC)))))))
  (aB (aY (bI aHd hr (aA fK (aA (pv 5) (aA aD aC)))))
  (aE (cC (pv 0) (pv 5) rfl)))),?_⟩
 refine aJ (σ:=[some (.ref p),some (.str n),some (.str st),some (e),some (.int wd),some (.int i0)]) rfl ?_;tm_at"e";tm_at"a";exact k _ (by tm_at"m") (by assumption)
theorem TC(m:M K mg):Kc P w K mg base "Since" m.jC 4 [] (iD K):=⟨_,_,_,_,m.aDV,m.aAR,.nil,m.lA.b,B0 m⟩
theorem W1{E:XK}{n s:Str}{e:V}(ev:vs++dvs=[.str n,.str s,e,.int wd,.int i0])(dc:DCls K C)(hn:bD n=true)(hs:bD s=true)(he:dQ e)(hw:0<=wd)(b0:0<=i0)
  (k:∀p dx H',H p=none->Same H H'->H' p=some (.ins C dx (AX (.str n) (.str s) e (.int wd) (.int i0)))->Q (.ref p) H'):lX C (iD K) dvs E Q vs H :=
 m8 (λp dx H0 Q' h k' s0=>by rw[ev];exact MI dc h hn hs he hw b0 k') k
local macro_rules| `(tactic| tm_at"l")=> `(tactic| ((with_reducible refine' W1 ?v ?d ?hn ?hs ?he ?hw ?b0 ?_);(case v=>rfl);(case d=>assumption);(case hn=>assumption);(case hs=>assumption);(case he=>first|assumption|exact .inl rfl|exact .inr ⟨_,rfl,by assumption⟩);(case hw=>tm_at"j");(case b0=>tm_at"j");intro p' dx' H' n' S' e'))
def vI(wd i0 t:Int):Int:=if i0<=t then wd else 0
inductive kH(K:W.Frag)(vs:List V)(H:Hp)(Q:VK)(E:XK):Prop
 | mk (p C dx:Addr) (fs:List (Str×V)) (t wd i0:Int) (_:vs=[.ref p,.int t]) (_:DCls K C) (_:H p=some (.ins C dx fs)) (_:fs.lookup ("wide" :Str)=some (.int wd)) (_:fs.lookup ("since" :Str)=some (.int i0)) (_:0<=t) (_:0<=i0) (_:Q (.int (vI wd i0 t)) H):kH K vs H Q E
theorem zZ{E:XK}{fs:List (Str×V)}{t:Int}(hp:H p=some (.ins C dx fs))(dc:DCls K C)(l:fs.lookup ("wide" :Str)=some (.int wd))(m0:fs.lookup ("since" :Str)=some (.int i0))(ht:0<=t)(b0:0<=i0)(k:Q (.int (vI wd i0 t)) H):kH K [.ref p,.int t] H Q E:=⟨_,_,_,_,_,_,_,rfl,dc,hp,l,m0,ht,b0,k⟩
theorem J5(m:M K mg):FnOk P w K mg base CX0 1 m.tO m.tS.d ["self","turn"] (kH K):=by
 refine m.tS.F.ok aIb ?_ ?_;tm_at"h";tm_at"g";rcases h with⟨p,C,dx,fs,t,wd,i0,rfl,dc,hp,l,m0,ht,b0,k⟩;tm_at"f";have nd:=aIb.nd;tm_at"d";refine⟨_,(aE (aS (xN (bB KQ (pv 1) (aH (pv 0) rfl) (bG _)) (aH (pv 0) rfl) aD))),?_⟩;refine aJ (σ:=[some (.ref p),some (.int t)]) rfl ?_;tm_at"e";unfold vI at k;tm_at"a";refine bR (λhw=> ?_) (λhw=> ?_)
 .tm_at"a";rw[if_pos hw]at k;exact k
 .tm_at"a";rw[if_neg hw]at k;exact k
theorem J2(m:M K mg):Mc P w K mg base m.jC "lets" 1 (kH K):=⟨_,_,_,m.tM.ic.cl,m.KK,m.tS.b,J5 m⟩
local macro_rules| `(tactic| tm_at"l")=> `(tactic| ((with_reducible refine' zZ ?e ?d ?l ?m0 ?ht ?b0 ?_);(case e=>tm_at"k");(case d=>assumption);(case l=>tm_at"i");(case m0=>tm_at"i");(case ht=>tm_at"j");(case b0=>tm_at"j")))
abbrev BR(n s e w i0:V):List (Str×V):=bT "until" i0 (lL n s e w)
inductive iA(K:W.Frag)(vs:List V)(H:Hp)(Q:VK)(E:XK):Prop
 | mk (p C dx:Addr) (n s:Str) (e:V) (wd i0:Int) (_:vs=[.ref p,.str n,.str s,e,.int wd,.int i0]) (_:DCls K C) (_:H p=some (.ins C dx [])) (_:bD n=true) (_:bD s=true) (_:dQ e) (_:0<=wd) (_:0<=i0) (_:∀H',SameBut p H H'->H' p=some (.ins C dx (BR (.str n) (.str s) e (.int wd) (.int i0)))->Q .non H'):iA K vs H Q E
theorem MN{E:XK}{n s:Str}{e:V}(dc:DCls K C)(hp:H p=some (.ins C dx []))(hn:bD n=true)(hs:bD s=true)(he:dQ e)(hw:0<=wd)(b0:0<=i0)
  (k:∀H',SameBut p H H'->H' p=some (.ins C dx (BR (.str n) (.str s) e (.int wd) (.int i0)))->Q .non H'):iA K [.ref p,.str n,.str s,e,.int wd,.int i0] H Q E:=⟨_,_,_,_,_,_,_,_,rfl,dc,hp,hn,hs,he,hw,b0,k⟩
theorem CG(m:M K mg):FnOk P w K mg base CX0 4 m.lD m.kX.d ["self","name","start","end","wide","until"] (iA K):=by
 refine m.kX.F.ok aHE ?_ ?_;tm_at"h";tm_at"g";rcases h with⟨p,C,dx,n,st,e,wd,i0,rfl,dc,hp,hn,hs,he,hw,b0,k⟩;tm_at"f";have nd:=aHE.nd;tm_at"d";have aHf:= @eY P w K mg base m;have aHd:= @iC P w K mg base m;refine⟨_,(aB (aY (K5 aHf hr (aA (pv 0) (aA (pv 1) (aA (pv 2) (aA (pv 3) (aA (pv 4) aC)))))))
  (aB (aY (bI aHd hr (aA fK (aA (pv 5) (aA aD aC)))))
  (aE (cC (pv 0) (pv 5) rfl)))),?_⟩
 refine aJ (σ:=[some (.ref p),some (.str n),some (.str st),some (e),some (.int wd),some (.int i0)]) rfl ?_;tm_at"e";tm_at"a";exact k _ (by tm_at"m") (by assumption)
theorem TY(m:M K mg):Kc P w K mg base "Until" m.jE 4 [] (iA K):=⟨_,_,_,_,m.aDS,m.aAP,.nil,m.kX.b,CG m⟩
theorem UR{E:XK}{n s:Str}{e:V}(ev:vs++dvs=[.str n,.str s,e,.int wd,.int i0])(dc:DCls K C)(hn:bD n=true)(hs:bD s=true)(he:dQ e)(hw:0<=wd)(b0:0<=i0)
  (k:∀p dx H',H p=none->Same H H'->H' p=some (.ins C dx (BR (.str n) (.str s) e (.int wd) (.int i0)))->Q (.ref p) H'):lX C (iA K) dvs E Q vs H :=
 m8 (λp dx H0 Q' h k' s0=>by rw[ev];exact MN dc h hn hs he hw b0 k') k
local macro_rules| `(tactic| tm_at"l")=> `(tactic| ((with_reducible refine' UR ?v ?d ?hn ?hs ?he ?hw ?b0 ?_);(case v=>rfl);(case d=>assumption);(case hn=>assumption);(case hs=>assumption);(case he=>first|assumption|exact .inl rfl|exact .inr ⟨_,rfl,by assumption⟩);(case hw=>tm_at"j");(case b0=>tm_at"j");intro p' dx' H' n' S' e'))
def vK(wd i0 t:Int):Int:=if t<i0 then wd else 0
inductive kI(K:W.Frag)(vs:List V)(H:Hp)(Q:VK)(E:XK):Prop
 | mk (p C dx:Addr) (fs:List (Str×V)) (t wd i0:Int) (_:vs=[.ref p,.int t]) (_:DCls K C) (_:H p=some (.ins C dx fs)) (_:fs.lookup ("wide" :Str)=some (.int wd)) (_:fs.lookup ("until" :Str)=some (.int i0)) (_:0<=t) (_:0<=i0) (_:Q (.int (vK wd i0 t)) H):kI K vs H Q E
theorem zJ{E:XK}{fs:List (Str×V)}{t:Int}(hp:H p=some (.ins C dx fs))(dc:DCls K C)(l:fs.lookup ("wide" :Str)=some (.int wd))(m0:fs.lookup ("until" :Str)=some (.int i0))(ht:0<=t)(b0:0<=i0)(k:Q (.int (vK wd i0 t)) H):kI K [.ref p,.int t] H Q E:=⟨_,_,_,_,_,_,_,rfl,dc,hp,l,m0,ht,b0,k⟩
theorem KC(m:M K mg):FnOk P w K mg base CX0 1 m.sX m.tK.d ["self","turn"] (kI K):=by
 refine m.tK.F.ok aH5 ?_ ?_;tm_at"h";tm_at"g";rcases h with⟨p,C,dx,fs,t,wd,i0,rfl,dc,hp,l,m0,ht,b0,k⟩;tm_at"f";have nd:=aH5.nd;tm_at"d";refine⟨_,(aE (aS (xN (bB kF (pv 1) (aH (pv 0) rfl) (bG _)) (aH (pv 0) rfl) aD))),?_⟩;refine aJ (σ:=[some (.ref p),some (.int t)]) rfl ?_;tm_at"e";unfold vK at k;tm_at"a";refine bR (λhw=> ?_) (λhw=> ?_)
 .tm_at"a";rw[if_pos hw]at k;exact k
 .tm_at"a";rw[if_neg hw]at k;exact k
theorem KI(m:M K mg):Mc P w K mg base m.jE "lets" 1 (kI K):=⟨_,_,_,m.sY.ic.cl,m.KN,m.tK.b,KC m⟩
local macro_rules| `(tactic| tm_at"l")=> `(tactic| ((with_reducible refine' zJ ?e ?d ?l ?m0 ?ht ?b0 ?_);(case e=>tm_at"k");(case d=>assumption);(case l=>tm_at"i");(case m0=>tm_at"i");(case ht=>tm_at"j");(case b0=>tm_at"j")))
abbrev E2(n s e w i0 i1:V):List (Str×V):=bT "since" i1 (bT "every" i0 (lL n s e w))
inductive iZ(K:W.Frag)(vs:List V)(H:Hp)(Q:VK)(E:XK):Prop
 | mk (p C dx:Addr) (n s:Str) (e:V) (wd i0 i1:Int) (_:vs=[.ref p,.str n,.str s,e,.int wd,.int i0,.int i1]) (_:DCls K C) (_:H p=some (.ins C dx [])) (_:bD n=true) (_:bD s=true) (_:dQ e) (_:0<=wd) (_:1<=i0) (_:0<=i1) (_:∀H',SameBut p H H'->H' p=some (.ins C dx (E2 (.str n) (.str s) e (.int wd) (.int i0) (.int i1)))->Q .non H'):iZ K vs H Q E
theorem PV{E:XK}{n s:Str}{e:V}(dc:DCls K C)(hp:H p=some (.ins C dx []))(hn:bD n=true)(hs:bD s=true)(he:dQ e)(hw:0<=wd)(b0:1<=i0)(b1:0<=i1)
  (k:∀H',SameBut p H H'->H' p=some (.ins C dx (E2 (.str n) (.str s) e (.int wd) (.int i0) (.int i1)))->Q .non H'):iZ K [.ref p,.str n,.str s,e,.int wd,.int i0,.int i1] H Q E:=⟨_,_,_,_,_,_,_,_,_,rfl,dc,hp,hn,hs,he,hw,b0,b1,k⟩
theorem C4(m:M K mg):FnOk P w K mg base CX0 4 m.mI m.iQ ["self","name","start","end","wide","every","since"] (iZ K):=by
 refine m.FU.ok aHF ?_ ?_;tm_at"h";tm_at"g";rcases h with⟨p,C,dx,n,st,e,wd,i0,i1,rfl,dc,hp,hn,hs,he,hw,b0,b1,k⟩;tm_at"f";have nd:=aHF.nd;tm_at"d";have aHf:= @eY P w K mg base m;have aHd:= @iC P w K mg base m;refine⟨_,(aB (aY (K5 aHf hr (aA (pv 0) (aA (pv 1) (aA (pv 2) (aA (pv 3) (aA (pv 4) aC)))))))
  (aB (aY (bI aHd hr (aA fK (aA (pv 5) (aA aD aC)))))
  (aB (aY (bI aHd hr (aA fK (aA (pv 6) (aA aD aC)))))
  (aB (cC (pv 0) (pv 5) rfl)
  (aE (cC (pv 0) (pv 6) rfl)))))),?_⟩
 refine aJ (σ:=[some (.ref p),some (.str n),some (.str st),some (e),some (.int wd),some (.int i0),some (.int i1)]) rfl ?_;tm_at"e";tm_at"a";exact k _ (by tm_at"m") (by assumption)
theorem X0(m:M K mg):Kc P w K mg base "Beat" m.mK 4 [] (iZ K):=⟨_,_,_,_,m.aFW,m.aDQ,.nil,m.FS,C4 m⟩
theorem Z2{E:XK}{n s:Str}{e:V}(ev:vs++dvs=[.str n,.str s,e,.int wd,.int i0,.int i1])(dc:DCls K C)(hn:bD n=true)(hs:bD s=true)(he:dQ e)(hw:0<=wd)(b0:1<=i0)(b1:0<=i1)
  (k:∀p dx H',H p=none->Same H H'->H' p=some (.ins C dx (E2 (.str n) (.str s) e (.int wd) (.int i0) (.int i1)))->Q (.ref p) H'):lX C (iZ K) dvs E Q vs H :=
 m8 (λp dx H0 Q' h k' s0=>by rw[ev];exact PV dc h hn hs he hw b0 b1 k') k
local macro_rules| `(tactic| tm_at"l")=> `(tactic| ((with_reducible refine' Z2 ?v ?d ?hn ?hs ?he ?hw ?b0 ?b1 ?_);(case v=>rfl);(case d=>assumption);(case hn=>assumption);(case hs=>assumption);(case he=>first|assumption|exact .inl rfl|exact .inr ⟨_,rfl,by assumption⟩);(case hw=>tm_at"j");(case b0=>tm_at"j");(case b1=>tm_at"j");intro p' dx' H' n' S' e'))
def BQ(wd i0 i1 t:Int):Int:=if 0<=t - i1/\(t - i1)%i0=0 then wd else 0
inductive lP(K:W.Frag)(vs:List V)(H:Hp)(Q:VK)(E:XK):Prop
 | mk (p C dx:Addr) (fs:List (Str×V)) (t wd i0 i1:Int) (_:vs=[.ref p,.int t]) (_:DCls K C) (_:H p=some (.ins C dx fs)) (_:fs.lookup ("wide" :Str)=some (.int wd)) (_:fs.lookup ("every" :Str)=some (.int i0)) (_:fs.lookup ("since" :Str)=some (.int i1)) (_:0<=t) (_:1<=i0) (_:0<=i1) (_:Q (.int (BQ wd i0 i1 t)) H):lP K vs H Q E
theorem CS{E:XK}{fs:List (Str×V)}{t:Int}(hp:H p=some (.ins C dx fs))(dc:DCls K C)(l:fs.lookup ("wide" :Str)=some (.int wd))(m0:fs.lookup ("every" :Str)=some (.int i0))(m1:fs.lookup ("since" :Str)=some (.int i1))(ht:0<=t)(b0:1<=i0)(b1:0<=i1)(k:Q (.int (BQ wd i0 i1 t)) H):lP K [.ref p,.int t] H Q E:=⟨_,_,_,_,_,_,_,_,rfl,dc,hp,l,m0,m1,ht,b0,b1,k⟩
theorem ML(m:M K mg):FnOk P w K mg base CX0 1 m.u9 m.vF.d ["self","turn"] (lP K):=by
 refine m.vF.F.ok aIn ?_ ?_;tm_at"h";tm_at"g";rcases h with⟨p,C,dx,fs,t,wd,i0,i1,rfl,dc,hp,l,m0,m1,ht,b0,b1,k⟩;tm_at"f";have nd:=aIn.nd;tm_at"d";refine⟨_,(aB (aO (i:=2) nd rfl (by tm_at"b") (aK hV (pv 1) (aH (pv 0) rfl)))
  (aE (aS (xN (PW.pt (E9 (bB KQ (pv 2) aD (bG _)) (BD (bB fG (aK bP (pv 2) (aH (pv 0) rfl)) aD (bG _))))) (aH (pv 0) rfl) aD)))),?_⟩
 refine aJ (σ:=[some (.ref p),some (.int t),none]) rfl ?_;tm_at"e";unfold BQ at k;tm_at"a";refine bR (λhw=> ?_) (λhw=> ?_)
 .tm_at"a";refine bR (λhv=> ?_) (λhv=> ?_)
  .tm_at"a";rw[if_pos ⟨hw,hv⟩]at k;exact k
  .tm_at"a";rw[if_neg (λz=>hv z.2)]at k;exact k
 .tm_at"a";rw[if_neg (λz=>hw z.1)]at k;exact k
theorem OD(m:M K mg):Mc P w K mg base m.mK "lets" 1 (lP K):=⟨_,_,_,m.v9.ic.cl,m.OK,m.vF.b,ML m⟩
local macro_rules| `(tactic| tm_at"l")=> `(tactic| ((with_reducible refine' CS ?e ?d ?l ?m0 ?m1 ?ht ?b0 ?b1 ?_);(case e=>tm_at"k");(case d=>assumption);(case l=>tm_at"i");(case m0=>tm_at"i");(case m1=>tm_at"i");(case ht=>tm_at"j");(case b0=>tm_at"j");(case b1=>tm_at"j")))
local macro_rules| `(tactic| tm_at"l")=> `(tactic| first|(with_reducible refine VQ ?_)|((with_reducible refine' V0 ?s ?_);(case s=>tm_at"j")) )
abbrev wU(n s e w i0:V):List (Str×V):=bT "bits" i0 (lL n s e w)
inductive gH(K:W.Frag)(vs:List V)(H:Hp)(Q:VK)(E:XK):Prop
 | mk (p C dx:Addr) (n s:Str) (e:V) (wd i0:Int) (_:vs=[.ref p,.str n,.str s,e,.int wd,.int i0]) (_:DCls K C) (_:H p=some (.ins C dx [])) (_:bD n=true) (_:bD s=true) (_:dQ e) (_:0<=wd) (_:0<=i0) (_:∀H',SameBut p H H'->H' p=some (.ins C dx (wU (.str n) (.str s) e (.int wd) (.int i0)))->Q .non H'):gH K vs H Q E
theorem J7{E:XK}{n s:Str}{e:V}(dc:DCls K C)(hp:H p=some (.ins C dx []))(hn:bD n=true)(hs:bD s=true)(he:dQ e)(hw:0<=wd)(b0:0<=i0)
  (k:∀H',SameBut p H H'->H' p=some (.ins C dx (wU (.str n) (.str s) e (.int wd) (.int i0)))->Q .non H'):gH K [.ref p,.str n,.str s,e,.int wd,.int i0] H Q E:=⟨_,_,_,_,_,_,_,_,rfl,dc,hp,hn,hs,he,hw,b0,k⟩
theorem zR(m:M K mg):FnOk P w K mg base CX0 4 m.jY m.jZ.d ["self","name","start","end","wide","bits"] (gH K):=by
 refine m.jZ.F.ok aHs ?_ ?_;tm_at"h";tm_at"g";rcases h with⟨p,C,dx,n,st,e,wd,i0,rfl,dc,hp,hn,hs,he,hw,b0,k⟩;tm_at"f";have nd:=aHs.nd;tm_at"d";have aHf:= @eY P w K mg base m;have aHd:= @iC P w K mg base m;refine⟨_,(aB (aY (K5 aHf hr (aA (pv 0) (aA (pv 1) (aA (pv 2) (aA (pv 3) (aA (pv 4) aC)))))))
  (aB (aY (bI aHd hr (aA fK (aA (pv 5) (aA aD aC)))))
  (aE (cC (pv 0) (pv 5) rfl)))),?_⟩
 refine aJ (σ:=[some (.ref p),some (.str n),some (.str st),some (e),some (.int wd),some (.int i0)]) rfl ?_;tm_at"e";tm_at"a";exact k _ (by tm_at"m") (by assumption)
theorem PD(m:M K mg):Kc P w K mg base "Marked" m.g6 4 [] (gH K):=⟨_,_,_,_,m.aAQ,m.X8,.nil,m.jZ.b,zR m⟩
theorem SW{E:XK}{n s:Str}{e:V}(ev:vs++dvs=[.str n,.str s,e,.int wd,.int i0])(dc:DCls K C)(hn:bD n=true)(hs:bD s=true)(he:dQ e)(hw:0<=wd)(b0:0<=i0)
  (k:∀p dx H',H p=none->Same H H'->H' p=some (.ins C dx (wU (.str n) (.str s) e (.int wd) (.int i0)))->Q (.ref p) H'):lX C (gH K) dvs E Q vs H :=
 m8 (λp dx H0 Q' h k' s0=>by rw[ev];exact J7 dc h hn hs he hw b0 k') k
local macro_rules| `(tactic| tm_at"l")=> `(tactic| ((with_reducible refine' SW ?v ?d ?hn ?hs ?he ?hw ?b0 ?_);(case v=>rfl);(case d=>assumption);(case hn=>assumption);(case hs=>assumption);(case he=>first|assumption|exact .inl rfl|exact .inr ⟨_,rfl,by assumption⟩);(case hw=>tm_at"j");(case b0=>tm_at"j");intro p' dx' H' n' S' e'))
def rD(wd i0 t:Int):Int:=if i0/2^t.toNat%2=1 then wd else 0
inductive i7(K:W.Frag)(vs:List V)(H:Hp)(Q:VK)(E:XK):Prop
 | mk (p C dx:Addr) (fs:List (Str×V)) (t wd i0:Int) (_:vs=[.ref p,.int t]) (_:DCls K C) (_:H p=some (.ins C dx fs)) (_:fs.lookup ("wide" :Str)=some (.int wd)) (_:fs.lookup ("bits" :Str)=some (.int i0)) (_:0<=t) (_:0<=i0) (_:Q (.int (rD wd i0 t)) H):i7 K vs H Q E
theorem yN{E:XK}{fs:List (Str×V)}{t:Int}(hp:H p=some (.ins C dx fs))(dc:DCls K C)(l:fs.lookup ("wide" :Str)=some (.int wd))(m0:fs.lookup ("bits" :Str)=some (.int i0))(ht:0<=t)(b0:0<=i0)(k:Q (.int (rD wd i0 t)) H):i7 K [.ref p,.int t] H Q E:=⟨_,_,_,_,_,_,_,rfl,dc,hp,l,m0,ht,b0,k⟩
theorem F5(m:M K mg):FnOk P w K mg base CX0 1 m.pX m.qD.d ["self","turn"] (i7 K):=by
 refine m.qD.F.ok aHZ ?_ ?_;tm_at"h";tm_at"g";rcases h with⟨p,C,dx,fs,t,wd,i0,rfl,dc,hp,l,m0,ht,b0,k⟩;tm_at"f";have nd:=aHZ.nd;tm_at"d";refine⟨_,(aB (b8 (bB KQ (pv 1) (aFI PySem.F.plainAttrs_int PySem.F.slot_int_bit_length PySem.F.type_int_bit_length WO (aH (pv 0) rfl)) (bG _)) (aE (aS aD)) bK)
  (aE (aS (xN (bB fG (aK bP (aK aEs (aH (pv 0) rfl) (pv 1)) aD) aD (bG _)) (aH (pv 0) rfl) aD)))),?_⟩
 refine aJ (σ:=[some (.ref p),some (.int t)]) rfl ?_;tm_at"e";unfold rD at k;tm_at"a";refine bR (λhw=> ?_) (λhw=> ?_)
 .tm_at"a";rw[if_neg (by rw[W6 b0 hw];decide)]at k;exact k
 .tm_at"a";refine bR (λhv=> ?_) (λhv=> ?_)
  .tm_at"a";rw[if_pos hv]at k;exact k
  .tm_at"a";rw[if_neg hv]at k;exact k
theorem F4(m:M K mg):Mc P w K mg base m.g6 "lets" 1 (i7 K):=⟨_,_,_,m.pE.ic.cl,m.IC,m.qD.b,F5 m⟩
local macro_rules| `(tactic| tm_at"l")=> `(tactic| ((with_reducible refine' yN ?e ?d ?l ?m0 ?ht ?b0 ?_);(case e=>tm_at"k");(case d=>assumption);(case l=>tm_at"i");(case m0=>tm_at"i");(case ht=>tm_at"j");(case b0=>tm_at"j")))
abbrev aF:=Str×Str×V×(Int->Int)
def aAM:HO->Prop
 | .lst _=>True
 | .dK _=>True
 | .dT _=>True
 | .tbl _=>True
 | .ins _ _ fs=>fs=[]
 | _=>False
structure bE where
 at':Hp->V->aF->Prop
 same:∀{H H' v d},at' H v d->Same H H'->at' H' v d
 but:∀{H H' v d p o},at' H v d->H p=some o->aAM o->SameBut p H H'->at' H' v d
def aBk(P:gd)(w:gx)(K:W.Frag)(mg:Str->Option ak)(base:Heap)(kL:Option Nat)(p C dx:Addr)(fs:List (Str×V))(fp:List (Addr×HO))(lt:Int->Int):Prop:=∀kl,kL=some kl →
 ∃sp,Mc P w K mg base C "lets" kl sp/\∀(H':Hp) (t:Int) (Q:VK),H' p=some (.ins C dx fs)->(∀x∈fp,H' x.1=some x.2)->0<=t->(∀H'',Same H' H''->Q (.int (lt t)) H'')->sp [.ref p,.int t] H' Q E0
inductive DoorAt(P:gd)(w:gx)(K:W.Frag)(mg:Str->Option ak)(base:Heap)(kL:Option Nat)(H:Hp)(v:V)(d:aF):Prop
 | mk (p C dx:Addr) (fs:List (Str×V)) (fp:List (Addr×HO)) (_:v= .ref p) (_:H p=some (.ins C dx fs)) (_:DCls K C) (_:fs.lookup ("name" :Str)=some (.str d.1)) (_:fs.lookup ("start" :Str)=some (.str d.2.1)) (_:fs.lookup ("end" :Str)=some d.2.2.1) (_:fs.lookup ("is_exit" :Str)=none) (_:fs.lookup ("lets" :Str)=none) (_:Mc P w K mg base C "is_exit" 1 (fB K)) (_:∀x∈fp,H x.1=some x.2/\¬aAM x.2) (_:aBk P w K mg base kL p C dx fs fp d.2.2.2):DoorAt P w K mg base kL H v d
inductive aBw(P:gd)(w:gx)(K:W.Frag)(mg:Str->Option ak)(base:Heap)(kL:Option Nat)(H:Hp)(v:V)(n st:Str)(e:V)(lt:Int->Int):Prop
 | mk (p C dx:Addr) (fs:List (Str×V)) (fp:List (Addr×HO)) (_:v= .ref p) (_:H p=some (.ins C dx fs)) (_:DCls K C) (_:fs.lookup ("name" :Str)=some (.str n)) (_:fs.lookup ("start" :Str)=some (.str st)) (_:fs.lookup ("end" :Str)=some e) (_:fs.lookup ("is_exit" :Str)=none) (_:fs.lookup ("lets" :Str)=none) (_:Mc P w K mg base C "is_exit" 1 (fB K)) (_:∀x∈fp,H x.1=some x.2/\¬aAM x.2) (_:aBk P w K mg base kL p C dx fs fp lt):aBw P w K mg base kL H v n st e lt
theorem DoorAt.ex{n st:Str}{e:V}{lt:Int->Int}(h:DoorAt P w K mg base kL H v (n,st,e,lt)):aBw P w K mg base kL H v n st e lt:=by
 obtain⟨p,C,dx,fs,fp,h1,h2,h3,h4,h5,h6,h7,h8,h9,h10,h11⟩:=h;exact⟨p,C,dx,fs,fp,h1,h2,h3,h4,h5,h6,h7,h8,h9,h10,h11⟩
def aP(P:gd)(w:gx)(K:W.Frag)(mg:Str->Option ak)(base:Heap)(kL:Option Nat):bE where
 at':=DoorAt P w K mg base kL
 same:=λ⟨p,C,dx,fs,fp,e,hp,dc,l1,l2,l3,l4,l5,mc,hf,lt⟩ s=>⟨p,C,dx,fs,fp,e,s _ _ hp,dc,l1,l2,l3,l4,l5,mc,λx hx=>⟨s _ _ (hf x hx).1,(hf x hx).2⟩,lt⟩
 but:=λ{H H' v d q o} ⟨p,C,dx,fs,fp,e,hp,dc,l1,l2,l3,l4,l5,mc,hf,lt⟩ ho so sb=>⟨p,C,dx,fs,fp,e,sb _ _ hp (λz=>by
   rw[z,ho]at hp;cases hp;have h:fs=[]:=so;rw[h]at l1;cases l1),dc,l1,l2,l3,l4,l5,mc,λx hx=>⟨sb _ _ (hf x hx).1 (λz=>by
   have h:=(hf x hx).1;rw[z,ho]at h;cases h;exact(hf x hx).2 so),(hf x hx).2⟩,lt⟩
local macro_rules| `(tactic| tm_at"l")=> `(tactic| first|(with_reducible refine aDw ?_)|(with_reducible refine aBZ ?_)|(with_reducible refine aEt ?_)|(with_reducible refine XV ?_)|(with_reducible refine UV ?_)|(with_reducible refine SY ?_)|(with_reducible refine ZN ?_)|((with_reducible refine aAe ?_);intro p' H' n' S' e')|((with_reducible refine YZ ?_);intro p' H' n' S' e'))
theorem cX{l:Addr}{y:V}(e:H l=some (.lst xs))(hz:xs.length<sizeLine)(h:∀H',SameBut l H H'->H' l=some (.lst (xs++[y]))->Q .non H'):QX (.ref l) [y] H Q :=
 ⟨l,xs,y,rfl,rfl,e,hz,h _ SameBut.upd aR⟩
inductive xM(vs:List V)(H:Hp)(Q:VK)(E:XK):Prop
 | mk (f l:Int) (_:vs=[.int f,.int l]) (_:0<=f) (_:f<=l) (_:Q .non H):xM vs H Q E
theorem aC6{E:XK}(h0:0<=f)(h1:f<=l)(h:Q .non H):xM [.int f,.int l] H Q E:=⟨_,_,rfl,h0,h1,h⟩
theorem J3(m:M K mg):FnOk P w K mg base CX0 1 m.tI m.mN.d ["first","last"] (xM):=by
 refine m.mN.F.ok aIg ?_ ?_;tm_at"h";tm_at"g";rcases h with⟨f,l,rfl,h0,h1,k⟩;tm_at"f";have nd:=aIg.nd;tm_at"d";refine⟨_,(aB (b8 (bB kF (pv 0) aD (bG _)) (aE gW) bK)
  (aE (b8 (bB kF (pv 1) (pv 0) (bG _)) (aE gW) bK))),?_⟩
 refine aJ (σ:=[some (.int f),some (.int l)]) rfl ?_;tm_at"e";tm_at"a";exact k
theorem KD(m:M K mg):Fc P w K mg base "need_turns" 1 ["first","last"] (xM):=⟨_,_,m.OM,m.mN.F.kp,m.mN.b,J3 m⟩
inductive BG(K:W.Frag)(vs:List V)(H:Hp)(Q:VK)(E:XK):Prop
 | mk (a:Addr) (ss:List Str) (_:vs=[.ref a]) (_:SqL K H a (ss.map V.str)) (_:ss.Nodup) (_:ss.length<=100) (_:∀H',Same H H'->Q .non H'):BG K vs H Q E
theorem W5{E:XK}{ss:List Str}(hS:SqL K H a (ss.map V.str))(nd:ss.Nodup)(hl:ss.length<=100)(h:∀H',Same H H'->Q .non H'):BG K [.ref a] H Q E:=⟨_,_,rfl,hS,nd,hl,h⟩
theorem DS{α:Type}{ss:List α}(nd:ss.Nodup){i:Nat}{z:α}(hz:ss[i]? =some z):z∉ss.take i:=λh=>by
 rcases av.mp hz with⟨hi,e⟩;rcases rq h with⟨j,hj,ej⟩;rw[cw]at hj;rw[List.getElem_take]at ej;exact(nh.mp nd) j i (by lia) hi (by lia) (ej.trans e.symm)
theorem aU{α:Type}{ss:List α}{i:Nat}{z:α}(hz:ss[i]? =some z):ss.take (i+1)=ss.take i++[z]:=by rw[pj,hz];rfl
theorem BX(m:M K mg):FnOk P w K mg base CX0 1 m.k5 m.g9.d ["names"] (BG K):=by
 refine m.g9.F.ok aHA ?_ ?_;tm_at"h";tm_at"g";rcases h with⟨a,ss,rfl,hS,hnd,hlen,k⟩;tm_at"f";have nd:=aHA.nd;tm_at"d";refine⟨_,(aB (aO (i:=1) nd rfl (by tm_at"b") m6)
  (aE (cO cn rfl (bN (pv 0)) (aL (i:=2) nd rfl (by tm_at"b")) (aB (b8 (sM (FI hu1 (pv 2) (pv 1)) (by with_unfolding_all rfl)) (aE gW) bK)
  (aE (gB hu1 (pv 1) (pv 2) A8 rfl)))))),?_⟩
 refine aJ (σ:=[some (.ref a),none,none]) rfl ?_;tm_at"e";tm_at"a";rename_i p H1 n1 S1 e1;let Pv1:Nat->St->Hp->Prop:=λi σ' H'=>SameBut p H1 H'/\∃kvs,H' p=some (.dK kvs)/\kvs.length<=i/\(∀z,(aW kvs (.inr z)).isSome=true->z∈ss.take i)/\∃x,σ'=[some (.ref a),some (.ref p),x];refine c6 (ss.map V.str) Pv1 ⟨SameBut.refl,[],e1,aq _,(λz h=>by cases h),_,rfl⟩ (λi σ' H' _ q=>(SameBut.same n1 S1 q.1).seq hS) ?_ ?_
 .rintro i x _ H' hx hq_;obtain⟨sb,kvs,ek,hk,hin,y,rfl⟩:=hq_;rw[bq]at hx;rcases cj.mp hx with⟨z,hz,rfl⟩;have hi:i<ss.length:=(av.mp hz).1;have hno:(aW kvs (.inr z)).isSome=false:=by
   cases e:(aW kvs (.inr z)).isSome with
   | false=>rfl
   | true=>exact absurd (hin z e) (DS hnd hz)
  tm_at"a";refine Q7 (.inl ek) ?_;rw[hno];tm_at"a";refine nZ ek (by rw[sizeLine_eq];lia) λH9 B9 e9=> ?_;refine⟨by tm_at"m",_,e9,dy (kC _ _ _) (by lia),λy hy=> ?_,_,rfl⟩;rw[xS]at hy;rw[aU hz]
  by_cases e:(km y:Key)= .inr z
  .cases e;exact bp _ (.head _)
  .rw[if_neg e]at hy;exact fj _ (hin y hy)
 .rintro _ H' hq_;obtain⟨sb,kvs,ek,hk,hin,y,rfl⟩:=hq_;exact k _ (SameBut.same n1 S1 sb)
theorem BW(m:M K mg):Fc P w K mg base "need_each_once" 1 ["names"] (BG K):=⟨_,_,m.ED,m.g9.F.kp,m.g9.b,BX m⟩
def b7(rs:List Str)(d:aF):Prop:=d.2.1∈rs/\(d.2.2.1= .non∨∃z,d.2.2.1= .str z/\z∈rs)
def dD(H:Hp)(v:V)(p:Str×Int):Prop:=∃q,v= .ref q/\H q=some (.tup [.str p.1,.int p.2])
theorem rY(h:bu (dD H) vs ps)(s:Same H H'):bu (dD H') vs ps:=Paired.imp' (λv z ⟨q,e,h⟩=>⟨q,e,s _ _ h⟩) h
inductive uP(K:W.Frag)(D:bE)(vs:List V)(H:Hp)(Q:VK)(E:XK):Prop
 | mk (a b:Addr) (us:List V) (ds:List aF) (rs:List Str) (ws:List V) (ps:List (Str×Int)) (_:vs=[.ref a,.ref b]) (_:SqL K H a us) (_:bu (D.at' H) us ds) (_:(∀d∈ds,b7 rs d)) (_:ds.length<=20) (_:SqL K H b ws) (_:bu (dD H) ws ps) (_:(∀p∈ps,p.1∈rs)) (_:ps.length<=40) (_:∀p (ss:List Str) H',Same H H'->H' p=some (.lst (ss.map V.str))->(∀z∈ss,z∈rs)->ss.length<=80->Q (.ref p) H'):uP K D vs H Q E
theorem Y9{D:bE}{E:XK}{b:Addr}{ds:List aF}{rs:List Str}(hS:SqL K H a us)(hd:bu (D.at' H) us ds)(hr:∀d∈ds,b7 rs d)(hl:ds.length<=20)(hb:SqL K H b ws)(hw:bu (dD H) ws ps)(hwr:∀p∈ps,p.1∈rs)(hwl:ps.length<=40)(h:∀p (ss:List Str) H',Same H H'->H' p=some (.lst (ss.map V.str))->(∀z∈ss,z∈rs)->ss.length<=80->Q (.ref p) H'):uP K D [.ref a,.ref b] H Q E:=⟨_,_,_,_,_,_,_,rfl,hS,hd,hr,hl,hb,hw,hwr,hwl,h⟩
theorem zV(m:M K mg):FnOk P w K mg base CX0 2 m.jS m.fX.d ["doors","people"] (uP K (aP P w K mg base (some 4))):=by
 refine m.fX.F.ok aHt ?_ ?_;tm_at"h";tm_at"g";rcases h with⟨a,b,us,ds,rs,ws,ps,rfl,hS,hd,hr',hlen,hb,hw,hwr,hwl,k⟩;tm_at"f";have nd:=aHt.nd;tm_at"d";refine⟨_,(aB (aO (i:=2) nd rfl (by tm_at"b") (cP aC))
  (aB (cO cn rfl (bN (pv 0)) (aL (i:=3) nd rfl (by tm_at"b")) (aB (aY (gS df dm dq cY (pv 2) (aA (aH (pv 3) rfl) aC)))
  (aE (b8 (AF (kA (cA 1 hr (pv 3)))) (aE (aY (gS df dm dq cY (pv 2) (aA (aH (pv 3) rfl) aC)))) bK))))
  (aE (aS (aK aEC (pv 2) (dG (N:=["room","number"]) (nl:=2) (ci:=[]) rfl (blk (s.heap.objs.size+1) rfl rfl rfl (by kernel_rfl)) (bN (pv 1)) (λ_ _ _ _=>(nM (K:=K) (n:=2) rfl (aX (aL (i:=0) (show (["room","number"]:List Str).Nodup by decide +kernel) rfl (by tm_at"b")) (aX (aL (i:=1) (show (["room","number"]:List Str).Nodup by decide +kernel) rfl (by tm_at"b")) dY)))) (λ_ _ _ _=>dI) (λ_ _ _ _=>(pv 0)))))))),?_⟩
 refine aJ (σ:=[some (.ref a),some (.ref b),none,none]) rfl ?_;tm_at"e";have hul:us.length=ds.length:=bx hd;tm_at"a";rename_i p H1 n1 S1 e1;let Pv2:Nat->St->Hp->Prop:=λi σ' H'=>SameBut p H1 H'/\(∃ss:List Str,H' p=some (.lst (ss.map V.str))/\(∀z∈ss,z∈rs)/\ss.length<=2 * i)/\∃x,σ'=[some (.ref a),some (.ref b),some (.ref p),x];refine c6 us Pv2 ⟨SameBut.refl,⟨[],e1,(λ_ z=>nomatch z),aq _⟩,_,rfl⟩ (λi σ' H' _ q=>(SameBut.same n1 S1 q.1).seq hS) ?_ ?_
 .rintro i x _ H' hx hq_;obtain⟨sb,⟨ss,es,hin,hsl⟩,y,rfl⟩:=hq_;have hi:i<us.length:=(av.mp hx).1;obtain⟨d,hdx⟩:∃d,ds[i]? =some d:=⟨_,ah (by lia)⟩
  obtain⟨n,st,e,lt⟩:=d;obtain⟨q,C9,dx,fs,fp,rfl,hq,dcC,l1,l2,l3,l4,l5,mcE,hfp,hlt⟩:=DoorAt.ex (Paired.at2 hd hx hdx);rcases hr' _ (ay hdx) with⟨r1,r2⟩;have hqp:q≠p:=λz=>by rw[z,n1]at hq;cases hq
  have hq':H' q=some (.ins C9 dx fs):=sb _ _ (S1 _ _ hq) hqp;rcases r2 with r2|⟨z,r2,r3⟩
  .have r2:e= .non:=r2;subst r2;tm_at"a";refine cX es (by rw[sizeLine_eq,ae];lia) λH8 B8 e8=> ?_;have hq8:=B8 _ _ hq' hqp;tm_at"a";exact⟨by tm_at"m",⟨ss++[st],by rw[e8,aw];rfl,λz hz=>(bh.mp hz).elim (hin z) (λw=>by cases bz.mp w;exact r1),by rw[ao];show ss.length+1<=_;lia⟩,_,rfl⟩
  .have r2:e= .str z:=r2;subst r2;tm_at"a";refine cX es (by rw[sizeLine_eq,ae];lia) λH8 B8 e8=> ?_;have hq8:=B8 _ _ hq' hqp;tm_at"a";refine cX e8 (by rw[sizeLine_eq,ao,ae];show ss.length+1<_;lia) λH9 B9 e9=> ?_;tm_at"a";refine⟨by tm_at"m",⟨ss++[st]++[z],by rw[e9,aw,aw];rfl,λz hz=> ?_,by rw[ao,ao];show ss.length+1+1<=_;lia⟩,_,rfl⟩;rcases bh.mp hz with hz|hz
   .exact(bh.mp hz).elim (hin z) (λw=>by cases bz.mp w;exact r1)
   .cases bz.mp hz;exact r3
 .rintro _ H' hq_;obtain⟨sb,⟨ss,es,hin,hsl⟩,y,rfl⟩:=hq_;have sH:Same H H':=SameBut.same n1 S1 sb;have hb':=sH.seq hb;tm_at"a";refine GA (α:=Str×Int) (xs:=ps) (vs:=ws) (λp=> .str p.1) (λp=> .int p.2) (λ_=>true) (λp y _=>y= .str p.1) (λ_ _ _ _ h _=>h) (by rw[sizeLine_eq];lia) (rest:=[]) (by rfl) hb' (rY hw sH) (λx H1 hx s1 R hR=>hR _ (Same.refl _)) (λx H1 hx _ s1 R hR=> ?_) ?_
  .tm_at"a";exact hR _ _ rfl (Same.refl _)
  intro ys H2 s2 hys;rw[dM]at hys;obtain rfl:=lJ hys;tm_at"a";rename_i q3 H3 n3 S3 e3 q4 H4 n4 S4 e4;refine k _ (ss++ps.map (·.1)) _ (by tm_at"q") (by rw[e4,aw,bw];rfl) (λz hz=> ?_) (by rw[ao,ae];lia);rcases bh.mp hz with hz|hz
  .exact hin z hz
  .rcases ag.mp hz with⟨p,hp,rfl⟩;exact hwr p hp
theorem AA(m:M K mg):Fc P w K mg base "rooms_spoken_of" 2 ["doors","people"] (uP K (aP P w K mg base (some 4))):=⟨_,_,m.CJ,m.fX.F.kp,m.fX.b,zV m⟩
inductive xE(K:W.Frag)(vs:List V)(H:Hp)(Q:VK)(E:XK):Prop
 | mk (a b:Addr) (ss:List Str) (kvs:List (Key×V)) (_:vs=[.ref a,.ref b]) (_:SqL K H a (ss.map V.str)) (_:Rd H b (.dK kvs)) (_:(∀z∈ss,(aW kvs (.inr z)).isSome=true)) (_:∀H',Same H H'->Q .non H'):xE K vs H Q E
theorem RB{E:XK}{b:Addr}{ss:List Str}(hS:SqL K H a (ss.map V.str))(hb:Rd H b (.dK kvs))(hk:∀z∈ss,(aW kvs (.inr z)).isSome=true)(h:∀H',Same H H'->Q .non H'):xE K [.ref a,.ref b] H Q E:=⟨_,_,_,_,rfl,hS,hb,hk,h⟩
theorem aC9{u:HO}(s:Same H H')(r:Rd H a u):Rd H' a u:=r.elim (λe=> .inl (s _ _ e)) λ⟨o,e⟩=> .inr ⟨o,s _ _ e⟩
theorem J8(m:M K mg):FnOk P w K mg base CX0 1 m.tL m.mJ.d ["names","sizes"] (xE K):=by
 refine m.mJ.F.ok aH4 ?_ ?_;tm_at"h";tm_at"g";rcases h with⟨a,b,ss,kvs,rfl,hS,hb,hk,k⟩;tm_at"f";have nd:=aH4.nd;tm_at"d";refine⟨_,(aE (cO cn rfl (bN (pv 0)) (aL (i:=2) nd rfl (by tm_at"b")) (aE (b8 (sM (uO hu1 (pv 2) (pv 1)) (by with_unfolding_all rfl)) (aE gW) bK)))),?_⟩;refine aJ (σ:=[some (.ref a),some (.ref b),none]) rfl ?_;tm_at"e";tm_at"a";let Pv3:Nat->St->Hp->Prop:=λi σ' H'=>Same H H'/\∃x,σ'=[some (.ref a),some (.ref b),x];refine c6 (ss.map V.str) Pv3 ⟨Same.refl _,_,rfl⟩ (λi σ' H' _ q=>q.1.seq hS) ?_ ?_
 .rintro i x _ H' hx ⟨s1,y,rfl⟩;rw[bq]at hx;rcases cj.mp hx with⟨z,hz,rfl⟩;have hz':=hk z (ay hz);tm_at"a";refine wY (aC9 s1 hb) ?_;rw[hz'];tm_at"a";exact⟨s1,_,rfl⟩
 .rintro _ H' ⟨s1,y,rfl⟩;exact k _ s1
theorem yM(m:M K mg):Fc P w K mg base "need_rooms" 1 ["names","sizes"] (xE K):=⟨_,_,m.ON,m.mJ.F.kp,m.mJ.b,J8 m⟩
theorem ZG{j:Int}(h:Q (.int (i+j)) H):aEE (.int i) (.int j) H Q:=by
 first|exact h|exact⟨_,_,rfl,rfl,h⟩|exact .inl ⟨_,_,rfl,rfl,h⟩
theorem NN(h:SqL K H c xs)(hp:H p=some (.dK kvs))(sb:SameBut p H H'):SqL K H' c xs:=by
 rcases h with (h|⟨o,h⟩)|h
 .exact .inl (.inl (sb _ _ h λz=>by rw[z,hp]at h;cases h))
 .exact .inl (.inr ⟨o,sb _ _ h λz=>by rw[z,hp]at h;cases h⟩)
 .exact .inr h
def szK(rz:List (Str×Int)):List (Key×V):=rz.map λe=>((.inr e.1:Key),V.int e.2)
theorem QU(rz:List (Str×Int)):(szK rz).map (·.1)=(rz.map (·.1)).map (km:Str->Key):=by unfold szK;rw[bw,bw];rfl
theorem o9{rs:List Str}(nd:rs.Nodup):(rs.map (km:Str->Key)).Nodup:=by
 rw[kx,gk];exact ze (λh z=>h (ir z)) nd
theorem DH(nd:(rz.map (·.1)).Nodup):((szK rz).map (·.1)).Nodup:=by rw[QU];exact o9 nd
theorem GX(nd:(rz.map (·.1)).Nodup){e:Str×Int}(h:e∈rz):aW (szK rz) (.inr e.1)=some (.int e.2) :=
 eZ (e:=((.inr e.1:Key),V.int e.2)) (DH nd) (ag.mpr ⟨e,h,rfl⟩)
theorem N7(nd:(rz.map (·.1)).Nodup)(h:z∈rz.map (·.1)):∃i,(z,i)∈rz/\aW (szK rz) (.inr z)=some (.int i):=by
 rcases ag.mp h with⟨e,he,rfl⟩;exact⟨e.2,he,GX nd he⟩
theorem yW{k:Key}(h:∀e∈kvs,e.1≠k):aW kvs k=none:=by
 induction kvs with
 | nil=>rfl
 | cons a l ih =>
  rw[dJ (h a (.head _))];exact ih λe he=>h e (ab _ he)
theorem IY:∀(ps kvs:List (Key×V)),(ps.map (·.1)).Nodup->(∀e∈kvs,∀q∈ps,e.1≠q.1)->lY kvs ps=kvs++ps
 | [],kvs,_,_=>(dj _).symm
 | (k,v)::ps,kvs,nd,h=>by
  have nd':=jq.mp nd;show lY (cB kvs k v) ps=_;rw[eF v (yW λe he=>h e he _ (.head _)),IY ps _ nd'.2,cq]
  .rfl
  .intro e he q hq;rcases bh.mp he with he|he
   .exact h e he q (ab _ hq)
   .cases bz.mp he;exact nd'.1 q.1 (ag.mpr ⟨q,hq,rfl⟩)
theorem aAi(nd:(rz.map (·.1)).Nodup):lY [] (szK rz)=szK rz:=by
 rw[IY _ _ (DH nd) (λe he=>absurd he (gi))];rfl
theorem aAZ:∀(o:Obj) (x:HO),HO.dK kvs≠ .frz o x:=λ_ _ z=>by cases z
def FJ(rz:List (Str×Int))(ps:List (Str×Int))(kvs:List (Key×V)):Prop:=∀z∈rz.map (·.1),aW kvs (.inr z)=some (.int (dA ps z))
inductive xR(K:W.Frag)(vs:List V)(H:Hp)(Q:VK)(E:XK):Prop
 | mk (a b:Addr) (rz:List (Str×Int)) (ws:List V) (ps:List (Str×Int)) (_:vs=[.ref a,.ref b]) (_:H a=some (.dK (szK rz))) (_:SqL K H b ws) (_:bu (dD H) ws ps) (_:(∀p∈ps,p.1∈rz.map (·.1))) (_:(rz.map (·.1)).Nodup) (_:rz.length<=100) (_:∀p H' kvs,H p=none->Same H H'->H' p=some (.dK kvs)->kvs.map (·.1)=(szK rz).map (·.1)->FJ rz ps kvs->Q (.ref p) H'):xR K vs H Q E
theorem P6{E:XK}{b:Addr}(ha:H a=some (.dK (szK rz)))(hb:SqL K H b ws)(hw:bu (dD H) ws ps)(hwr:∀p∈ps,p.1∈rz.map (·.1))(nd:(rz.map (·.1)).Nodup)(hl:rz.length<=100)(h:∀p H' kvs,H p=none->Same H H'->H' p=some (.dK kvs)->kvs.map (·.1)=(szK rz).map (·.1)->FJ rz ps kvs->Q (.ref p) H'):xR K [.ref a,.ref b] H Q E:=⟨_,_,_,_,_,rfl,ha,hb,hw,hwr,nd,hl,h⟩
theorem YM{k:Key}(h:(aW kvs k).isSome=true):(cB kvs k v).map (·.1)=kvs.map (·.1):=by
 unfold cB;rw[nX,if_pos h,bw]
 apply dw
 intro x _;show (if x.1=k then (x.1,v) else x).1=x.1
 split<;>rfl
theorem FM(m:M K mg):FnOk P w K mg base CX0 1 m.oH m.jD.d ["sizes","people"] (xR K):=by
 refine m.jD.F.ok aHS ?_ ?_;tm_at"h";tm_at"g";rcases h with⟨a,b,rz,ws,ps,rfl,ha,hb,hw,hwr,ndz,hlen,k⟩;tm_at"f";have nd:=aHS.nd;tm_at"d";refine⟨_,(aB (aO (i:=2) nd rfl (by tm_at"b") m6)
  (aB (aBW (cO cn rfl (N5 (pv 0)) (aL (i:=3) nd rfl (by tm_at"b")) (aE (gB hu1 (pv 2) (pv 3) aD rfl))))
  (aB (cO cn rfl (bN (pv 1)) (v7 (n:=2) rfl (aX (aL (i:=3) nd rfl (by tm_at"b")) (aX (aL (i:=4) nd rfl (by tm_at"b")) dY))) (aE (aCn hu1 (pv 2) (pv 3) (pv 4) WT (λ_ _ _=>rfl))))
  (aE (aS (pv 2)))))),?_⟩
 refine aJ (σ:=[some (.ref a),some (.ref b),none,none,none]) rfl ?_;tm_at"e";tm_at"a";rename_i p H1 n1 S1 e1;have hap:a≠p:=λz=>by rw[z,n1]at ha;cases ha
 have ha1:=S1 _ _ ha;have hl2:(szK rz).length=rz.length:=by unfold szK;rw[ae]
 refine ZF ha1 aAZ ?_;tm_at"a";refine NL ha1 λo H2 B2 e2=> ?_;have ep2:H2 p=some (.dK []):=B2 _ _ e1 (fb hap);have hwl:ws.length=ps.length:=bx hw;let Pv4:Nat->St->Hp->Prop:=λi σ' H'=>SameBut p H2 H'/\H' p=some (.dK ((rz.take i).map λe=>((.inr e.1:Key),V.int 0)))/\∃x,σ'=[some (.ref a),some (.ref b),some (.ref p),x,none];refine YX (szK rz) Pv4 ⟨SameBut.refl,ep2,_,rfl⟩ (λi σ' H' q=>q.1 _ _ e2 hap) ?_ ?_
 .rintro i kk v _ H' hx hq_;obtain⟨sb,ek,y,rfl⟩:=hq_;unfold szK at hx;rw[bq]at hx;obtain⟨⟨z,sz⟩,hz,ez⟩:=cj.mp hx;cases ez;have hi:i<rz.length:=(av.mp hz).1;have hnone:aW ((rz.take i).map λe=>((.inr e.1:Key),V.int 0)) (.inr z)=none:=yW λe he=>by
   rcases ag.mp he with⟨d,hd,rfl⟩;intro zz;have hn:z∉(rz.map (·.1)).take i:=DS ndz (by rw[bq,hz];rfl)
   apply hn
   rw[←ym];exact ag.mpr ⟨d,hd,ir zz⟩
  show (_:TG) (.str z) _ _ _;tm_at"a";refine nZ ek (by rw[sizeLine_eq,ae,cw];lia) λH9 B9 e9=> ?_;refine⟨by tm_at"m",?_,_,rfl⟩;rw[e9,eF _ hnone,aU hz,aw];rfl
 .rintro _ H' hq_;obtain⟨sb,ek,y,rfl⟩:=hq_;rw[hl2,cp]at ek;refine uB (sb _ _ e2 hap) λH3 B3 e3=> ?_;have ep3:=B3 _ _ ek (fb hap);have sH:Same H H3:=λx u hx=>by
   by_cases ex:x=a
   .subst ex;rw[ha]at hx;cases hx;exact e3
   .have hxp:x≠p:=λz=>by rw[z,n1]at hx;cases hx
    exact B3 _ _ (sb _ _ (B2 _ _ (S1 _ _ hx) ex) hxp) ex
  have hb3:=sH.seq hb;have hw3:=rY hw sH;have hnb:∀{H':Hp}{v:V}{r:Str×Int},SameBut p H3 H'->dD H3 v r->dD H' v r:=λsb ⟨q,e,hq⟩=>⟨q,e,sb _ _ hq λz=>by rw[z,ep3]at hq;cases hq⟩
  tm_at"a";let Pv5:Nat->St->Hp->Prop:=λi σ' H'=>SameBut p H3 H'/\(∃kvs,H' p=some (.dK kvs)/\kvs.map (·.1)=(szK rz).map (·.1)/\FJ rz (ps.take i) kvs)/\∃x y,σ'=[some (.ref a),some (.ref b),some (.ref p),x,y];refine c6 ws Pv5 ⟨SameBut.refl,⟨_,ep3,?_,?_⟩,_,_,rfl⟩ (λi σ' H' _ q=>NN hb3 ep3 q.1) ?_ ?_
  .unfold szK;rw[bw,bw];rfl
  .intro z hz;rcases ag.mp hz with⟨e,he,rfl⟩;exact eZ (e:=((.inr e.1:Key),V.int 0)) (by rw[show (rz.map λe=>((.inr e.1:Key),V.int 0)).map (·.1)=(szK rz).map (·.1) from by unfold szK;rw[bw,bw];rfl];exact DH ndz) (ag.mpr ⟨e,he,rfl⟩)
  .rintro i x _ H' hx hq_;obtain⟨sb',⟨kvs,ek',hkk,hin⟩,x1,x2,rfl⟩:=hq_;have hi:i<ws.length:=(av.mp hx).1;obtain⟨⟨z,nn⟩,hpx⟩:∃d,ps[i]? =some d:=⟨_,ah (by lia)⟩
   rcases Paired.at2 hw3 hx hpx with⟨q,rfl,hq⟩;have hq':H' q=some (.tup [.str z,.int nn]):=sb' _ _ hq λzz=>by rw[zz,ep3]at hq;cases hq
   have hzr:z∈rz.map (·.1):=hwr _ (ay hpx);have hkl:kvs.length=rz.length:=by rw[←ae (f:=λe:Key×V=>e.1),hkk,ae,hl2]
   tm_at"a";refine aDr ?_;tm_at"a";refine aAb (.inl ek') (hin z hzr) ?_;tm_at"a";refine ZG ?_;refine BK ek' (by rw[sizeLine_eq];lia) λH9 B9 e9=> ?_;refine⟨by tm_at"m",⟨_,e9,?_,λy hy=> ?_⟩,_,_,rfl⟩
   .rw[YM (by rw[hin z hzr];rfl)];exact hkk
   .rw[xS,aU hpx,V3]
    by_cases e:(km y:Key)= .inr z
    .cases e;rw[if_pos rfl,if_pos rfl]
    .rw[if_neg e,if_neg (λzz=>e (by rw[show z=y from zz])),ja];exact hin y hy
  .rintro _ H' hq_;obtain⟨sb',⟨kvs,ek',hkk,hin⟩,x1,x2,rfl⟩:=hq_;rw[hwl,cp]at hin;tm_at"a";exact k _ _ _ n1 (SameBut.same n1 (λx u hx=>sH x u hx) sb') ek' hkk hin
theorem uK(m:M K mg):Fc P w K mg base "added_people" 1 ["sizes","people"] (xR K):=⟨_,_,m.HY,m.jD.F.kp,m.jD.b,FM m⟩
def GY(rz ps:List (Str×Int)):Prop:=(∀p∈ps,0<=p.2)/\∀e∈rz,dA ps e.1<=e.2
inductive xG(K:W.Frag)(vs:List V)(H:Hp)(Q:VK)(E:XK):Prop
 | mk (a b:Addr) (rz:List (Str×Int)) (ws:List V) (ps:List (Str×Int)) (_:vs=[.ref a,.ref b]) (_:H a=some (.dK (szK rz))) (_:SqL K H b ws) (_:bu (dD H) ws ps) (_:(∀p∈ps,p.1∈rz.map (·.1))) (_:(rz.map (·.1)).Nodup) (_:rz.length<=100) (_:ps.length<=100) (_:GY rz ps) (_:∀H',Same H H'->Q .non H'):xG K vs H Q E
theorem aBO{E:XK}{b:Addr}(ha:H a=some (.dK (szK rz)))(hb:SqL K H b ws)(hw:bu (dD H) ws ps)(hwr:∀p∈ps,p.1∈rz.map (·.1))(nd:(rz.map (·.1)).Nodup)(hl:rz.length<=100)(hpl:ps.length<=100)(hf:GY rz ps)(h:∀H',Same H H'->Q .non H'):xG K [.ref a,.ref b] H Q E:=⟨_,_,_,_,_,rfl,ha,hb,hw,hwr,nd,hl,hpl,hf,h⟩
theorem zE:∀{l:List α}{ys:List V},bu (λ_ y=>y=V.bl false) l ys->ys=(l.map λ_=>false).map V.bl
 | _,_,.nil=>rfl
 | _,_,.cons h t=>by rw[h,zE t];rfl
theorem JS(l:List α):(l.map λ_=>false).any id=false:=by simp
theorem J9(m:M K mg):FnOk P w K mg base CX0 2 m.tG m.mP.d ["sizes","people"] (xG K):=by
 refine m.mP.F.ok aIc ?_ ?_;tm_at"h";tm_at"g";rcases h with⟨a,b,rz,ws,ps,rfl,ha,hb,hw,hwr,ndz,hlen,hpl,hf,k⟩;tm_at"f";have nd:=aIc.nd;tm_at"d";have aHq:= @uK P w K mg base m;refine⟨_,(aB (b8 (kA (bL (IH rfl) rfl m.aBE XC (aA (dG (N:=["room","number"]) (nl:=2) (ci:=[]) rfl (blk (s.heap.objs.size+1) rfl rfl rfl (by kernel_rfl)) (bN (pv 1)) (λ_ _ _ _=>(nM (K:=K) (n:=2) rfl (aX (aL (i:=0) (show (["room","number"]:List Str).Nodup by decide +kernel) rfl (by tm_at"b")) (aX (aL (i:=1) (show (["room","number"]:List Str).Nodup by decide +kernel) rfl (by tm_at"b")) dY)))) (λ_ _ _ _=>dI) (λ_ _ _ _=>(vZ kF (pv 1) aD (bG _)))) aC))) (aE gW) bK)
  (aB (aO (i:=2) nd rfl (by tm_at"b") (bI aHq hr (aA (pv 0) (aA (pv 1) aC))))
  (aE (b8 (kA (bL (IH rfl) rfl m.aBE XC (aA (GZ (dG (N:=["room","inside","sizes"]) (nl:=1) (ci:=[2,0]) rfl (blk (s.heap.objs.size+1) rfl rfl rfl (by kernel_rfl)) (N5 (pv 0)) (λ_ _ _ _=>(aL (i:=0) (show (["room","inside","sizes"]:List Str).Nodup by decide +kernel) rfl (by tm_at"b"))) (λ_ _ _ _=>dI) (λ_ _ _ _=>(vZ xF (dL hu1 (pv 1) (pv 0) (λ_ _=>rfl)) (dL hu1 (pv 2) (pv 0) (λ_ _=>rfl)) (bG _))))) aC))) (aE gW) bK)))),?_⟩
 refine aJ (σ:=[some (.ref a),some (.ref b),none]) rfl ?_;tm_at"e";tm_at"a";refine GA (α:=Str×Int) (xs:=ps) (vs:=ws) (λp=> .str p.1) (λp=> .int p.2) (λ_=>true) (λp y _=>y= .bl false) (λ_ _ _ _ h _=>h) (by rw[sizeLine_eq];lia) (rest:=[]) (by rfl) hb hw (λx H1 hx s1 R hR=>hR _ (Same.refl _)) (λx H1 hx _ s1 R hR=> ?_) ?_
 .have h0:=hf.1 x hx;tm_at"a";exact hR _ _ (by rw[decide_eq_false (by lia)]) (Same.refl _)
 intro ys H2 s2 hys;rw[dM]at hys;obtain rfl:=zE hys;tm_at"a";rename_i q H3 n3 S3 e3;refine XB (SqL.of e3) ?_;rw[JS];tm_at"a";have sA:Same H H3:=s2.trans S3;refine P6 (sA _ _ ha) (sA.seq hb) (rY hw sA) hwr ndz hlen λp H4 kvs n4 S4 e4 hkk hv=> ?_;have ha4:=S4 _ _ (sA _ _ ha);tm_at"a";refine DX ha4 aAZ ?_;tm_at"a";refine NL ha4 λo H5 B5 e5=> ?_;have hpa:p≠a:=λz=>by rw[z,sA _ _ ha]at n4;cases n4
 have ep5:=B5 _ _ e4 hpa;refine aFN (λ_=>true) (λ_ y _=>y= .bl false) (λ_ _ _ _ h _=>h) (by rw[sizeLine_eq];unfold szK;rw[ae];lia) (rest:=[some (.ref p),some (.ref a)]) (by rfl) e5 (λx H6 hx s6 R hR=>hR _ (Same.refl _)) ?_ ?_
 .rintro x H6 hx - s6 R hR;rcases ag.mp hx with⟨e,he,rfl⟩;have hfe:=hf.2 e he;show (_:TE) (some (V.str e.1)::[some (.ref p),some (.ref a)]) H6 R;tm_at"a";refine d9 (.inl (s6 _ _ ep5)) (hv e.1 (ag.mpr ⟨e,he,rfl⟩)) ?_;tm_at"a";refine d9 (.inr ⟨o,s6 _ _ e5⟩) (GX ndz he) ?_;tm_at"a";exact hR _ _ (by rw[decide_eq_false (by lia)]) (Same.refl _)
 intro ys H6 s6 hys;rw[dM]at hys;obtain rfl:=zE hys;tm_at"a";rename_i q7 H7 n7 S7 e7;refine uB (S7 _ _ (s6 _ _ e5)) λH8 B8 e8=> ?_;have hq7:q7≠a:=λz=>by rw[z,s6 _ _ e5]at n7;cases n7
 have e78:=B8 _ _ e7 hq7;tm_at"a";refine XB (SqL.of e78) ?_;rw[JS];tm_at"a";exact k _ (XM (ha) (λx u hx hxa=>B5 _ _ (S4 _ _ (sA _ _ hx)) hxa) (Same.but (s6.trans S7)) B8 e8)
theorem JT(m:M K mg):Fc P w K mg base "need_space" 2 ["sizes","people"] (xG K):=⟨_,_,m.OP,m.mP.F.kp,m.mP.b,J9 m⟩
def RoomsAt(H:Hp)(vs:List V)(rz:List (Str×Int)):Prop:=bu (dD H) vs rz
theorem RoomsAt.sm{rs:List (Str×Int)}(h:RoomsAt H vs rs)(s:Same H H'):RoomsAt H' vs rs:=Paired.imp' (λv z ⟨q,e,h⟩=>⟨q,e,s _ _ h⟩) h
theorem CT:∀{vs:List V}{rs:List (Str×Int)},RoomsAt H vs rs->K3 H vs (szK rs)
 | _,_,.nil=> .nil
 | _,_,.cons h t=> .cons h (CT t)
theorem yB{D:bE}{ds:List aF}(h:bu (D.at' H) us ds)(s:Same H H'):bu (D.at' H') us ds:=Paired.imp' (λv d h=>D.same h s) h
abbrev RE(f l:Int)(qs qp qd:Addr):List (Str×V):=bT "named_doors" (.ref qd) (bT "people" (.ref qp) (bT "sizes" (.ref qs) (bT "last" (.int l) (bT "first" (.int f) []))))
def wL(D:bE)(H:Hp)(nk:List (Key×V))(ds:List aF):Prop:=bu (λe d=>e.1= .inr d.1/\D.at' H e.2 d) nk ds
theorem aAj{D:bE}{ds:List aF}(h:wL D H nk ds)(s:Same H H'):wL D H' nk ds:=Paired.imp' (λe d h=>⟨h.1,D.same h.2 s⟩) h
structure bO(C:Addr)(D:bE)(H:Hp)(h:Addr)(f l:Int)(rz ps:List (Str×Int))(ds:List aF):Prop where
 ex:∃dx qs qp qd nk kvs,H h=some (.ins C dx (RE f l qs qp qd))/\H qs=some (.dK (szK rz))/\H qp=some (.dK kvs)/\kvs.map (·.1)=(szK rz).map (·.1)/\FJ rz ps kvs/\H qd=some (.dK nk)/\wL D H nk ds
theorem sP{D:bE}{h:Addr}{ds:List aF}(x:bO C D H h f l rz ps ds)(s:Same H H'):bO C D H' h f l rz ps ds:=by
 obtain⟨dx,qs,qp,qd,nk,kvs,e1,e2,e3,e4,e5,e6,e7⟩:=x.ex;exact⟨dx,qs,qp,qd,nk,kvs,s _ _ e1,s _ _ e2,s _ _ e3,e4,e5,s _ _ e6,aAj e7 s⟩
theorem QZ{fs:List (Str×V)}(h:SqL K H c xs)(hp:H p=some (.ins C dx fs))(sb:SameBut p H H'):SqL K H' c xs:=by
 rcases h with (h|⟨o,h⟩)|h
 .exact .inl (.inl (sb _ _ h λz=>by rw[z,hp]at h;cases h))
 .exact .inl (.inr ⟨o,sb _ _ h λz=>by rw[z,hp]at h;cases h⟩)
 .exact .inr h
theorem gT{F:α->β->Prop}:∀{l:List α}{m:List β}{x:α},bu F l m->x∈l->∃y∈m,F x y
 | _,_,_,.cons r t,h=>by
  rcases az.mp h with rfl|h
  .exact⟨_,.head _,r⟩
  .rcases gT t h with⟨y,hy,f⟩;exact⟨y,ab _ hy,f⟩
 | _,_,_,.nil,h=>nomatch h
inductive hJ(K:W.Frag)(D:bE)(vs:List V)(H:Hp)(Q:VK)(E:XK):Prop
 | mk (p C dx a b c:Addr) (ws us cs:List V) (rz ps:List (Str×Int)) (ds:List aF) (f l:Int) (_:vs=[.ref p,.ref a,.ref b,.ref c,.int l,.int f]) (_:DCls K C) (_:H p=some (.ins C dx [])) (_:H a=some (.lst ws)) (_:RoomsAt H ws rz) (_:SqL K H b us) (_:bu (D.at' H) us ds) (_:SqL K H c cs) (_:bu (dD H) cs ps) (_:(rz.map (·.1)).Nodup) (_:(ds.map (·.1)).Nodup) (_:(∀d∈ds,b7 (rz.map (·.1)) d)) (_:(∀p∈ps,p.1∈rz.map (·.1))) (_:GY rz ps) (_:rz.length<=20) (_:ds.length<=20) (_:ps.length<=40) (_:0<=f) (_:f<=l) (_:∀H',SameBut p H H'->bO C D H' p f l rz ps ds->Q .non H'):hJ K D vs H Q E
theorem L9{D:bE}{E:XK}{b:Addr}{cs:List V}{ds:List aF}(dc:DCls K C)(hp:H p=some (.ins C dx []))(ha:H a=some (.lst ws))(hr:RoomsAt H ws rz)(hb:SqL K H b us)(hd:bu (D.at' H) us ds)(hc:SqL K H c cs)(hcp:bu (dD H) cs ps)(nr:(rz.map (·.1)).Nodup)(nd:(ds.map (·.1)).Nodup)(hin:∀d∈ds,b7 (rz.map (·.1)) d)(hpr:∀p∈ps,p.1∈rz.map (·.1))(hf:GY rz ps)(lr:rz.length<=20)(ld:ds.length<=20)(lp:ps.length<=40)(h0:0<=f)(h1:f<=l)
  (k:∀H',SameBut p H H'->bO C D H' p f l rz ps ds->Q .non H'):hJ K D [.ref p,.ref a,.ref b,.ref c,.int l,.int f] H Q E:=⟨_,_,_,_,_,_,_,_,_,_,_,_,_,_,rfl,dc,hp,ha,hr,hb,hd,hc,hcp,nr,nd,hin,hpr,hf,lr,ld,lp,h0,h1,k⟩
theorem BU(m:M K mg):FnOk P w K mg base CX0 4 m.k6 m.g8 ["self","rooms","doors","people","last","first"] (hJ K (aP P w K mg base (some 4))):=by
 refine m.EA.ok aHC ?_ ?_;tm_at"h";tm_at"g";rcases h with⟨p,C,dx,a,b,c,ws,us,cs,rz,ps,ds,f,l,rfl,dc,hp,ha,hra,hb,hd,hc,hcp,nr,nd',hin,hpr,hf,lr,ld,lp,h0,h1,k⟩;tm_at"f";have nd:=aHC.nd;tm_at"d";have aHq:= @uK P w K mg base m;have aHH:= @BW P w K mg base m;have aHG:= @yM P w K mg base m;have aIM:= @JT P w K mg base m;have aIK:= @KD P w K mg base m;have aIr:= @AA P w K mg base m;refine⟨_,(aB (aY (bI aIK hr (aA (pv 5) (aA (pv 4) aC))))
  (aB (aY (bI aHH hr (aA (dG (N:=["name","size"]) (nl:=2) (ci:=[]) rfl (blk (s.heap.objs.size+1) rfl rfl rfl (by kernel_rfl)) (bN (pv 1)) (λ_ _ _ _=>(nM (K:=K) (n:=2) rfl (aX (aL (i:=0) (show (["name","size"]:List Str).Nodup by decide +kernel) rfl (by tm_at"b")) (aX (aL (i:=1) (show (["name","size"]:List Str).Nodup by decide +kernel) rfl (by tm_at"b")) dY)))) (λ_ _ _ _=>dI) (λ_ _ _ _=>(pv 0))) aC)))
  (aB (aY (bI aHH hr (aA (dG (N:=["door"]) (nl:=1) (ci:=[]) rfl (blk (s.heap.objs.size+1) rfl rfl rfl (by kernel_rfl)) (bN (pv 2)) (λ_ _ _ _=>(aL (i:=0) (show (["door"]:List Str).Nodup by decide +kernel) rfl (by tm_at"b"))) (λ_ _ _ _=>dI) (λ_ _ _ _=>(rE (K:=K) (pv 0) rfl))) aC)))
  (aB (aO (i:=6) nd rfl (by tm_at"b") (zG (SM rfl) rfl m.aFU aDa (aA (pv 1) aC)))
  (aB (aY (bI aHG hr (aA (bI aIr hr (aA (pv 2) (aA (pv 3) aC))) (aA (pv 6) aC))))
  (aB (aY (bI aIM hr (aA (pv 6) (aA (pv 3) aC))))
  (aB (cC (pv 0) (pv 5) rfl)
  (aB (cC (pv 0) (pv 4) rfl)
  (aB (cC (pv 0) (pv 6) rfl)
  (aB (cC (pv 0) (bI aHq hr (aA (pv 6) (aA (pv 3) aC))) rfl)
  (aB (cC (pv 0) m6 rfl)
  (aE (cO cn rfl (bN (pv 2)) (aL (i:=7) nd rfl (by tm_at"b")) (aE (gB hu1 (aH (pv 0) rfl) (aH (pv 7) rfl) (pv 7) rfl))))))))))))))),?_⟩
 refine aJ (σ:=[some (.ref p),some (.ref a),some (.ref b),some (.ref c),some (.int l),some (.int f),none,none]) rfl ?_;tm_at"e";have hul:us.length=ds.length:=bx hd;have hwl:ws.length=rz.length:=bx hra;tm_at"a";refine aC6 h0 h1 ?_;tm_at"a";refine GA (α:=Str×Int) (xs:=rz) (vs:=ws) (λe=> .str e.1) (λe=> .int e.2) (λ_=>true) (λz y _=>y= .str z.1) (λ_ _ _ _ h _=>h) (by rw[sizeLine_eq];lia) (rest:=[]) (by rfl) (SqL.of ha) hra (λx H1 hx s1 R hR=>hR _ (Same.refl _)) (λx H1 hx _ s1 R hR=> ?_) ?_
 .tm_at"a";exact hR _ _ rfl (Same.refl _)
 intro ys H1 s1 hys;rw[dM]at hys;obtain rfl:=lJ hys;tm_at"a";rename_i q1 H2 n2 S2 e2;refine W5 (ss:=rz.map (·.1)) (SqL.of (by rw[e2,bw];rfl)) nr (by rw[ae];lia) λH3 S3=> ?_;have sA:Same H H3:=(s1.trans S2).trans S3;tm_at"a";refine iF (α:=aF) (xs:=ds) (vs:=us) ((aP P w K mg base (some 4)).at' H3) (λ_=>true) (λd y _=>y= .str d.1) (λ_ _ _ _ h _=>h) (by rw[sizeLine_eq];lia) (rest:=[]) (by rfl) (sA.seq hb) (yB hd sA) (λv x H1 _ hx s1 R hR=>hR _ (Same.refl _)) ?_ ?_
 .rintro v ⟨n,st,e,lt⟩ H4 hv hm - s4 R hR;obtain⟨q,C9,dx',fs,fp,rfl,hq,dcC,l1,l2,l3,l4,l5,mcE,hfp,hlt⟩:=DoorAt.ex hv;have hq':=s4 _ _ hq;tm_at"a";exact hR _ _ rfl (Same.refl _)
 intro ys H4 s4 hys;rw[dM]at hys;obtain rfl:=lJ hys;tm_at"a";rename_i q5 H5 n5 S5 e5;refine W5 (ss:=ds.map (·.1)) (SqL.of (by rw[e5,bw];rfl)) nd' (by rw[ae];lia) λH6 S6=> ?_;have sB:Same H H6:=((sA.trans s4).trans S5).trans S6;tm_at"a";refine aAy (sB _ _ ha) (CT (hra.sm sB)) λqs H7 n7 S7 e7=> ?_;rw[aAi nr]at e7;have sC:Same H H7:=sB.trans S7;tm_at"a";refine Y9 (sC.seq hb) (yB hd sC) hin ld (sC.seq hc) (rY hcp sC) hpr lp λq8 ss H8 S8 e8 hss lss=> ?_;tm_at"a";refine RB (SqL.of e8) (.inl (S8 _ _ e7)) (λz hz=>by rcases N7 nr (hss z hz) with⟨i,_,e⟩;rw[e];rfl) λH9 S9=> ?_;have sD:Same H7 H9:=S8.trans S9;tm_at"a";refine aBO (sD _ _ e7) ((sC.trans sD).seq hc) (rY hcp (sC.trans sD)) hpr nr (by lia) (by lia) hf λH10 S10=> ?_;have sE:Same H H10:=(sC.trans sD).trans S10;have es:H10 qs=some (.dK (szK rz)):=S10 _ _ (sD _ _ e7);have hp10:=sE _ _ hp;have hqp:qs≠p:=λz=>by rw[z,hp10]at es;cases es
 tm_at"a";rename_i H11 B11 e11 H12 B12 e12 H13 B13 e13;have sb13:SameBut p H10 H13:=by tm_at"m"
 have es13:=sb13 _ _ es hqp;have hc13:SqL K H13 c cs:=QZ (sE.seq hc) hp10 sb13;have hcp13:bu (dD H13) cs ps:=Paired.imp' (λv r ⟨q,e,hq⟩=>⟨q,e,sb13 _ _ (sE _ _ hq) λz=>by rw[z,hp]at hq;cases hq⟩) hcp;refine P6 es13 hc13 hcp13 hpr nr (by lia) λqp H14 kvs n14 S14 e14 hkk hv14=> ?_;have hp14:=S14 _ _ e13;tm_at"a";rename_i H15 B15 e15 qd H16 n16 S16 e16 H17 B17 e17;have hqd:qd≠p:=λz=>by rw[z,e15]at n16;cases n16
 have sb17:SameBut p H10 H17:=((((sb13.trans S14.but).trans B15).trans S16.but).trans B17)
 have es17:=sb17 _ _ es hqp;have ed17:=B17 _ _ e16 hqd;have hqpp:qp≠p:=λz=>by rw[z,e13]at n14;cases n14
 have eq17:H17 qp=some (.dK kvs):=B17 _ _ (S16 _ _ (B15 _ _ e14 hqpp)) hqpp;have hqpd:qp≠qd:=λz=>by rw[←z,B15 _ _ e14 hqpp]at n16;cases n16
 have fresh:∀x u,H10 x=some u->x≠p->x≠qd:=λx u hx hxp z=>by
  have h15:H15 x=some u:=B15 _ _ (S14 _ _ (sb13 _ _ hx hxp)) hxp;rw[z,n16]at h15;cases h15
 have hb17:SqL K H17 b us:=QZ (sE.seq hb) hp10 sb17;have hd17:bu ((aP P w K mg base (some 4)).at' H17) us ds:=Paired.imp' (λv d h=>(aP P w K mg base (some 4)).but ((aP P w K mg base (some 4)).same h sE) hp10 rfl sb17) hd;have ddq:∀{H':Hp}{v:V}{d:aF},SameBut qd H17 H'->(aP P w K mg base (some 4)).at' H17 v d->(aP P w K mg base (some 4)).at' H' v d:=λsb h=>(aP P w K mg base (some 4)).but h ed17 trivial sb;refine IO hb17 ?_;let Pv6:Nat->St->Hp->Prop:=λi σ' H'=>SameBut qd H17 H'/\(∃nk,H' qd=some (.dK nk)/\nk.length<=i/\bu (λe d=>e.1= .inr d.1/\(aP P w K mg base (some 4)).at' H17 e.2 d) nk (ds.take i))/\∃x,σ'=[some (.ref p),some (.ref a),some (.ref b),some (.ref c),some (.int l),some (.int f),some (.ref qs),x];refine c6 us Pv6 ⟨SameBut.refl,⟨[],ed17,aq _,.nil⟩,_,rfl⟩ (λi σ' H' _ q=>NN hb17 ed17 q.1) ?_ ?_
 .rintro i x _ H' hx hq_;obtain⟨sb,⟨nk,ek,hk,pr⟩,y,rfl⟩:=hq_;have hi:i<us.length:=(av.mp hx).1;obtain⟨d,hdx⟩:∃d,ds[i]? =some d:=⟨_,ah (by lia)⟩
  have hD:=Paired.at2 hd17 hx hdx;obtain⟨n,st,e,lt⟩:=d;have hD':=ddq sb hD;obtain⟨q,C9,dx',fs,fp,rfl,hq',dcC,l1,l2,l3,l4,l5,mcE,hfp,hlt⟩:=DoorAt.ex hD';have hpp:H' p=some (.ins C dx (RE f l qs qp qd)):=sb _ _ e17 (fb hqd);have hnone:aW nk (.inr n)=none:=yW λe he=>by
   obtain⟨d',hd',h1,_⟩:=gT pr he;rw[h1];intro z;have hn:n∉(ds.map (·.1)).take i:=DS nd' (by rw[bq,hdx];rfl)
   apply hn
   rw[←ym];exact ag.mpr ⟨d',hd',ir z⟩
  tm_at"a";refine nZ ek (by rw[sizeLine_eq];lia) λH9' B9' e9'=> ?_;rw[eF _ hnone]at e9';refine⟨by tm_at"m",⟨_,e9',by rw[ao];show nk.length+1<=_;lia,?_⟩,_,rfl⟩;rw[aU hdx];exact L2.Paired.snoc pr ⟨rfl,hD⟩
 .rintro _ H' hq_;obtain⟨sb,⟨nk,ek,hk,pr⟩,y,rfl⟩:=hq_;rw[hul,cp]at pr;refine k _ (λx u hx hxp=>sb _ _ (sb17 _ _ (sE _ _ hx) hxp) (fresh x u (sE _ _ hx) hxp)) ⟨dx,qs,qp,qd,nk,kvs,sb _ _ e17 (fb hqd),sb _ _ es17 (fresh _ _ es hqp),sb _ _ eq17 hqpd,hkk,hv14,ek,?_⟩;exact Paired.imp' (λe d h=>⟨h.1,ddq sb h.2⟩) pr
theorem TU(m:M K mg):Kc P w K mg base "House" m.aM 4 [] (hJ K (aP P w K mg base (some 4))):=⟨_,_,_,_,m.aDU,m.aAT,.nil,m.EC,BU m⟩
theorem XF{D:bE}{E:XK}{b:Addr}{cs:List V}{ds:List aF}(ev:vs++dvs=[.ref a,.ref b,.ref c,.int l,.int f])(dc:DCls K C)(ha:H a=some (.lst ws))(hr:RoomsAt H ws rz)(hb:SqL K H b us)(hd:bu (D.at' H) us ds)(hc:SqL K H c cs)(hcp:bu (dD H) cs ps)(nr:(rz.map (·.1)).Nodup)(nd:(ds.map (·.1)).Nodup)(hin:∀d∈ds,b7 (rz.map (·.1)) d)(hpr:∀p∈ps,p.1∈rz.map (·.1))(hf:GY rz ps)(lr:rz.length<=20)(ld:ds.length<=20)(lp:ps.length<=40)(h0:0<=f)(h1:f<=l)
  (k:∀p H',H p=none->Same H H'->bO C D H' p f l rz ps ds->Q (.ref p) H'):lX C (hJ K D) dvs E Q vs H:=by
 intro x dx nx nd0 ne;have s0:Same H (upd (upd H dx (.own x)) x (.ins C dx [])):=λb o e=>by
  rw[aI (bA e nx),aI (bA e nd0)];exact e
 rw[ev];exact L9 dc aR (s0 _ _ ha) (hr.sm s0) (s0.seq hb) (yB hd s0) (s0.seq hc) (rY hcp s0) nr nd hin hpr hf lr ld lp h0 h1 λH' sb hh=>⟨rfl,k x H' nx (λb o q=>sb b o (s0 b o q) (bA q nx)) hh⟩
theorem aBQ(rz:List (Str×Int)):((szK rz).map λe=>kV e.1)=(rz.map (·.1)).map V.str:=by unfold szK;rw[bw,bw];rfl
theorem FO{D:bE}:∀{nk:List (Key×V)}{ds:List aF},wL D H nk ds->(nk.map λe=>kV e.1)=(ds.map (·.1)).map V.str
 | _,_,.nil=>rfl
 | (k,v)::_,_,.cons h t=>by
  rw[bo,FO t,bo,bo];have:k= .inr _:=h.1;rw[this];rfl
theorem FC{D:bE}:∀{nk:List (Key×V)}{ds:List aF},wL D H nk ds->nk.map (·.1)=(ds.map (·.1)).map (km:Str->Key)
 | _,_,.nil=>rfl
 | (k,v)::_,_,.cons h t=>by
  rw[bo,FC t,bo,bo];have:k= .inr _:=h.1;rw[this]
theorem WK{D:bE}{ds:List aF}(h:wL D H nk ds):nk.length=ds.length:=bx h
theorem aAz{D:bE}{ds:List aF}(h:wL D H nk ds)(nd:(ds.map (·.1)).Nodup){d:aF}(hd:d∈ds):∃v,aW nk (.inr d.1)=some v/\D.at' H v d:=by
 rcases rq hd with⟨i,hi,e⟩;have hl:=WK h;have hx:nk[i]? =some nk[i]:=ah (by lia);obtain⟨h1,h2⟩:=Paired.at2 h hx (show ds[i]? =some d by rw[ah hi,e]);refine⟨_,?_,h2⟩;rw[←h1];exact eZ (by rw[FC h];exact o9 nd) (ay hx)
inductive nJ(C:Addr)(D:bE)(g:List (Str×Int)->List aF->List Str)(vs:List V)(H:Hp)(Q:VK)(E:XK):Prop
 | mk (h:Addr) (f l:Int) (rz ps:List (Str×Int)) (ds:List aF) (_:vs=[.ref h]) (_:bO C D H h f l rz ps ds) (_:∀p H',H p=none->Same H H'->H' p=some (.lst ((g rz ds).map V.str))->Q (.ref p) H'):nJ C D g vs H Q E
theorem i9{D:bE}{g:List (Str×Int)->List aF->List Str}{E:XK}{h:Addr}{ds:List aF}(hh:bO C D H h f l rz ps ds)(k:∀p H',H p=none->Same H H'->H' p=some (.lst ((g rz ds).map V.str))->Q (.ref p) H'):nJ C D g [.ref h] H Q E:=⟨_,_,_,_,_,_,rfl,hh,k⟩
theorem GS(m:M K mg):FnOk P w K mg base CX0 1 m.qC m.qH.d ["self"] (nJ m.aM (aP P w K mg base (some 4)) λrz _=>rz.map (·.1)):=by
 refine m.qH.F.ok aHV ?_ ?_;tm_at"h";tm_at"g";rcases h with⟨h,f,l,rz,ps,ds,rfl,hh,k⟩;tm_at"f";have nd:=aHV.nd;tm_at"d";have aHa:=m.bJ;refine⟨_,(aE (aS (zG (EJ rfl) rfl m.YE QF (aA (aH (pv 0) rfl) aC)))),?_⟩;refine aJ (σ:=[some (.ref h)]) rfl ?_;tm_at"e";obtain⟨dx,qs,qp,qd,nk,kvs,e1,e2,e3,e4,e5,e6,e7⟩:=hh.ex;tm_at"a";refine MK (.inl e2) λp H1 n1 S1 e8=> ?_;rw[aBQ]at e8;tm_at"a";exact k _ _ n1 S1 e8
theorem gD(m:M K mg):Mc P w K mg base m.aM "rooms" 1 (nJ m.aM (aP P w K mg base (some 4)) λrz _=>rz.map (·.1)):=⟨_,_,_,m.bJ.ic.cl,m.HV,m.qH.b,GS m⟩
theorem F2(m:M K mg):FnOk P w K mg base CX0 1 m.qA m.qE.d ["self"] (nJ m.aM (aP P w K mg base (some 4)) λ_ ds=>ds.map (·.1)):=by
 refine m.qE.F.ok aHY ?_ ?_;tm_at"h";tm_at"g";rcases h with⟨h,f,l,rz,ps,ds,rfl,hh,k⟩;tm_at"f";have nd:=aHY.nd;tm_at"d";have aHa:=m.bJ;refine⟨_,(aE (aS (zG (EJ rfl) rfl m.YE QF (aA (aH (pv 0) rfl) aC)))),?_⟩;refine aJ (σ:=[some (.ref h)]) rfl ?_;tm_at"e";obtain⟨dx,qs,qp,qd,nk,kvs,e1,e2,e3,e4,e5,e6,e7⟩:=hh.ex;tm_at"a";refine MK (.inl e6) λp H1 n1 S1 e8=> ?_;rw[FO e7]at e8;tm_at"a";exact k _ _ n1 S1 e8
theorem i8(m:M K mg):Mc P w K mg base m.aM "doors" 1 (nJ m.aM (aP P w K mg base (some 4)) λ_ ds=>ds.map (·.1)):=⟨_,_,_,m.bJ.ic.cl,m.IB,m.qE.b,F2 m⟩
inductive l9(C:Addr)(D:bE)(vs:List V)(H:Hp)(Q:VK)(E:XK):Prop
 | mk (h:Addr) (z:Str) (f l:Int) (rz ps:List (Str×Int)) (ds:List aF) (_:vs=[.ref h,.str z]) (_:bO C D H h f l rz ps ds) (_:(rz.map (·.1)).Nodup) (_:z∈rz.map (·.1)) (_:∀H',Same H H'->Q .non H'):l9 C D vs H Q E
theorem CZ{D:bE}{E:XK}{h:Addr}{ds:List aF}(hh:bO C D H h f l rz ps ds)(nr:(rz.map (·.1)).Nodup)(hz:z∈rz.map (·.1))(k:∀H',Same H H'->Q .non H'):l9 C D [.ref h,.str z] H Q E:=⟨_,_,_,_,_,_,_,rfl,hh,nr,hz,k⟩
theorem AD(m:M K mg):FnOk P w K mg base CX0 2 m.jT m.j6.d ["self","room"] (l9 m.aM (aP P w K mg base (some 4))):=by
 refine m.j6.F.ok aHu ?_ ?_;tm_at"h";tm_at"g";rcases h with⟨h,z,f,l,rz,ps,ds,rfl,hh,nr,hz,k⟩;tm_at"f";have nd:=aHu.nd;tm_at"d";have aHG:= @yM P w K mg base m;have aHa:=m.bJ;refine⟨_,(aE (aY (bI aHG hr (aA (cP (aA (pv 1) aC)) (aA (aH (pv 0) rfl) aC))))),?_⟩;refine aJ (σ:=[some (.ref h),some (.str z)]) rfl ?_;tm_at"e";obtain⟨dx,qs,qp,qd,nk,kvs,e1,e2,e3,e4,e5,e6,e7⟩:=hh.ex;rcases N7 nr hz with⟨i,hi,ev⟩;tm_at"a";rename_i p H1 n1 S1 e8;refine RB (ss:=[z]) (SqL.of e8) (.inl (S1 _ _ e2)) (λy hy=>by cases bz.mp hy;rw[ev];rfl) λH2 S2=> ?_;tm_at"a";exact k _ (S1.trans S2)
theorem pC(m:M K mg):Mc P w K mg base m.aM "need_room" 2 (l9 m.aM (aP P w K mg base (some 4))):=⟨_,_,_,m.bJ.ic.cl,m.AQ,m.j6.b,AD m⟩
inductive wM(C:Addr)(D:bE)(vs:List V)(H:Hp)(Q:VK)(E:XK):Prop
 | mk (h:Addr) (z:Str) (i f l:Int) (rz ps:List (Str×Int)) (ds:List aF) (_:vs=[.ref h,.str z]) (_:bO C D H h f l rz ps ds) (_:(rz.map (·.1)).Nodup) (_:(z,i)∈rz) (_:∀H',Same H H'->Q (.int i) H'):wM C D vs H Q E
theorem RI{D:bE}{E:XK}{h:Addr}{ds:List aF}(hh:bO C D H h f l rz ps ds)(nr:(rz.map (·.1)).Nodup)(hz:(z,i)∈rz)(k:∀H',Same H H'->Q (.int i) H'):wM C D [.ref h,.str z] H Q E:=⟨_,_,_,_,_,_,_,_,rfl,hh,nr,hz,k⟩
theorem GV(m:M K mg):FnOk P w K mg base CX0 3 m.qM m.pZ.d ["self","room"] (wM m.aM (aP P w K mg base (some 4))):=by
 refine m.pZ.F.ok aHW ?_ ?_;tm_at"h";tm_at"g";rcases h with⟨h,z,i,f,l,rz,ps,ds,rfl,hh,nr,hz,k⟩;tm_at"f";have nd:=aHW.nd;tm_at"d";have aHa:=m.bJ;have aH3:= @pC P w K mg base m;refine⟨_,(aB (aY (cQ 2 hr (pv 0) (aA (pv 1) aC)))
  (aE (aS (dL hu1 (aH (pv 0) rfl) (pv 1) (λ_ _=>rfl))))),?_⟩
 refine aJ (σ:=[some (.ref h),some (.str z)]) rfl ?_;tm_at"e";obtain⟨dx,qs,qp,qd,nk,kvs,e1,e2,e3,e4,e5,e6,e7⟩:=hh.ex;tm_at"a";refine CZ hh nr (ag.mpr ⟨_,hz,rfl⟩) λH1 S1=> ?_;have e11:=S1 _ _ e1;tm_at"a";refine d9 (.inl (S1 _ _ e2)) (GX nr hz) ?_;tm_at"a";exact k _ S1
theorem vT(m:M K mg):Mc P w K mg base m.aM "holds" 3 (wM m.aM (aP P w K mg base (some 4))):=⟨_,_,_,m.bJ.ic.cl,m.HS,m.pZ.b,GV m⟩
inductive wQ(C:Addr)(D:bE)(vs:List V)(H:Hp)(Q:VK)(E:XK):Prop
 | mk (h:Addr) (z:Str) (f l:Int) (rz ps:List (Str×Int)) (ds:List aF) (_:vs=[.ref h,.str z]) (_:bO C D H h f l rz ps ds) (_:(rz.map (·.1)).Nodup) (_:z∈rz.map (·.1)) (_:∀H',Same H H'->Q (.int (dA ps z)) H'):wQ C D vs H Q E
theorem aCT{D:bE}{E:XK}{h:Addr}{ds:List aF}(hh:bO C D H h f l rz ps ds)(nr:(rz.map (·.1)).Nodup)(hz:z∈rz.map (·.1))(k:∀H',Same H H'->Q (.int (dA ps z)) H'):wQ C D [.ref h,.str z] H Q E:=⟨_,_,_,_,_,_,_,rfl,hh,nr,hz,k⟩
theorem HR(m:M K mg):FnOk P w K mg base CX0 3 m.qB m.qJ.d ["self","room"] (wQ m.aM (aP P w K mg base (some 4))):=by
 refine m.qJ.F.ok aH0 ?_ ?_;tm_at"h";tm_at"g";rcases h with⟨h,z,f,l,rz,ps,ds,rfl,hh,nr,hz,k⟩;tm_at"f";have nd:=aH0.nd;tm_at"d";have aHa:=m.bJ;have aH3:= @pC P w K mg base m;refine⟨_,(aB (aY (cQ 2 hr (pv 0) (aA (pv 1) aC)))
  (aE (aS (dL hu1 (aH (pv 0) rfl) (pv 1) (λ_ _=>rfl))))),?_⟩
 refine aJ (σ:=[some (.ref h),some (.str z)]) rfl ?_;tm_at"e";obtain⟨dx,qs,qp,qd,nk,kvs,e1,e2,e3,e4,e5,e6,e7⟩:=hh.ex;tm_at"a";refine CZ hh nr hz λH1 S1=> ?_;have e11:=S1 _ _ e1;tm_at"a";refine d9 (.inl (S1 _ _ e3)) (e5 z hz) ?_;tm_at"a";exact k _ S1
theorem GQ(m:M K mg):Mc P w K mg base m.aM "found" 3 (wQ m.aM (aP P w K mg base (some 4))):=⟨_,_,_,m.bJ.ic.cl,m.HU,m.qJ.b,HR m⟩
inductive AZ(C:Addr)(D:bE)(vs:List V)(H:Hp)(Q:VK)(E:XK):Prop
 | mk (h:Addr) (d:aF) (f l:Int) (rz ps:List (Str×Int)) (ds:List aF) (_:vs=[.ref h,.str d.1]) (_:bO C D H h f l rz ps ds) (_:(ds.map (·.1)).Nodup) (_:d∈ds) (_:∀v,D.at' H v d->Q v H):AZ C D vs H Q E
theorem zX{D:bE}{E:XK}{h:Addr}{d:aF}{ds:List aF}(hh:bO C D H h f l rz ps ds)(nd:(ds.map (·.1)).Nodup)(hd:d∈ds)(k:∀v,D.at' H v d->Q v H):AZ C D [.ref h,.str d.1] H Q E:=⟨_,_,_,_,_,_,_,rfl,hh,nd,hd,k⟩
theorem JZ(m:M K mg):FnOk P w K mg base CX0 1 m.tN m.tF.d ["self","name"] (AZ m.aM (aP P w K mg base (some 4))):=by
 refine m.tF.F.ok aH7 ?_ ?_;tm_at"h";tm_at"g";rcases h with⟨h,d,f,l,rz,ps,ds,rfl,hh,ndd,hd,k⟩;tm_at"f";have nd:=aH7.nd;tm_at"d";have aHa:=m.bJ;refine⟨_,(aB (b8 (sM (uO hu1 (pv 1) (aH (pv 0) rfl)) (by with_unfolding_all rfl)) (aE gW) bK)
  (aE (aS (dL hu1 (aH (pv 0) rfl) (pv 1) (λ_ _=>rfl))))),?_⟩
 refine aJ (σ:=[some (.ref h),some (.str d.1)]) rfl ?_;tm_at"e";obtain⟨dx,qs,qp,qd,nk,kvs,e1,e2,e3,e4,e5,e6,e7⟩:=hh.ex;rcases aAz e7 ndd hd with⟨v,ev,hv⟩;tm_at"a";refine wY (.inl e6) ?_;rw[show (aW nk (.inr d.1)).isSome=true by rw[ev];rfl];tm_at"a";refine d9 (.inl e6) ev ?_;tm_at"a";exact k _ hv
theorem iB(m:M K mg):Mc P w K mg base m.aM "door" 1 (AZ m.aM (aP P w K mg base (some 4))):=⟨_,_,_,m.bJ.ic.cl,m.KM,m.tF.b,JZ m⟩
local macro_rules| `(tactic| tm_at"l")=> `(tactic| first|(with_reducible refine aDo ?_) )
def aZ(rz ps:List (Str×Int)):Int:=(rz.map λe=>dA ps e.1).sum
theorem C3{rz ps:List (Str×Int)}:∀{kvs:List (Key×V)}{l:List (Str×Int)},(kvs.map (·.1)).Nodup->kvs.map (·.1)=(szK l).map (·.1)->(∀e∈l,∀v,(km e.1,v)∈kvs->v= .int (dA ps e.1))->kvs.map (·.2)=(l.map λe=>dA ps e.1).map V.int
 | [],[],_,_,_=>rfl
 | [],_::_,_,h,_=>by cases h
 | _::_,[],_,h,_=>by cases h
 | (k,v)::kvs,e::l,nd,h,hv=>by
  have h1:=(vh h).1;have h2:=(vh h).2;have nd2:=(cm.mp nd).2;have ih:=C3 (rz:=rz) (ps:=ps) (kvs:=kvs) (l:=l) nd2 h2 λe' he' v' hv'=>hv e' (ab _ he') v' (ab _ hv');have hk:k= .inr e.1:=h1;rw[bo,bo,bo,ih]
  congr 1
  exact hv e (.head _) v (by rw[hk];exact .head _)
inductive x9(C:Addr)(D:bE)(vs:List V)(H:Hp)(Q:VK)(E:XK):Prop
 | mk (h:Addr) (f l:Int) (rz ps:List (Str×Int)) (ds:List aF) (_:vs=[.ref h]) (_:bO C D H h f l rz ps ds) (_:(rz.map (·.1)).Nodup) (_:∀H',Same H H'->Q (.int (aZ rz ps)) H'):x9 C D vs H Q E
theorem GO{D:bE}{E:XK}{h:Addr}{ds:List aF}(hh:bO C D H h f l rz ps ds)(nr:(rz.map (·.1)).Nodup)(k:∀H',Same H H'->Q (.int (aZ rz ps)) H'):x9 C D [.ref h] H Q E:=⟨_,_,_,_,_,_,rfl,hh,nr,k⟩
theorem HP(m:M K mg):FnOk P w K mg base CX0 1 m.qI m.qG.d ["self"] (x9 m.aM (aP P w K mg base (some 4))):=by
 refine m.qG.F.ok aHU ?_ ?_;tm_at"h";tm_at"g";rcases h with⟨h,f,l,rz,ps,ds,rfl,hh,nr,k⟩;tm_at"f";have nd:=aHU.nd;tm_at"d";have aHa:=m.bJ;refine⟨_,(aE (aS (bL (U3 rfl) rfl m.F1 yS (aA (SU (aH (pv 0) rfl)) aC)))),?_⟩;refine aJ (σ:=[some (.ref h)]) rfl ?_;tm_at"e";obtain⟨dx,qs,qp,qd,nk,kvs,e1,e2,e3,e4,e5,e6,e7⟩:=hh.ex;have ndk:(kvs.map (·.1)).Nodup:=by rw[e4,QU];exact o9 nr
 have hv:kvs.map (·.2)=(rz.map λe=>dA ps e.1).map V.int:=C3 (rz:=rz) ndk e4 λe he v hm=>by
  have h1:=eZ ndk hm;have h2:=e5 e.1 (ag.mpr ⟨e,he,rfl⟩);have h3:aW kvs (.inr e.1)=some v:=h1;rw[h2]at h3;exact(dg h3).symm
 tm_at"a";refine aAH (.inl e3) λv H1 n1 S1 ev=> ?_;tm_at"a";refine aDb ev (.inl (S1 _ _ e3)) hv ?_;exact k _ S1
theorem nO(m:M K mg):Mc P w K mg base m.aM "total" 1 (x9 m.aM (aP P w K mg base (some 4))):=⟨_,_,_,m.bJ.ic.cl,m.HW,m.qG.b,HP m⟩
def cU(f l:Int)(d:aF)(t:Int):Int:=if f<=t/\t<l then d.2.2.2 t else 0
inductive xT(C:Addr)(D:bE)(vs:List V)(H:Hp)(Q:VK)(E:XK):Prop
 | mk (h:Addr) (d:aF) (t f l:Int) (rz ps:List (Str×Int)) (ds:List aF) (_:vs=[.ref h,.str d.1,.int t]) (_:bO C D H h f l rz ps ds) (_:(ds.map (·.1)).Nodup) (_:d∈ds) (_:0<=f) (_:∀H',Same H H'->Q (.int (cU f l d t)) H'):xT C D vs H Q E
theorem Q8{D:bE}{E:XK}{h:Addr}{d:aF}{t:Int}{ds:List aF}(hh:bO C D H h f l rz ps ds)(nd:(ds.map (·.1)).Nodup)(hd:d∈ds)(hf:0<=f)(k:∀H',Same H H'->Q (.int (cU f l d t)) H'):xT C D [.ref h,.str d.1,.int t] H Q E:=⟨_,_,_,_,_,_,_,_,rfl,hh,nd,hd,hf,k⟩
theorem J6(m:M K mg):FnOk P w K mg base CX0 6 m.tP m.tH.d ["self","name","turn"] (xT m.aM (aP P w K mg base (some 4))):=by
 refine m.tH.F.ok aIa ?_ ?_;tm_at"h";tm_at"g";rcases h with⟨h,d,t,f,l,rz,ps,ds,rfl,hh,ndd,hd,hf,k⟩;tm_at"f";have nd:=aIa.nd;tm_at"d";have aHa:=m.bJ;have aIC:= @iB P w K mg base m;refine⟨_,(aB (aO (i:=3) nd rfl (by tm_at"b") (cQ 1 hr (pv 0) (aA (pv 1) aC)))
  (aB (b8 (PW.pt (KW (bB kF (pv 2) (aH (pv 0) rfl) (bG _)) (EN (bB KQ (pv 2) (aH (pv 0) rfl) (bG _))))) (aE (aS aD)) bK)
  (aE (aS (cQ 4 hr (pv 3) (aA (pv 2) aC)))))),?_⟩
 refine aJ (σ:=[some (.ref h),some (.str d.1),some (.int t),none]) rfl ?_;tm_at"e";obtain⟨dx,qs,qp,qd,nk,kvs,e1,_⟩:=hh.ex;obtain⟨n,st,e,lt⟩:=d;tm_at"a";refine zX (d:=(n,st,e,lt)) hh ndd hd λv hv=> ?_;obtain⟨q2,C2,dx2,fs2,fp2,rfl,hq2,dcC,l1,l2,l3,l4,l5,mcE,hfp,hlt⟩:=DoorAt.ex hv;rcases hlt _ rfl with⟨sp,mcL,hsp⟩;tm_at"a";refine bR (λhc=> ?_) (λhc=> ?_)
 .have hk:cU f l (n,st,e,lt) t=0:=by unfold cU;rw[if_neg (by lia)]
  rw[hk]at k;tm_at"a";exact k _ (Same.refl _)
 .tm_at"a";refine bR (λhc2=> ?_) (λhc2=> ?_)
  .have hk:cU f l (n,st,e,lt) t=0:=by unfold cU;rw[if_neg (by lia)]
   rw[hk]at k;tm_at"a";exact k _ (Same.refl _)
  .have hk:cU f l (n,st,e,lt) t=lt t:=by unfold cU;rw[if_pos (by lia)]
   rw[hk]at k;tm_at"a";exact hsp _ _ _ hq2 (λx hx=>(hfp x hx).1) (by lia) k
theorem yQ(m:M K mg):Mc P w K mg base m.aM "lets" 6 (xT m.aM (aP P w K mg base (some 4))):=⟨_,_,_,m.bJ.ic.cl,m.KJ,m.tH.b,J6 m⟩
def AM(H:Hp)(v:V)(r:bQ):Prop:=∃q,v= .ref q/\H q=some (.tup [.int r.1,.str r.2.1,.int r.2.2])
abbrev cV(H:Hp)(vs:List V)(rows:List bQ):Prop:=bu (AM H) vs rows
theorem HN(h:cV H vs rows)(s:Same H H'):cV H' vs rows:=Paired.imp' (λv r ⟨q,e,h⟩=>⟨q,e,s _ _ h⟩) h
theorem CY{F:α->β->Prop}:∀{l:List α}{m:List β},bu F l m->bu (λb a=>F a b) m l
 | _,_,.nil=> .nil
 | _,_,.cons h t=> .cons h (CY t)
def cnt(ns:List Str)(f l:Int)(r:bQ):Bool:=decide (r.2.1∈ns)&&(decide (f<=r.1)&&decide (r.1<l))
inductive xH(K:W.Frag)(C:Addr)(D:bE)(vs:List V)(H:Hp)(Q:VK)(E:XK):Prop
 | mk (h a:Addr) (f l:Int) (rz ps:List (Str×Int)) (ds:List aF) (us:List V) (rows:List bQ) (_:vs=[.ref h,.ref a]) (_:bO C D H h f l rz ps ds) (_:SqL K H a us) (_:cV H us rows) (_:rows.length<=200) (_:∀p ys H',H p=none->Same H H'->H' p=some (.lst ys)->cV H' ys (rows.filter (cnt (ds.map (·.1)) f l))->Q (.ref p) H'):xH K C D vs H Q E
theorem aB9{D:bE}{E:XK}{h:Addr}{ds:List aF}(hh:bO C D H h f l rz ps ds)(hS:SqL K H a us)(hp:cV H us rows)(hl:rows.length<=200)(k:∀p ys H',H p=none->Same H H'->H' p=some (.lst ys)->cV H' ys (rows.filter (cnt (ds.map (·.1)) f l))->Q (.ref p) H'):xH K C D [.ref h,.ref a] H Q E:=⟨_,_,_,_,_,_,_,_,_,rfl,hh,hS,hp,hl,k⟩
theorem zD(m:M K mg):FnOk P w K mg base CX0 2 m.jW m.fW.d ["house","plan"] (xH K m.aM (aP P w K mg base (some 4))):=by
 refine m.fW.F.ok aHw ?_ ?_;tm_at"h";tm_at"g";rcases h with⟨h,a,f,l,rz,ps,ds,us,rows,rfl,hh,hS,hpl,hlen,k⟩;tm_at"f";have nd:=aHw.nd;tm_at"d";have aHa:=m.bJ;have aI4:= @i8 P w K mg base m;refine⟨_,(aB (aO (i:=2) nd rfl (by tm_at"b") (cA 1 hr (pv 0)))
  (aE (aS (dG (N:=["row","doors","house"]) (nl:=1) (ci:=[2,0]) rfl (blk (s.heap.objs.size+1) rfl rfl rfl (by kernel_rfl)) (bN (pv 1)) (λ_ _ _ _=>(aL (i:=0) (show (["row","doors","house"]:List Str).Nodup by decide +kernel) rfl (by tm_at"b"))) (λ_ _ _ _=>(r9 (PW.pt (E9 (bB (R1 (K:=K)) (aT (d0 (K:=K)) (pv 0) aD (λ_ _=>rfl)) (pv 1) (by with_unfolding_all rfl)) (BD (Y1 R3 kF (rE (K:=K) (pv 2) rfl) (aT (d0 (K:=K)) (pv 0) aD (λ_ _=>rfl)) (rE (K:=K) (pv 2) rfl))))))) (λ_ _ _ _=>(pv 0)))))),?_⟩
 refine aJ (σ:=[some (.ref h),some (.ref a),none]) rfl ?_;tm_at"e";obtain⟨dx,qs,qp,qd,nk,kvs,e1,e2,e3,e4,e5,e6,e7⟩:=hh.ex;tm_at"a";refine i9 hh λp1 H1 n1 S1 e8=> ?_;have e11:=S1 _ _ e1;tm_at"a";refine iF (α:=bQ) (xs:=rows) (vs:=us) (AM H1) (cnt (ds.map (·.1)) f l) (λr y H=>AM H y r) (λ_ _ _ _ ⟨q,h1,h2⟩ s=>⟨q,h1,s _ _ h2⟩) (by rw[sizeLine_eq];lia) (rest:=[some (.ref p1),some (.ref h)]) (by rfl) (S1.seq hS) (HN hpl S1) ?_ ?_ ?_
 .rintro v ⟨t0,n0,j0⟩ H2 ⟨q,rfl,hq⟩ hm s2 R hR;have hq':H2 q=some (.tup [.int t0,.str n0,.int j0]):=s2 _ _ hq;have ep:=s2 _ _ e8;have eh:=s2 _ _ e11;tm_at"a";refine⟨q,_,1,_,rfl,rfl,SqT.of hq',rfl,?_⟩;tm_at"a";refine aEU (SqL.of ep) ?_;have hR':=hR _ (Same.refl _);unfold cnt at hR';tm_at"a";refine bR (λhc=> ?_) (λhc=> ?_)
  .rw[decide_eq_true hc,lu]at hR';tm_at"a";refine⟨q,_,0,_,rfl,rfl,SqT.of hq',rfl,?_⟩;tm_at"a";refine bR (λhc2=> ?_) (λhc2=> ?_)
   .rw[decide_eq_true hc2,lu]at hR';tm_at"a";exact hR'
   .rw[decide_eq_false hc2,kf]at hR';exact⟨false,rfl,hR'⟩
  .rw[decide_eq_false hc,kf]at hR';exact hR'
 .rintro v ⟨t0,n0,j0⟩ H2 ⟨q,rfl,hq⟩ hm - s2 R hR;tm_at"a";exact hR _ _ ⟨q,rfl,s2 _ _ hq⟩ (Same.refl _)
 intro ys H2 s2 hys;have hpl2:=CY hys;tm_at"a";rename_i p3 H3 n3 S3 e33;refine k _ _ _ ?_ ((S1.trans s2).trans S3) e33 (HN hpl2 S3);cases hq:H p3 with
 | none=>rfl
 | some u=>rw[s2 _ _ (S1 _ _ hq)]at n3;cases n3
theorem zA(m:M K mg):Fc P w K mg base "rows_that_count" 2 ["house","plan"] (xH K m.aM (aP P w K mg base (some 4))):=⟨_,_,m.CK,m.fW.F.kp,m.fW.b,zD m⟩
def MY(ds:List aF)(n:Str):Option aF:=ds.find? λd=>decide (d.1=n)
theorem EQ{ds:List aF}{n:Str}(h:n∈ds.map (·.1)):∃d∈ds,d.1=n/\MY ds n=some d:=by
 rcases ag.mp h with⟨d,hd,e⟩;cases hf:MY ds n with
 | none =>
  have:=ug.mp hf d hd;exact absurd (decide_eq_true e) this
 | some d2 =>
  have h1:decide (d2.1=n)=true:=xf (p:=λd:aF=>decide (d.1=n)) hf;exact⟨d2,ju hf,of_decide_eq_true h1,rfl⟩
def yC(ds:List aF)(n:Str):Bool:=match MY ds n with
 | some d=>decide (d.2.2.1= .non)
 | none=>false
def AI(ds:List aF)(f l:Int)(rows:List bQ)(t:Int):Int:=(((rows.filter (cnt (ds.map (·.1)) f l)).filter λr=>decide (r.1<t)&&yC ds r.2.1).map (·.2.2)).sum
inductive xB(K:W.Frag)(C:Addr)(D:bE)(vs:List V)(H:Hp)(Q:VK)(E:XK):Prop
 | mk (h a:Addr) (t f l:Int) (rz ps:List (Str×Int)) (ds:List aF) (us:List V) (rows:List bQ) (_:vs=[.ref h,.ref a,.int t]) (_:bO C D H h f l rz ps ds) (_:(ds.map (·.1)).Nodup) (_:(∀d∈ds,b7 (rz.map (·.1)) d)) (_:SqL K H a us) (_:cV H us rows) (_:rows.length<=200) (_:∀H',Same H H'->Q (.int (AI ds f l rows t)) H'):xB K C D vs H Q E
theorem aBG{D:bE}{E:XK}{h:Addr}{t:Int}{ds:List aF}(hh:bO C D H h f l rz ps ds)(nd:(ds.map (·.1)).Nodup)(hin:∀d∈ds,b7 (rz.map (·.1)) d)(hS:SqL K H a us)(hp:cV H us rows)(hl:rows.length<=200)(k:∀H',Same H H'->Q (.int (AI ds f l rows t)) H'):xB K C D [.ref h,.ref a,.int t] H Q E:=⟨_,_,_,_,_,_,_,_,_,_,rfl,hh,nd,hin,hS,hp,hl,k⟩
theorem VV(m:M K mg):FnOk P w K mg base CX0 3 m.EF m.yG.d ["house","plan","turn"] (xB K m.aM (aP P w K mg base (some 4))):=by
 refine m.yG.F.ok aIH ?_ ?_;tm_at"h";tm_at"g";rcases h with⟨h,a,t,f,l,rz,ps,ds,us,rows,rfl,hh,ndd,hin,hS,hpl,hlen,k⟩;tm_at"f";have nd:=aIH.nd;tm_at"d";have aIq:= @zA P w K mg base m;have aHa:=m.bJ;have aIC:= @iB P w K mg base m;refine⟨_,(aB (aO (i:=3) nd rfl (by tm_at"b") (bI aIq hr (aA (pv 0) (aA (pv 1) aC))))
  (aE (aS (bL (uA rfl) rfl m.F1 yS (aA (dG (N:=["at","name","number","turn","house"]) (nl:=3) (ci:=[2,0]) rfl (blk (s.heap.objs.size+1) rfl rfl rfl (by kernel_rfl)) (bN (pv 3)) (λ_ _ _ _=>(nM (K:=K) (n:=3) rfl (aX (aL (i:=0) (show (["at","name","number","turn","house"]:List Str).Nodup by decide +kernel) rfl (by tm_at"b")) (aX (aL (i:=1) (show (["at","name","number","turn","house"]:List Str).Nodup by decide +kernel) rfl (by tm_at"b")) (aX (aL (i:=2) (show (["at","name","number","turn","house"]:List Str).Nodup by decide +kernel) rfl (by tm_at"b")) dY))))) (λ_ _ _ _=>(r9 (PW.pt (E9 (bB kF (pv 0) (pv 3) (bG _)) (BD (kA (aBX (P:=P) (w:=w) (K:=K) (mg:=mg) (base:=base) 1 hr (MT (P:=P) (w:=w) (K:=K) (mg:=mg) (base:=base) 1 hr (pv 4) (aA (pv 1) aC))))))))) (λ_ _ _ _=>(pv 2))) aC))))),?_⟩
 refine aJ (σ:=[some (.ref h),some (.ref a),some (.int t),none]) rfl ?_;tm_at"e";tm_at"a";refine aB9 hh hS hpl hlen λq ys H1 n1 S1 eq hcr=> ?_;unfold AI at k;generalize hce:rows.filter (cnt (ds.map (·.1)) f l)=cr at hcr k;have hcn:∀r∈cr,r.2.1∈ds.map (·.1):=λr hr=>by
  rw[←hce]at hr;have:=(cg.mp hr).2;unfold cnt at this;rw[dz]at this;exact of_decide_eq_true this.1
 have hcl:cr.length<=200:=by rw[←hce];exact dy (du _ _) hlen
 have hyl:ys.length=cr.length:=bx hcr;have hh1:=sP hh S1;tm_at"a";refine aBT (α:=bQ) (xs:=cr) (vs:=ys) (λr=> .int r.1) (λr=> .str r.2.1) (λr=> .int r.2.2) (λr=>decide (r.1<t)&&yC ds r.2.1) (λr y _=>y= .int r.2.2) (λ_ _ _ _ h _=>h) (by rw[sizeLine_eq];lia) (rest:=[some (.int t),some (.ref h)]) (by rfl) (SqL.of eq) hcr ?_ ?_ ?_
 .rintro ⟨t0,n0,j0⟩ H2 hm s2 R hR;have hR':=hR _ (Same.refl _);have hh2:=sP hh1 s2;obtain⟨dx,qs,qp,qd,nk,kvs,e1,_⟩:=hh2.ex;obtain⟨⟨dn,dst,de,lt⟩,hd,rfl,hdo⟩:=EQ (hcn _ hm);have hend:=(hin _ hd).2;have hx:yC ds dn=decide (de= .non):=by unfold yC;rw[hdo]
  tm_at"a";refine bR (λhc=> ?_) (λhc=> ?_)
  .rw[show (decide (((t0,dn,j0):bQ).1<t))=true from decide_eq_true hc,lu,hx]at hR';tm_at"a";refine zX (d:=(dn,dst,de,lt)) hh2 ndd hd λv hv=> ?_;obtain⟨q2,C2,dx2,fs2,fp2,rfl,hq2,dcC,l1,l2,l3,l4,l5,mcE,hfp,hlt⟩:=DoorAt.ex hv;rcases hend with hend|⟨z,hend,hz⟩
   .have hde:de= .non:=hend;subst hde;tm_at"a";exact hR'
   .have hde:de= .str z:=hend;subst hde;rw[decide_eq_false (λz=>nomatch z)]at hR';tm_at"a";exact hR'
  .rw[show (decide (((t0,dn,j0):bQ).1<t))=false from decide_eq_false hc,kf]at hR';exact hR'
 .rintro ⟨t0,n0,j0⟩ H2 hm - s2 R hR;tm_at"a";exact hR _ _ rfl (Same.refl _)
 intro ys2 H2 s2 hys2;have ey2:ys2=((cr.filter λr=>decide (r.1<t)&&yC ds r.2.1).map (·.2.2)).map V.int:=by rw[lJ hys2,bw];rfl
 subst ey2;tm_at"a";rename_i q3 H3 n3 S3 e3;refine E7 (SqL.of e3) ?_;exact k _ ((S1.trans s2).trans S3)
theorem VB(m:M K mg):Fc P w K mg base "out_by" 3 ["house","plan","turn"] (xB K m.aM (aP P w K mg base (some 4))):=⟨_,_,m.aAS,m.yG.F.kp,m.yG.b,VV m⟩
def vV(rz ps:List (Str×Int))(ds:List aF)(f l:Int)(rows:List bQ):Int:=((el (l - f).toNat).map λi:Nat=>aZ rz ps - AI ds f l rows (f+(i:Int))).sum
inductive xU(K:W.Frag)(C:Addr)(D:bE)(vs:List V)(H:Hp)(Q:VK)(E:XK):Prop
 | mk (h a:Addr) (f l:Int) (rz ps:List (Str×Int)) (ds:List aF) (us:List V) (rows:List bQ) (_:vs=[.ref h,.ref a]) (_:bO C D H h f l rz ps ds) (_:(rz.map (·.1)).Nodup) (_:(ds.map (·.1)).Nodup) (_:(∀d∈ds,b7 (rz.map (·.1)) d)) (_:SqL K H a us) (_:cV H us rows) (_:rows.length<=200) (_:l<1000000000000) (_:0<=f) (_:l - f<=1000) (_:f<=l) (_:∀H',Same H H'->Q (.int (vV rz ps ds f l rows)) H'):xU K C D vs H Q E
theorem Q0{D:bE}{E:XK}{h:Addr}{ds:List aF}(hh:bO C D H h f l rz ps ds)(nr:(rz.map (·.1)).Nodup)(nd:(ds.map (·.1)).Nodup)(hin:∀d∈ds,b7 (rz.map (·.1)) d)(hS:SqL K H a us)(hp:cV H us rows)(hl:rows.length<=200)(h1:l<1000000000000)(h2:0<=f)(h3:l - f<=1000)(h4:f<=l)(k:∀H',Same H H'->Q (.int (vV rz ps ds f l rows)) H'):xU K C D [.ref h,.ref a] H Q E:=⟨_,_,_,_,_,_,_,_,_,rfl,hh,nr,nd,hin,hS,hp,hl,h1,h2,h3,h4,k⟩
theorem ZX(m:M K mg):FnOk P w K mg base CX0 4 m.IA m.BT.d ["house","plan"] (xU K m.aM (aP P w K mg base (some 4))):=by
 refine m.BT.F.ok aIO ?_ ?_;tm_at"h";tm_at"g";rcases h with⟨h,a,f,l,rz,ps,ds,us,rows,rfl,hh,nr,ndd,hin,hS,hpl,hlen,h1,h2,h3,h4,k⟩;tm_at"f";have nd:=aIO.nd;tm_at"d";have aI8:= @VB P w K mg base m;have aHa:=m.bJ;have aJa:= @nO P w K mg base m;refine⟨_,(aB (aO (i:=2) nd rfl (by tm_at"b") (cA 1 hr (pv 0)))
  (aE (aS (bL (uA rfl) rfl m.F1 yS (aA (dG (N:=["turn","total","house","plan"]) (nl:=1) (ci:=[2,0,1]) rfl (blk (s.heap.objs.size+1) rfl rfl rfl (by kernel_rfl)) (JD rfl m.gL (aA (aH (pv 0) rfl) (aA (aH (pv 0) rfl) aC))) (λ_ _ _ _=>(aL (i:=0) (show (["turn","total","house","plan"]:List Str).Nodup by decide +kernel) rfl (by tm_at"b"))) (λ_ _ _ _=>dI) (λ_ _ _ _=>(aK hV (pv 1) (bI aI8 hr (aA (pv 2) (aA (pv 3) (aA (pv 0) aC))))))) aC))))),?_⟩
 refine aJ (σ:=[some (.ref h),some (.ref a),none]) rfl ?_;tm_at"e";obtain⟨dx,qs,qp,qd,nk,kvs,e1,_⟩:=hh.ex;tm_at"a";refine GO hh nr λH1 S1=> ?_;have e11:=S1 _ _ e1;tm_at"a";refine DW (λi=> .int (aZ rz ps - AI ds f l rows (f+(i:Int)))) (by rw[sizeLine_eq];lia) (rest:=[some (.int (aZ rz ps)),some (.ref h),some (.ref a)]) (by rfl) ?_ ?_
 .intro i H2 hi s2 R hR;have s02:=S1.trans s2;tm_at"a";refine aBG (sP hh s02) ndd hin (s02.seq hS) (HN hpl s02) hlen λH3 S3=> ?_;tm_at"a";exact hR _ S3
 intro H2 s2;tm_at"a";rename_i q3 H3 n3 S3 e3;have e3':H3 q3=some (.lst (((el (l - f).toNat).map λi:Nat=>aZ rz ps - AI ds f l rows (f+(i:Int))).map V.int)):=by rw[e3,bw];rfl
 refine E7 (SqL.of e3') ?_;exact k _ ((S1.trans s2).trans S3)
theorem ZE(m:M K mg):Fc P w K mg base "spent" 4 ["house","plan"] (xU K m.aM (aP P w K mg base (some 4))):=⟨_,_,m.aDR,m.BT.F.kp,m.BT.b,ZX m⟩
def fC(ns:List Int)(k:Int):Int:=ns.getD k.toNat 0
inductive A5(K:W.Frag)(vs:List V)(H:Hp)(Q:VK)(E:XK):Prop
 | mk (a:Addr) (ns:List Int) (k:Int) (_:vs=[.ref a,.int k]) (_:SqL K H a (ns.map V.int)) (_:0<=k) (_:Q (.int (fC ns k)) H):A5 K vs H Q E
theorem aEK{E:XK}{ns:List Int}(hS:SqL K H a (ns.map V.int))(hi:0<=i)(h:Q (.int (fC ns i)) H):A5 K [.ref a,.int i] H Q E:=⟨_,_,_,rfl,hS,hi,h⟩
theorem FQ(m:M K mg):FnOk P w K mg base CX0 1 m.oP m.jF.d ["_law_script","_law_k"] (A5 K):=by
 refine m.jF.F.ok aHO ?_ ?_;tm_at"h";tm_at"g";rcases h with⟨a,ns,i,rfl,hS,hi,k⟩;tm_at"f";have nd:=aHO.nd;tm_at"d";refine⟨_,(aB (b8 (bB kF (pv 1) (bL dU rfl m.kK hZ (aA (pv 0) aC)) (bG _)) (aE (aS (aT bF (pv 0) (pv 1) (λ_ _=>rfl)))) bK)
  (aE (aS aD))),?_⟩
 refine aJ (σ:=[some (.ref a),some (.int i)]) rfl ?_;tm_at"e";tm_at"a";rw[ae];refine bR (λh1=> ?_) (λh1=> ?_)
 .have hlt:i.toNat<ns.length:=by lia
  have e:=rK (xs:=ns.map V.int) (j:=i.toNat) (v:= .int (fC ns i)) (by
   rw[bq,ah hlt];unfold fC;rw[au,ah hlt];rfl)
  rw[show ((i.toNat:Nat):Int)=i by lia]at e;exact⟨_,rfl,_,rfl,a,_,i,_,rfl,rfl,hS,e,k⟩
 .have e:fC ns i=0:=by
   unfold fC;rw[au,lz (by lia)];rfl
  rw[e]at k;exact k
theorem lQ(m:M K mg):Fc P w K mg base "_law_cell_at" 1 ["_law_script","_law_k"] (A5 K):=⟨_,_,m.HZ,m.jF.F.kp,m.jF.b,FQ m⟩
local macro_rules| `(tactic| tm_at"l")=> `(tactic| first|((with_reducible refine' aEK ?e ?s ?_);(case e=>tm_at"k");(case s=>tm_at"j")))
inductive xL(vs:List V)(H:Hp)(Q:VK)(E:XK):Prop
 | mk (c k:Int) (_:vs=[.int c,.int k]) (_:∀n,0<=n->n<2147483648->Q (.int n) H):xL vs H Q E
theorem aBH{E:XK}{c k:Int}(h:∀n,0<=n->n<2147483648->Q (.int n) H):xL [.int c,.int k] H Q E:=⟨_,_,rfl,h⟩
theorem KG(m:M K mg):FnOk P w K mg base CX0 1 m.tE m.mG.d ["_law_cell","_law_k"] (xL):=by
 refine m.mG.F.ok aIf ?_ ?_;tm_at"h";tm_at"g";rcases h with⟨c,j,rfl,k⟩;tm_at"f";have nd:=aIf.nd;tm_at"d";refine⟨_,(aB (aO (i:=2) nd rfl (by tm_at"b") (aK bP (aK kB (aK bX (aK bX (pv 0) (aK kB aD (pv 1))) aD) aD) aD))
  (aB (aO (i:=2) nd rfl (by tm_at"b") (aK bP (aK kB (pv 2) (aK bX (aK cK (pv 2) aD) aD)) aD))
  (aE (aS (aK bP (aK kB (pv 2) (aK bX (aK cK (pv 2) aD) aD)) aD))))),?_⟩
 refine aJ (σ:=[some (.int c),some (.int j),none]) rfl ?_;tm_at"e";tm_at"a";refine k _ ?_ ?_
 .exact jw _ (by decide)
 .exact Int.lt_trans (og _ (by decide)) (by decide)
theorem pQ(m:M K mg):Fc P w K mg base "_law_mixed" 1 ["_law_cell","_law_k"] (xL):=⟨_,_,m.OJ,m.mG.F.kp,m.mG.b,KG m⟩
local macro_rules| `(tactic| tm_at"l")=> `(tactic| ((with_reducible refine aBH ?_);intro n' h0' h1'))
theorem UW{b:Nat}(hx:x.cps.toList=List.range' b n)(h0:0<=i)(h1:i<n):atI x.cps.toList i=some (b+i.toNat):=by
 have e:=rK (xs:=x.cps.toList) (j:=i.toNat) (v:=b+i.toNat) (by rw[hx,List.getElem?_range' (by lia)];simp);rw[show ((i.toNat:Nat):Int)=i by lia]at e;exact e
theorem rT{γ:Type}{F:α->γ->Prop}(g:β->γ):∀{l:List β}{m:List α},bu (λx y=>F y (g x)) l m->bu F m (l.map g)
 | _,_,.nil=> .nil
 | _,_,.cons r t=> .cons r (rT g t)
theorem j7(e:SqL K H p xs)(hx:xs[j]? =some v)(h:Q v H):AL K (.ref p) (.int (j:Int)) H Q:=⟨p,xs,_,v,rfl,rfl,e,rK hx,h⟩
def wdL(n:Nat):List Nat:=if n<26 then [97+n] else wdL (n/26)++[97+n%26]
termination_by n
decreasing_by lia
def wdV(l:List Nat):Nat:=l.foldl (λa x=>a * 26+(x - 97)) 0
theorem V1(n:Nat):wdV (wdL n)=n:=by
 induction n using rh with
 | _ n ih =>
  rw[wdL]
  by_cases h:n<26
  .rw[if_pos h];show 0 * 26+(97+n - 97)=n;lia
  .rw[if_neg h];have:=ih (n/26) (by lia);unfold wdV at this ⊢;rw[va,this];show n/26 * 26+(97+n%26 - 97)=n
   lia
theorem aCV{a b:Nat}(h:wdL a=wdL b):a=b:=by rw[←V1 a,←V1 b,h]
theorem aBJ(n:Nat):∀x∈wdL n,97<=x/\x<123:=by
 induction n using rh with
 | _ n ih =>
  rw[wdL]
  by_cases h:n<26
  .rw[if_pos h];intro x hx;rw[bz.mp hx];lia
  .rw[if_neg h];intro x hx;rcases bh.mp hx with hx|hx
   .exact ih (n/26) (by lia) x hx
   .rw[bz.mp hx];lia
theorem RL(k:Nat):∀n:Nat,n<26^(k+1)->(wdL n).length<=k+1:=by
 induction k with
 | zero=>intro n h;rw[wdL,if_pos (by simpa using h)];exact aq _
 | succ k ih =>
  intro n h;rw[wdL]
  by_cases h2:n<26
  .rw[if_pos h2];show 1<=_;lia
  .rw[if_neg h2,ao];have:=ih (n/26) (by rw[Nat.div_lt_iff_lt_mul (by decide)];rw[←Nat.pow_succ];exact h);show _+1<=_;lia
theorem aBK(n:Nat):0<(wdL n).length:=by
 rw[wdL]
 by_cases h:n<26
 .rw[if_pos h];exact Nat.one_pos
 .rw[if_neg h,ao];show 0<_+1;lia
def wdS(n:Nat):Str:=⟨⟨wdL n⟩⟩
theorem aFn(h:n<26^8):bD (wdS n)=true:=by
 refine ZS ?_ ?_ ?_
 .exact aBK n
 .exact RL 7 n h
 .show (wdL n).all sgB=true;rw[jk];intro x hx;have:=aBJ n x hx;unfold sgB;simp only[dz,decide_eq_true_eq]
  lia
theorem aDO{a b:Nat}(h:wdS a=wdS b):a=b:=aCV (congrArg (λz:Str=>z.cps.toList) h)
def wnF(c k:Int):Str:=wdS (c%3000000007 * 61+k).toNat
theorem vS{c k:Int}(h0:0<=k)(h1:k<61):bD (wnF c k)=true:=aFn (by
 have:=jw c (show (3000000007:Int)≠0 by decide);have:=og c (show (0:Int)<3000000007 by decide);have:(26:Nat)^8=208827064576:=by decide
 lia)
theorem vY{c d k j:Int}(h0:0<=k)(h1:k<61)(h2:0<=j)(h3:j<61)(h:wnF c k=wnF d j):k=j:=by
 have h':=aDO h;have:=jw c (show (3000000007:Int)≠0 by decide);have:=jw d (show (3000000007:Int)≠0 by decide)
 lia
theorem MJ:("abcdefghijklmnopqrstuvwxyz" :Str).cps.toList=List.range' 97 26:=by decide +kernel
theorem aC7:("abcdefghijklmnopqrstuvwxyz" :Str).length=26:=by rw[cT];decide
inductive wE(vs:List V)(H:Hp)(Q:VK)(E:XK):Prop
 | mk (c k:Int) (_:vs=[.int c,.int k]) (_:0<=k) (_:k<61) (_:Q (.str (wnF c k)) H):wE vs H Q E
theorem aB4{E:XK}{c k:Int}(h0:0<=k)(h1:k<61)(h:Q (.str (wnF c k)) H):wE [.int c,.int k] H Q E:=⟨_,_,rfl,h0,h1,h⟩
theorem DK(a:Nat)(z:Str):(⟨#[a]⟩++z:Str)≠ "" :=λh=>by
 have h':=congrArg (λz:Str=>z.cps.toList) h;simp only[C0]at h';rw[show ("" :Str).cps.toList=[] by decide +kernel]at h';cases h'
def WdI(N0:Nat)(nu:Int)(z:Str):Prop:=(nu=0/\z≠ "" /\z.cps.toList=wdL N0)∨((0<nu∨z= "")/\wdL N0=wdL nu.toNat++z.cps.toList)
theorem RP{N0:Nat}{nu:Int}(hnu:0<=nu)(hor:WdI N0 nu z)(hc:0<nu∨z= ""):0<=nu/26/\(nu/26).toNat+0<nu.toNat+(if z= "" then 1 else 0)/\WdI N0 (nu/26) (⟨#[97+(nu%26).toNat]⟩++z):=by
 have h2:wdL N0=wdL nu.toNat++z.cps.toList:=by
  rcases hor with⟨h1,h2,_⟩|⟨_,h⟩
  .exact absurd hc (by rintro (h|h);lia;exact h2 h)
  .exact h
 have hl:(⟨#[97+(nu%26).toNat]⟩++z:Str).cps.toList=(97+(nu%26).toNat)::z.cps.toList:=by rw[C0];rfl
 refine⟨by lia,?_,?_⟩
 .rcases hc with hc|hc
  .have:(nu/26).toNat<nu.toNat:=by lia
   lia
  .rw[if_pos hc];lia
 .by_cases h26:nu.toNat<26
  .refine .inl ⟨by lia,DK _ _,?_⟩;rw[hl,h2,wdL,if_pos h26,show (nu%26).toNat=nu.toNat by lia];rfl
  .refine .inr ⟨.inl (by lia),?_⟩;rw[hl,h2,wdL,if_neg h26,show (nu/26).toNat=nu.toNat/26 by lia,show (nu%26).toNat=nu.toNat%26 by lia,cq];rfl
theorem NX(m:M K mg):FnOk P w K mg base CX0 1 m.u8 m.oY.d ["_law_cell","_law_k"] (wE):=by
 refine m.oY.F.ok aIm ?_ ?_;tm_at"h";tm_at"g";rcases h with⟨c,j,rfl,h0,h1,k⟩;tm_at"f";have nd:=aIm.nd;tm_at"d";refine⟨_,(aB (aO (i:=2) nd rfl (by tm_at"b") (aK bX (aK kB (aK bP (pv 0) aD) aD) (pv 1)))
  (aB (aO (i:=3) nd rfl (by tm_at"b") fK)
  (aB (sV cn (PW.pt (KW (bB xF (pv 2) aD (bG _)) (EN (bB fG (pv 3) fK (bG _))))) (aB (aO (i:=3) nd rfl (by tm_at"b") (aK aCd (aT aEB fK (aK bP (pv 2) aD) (λ_ _=>rfl)) (pv 3)))
  (aE (aO (i:=2) nd rfl (by tm_at"b") (aK cK (pv 2) aD)))))
  (aE (aS (pv 3)))))),?_⟩
 refine aJ (σ:=[some (.int c),some (.int j),none,none]) rfl ?_;tm_at"e";have hla:=aC7;have hc0:=jw c (show (3000000007:Int)≠0 by decide);have hc1:=og c (show (0:Int)<3000000007 by decide);unfold wnF at k;tm_at"a";have hN:(c%3000000007 * 61+j).toNat<26^8:=by
  have:(26:Nat)^8=208827064576:=by decide
  lia
 have hNl:=RL 7 _ hN;have hn0:0<=c%3000000007 * 61+j:=by lia
 generalize c%3000000007 * 61+j=N0 at k hNl hn0;have hem:("" :Str).cps.toList=[]:=by decide +kernel
 have hbody:∀(nu:Int) (z:Str) (mm:Nat),0<=nu->mm=nu.toNat+(if z= "" then 1 else 0)->WdI N0.toNat nu z->(0<nu∨z= "")->z.length<=8:=λnu z mm h1 h2 h3 h4=>by
  rcases h3 with⟨h5,h6,_⟩|⟨_,h⟩
  .exact absurd h4 (by rintro (h|h);lia;exact h6 h)
  .have:=congrArg oq h;rw[ao]at this;show z.cps.size<=8;rw[←gf];lia
 refine⟨λmm σ' H'=>H'=H/\∃(nu:Int) (z:Str),0<=nu/\mm=nu.toNat+(if z= "" then 1 else 0)/\WdI N0.toNat nu z/\σ'=[some (.int c),some (.int j),some (.int nu),some (.str z)],⟨_,rfl,N0,"",hn0,rfl,.inr ⟨.inr rfl,by rw[hem,dj]⟩,rfl⟩,?_⟩;rintro mm _ H0 hq_;obtain⟨hH0,nu,z,hnu,hmm,hor,rfl⟩:=hq_;subst hH0;tm_at"a";refine bR (λhc=> ?_) (λhc=> ?_)
 .have hs:=RP hnu hor (.inl hc);have hzl:=hbody nu z mm hnu hmm hor (.inl hc);rw[if_pos rfl];refine⟨λσ' H'=>H'=H0/\σ'=[some (.int c),some (.int j),some (.int (nu/26)),some (.str (⟨#[97+(nu%26).toNat]⟩++z))],?_,?_⟩
  .rintro _ _ ⟨rfl,rfl⟩;exact⟨(nu/26).toNat+0,by rw[hmm];exact hs.2.1,rfl,_,_,hs.1,by rw[if_neg (DK _ _)],hs.2.2,rfl⟩
  .tm_at"a";refine⟨_,_,_,rfl,rfl,(by tm_at"p"),UW MJ (by lia) (by lia),?_⟩;have h1':(⟨#[97+(nu%26).toNat]⟩:Str).length=1:=rfl;tm_at"a";exact⟨rfl,rfl⟩
 .tm_at"a";refine bR (λhc2=> ?_) (λhc2=> ?_)
  .have hs:=RP hnu hor (.inr hc2);have hzl:=hbody nu z mm hnu hmm hor (.inr hc2);refine⟨λσ' H'=>H'=H0/\σ'=[some (.int c),some (.int j),some (.int (nu/26)),some (.str (⟨#[97+(nu%26).toNat]⟩++z))],?_,?_⟩
   .rintro _ _ ⟨rfl,rfl⟩;exact⟨(nu/26).toNat+0,by rw[hmm];exact hs.2.1,rfl,_,_,hs.1,by rw[if_neg (DK _ _)],hs.2.2,rfl⟩
   .tm_at"a";refine⟨_,_,_,rfl,rfl,(by tm_at"p"),UW MJ (by lia) (by lia),?_⟩;have h1':(⟨#[97+(nu%26).toNat]⟩:Str).length=1:=rfl;tm_at"a";exact⟨rfl,rfl⟩
  .have he:z=wdS N0.toNat:=by
    rcases hor with⟨_,_,h⟩|⟨h,_⟩
    .exact aCh h
    .exact absurd h (by rintro (h|h);exact hc h;exact hc2 h)
   tm_at"a";rw[he];exact k
theorem iV(m:M K mg):Fc P w K mg base "_law_name" 1 ["_law_cell","_law_k"] (wE):=⟨_,_,m.P2,m.oY.F.kp,m.oY.b,NX m⟩
local macro_rules| `(tactic| tm_at"l")=> `(tactic| ((with_reducible refine' aB4 ?a ?b ?_);(case a=>tm_at"j");(case b=>tm_at"j")))
abbrev bY:=Str×Int×Int
def dC(H:Hp)(v:V)(r:bY):Prop:=∃q,v= .ref q/\H q=some (.tup [.str r.1,.int r.2.1,.int r.2.2])
theorem gG{rs:List bY}(h:bu (dC H) us rs)(s:Same H H'):bu (dC H') us rs:=Paired.imp' (λv d ⟨q,e,h⟩=>⟨q,e,s _ _ h⟩) h
structure j8(rs:List bY):Prop where
 nd:(rs.map (·.1)).Nodup
 nm:∀r∈rs,bD r.1=true
 ok:∀r∈rs,0<=r.2.2/\r.2.2<=r.2.1
 l0:0<rs.length
 l1:rs.length<=4
 wn:∀r∈rs,∃c k:Int,0<=k/\k<61/\r.1=wnF c k
theorem LN(c:Int)(n:Nat)(h:n<=61):((el n).map λi:Nat=>wnF c (i:Int)).Nodup:=by
 rw[kx,gk];refine vo ?_ (mz (n:=n));intro i j hi hj hne z;have hi':=gr.mp hi;have hj':=gr.mp hj;have:=vY (by lia) (by lia) (by lia) (by lia) z
 lia
inductive lH(vs:List V)(H:Hp)(Q:VK)(E:XK):Prop
 | mk (a:Addr) (c0 c1 c2 c3:Int) (_:vs=[.ref a]) (_:H a=some (.lst [.int c0,.int c1,.int c2,.int c3])) (_:∀p us rs H',H p=none->Same H H'->H' p=some (.lst us)->bu (dC H') us rs->j8 rs->Q (.ref p) H'):lH vs H Q E
theorem NA{E:XK}{c0 c1 c2 c3:Int}(ea:H a=some (.lst [.int c0,.int c1,.int c2,.int c3]))(k:∀p us rs H',H p=none->Same H H'->H' p=some (.lst us)->bu (dC H') us rs->j8 rs->Q (.ref p) H'):lH [.ref a] H Q E:=⟨_,_,_,_,_,rfl,ea,k⟩
theorem J0(m:M K mg):FnOk P w K mg base CX0 2 m.sZ m.mY.d ["_law_cells"] (lH):=by
 refine m.mY.F.ok aH8 ?_ ?_;tm_at"h";tm_at"g";rcases h with⟨a,c0,c1,c2,c3,rfl,ea,k⟩;tm_at"f";have nd:=aH8.nd;tm_at"d";have aHh:= @pQ P w K mg base m;have aHe:= @iV P w K mg base m;refine⟨_,(aB (aO (i:=1) nd rfl (by tm_at"b") (cP aC))
  (aB (cO cn rfl (gM rfl m.gL (aA (aK bX aD (aK bP (bI aHh hr (aA (aT bF (pv 0) aD (λ_ _=>rfl)) (aA aD aC))) aD)) aC)) (aL (i:=2) nd rfl (by tm_at"b")) (aB (aO (i:=3) nd rfl (by tm_at"b") (bI aHh hr (aA (aT bF (pv 0) aD (λ_ _=>rfl)) (aA (pv 2) aC))))
  (aB (aO (i:=4) nd rfl (by tm_at"b") (aK bX aD (aK bP (pv 3) aD)))
  (aB (b8 (bB fG (aK bP (aK cK (pv 3) aD) aD) aD (bG _)) (aE (aO (i:=4) nd rfl (by tm_at"b") (aK bX aD (aK bP (aK bX (aT bF (pv 0) aD (λ_ _=>rfl)) (aK kB aD (pv 2))) (eQ 100000000000 (by decide) ⟨by decide,by decide,by decide⟩))))) bK)
  (aB (b8 (bB fG (aK bP (aK cK (pv 3) aD) aD) aD (bG _)) (aE (aO (i:=4) nd rfl (by tm_at"b") aD)) bK)
  (aB (aO (i:=5) nd rfl (by tm_at"b") (aT bF (cP (aA aD (aA (pv 4) (aA (aK bP (aK cK (pv 3) aD) (aK bX (pv 4) aD)) (aA (aK cK (aK bX (pv 4) aD) aD) aC))))) (aK bP (aK cK (pv 3) aD) aD) (λ_ _=>rfl)))
  (aE (aY (gS df dm dq cY (pv 1) (aA (cZ (aA (bI aHe hr (aA (aT bF (pv 0) aD (λ_ _=>rfl)) (aA (pv 2) aC))) (aA (pv 4) (aA (pv 5) aC)))) aC))))))))))
  (aE (aS (pv 1))))),?_⟩
 refine aJ (σ:=[some (.ref a),none,none,none,none,none]) rfl ?_;tm_at"e";tm_at"a";rename_i p H1 n1 S1 e1 nn hn0 hn1;have fr:∀x u,H x=some u->x≠p:=λx u hx z=>by rw[z,n1]at hx;cases hx
 let Pv1:Nat->St->Hp->Prop:=λi σ' H'=>SameBut p H1 H'/\(∃us rs,H' p=some (.lst us)/\bu (dC H') us rs/\rs.map (·.1)=(el i).map (λi:Nat=>wnF c2 (i:Int))/\∀r∈rs,0<=r.2.2/\r.2.2<=r.2.1)/\∃x y z u,σ'=[some (.ref a),some (.ref p),x,y,z,u];refine vQ Pv1 ⟨SameBut.refl,⟨[],[],e1,.nil,rfl,(λ_ z=>nomatch z)⟩,_,_,_,_,rfl⟩ ?_ ?_
 .rintro i _ H' hi hq_;obtain⟨sb,⟨us,rs,eu,hrs,hnm,hok⟩,x1,x2,x3,x4,rfl⟩:=hq_;have hul:us.length=i:=by
   have h5:rs.length=i:=by rw[←ae (f:=λd:bY=>d.1),hnm,ae,fk]
   rw[bx hrs];exact h5
  have ea':H' a=some (.lst [.int c0,.int c1,.int c2,.int c3]):=(SameBut.same n1 S1 sb) _ _ ea;tm_at"n";rename_i nu hu0' hu1';refine lE (λσ' G=>H'=G/\∃hh,0<=hh/\σ'=[some (.ref a),some (.ref p),some (.int (0+(i:Int))),some (.int nu),some (.int hh),x4]) ?_ ?_
  rotate_left
  .intro nx' hnx;tm_at"a";refine bR (λhc=> ?_) (λhc=> ?_)
   .tm_at"a";exact hnx _ _ ⟨rfl,_,by lia,rfl⟩
   .tm_at"a";exact hnx _ _ ⟨rfl,_,by lia,rfl⟩
  rintro _ G hq_;obtain⟨hG,h1,hh1,rfl⟩:=hq_;subst hG;tm_at"n";refine lE (λσ' G=>H'=G/\∃hh,0<=hh/\σ'=[some (.ref a),some (.ref p),some (.int (0+(i:Int))),some (.int nu),some (.int hh),x4]) ?_ ?_
  rotate_left
  .intro nx' hnx;tm_at"a";refine bR (λhc=> ?_) (λhc=> ?_)
   .tm_at"a";exact hnx _ _ ⟨rfl,_,by lia,rfl⟩
   .tm_at"a";exact hnx _ _ ⟨rfl,_,hh1,rfl⟩
  rintro _ G hq_;obtain⟨hG,h2,hh2,rfl⟩:=hq_;subst hG;tm_at"a";rename_i hr0 hr1 p5 H5 n5 S5 e5;refine sJ (SqL.of e5) (by lia) (by show _<(4:Int);lia) λv hv=> ?_;obtain⟨ff,rfl,hf0,hf1⟩:∃ff,v= .int ff/\0<=ff/\ff<=h2:=by
   simp only[az,gi,or_false]at hv;rcases hv with rfl|rfl|rfl|rfl
   .exact⟨_,rfl,by lia,by lia⟩
   .exact⟨_,rfl,by lia,by lia⟩
   .exact⟨_,rfl,hr0,by lia⟩
   .exact⟨_,rfl,by lia,by lia⟩
  have ea5:=S5 _ _ ea';tm_at"a";rename_i q6 H6 n6 S6 e6;have eu6:H6 p=some (.lst us):=S6 _ _ (S5 _ _ eu);refine cX eu6 (by rw[sizeLine_eq];lia) λH7 B7 e7=> ?_;have hq6:q6≠p:=λz=>by rw[z,S5 _ _ eu]at n6;cases n6
  refine⟨(sb.trans (S5.trans S6).but).trans B7,⟨us++[.ref q6],rs++[(wnF c2 (0+(i:Int)),h2,ff)],e7,?_,?_,?_⟩,_,_,_,_,rfl⟩
  .exact L2.Paired.snoc (Paired.imp' (λw d ⟨q,e,h⟩=>⟨q,e,B7 _ _ (S6 _ _ (S5 _ _ h)) λz=>by rw[z,eu]at h;cases h⟩) hrs) ⟨q6,rfl,B7 _ _ e6 hq6⟩
  .rw[aw,hnm,wy,aw,gp];rfl
  .intro r hr;rcases bh.mp hr with hr|hr
   .exact hok r hr
   .cases bz.mp hr;exact⟨hf0,hf1⟩
 .rintro _ H' hq_;obtain⟨sb,⟨us,rs,eu,hrs,hnm,hok⟩,x1,x2,x3,x4,rfl⟩:=hq_;have hrl:rs.length=(1+nn%4).toNat:=by rw[←ae (f:=λd:bY=>d.1),hnm,ae,fk]
  tm_at"a";have hwn:∀r∈rs,∃c k:Int,0<=k/\k<61/\r.1=wnF c k:=λr hr=>by
   have hm:r.1∈rs.map (·.1):=ag.mpr ⟨r,hr,rfl⟩;rw[hnm]at hm;rcases ag.mp hm with⟨i,hi,e⟩;have:=gr.mp hi;exact⟨c2,(i:Int),by lia,by lia,e.symm⟩
  refine k _ _ _ _ n1 (SameBut.same n1 S1 sb) eu hrs ⟨by rw[hnm];exact LN _ _ (by lia),λr hr=> ?_,hok,by lia,by lia,hwn⟩;have hm:r.1∈rs.map (·.1):=ag.mpr ⟨r,hr,rfl⟩;rw[hnm]at hm;rcases ag.mp hm with⟨i,hi,e⟩;have:=gr.mp hi;rw[←e];exact vS (by lia) (by lia)
theorem JV(m:M K mg):Fc P w K mg base "_law_rooms" 2 ["_law_cells"] (lH):=⟨_,_,m.OO,m.mY.F.kp,m.mY.b,J0 m⟩
inductive qP(K:W.Frag)(vs:List V)(H:Hp)(Q:VK)(E:XK):Prop
 | mk (c:Int) (b:Addr) (bs:List Int) (_:vs=[.int c,.ref b]) (_:SqL K H b (bs.map V.int)) (_:(∀x∈bs,0<x/\x<1000000000000)) (_:bs.length<=20) (_:∀p (ns:List Int) H',H p=none->Same H H'->H' p=some (.lst (ns.map V.int))->bu (λ(n x:Int)=>0<=n/\n<x) ns bs->Q (.ref p) H'):qP K vs H Q E
theorem yT{E:XK}{c:Int}{b:Addr}{bs:List Int}(hS:SqL K H b (bs.map V.int))(hb:∀x∈bs,0<x/\x<1000000000000)(hl:bs.length<=20)(k:∀p (ns:List Int) H',H p=none->Same H H'->H' p=some (.lst (ns.map V.int))->bu (λ(n x:Int)=>0<=n/\n<x) ns bs->Q (.ref p) H'):qP K [.int c,.ref b] H Q E:=⟨_,_,_,rfl,hS,hb,hl,k⟩
theorem GW(m:M K mg):FnOk P w K mg base CX0 1 m.pY m.kJ.d ["_law_cell","_law_bases"] (qP K):=by
 refine m.kJ.F.ok aHX ?_ ?_;tm_at"h";tm_at"g";rcases h with⟨c,b,bs,rfl,hS,hb,hl,k⟩;tm_at"f";have nd:=aHX.nd;tm_at"d";refine⟨_,(aB (aO (i:=2) nd rfl (by tm_at"b") (cP aC))
  (aB (cO cn rfl (bN (pv 1)) (aL (i:=3) nd rfl (by tm_at"b")) (aB (aY (gS df dm dq cY (pv 2) (aA (aK bP (pv 0) (pv 3)) aC)))
  (aE (aO (i:=0) nd rfl (by tm_at"b") (aK aAF (pv 0) (pv 3))))))
  (aE (aS (pv 2))))),?_⟩
 refine aJ (σ:=[some (.int c),some (.ref b),none,none]) rfl ?_;tm_at"e";tm_at"a";rename_i p H1 n1 S1 e1;let Pv1:Nat->St->Hp->Prop:=λi σ' H'=>SameBut p H1 H'/\(∃ns:List Int,H' p=some (.lst (ns.map V.int))/\bu (λ(n x:Int)=>0<=n/\n<x) ns (bs.take i))/\∃c' x,σ'=[some (.int c'),some (.ref b),some (.ref p),x];refine c6 (bs.map V.int) Pv1 ⟨SameBut.refl,⟨[],e1,.nil⟩,_,_,rfl⟩ (λi σ' H' _ q=>(SameBut.same n1 S1 q.1).seq hS) ?_ ?_
 .rintro i x _ H' hx hq_;obtain⟨sb,⟨ns,ek,hns⟩,c',y,rfl⟩:=hq_;rw[bq]at hx;rcases cj.mp hx with⟨d,hd,rfl⟩;rcases hb d (ay hd) with⟨hd0,hd1⟩;have hi:i<bs.length:=(av.mp hd).1;have hnl:ns.length=i:=by rw[bx hns,cw];lia
  tm_at"a";rename_i hm0 hm1;refine cX ek (by rw[sizeLine_eq,ae];lia) λH2 B2 e2=> ?_;tm_at"a";refine aC3 hd0 (Int.lt_trans hd1 (by decide)) ?_;tm_at"a";refine⟨sb.trans B2,⟨ns++[c'%d],by rw[e2,aw];rfl,?_⟩,_,_,rfl⟩;rw[aU hd];exact L2.Paired.snoc hns ⟨hm0,hm1⟩
 .rintro _ H' hq_;obtain⟨sb,⟨ns,ek,hns⟩,c',y,rfl⟩:=hq_;rw[ae,cp]at hns;tm_at"a";exact k _ _ _ n1 (SameBut.same n1 S1 sb) ek hns
theorem nT(m:M K mg):Fc P w K mg base "_law_digits" 1 ["_law_cell","_law_bases"] (qP K):=⟨_,_,m.KL,m.kJ.F.kp,m.kJ.b,GW m⟩
theorem yV(m:M K mg):FnOk P w K mg base CX0 3 m.jV m.fY.d ["_law_cells"] (lH):=by
 refine m.fY.F.ok aHv ?_ ?_;tm_at"h";tm_at"g";rcases h with⟨a,c0,c1,c2,c3,rfl,ea,k⟩;tm_at"f";have nd:=aHv.nd;tm_at"d";have aHi:= @nT P w K mg base m;have aHe:= @iV P w K mg base m;refine⟨_,(aB (aO (i:=1) nd rfl (by tm_at"b") (bI aHi hr (aA (aT bF (pv 0) aD (λ_ _=>rfl)) (aA (cP (aA (eQ 100000000000 (by decide) ⟨by decide,by decide,by decide⟩) (aA (eQ 100000000000 (by decide) ⟨by decide,by decide,by decide⟩) (aA (eQ 100000000000 (by decide) ⟨by decide,by decide,by decide⟩) (aA (eQ 100000000000 (by decide) ⟨by decide,by decide,by decide⟩) (aA (eQ 100000000000 (by decide) ⟨by decide,by decide,by decide⟩) (aA (eQ 100000000000 (by decide) ⟨by decide,by decide,by decide⟩) (aA (eQ 100000000000 (by decide) ⟨by decide,by decide,by decide⟩) (aA (eQ 100000000000 (by decide) ⟨by decide,by decide,by decide⟩) aC))))))))) aC))))
  (aB (aO (i:=2) nd rfl (by tm_at"b") (cP aC))
  (aB (cO cn rfl (gM rfl m.gL (aA (aK bX aD (aK bP (aK cK (aT bF (pv 0) aD (λ_ _=>rfl)) aD) aD)) aC)) (aL (i:=3) nd rfl (by tm_at"b")) (aE (aY (gS df dm dq cY (pv 2) (aA (cZ (aA (bI aHe hr (aA (aT bF (pv 0) aD (λ_ _=>rfl)) (aA (pv 3) aC))) (aA (aT bF (pv 1) (aK kB aD (pv 3)) (λ_ _=>rfl)) (aA (bL (zO rfl) rfl m.K6 FF (aA (aT bF (pv 1) (aK kB aD (pv 3)) (λ_ _=>rfl)) (aA (aT bF (pv 1) (aK bX (aK kB aD (pv 3)) aD) (λ_ _=>rfl)) aC))) aC)))) aC)))))
  (aE (aS (pv 2)))))),?_⟩
 refine aJ (σ:=[some (.ref a),none,none,none]) rfl ?_;tm_at"e";tm_at"a";rename_i b1 H1 n1 S1 f1;refine yT (bs:=tw 8 100000000000) (SqL.of f1) (λx hx=>by rw[List.eq_of_mem_replicate hx];decide) (by decide) λp2 ns H2 n2 S2 f2 hns=> ?_;have hnl:ns.length=8:=bx hns;have hnn:∀(i:Nat) (x:Int),ns[i]? =some x->0<=x:=λi x hx=>by
  have hi:i<ns.length:=(av.mp hx).1;exact(Paired.at2 hns hx (ah (by rw[pw];lia))).1
 have ea2:=S2 _ _ (S1 _ _ ea);tm_at"a";rename_i p H3 n3 S3 e3;have s03:Same H H3:=(S1.trans S2).trans S3;have fr:∀x u,H2 x=some u->x≠p:=λx u hx z=>by rw[z,n3]at hx;cases hx
 let Pv2:Nat->St->Hp->Prop:=λi σ' H'=>SameBut p H3 H'/\(∃us rs,H' p=some (.lst us)/\bu (dC H') us rs/\rs.map (·.1)=(el i).map (λi:Nat=>wnF c2 (i:Int))/\∀r∈rs,0<=r.2.2/\r.2.2<=r.2.1)/\∃x,σ'=[some (.ref a),some (.ref p2),some (.ref p),x];refine vQ Pv2 ⟨SameBut.refl,⟨[],[],e3,.nil,rfl,(λ_ z=>nomatch z)⟩,_,rfl⟩ ?_ ?_
 .rintro i _ H' hi hq_;obtain⟨sb,⟨us,rs,eu,hrs,hnm,hok⟩,x1,rfl⟩:=hq_;have hul:us.length=i:=by
   have h5:rs.length=i:=by rw[←ae (f:=λd:bY=>d.1),hnm,ae,fk]
   rw[bx hrs];exact h5
  have s2':Same H2 H':=SameBut.same n3 S3 sb;have ea':=s2' _ _ ea2;have f2':=s2' _ _ f2;have hA:ns[2 * i]? =some ns[2 * i]:=ah (by lia);have hB:ns[2 * i+1]? =some ns[2 * i+1]:=ah (by lia);have hA0:=hnn _ _ hA;have hB0:=hnn _ _ hB;have hA':(ns.map V.int)[2 * i]? =some (.int ns[2 * i]):=by rw[bq,hA];rfl
  have hB':(ns.map V.int)[2 * i+1]? =some (.int ns[2 * i+1]):=by rw[bq,hB];rfl
  generalize ns[2 * i]=xa at hA0 hA';generalize ns[2 * i+1]=xb at hB0 hB';tm_at"a";rw[gp,show (2:Int) * (i:Int)=((2 * i:Nat):Int) by lia];refine j7 (SqL.of f2') hA' ?_;tm_at"a";rw[show (2:Int) * (i:Int)=((2 * i:Nat):Int) by lia];refine j7 (SqL.of f2') hA' ?_;tm_at"a";rw[show (2:Int) * (i:Int)+1=((2 * i+1:Nat):Int) by lia];refine j7 (SqL.of f2') hB' ?_;tm_at"a";rename_i q6 H6 n6 S6 e6;have eu6:H6 p=some (.lst us):=S6 _ _ eu;refine cX eu6 (by rw[sizeLine_eq];lia) λH7 B7 e7=> ?_;have hq6:q6≠p:=λz=>by rw[z,eu]at n6;cases n6
  refine⟨(sb.trans S6.but).trans B7,⟨us++[.ref q6],rs++[(wnF c2 (i:Int),xa,min xa xb)],e7,?_,?_,?_⟩,_,rfl⟩
  .exact L2.Paired.snoc (Paired.imp' (λw d ⟨q,e,h⟩=>⟨q,e,B7 _ _ (S6 _ _ h) λz=>by rw[z,eu]at h;cases h⟩) hrs) ⟨q6,rfl,B7 _ _ e6 hq6⟩
  .rw[aw,hnm,wy,aw];rfl
  .intro r hr;rcases bh.mp hr with hr|hr
   .exact hok r hr
   .cases bz.mp hr;show 0<=min xa xb/\min xa xb<=xa
    lia
 .rintro _ H' hq_;obtain⟨sb,⟨us,rs,eu,hrs,hnm,hok⟩,x1,rfl⟩:=hq_;have hrl:rs.length=(1+c0/2%4).toNat:=by rw[←ae (f:=λd:bY=>d.1),hnm,ae,fk]
  have hp:H p=none:=by
   cases hq:H p with
   | none=>rfl
   | some u=>rw[S2 _ _ (S1 _ _ hq)]at n3;cases n3
  tm_at"a";have hwn:∀r∈rs,∃c k:Int,0<=k/\k<61/\r.1=wnF c k:=λr hr=>by
   have hm:r.1∈rs.map (·.1):=ag.mpr ⟨r,hr,rfl⟩;rw[hnm]at hm;rcases ag.mp hm with⟨i,hi,e⟩;have:=gr.mp hi;exact⟨c2,(i:Int),by lia,by lia,e.symm⟩
  refine k _ _ _ _ hp (λx u hx=>(SameBut.same n3 S3 sb) _ _ (S2 _ _ (S1 _ _ hx))) eu hrs ⟨by rw[hnm];exact LN _ _ (by lia),λr hr=> ?_,hok,by lia,by lia,hwn⟩;have hm:r.1∈rs.map (·.1):=ag.mpr ⟨r,hr,rfl⟩;rw[hnm]at hm;rcases ag.mp hm with⟨i,hi,e⟩;have:=gr.mp hi;rw[←e];exact vS (by lia) (by lia)
theorem zP(m:M K mg):Fc P w K mg base "_law_rooms_told" 3 ["_law_cells"] (lH):=⟨_,_,m.CO,m.fY.F.kp,m.fY.b,yV m⟩
structure bS where
 n:Str
 st:Str
 e:V
 kd:Int
 wd:Int
 fi:Int
 mo:Int
def dH(H:Hp)(v:V)(s:bS):Prop:=∃q,v= .ref q/\H q=some (.tup [.str s.n,.str s.st,s.e,.int s.kd,.int s.wd,.int s.fi,.int s.mo])
structure kE(rs:List bY)(f:Int)(s:bS):Prop where
 nm:bD s.n=true
 sm:bD s.st=true
 sin:s.st∈rs.map (·.1)
 eo:dQ s.e
 ein:s.e= .non∨∃z,s.e= .str z/\z∈rs.map (·.1)
 k0:0<=s.kd
 k1:s.kd<6
 w0:0<=s.wd
 f0:f<=s.fi
 m0:0<=s.mo
 m1:s.kd=3->1<=s.mo
 w1:s.wd<1000000000000
theorem xQ{rs:List bY}(hr:bu (dC H) us rs)(hv:v∈us):∃z i j q,v= .ref q/\H q=some (.tup [.str z,.int i,.int j])/\(z,i,j)∈rs:=by
 obtain⟨e,he,q,rfl,hq⟩:=gT hr hv;exact⟨e.1,e.2.1,e.2.2,q,rfl,hq,he⟩
inductive m7(K:W.Frag)(vs:List V)(H:Hp)(Q:VK)(E:XK):Prop
 | mk (c j f l:Int) (a b:Addr) (us:List V) (rs:List bY) (_:vs=[.int c,.int j,.ref a,.ref b]) (_:0<=j) (_:j<7) (_:SqL K H a us) (_:bu (dC H) us rs) (_:j8 rs) (_:H b=some (.tup [.int f,.int l])) (_:∀q s H',Same H H'->dH H' (.ref q) s->kE rs f s->s.n=wnF c (20+j)->Q (.ref q) H'):m7 K vs H Q E
theorem P7{E:XK}{c j:Int}{b:Addr}{rs:List bY}(h0:0<=j)(h1:j<7)(hS:SqL K H a us)(hr:bu (dC H) us rs)(ro:j8 rs)(eb:H b=some (.tup [.int f,.int l]))(k:∀q s H',Same H H'->dH H' (.ref q) s->kE rs f s->s.n=wnF c (20+j)->Q (.ref q) H'):m7 K [.int c,.int j,.ref a,.ref b] H Q E:=⟨_,_,_,_,_,_,_,_,rfl,h0,h1,hS,hr,ro,eb,k⟩
theorem NM(m:M K mg):FnOk P w K mg base CX0 2 m.vE m.oU.d ["_law_cell","_law_k","_law_rooms_here","_law_turns"] (m7 K):=by
 refine m.oU.F.ok aIk ?_ ?_;tm_at"h";tm_at"g";rcases h with⟨c,j,f,l,a,b,us,rs,rfl,h0,h1,hS,hr',ro,eb,k⟩;tm_at"f";have nd:=aIk.nd;tm_at"d";have aHh:= @pQ P w K mg base m;have aHe:= @iV P w K mg base m;refine⟨_,(aB (aO (i:=4) nd rfl (by tm_at"b") (bI aHh hr (aA (pv 0) (aA (pv 1) aC))))
  (aB (aO (i:=5) nd rfl (by tm_at"b") (aK bP (pv 4) aD))
  (aB (b8 (bB fG (aK bP (aK cK (pv 4) aD) aD) aD (bG _)) (aE (aO (i:=5) nd rfl (by tm_at"b") (aK bP (aK bX (pv 0) (aK kB aD (pv 1))) (eQ 100000000000 (by decide) ⟨by decide,by decide,by decide⟩)))) bK)
  (aB (aO (i:=6) nd rfl (by tm_at"b") (aT c4 (aT bF (pv 2) (aK bP (aK cK (pv 4) aD) (bL dU rfl m.kK hZ (aA (pv 2) aC))) (λ_ _=>rfl)) aD (λ_ _=>rfl)))
  (aB (aO (i:=7) nd rfl (by tm_at"b") pB)
  (aB (b8 (bB xF (aK bP (aK cK (pv 4) aD) aD) aD (bG _)) (aE (aO (i:=7) nd rfl (by tm_at"b") (aT c4 (aT bF (pv 2) (aK bP (aK cK (pv 4) aD) (bL dU rfl m.kK hZ (aA (pv 2) aC))) (λ_ _=>rfl)) aD (λ_ _=>rfl)))) bK)
  (aB (aO (i:=8) nd rfl (by tm_at"b") (aK bP (aK cK (pv 4) aD) aD))
  (aB (aO (i:=9) nd rfl (by tm_at"b") (aK bX (aT c4 (pv 3) aD (λ_ _=>rfl)) (aK bP (aK cK (pv 4) aD) aD)))
  (aB (aO (i:=10) nd rfl (by tm_at"b") (aT bF (cP (aA (aK bX aD (aK bP (aK cK (pv 4) aD) aD)) (aA (aK bP (pv 0) aD) aC))) (aK bP (aK cK (pv 8) aD) aD) (λ_ _=>rfl)))
  (aE (aS (cZ (aA (bI aHe hr (aA (pv 0) (aA (aK bX aD (pv 1)) aC))) (aA (pv 6) (aA (pv 7) (aA (pv 8) (aA (pv 5) (aA (pv 9) (aA (pv 10) aC))))))))))))))))))),?_⟩
 refine aJ (σ:=[some (.int c),some (.int j),some (.ref a),some (.ref b),none,none,none,none,none,none,none]) rfl ?_;tm_at"e";have hul:us.length=rs.length:=bx hr';have hu0':0<us.length:=by have:=ro.l0;lia
 tm_at"n";rename_i nu hn0 hn1;refine lE (λσ' G=>H=G/\∃wd,0<=wd/\wd<1000000000000/\σ'=[some (.int c),some (.int j),some (.ref a),some (.ref b),some (.int nu),some (.int wd),none,none,none,none,none]) ?_ ?_
 rotate_left
 .intro nx' hnx;tm_at"a";refine bR (λhc=> ?_) (λhc=> ?_)
  .tm_at"a";exact hnx _ _ ⟨rfl,_,by lia,by lia,rfl⟩
  .tm_at"a";exact hnx _ _ ⟨rfl,_,by lia,by lia,rfl⟩
 rintro _ G hq_;obtain⟨hG,wd,hwd,hwd1,rfl⟩:=hq_;subst hG;tm_at"n";rename_i hm0 hm1;refine sJ hS hm0 hm1 λv1 hv1=> ?_;obtain⟨z1,i1,j1,q1,rfl,hq1,hz1⟩:=xQ hr' hv1;tm_at"n";refine⟨q1,_,0,_,rfl,rfl,SqT.of hq1,rfl,?_⟩;tm_at"n";refine lE (λσ' G=>H=G/\∃e,dQ e/\(e= .non∨∃z,e= .str z/\z∈rs.map (·.1))/\σ'=[some (.int c),some (.int j),some (.ref a),some (.ref b),some (.int nu),some (.int wd),some (.str z1),some e,none,none,none]) ?_ ?_
 rotate_left
 .intro nx' hnx;tm_at"a";refine bR (λhc=> ?_) (λhc=> ?_)
  .tm_at"a";rename_i ha0 ha1;refine sJ hS ha0 ha1 λv2 hv2=> ?_;obtain⟨z2,i2,j2,q2,rfl,hq2,hz2⟩:=xQ hr' hv2;tm_at"a";refine⟨q2,_,0,_,rfl,rfl,SqT.of hq2,rfl,?_⟩;tm_at"a";exact hnx _ _ ⟨rfl,_,.inr ⟨z2,rfl,ro.nm _ hz2⟩,.inr ⟨z2,rfl,ag.mpr ⟨_,hz2,rfl⟩⟩,rfl⟩
  .tm_at"a";exact hnx _ _ ⟨rfl,_,.inl rfl,.inl rfl,rfl⟩
 rintro _ G hq_;obtain⟨hG,e,he,hei,rfl⟩:=hq_;subst hG;tm_at"a";refine⟨b,_,0,_,rfl,rfl,SqT.of eb,rfl,?_⟩;tm_at"a";rename_i p5 H5 n5 S5 e5 mo hmo q6 H6 n6 S6 e6;exact k q6 ⟨wnF c (20+j),z1,e,nu/2000%6,wd,f+nu/12000%4,mo⟩ _ (S5.trans S6) ⟨q6,rfl,e6⟩ ⟨vS (by lia) (by lia),ro.nm _ hz1,ag.mpr ⟨_,hz1,rfl⟩,he,hei,by show 0<=nu/2000%6;lia,by show nu/2000%6<6;lia,hwd,by show f<=f+nu/12000%4;lia,by show 0<=mo;lia,(λh3=>by
  have h3:nu/2000%6=3:=h3;show 1<=mo
  lia),hwd1⟩ rfl
theorem MM(m:M K mg):Fc P w K mg base "_law_spec" 2 ["_law_cell","_law_k","_law_rooms_here","_law_turns"] (m7 K):=⟨_,_,m.PY,m.oU.F.kp,m.oU.b,NM m⟩
theorem gQ{α:Type}{F:α->β->Prop}{l:List α}{b:β}{m:List β}(h:bu F l (b::m)):∃a l',l=a::l'/\F a b/\bu F l' m:=by
 cases h with
 | cons r t=>exact⟨_,_,rfl,r,t⟩
theorem M0{α:Type}{F:α->β->Prop}{l:List α}(h:bu F l ([]:List β)):l=[]:=by cases h;rfl
theorem BV(m:M K mg):FnOk P w K mg base CX0 3 m.lB m.g7.d ["_law_cell","_law_k","_law_rooms_here","_law_turns"] (m7 K):=by
 refine m.g7.F.ok aHz ?_ ?_;tm_at"h";tm_at"g";rcases h with⟨c,j,f,l,a,b,us,rs,rfl,h0,h1,hS,hr',ro,eb,k⟩;tm_at"f";have nd:=aHz.nd;tm_at"d";have aHi:= @nT P w K mg base m;have aHe:= @iV P w K mg base m;refine⟨_,(aB (aO (i:=4) nd rfl (by tm_at"b") (bL dU rfl m.kK hZ (aA (pv 2) aC)))
  (aB (zI (bI aHi hr (aA (pv 0) (aA (cP (aA aD (aA (pv 4) (aA (aK bX (pv 4) aD) (aA (eQ 100000000000 (by decide) ⟨by decide,by decide,by decide⟩) (aA aD (aA aD aC))))))) aC))) (QM (n:=6) rfl (aX (aL (i:=5) nd rfl (by tm_at"b")) (aX (aL (i:=6) nd rfl (by tm_at"b")) (aX (aL (i:=7) nd rfl (by tm_at"b")) (aX (aL (i:=8) nd rfl (by tm_at"b")) (aX (aL (i:=9) nd rfl (by tm_at"b")) (aX (aL (i:=10) nd rfl (by tm_at"b")) dY))))))))
  (aB (aO (i:=11) nd rfl (by tm_at"b") pB)
  (aB (b8 (bB kF (pv 7) (pv 4) (bG _)) (aE (aO (i:=11) nd rfl (by tm_at"b") (aT c4 (aT bF (pv 2) (pv 7) (λ_ _=>rfl)) aD (λ_ _=>rfl)))) bK)
  (aB (b8 (bB fG (pv 5) aD (bG _)) (aE (aO (i:=10) nd rfl (by tm_at"b") (aK bX aD (aK bP (pv 10) aD)))) bK)
  (aE (aS (cZ (aA (bI aHe hr (aA (pv 0) (aA (aK bX aD (pv 1)) aC))) (aA (aT c4 (aT bF (pv 2) (pv 6) (λ_ _=>rfl)) aD (λ_ _=>rfl)) (aA (pv 11) (aA (pv 5) (aA (pv 8) (aA (aK bX (aT c4 (pv 3) aD (λ_ _=>rfl)) (pv 9)) (aA (pv 10) aC))))))))))))))),?_⟩
 refine aJ (σ:=[some (.int c),some (.int j),some (.ref a),some (.ref b),none,none,none,none,none,none,none,none]) rfl ?_;tm_at"e";have hul:us.length=rs.length:=bx hr';have hu0':0<us.length:=by have:=ro.l0;lia
 have hu4:us.length<=4:=by have:=ro.l1;lia
 tm_at"n";rename_i p1 H1 n1 S1 e1;refine yT (bs:=[6,(us.length:Int),(us.length:Int)+1,100000000000,30,4096]) (SqL.of e1) (λx hx=>by
  simp only[az,gi,or_false]at hx;rcases hx with rfl|rfl|rfl|rfl|rfl|rfl<;>lia) (show 6<=20 by decide) λp2 ns H2 n2 S2 e2 hns=> ?_
 obtain⟨kd,t1,rfl,hk,hns⟩:=gQ hns;obtain⟨sx,t2,rfl,hs,hns⟩:=gQ hns;obtain⟨ex,t3,rfl,hx,hns⟩:=gQ hns;obtain⟨wd,t4,rfl,hw,hns⟩:=gQ hns;obtain⟨fi,t5,rfl,hfi,hns⟩:=gQ hns;obtain⟨mo,t6,rfl,hmo,hns⟩:=gQ hns;obtain rfl:=M0 hns;have e2':H2 p2=some (.lst [.int kd,.int sx,.int ex,.int wd,.int fi,.int mo]):=e2;have s02:=S1.trans S2;have hS2:=s02.seq hS;have hr2:=gG hr' s02;have eb2:=s02 _ _ eb;tm_at"n";refine lE (λσ' G=>H2=G/\∃e,dQ e/\(e= .non∨∃z,e= .str z/\z∈rs.map (·.1))/\σ'=[some (.int c),some (.int j),some (.ref a),some (.ref b),some (.int (us.length:Int)),some (.int kd),some (.int sx),some (.int ex),some (.int wd),some (.int fi),some (.int mo),some e]) ?_ ?_
 rotate_left
 .intro nx' hnx;tm_at"a";refine bR (λhc=> ?_) (λhc=> ?_)
  .tm_at"a";refine sJ hS2 hx.1 hc λv2 hv2=> ?_;obtain⟨z2,i2,j2,q2,rfl,hq2,hz2⟩:=xQ hr2 hv2;tm_at"a";refine⟨q2,_,0,_,rfl,rfl,SqT.of hq2,rfl,?_⟩;tm_at"a";exact hnx _ _ ⟨rfl,_,.inr ⟨z2,rfl,ro.nm _ hz2⟩,.inr ⟨z2,rfl,ag.mpr ⟨_,hz2,rfl⟩⟩,rfl⟩
  .tm_at"a";exact hnx _ _ ⟨rfl,_,.inl rfl,.inl rfl,rfl⟩
 rintro _ G hq_;obtain⟨hG,e,he,hei,rfl⟩:=hq_;subst hG;tm_at"n";refine lE (λσ' G=>H2=G/\∃m2,0<=m2/\(kd=3->1<=m2)/\σ'=[some (.int c),some (.int j),some (.ref a),some (.ref b),some (.int (us.length:Int)),some (.int kd),some (.int sx),some (.int ex),some (.int wd),some (.int fi),some (.int m2),some e]) ?_ ?_
 rotate_left
 .intro nx' hnx;tm_at"a";refine bR (λhc=> ?_) (λhc=> ?_)
  .tm_at"a";exact hnx _ _ ⟨rfl,_,by lia,by lia,rfl⟩
  .tm_at"a";exact hnx _ _ ⟨rfl,_,hmo.1,(λh=>absurd h hc),rfl⟩
 rintro _ G hq_;obtain⟨hG,m2,hm2,hm3,rfl⟩:=hq_;subst hG;tm_at"a";refine sJ hS2 hs.1 hs.2 λv1 hv1=> ?_;obtain⟨z1,i1,j1,q1,rfl,hq1,hz1⟩:=xQ hr2 hv1;tm_at"a";refine⟨q1,_,0,_,rfl,rfl,SqT.of hq1,rfl,?_⟩;tm_at"a";refine⟨b,_,0,_,rfl,rfl,SqT.of eb2,rfl,?_⟩;tm_at"a";rename_i q6 H6 n6 S6 e6;exact k q6 ⟨wnF c (20+j),z1,e,kd,wd,f+fi,m2⟩ _ (s02.trans S6) ⟨q6,rfl,e6⟩ ⟨vS (by lia) (by lia),ro.nm _ hz1,ag.mpr ⟨_,hz1,rfl⟩,he,hei,hk.1,hk.2,hw.1,by have:=hfi.1;show f<=f+fi;lia,hm2,hm3,by have:=hw.2;show wd<_;lia⟩ rfl
theorem BZ(m:M K mg):Fc P w K mg base "_law_spec_told" 3 ["_law_cell","_law_k","_law_rooms_here","_law_turns"] (m7 K):=⟨_,_,m.EH,m.g7.F.kp,m.g7.b,BV m⟩
def lW(s:bS)(t:Int):Int:=if s.kd=1/\t<s.fi∨s.kd=2/\s.fi<=t then 0 else if s.kd=3/\(t<s.fi∨0<(t - s.fi)%s.mo) then 0 else if s.kd=4/\s.mo/2^t.toNat%2=0 then 0 else s.wd
theorem Mc.mono{k:Nat}{sp:Sp}(F:Mc P w K mg base C nm j sp)(h:j<=k):Mc P w K mg base C nm k sp:=by
 obtain⟨f,fd,ps,h1,h2,h3,h4⟩:=F.ex;exact⟨f,fd,ps,h1,h2,h3,h4.mono h⟩
abbrev FR(n s e l:V):List (Str×V):=bT "letting" l (lL n s e (.int 1))
inductive iW(K:W.Frag)(vs:List V)(H:Hp)(Q:VK)(E:XK):Prop
 | mk (p C dx:Addr) (n s:Str) (e l:V) (_:vs=[.ref p,.str n,.str s,e,l]) (_:DCls K C) (_:H p=some (.ins C dx [])) (_:bD n=true) (_:bD s=true) (_:dQ e) (_:∀H',SameBut p H H'->H' p=some (.ins C dx (FR (.str n) (.str s) e l))->Q .non H'):iW K vs H Q E
theorem OZ{E:XK}{n s:Str}{e l:V}(dc:DCls K C)(hp:H p=some (.ins C dx []))(hn:bD n=true)(hs:bD s=true)(he:dQ e)
  (k:∀H',SameBut p H H'->H' p=some (.ins C dx (FR (.str n) (.str s) e l))->Q .non H'):iW K [.ref p,.str n,.str s,e,l] H Q E:=⟨_,_,_,_,_,_,_,rfl,dc,hp,hn,hs,he,k⟩
theorem DT(m:M K mg):FnOk P w K mg base CX0 4 m.mV m.mT.d ["self","name","start","end","letting"] (iW K):=by
 refine m.mT.F.ok aHJ ?_ ?_;tm_at"h";tm_at"g";rcases h with⟨p,C,dx,n,st,e,l,rfl,dc,hp,hn,hs,he,k⟩;tm_at"f";have nd:=aHJ.nd;tm_at"d";have DD_Door___init___1:=u0 (P:=P) (w:=w) (base:=base) m;refine⟨_,(aB (aY (aE4 DD_Door___init___1 hr (aA (pv 0) (aA (pv 1) (aA (pv 2) (aA (pv 3) aC))))))
  (aE (cC (pv 0) (pv 4) rfl))),?_⟩
 refine aJ (σ:=[some (.ref p),some (.str n),some (.str st),some (e),some (l)]) rfl ?_;tm_at"e";tm_at"a";refine ZH ?_;tm_at"a";show dW K [.ref p,.str n,.str st,e,.int 1] _ _ _;tm_at"a";exact k _ (by tm_at"m") (by assumption)
theorem WR(m:M K mg):Kc P w K mg base "Told" m.mS 4 [] (iW K):=⟨_,_,_,_,m.aFY,m.aDW,.nil,m.mT.b,DT m⟩
theorem Y4{E:XK}{n s:Str}{e l:V}(ev:vs++dvs=[.str n,.str s,e,l])(dc:DCls K C)(hn:bD n=true)(hs:bD s=true)(he:dQ e)
  (k:∀p dx H',H p=none->Same H H'->H' p=some (.ins C dx (FR (.str n) (.str s) e l))->Q (.ref p) H'):lX C (iW K) dvs E Q vs H :=
 m8 (λp dx H0 Q' h k' s0=>by rw[ev];exact OZ dc h hn hs he k') k
inductive lT(P:gd)(w:gx)(K:W.Frag)(mg:Str->Option ak)(base:Heap)(vs:List V)(H:Hp)(Q:VK)(E:XK):Prop
 | mk (p C dx:Addr) (fs:List (Str×V)) (t:Int) (F:Addr) (o:Obj) (fd:gy) (ps:List Str) (sp:Sp) (_:vs=[.ref p,.int t]) (_:DCls K C) (_:H p=some (.ins C dx fs)) (_:fs.lookup ("letting" :Str)=some (.ref F)) (_:H F=some (kn o)) (_:o.data= .func fd) (_:Binds K fd ps []) (_:FnOk P w K mg base CX0 3 F fd ps sp) (_:sp [.int t] H Q E0):lT P w K mg base vs H Q E
theorem PB{E:XK}{fs:List (Str×V)}{t:Int}{o:Obj}{ps:List Str}{sp:Sp}(hp:H p=some (.ins C dx fs))(dc:DCls K C)(l:fs.lookup ("letting" :Str)=some (.ref F))(hF:H F=some (kn o))(hd:o.data= .func fd)
  (hb:Binds K fd ps [])(hf:FnOk P w K mg base CX0 3 F fd ps sp)(k:sp [.int t] H Q E0):lT P w K mg base [.ref p,.int t] H Q E:=⟨_,_,_,_,_,_,_,_,_,_,rfl,dc,hp,l,hF,hd,hb,hf,k⟩
theorem OA(m:M K mg):FnOk P w K mg base CX0 4 m.vD m.u7.d ["self","turn"] (lT P w K mg base):=by
 refine m.u7.F.ok aIo ?_ ?_;tm_at"h";tm_at"g";rcases h with⟨p,C,dx,fs,t,F,o,fd,ps,sp,rfl,dc,hp,l,hF,hd,hb,hf,k⟩;tm_at"f";have nd:=aIo.nd;tm_at"d";refine⟨_,(aB (aO (i:=2) nd rfl (by tm_at"b") (aH (pv 0) rfl))
  (aE (aS (Z0 3 2 hr (aA (pv 1) aC))))),?_⟩
 refine aJ (σ:=[some (.ref p),some (.int t),none]) rfl ?_;tm_at"e";tm_at"a";refine⟨F,o,fd,rfl,hF,hd,?_⟩;tm_at"a";exact⟨ps,sp,hF,hb,hf,k⟩
theorem LJ(m:M K mg):Mc P w K mg base m.mS "lets" 4 (lT P w K mg base):=⟨_,_,_,m.wA.ic.cl,m.OW,m.u7.b,OA m⟩
theorem aC8{n st:Str}{e:V}(m:M K mg)(h:H p=some (.ins m.iE dx (lL (.str n) (.str st) e (.int wd)))):(aP P w K mg base (some 4)).at' H (.ref p) (n,st,e,λ_=>wd) :=
 ⟨p,_,dx,_,[],rfl,h,m.v8,by tm_at"i",by tm_at"i",by tm_at"i",by tm_at"i",by tm_at"i",FP m,(λ_ z=>nomatch z),λkl hk=>by
  cases hk;exact⟨_,Mc.mono (LC m) (by decide),λH' t Q hp _ ht k=>OY hp m.v8 (by tm_at"i") (k _ (Same.refl _))⟩⟩
theorem aAE{n st:Str}{e:V}(m:M K mg)(b0:0<=i0)(h:H p=some (.ins m.jC dx (AX (.str n) (.str st) e (.int wd) (.int i0)))):(aP P w K mg base (some 4)).at' H (.ref p) (n,st,e,vI wd i0) :=
 ⟨p,_,dx,_,[],rfl,h,m.tM,by tm_at"i",by tm_at"i",by tm_at"i",by tm_at"i",by tm_at"i",DA m,(λ_ z=>nomatch z),λkl hk=>by
  cases hk;exact⟨_,Mc.mono (J2 m) (by decide),λH' t Q hp _ ht k=>zZ hp m.tM (by tm_at"i") (by tm_at"i") ht b0 (k _ (Same.refl _))⟩⟩
theorem ZU{n st:Str}{e:V}(m:M K mg)(b0:0<=i0)(h:H p=some (.ins m.jE dx (BR (.str n) (.str st) e (.int wd) (.int i0)))):(aP P w K mg base (some 4)).at' H (.ref p) (n,st,e,vK wd i0) :=
 ⟨p,_,dx,_,[],rfl,h,m.sY,by tm_at"i",by tm_at"i",by tm_at"i",by tm_at"i",by tm_at"i",DF m,(λ_ z=>nomatch z),λkl hk=>by
  cases hk;exact⟨_,Mc.mono (KI m) (by decide),λH' t Q hp _ ht k=>zJ hp m.sY (by tm_at"i") (by tm_at"i") ht b0 (k _ (Same.refl _))⟩⟩
theorem aCN{n st:Str}{e:V}(m:M K mg)(b0:1<=i0)(b1:0<=i1)(h:H p=some (.ins m.mK dx (E2 (.str n) (.str st) e (.int wd) (.int i0) (.int i1)))):(aP P w K mg base (some 4)).at' H (.ref p) (n,st,e,BQ wd i0 i1) :=
 ⟨p,_,dx,_,[],rfl,h,m.v9,by tm_at"i",by tm_at"i",by tm_at"i",by tm_at"i",by tm_at"i",FA m,(λ_ z=>nomatch z),λkl hk=>by
  cases hk;exact⟨_,Mc.mono (OD m) (by decide),λH' t Q hp _ ht k=>CS hp m.v9 (by tm_at"i") (by tm_at"i") (by tm_at"i") ht b0 b1 (k _ (Same.refl _))⟩⟩
theorem UP{n st:Str}{e:V}(m:M K mg)(b0:0<=i0)(h:H p=some (.ins m.g6 dx (wU (.str n) (.str st) e (.int wd) (.int i0)))):(aP P w K mg base (some 4)).at' H (.ref p) (n,st,e,rD wd i0) :=
 ⟨p,_,dx,_,[],rfl,h,m.pE,by tm_at"i",by tm_at"i",by tm_at"i",by tm_at"i",by tm_at"i",CA m,(λ_ z=>nomatch z),λkl hk=>by
  cases hk;exact⟨_,Mc.mono (F4 m) (by decide),λH' t Q hp _ ht k=>yN hp m.pE (by tm_at"i") (by tm_at"i") ht b0 (k _ (Same.refl _))⟩⟩
theorem ET{d:aF}(h:DoorAt P w K mg base kL H v d)(T:SameT H H'):DoorAt P w K mg base kL H' v d:=by
 obtain⟨p,C,dx,fs,fp,e,hp,dc,l1,l2,l3,l4,l5,mc,hf,lt⟩:=h;exact⟨p,C,dx,fs,fp,e,T _ _ hp (λps z=>by cases z),dc,l1,l2,l3,l4,l5,mc,λx hx=>⟨T _ _ (hf x hx).1 (λps z=>(hf x hx).2 (by rw[z];trivial)),(hf x hx).2⟩,lt⟩
theorem aC5(h:∀q∈sc.names,q.2= .free->q.1=y):∀z,sc.names.lookup z=some .free->z=y:=λz e=>h (z,.free) (ia e) rfl
inductive NZ(F c:Addr)(fd:gy)(qual:Str)(args:tm)(body:Expr)(sc:rm)(cell:Int)(vs:List V)(H:Hp)(Q:VK)(E:XK):Prop
 | mk (t:Int) (_:vs=[.int t]) (_:LamAt H F fd qual args body sc "_law_wide" c) (_:K0 H c (.int cell)) (_:Q (.int cell) H):NZ F c fd qual args body sc cell vs H Q E
theorem aFw{G:Hp}(hL:LamAt G F fd qual args body sc "_law_wide" c)(hk:sc.kind= .function)(hco:sc.isCoroutine=false)(hgen:sc.isGenerator=false)(hcell:∀z∈sc.names,z.2≠ .cell)
  (hx:sc.names.lookup ("_law_turn" :Str)=some .local)(hfree:∀z,sc.names.lookup z=some .free->z= "_law_wide")(hy:sc.names.lookup ("_law_wide" :Str)=some .free)
  (hb:∀(cdv:ak) (A:ke) (outer:List Env) (s:ba) (H:Hp) (E:XK),PE (cxL CX0 P w K mg base ["_law_turn","_law_wide"] qual sc F cdv [("_law_wide",c)] A outer s H E).nox body (jI 1)) :
  FnOk P w K mg base CX0 3 F fd ["_law_turn"] (NZ F c fd qual args body sc cell):=by
 refine aDy (qual:=qual) (args:=args) (body:=body) (c:=c) (v:= .int cell) hk hco hgen hcell hx hfree hy (λvs H Q E h=> ?_) λcdv A outer s H a Q E hr h=> ?_
 .obtain⟨t,e,L,kc,_⟩:=h;exact⟨.int t,e,L,kc⟩
 .obtain⟨t,e,L,kc,k⟩:=h;cases e;refine⟨_,hb cdv A outer s (off H c) E,λo ho=> ?_⟩;tm_at"a";rw[Z1 ho];exact k
theorem aDE(m:M K mg){st:Str}{e:V}(hp:H p=some (.ins m.mS dx (FR (.str nm) (.str st) e (.ref F))))
  (hL:LamAt H F fd qual args body sc "_law_wide" c)(kc:K0 H c (.int cell))(hbd:Binds K fd ["_law_turn"] [])(FL:FnOk P w K mg base CX0 3 F fd ["_law_turn"] (NZ F c fd qual args body sc cell)) :
  (aP P w K mg base (some 4)).at' H (.ref p) (nm,st,e,λ_=>cell):=by
 obtain⟨c',pm,ctv,oc,fv,tt,hfd,hF,hc',hdc,hfv⟩:=id hL;obtain⟨oC,uC,hC,hdC,rC⟩:=id kc;refine⟨p,_,dx,_,[(F,kn (W.kla_obj "<lambda>" qual args body sc [("_law_wide",c)] pm c' ctv)),(c',kn oc),(c,kn oC)],rfl,hp,m.wA,by tm_at"i",by tm_at"i",by tm_at"i",by tm_at"i",by tm_at"i",FB m,?_,λkl hk=> ?_⟩
 .intro x hx;simp only[az,gi,or_false]at hx;rcases hx with rfl|rfl|rfl
  .exact⟨hF,λz=>z⟩
  .exact⟨hc',λz=>z⟩
  .exact⟨hC,λz=>z⟩
 .cases hk;refine⟨_,Mc.mono (LJ m) (by decide),λH' t Q hp' hfp ht k=> ?_⟩;have gF:=hfp _ (.head _);have gc':=hfp _ (.tail _ (.head _));have gC:=hfp _ (.tail _ (.tail _ (.head _)));exact PB hp' m.wA (by tm_at"i") gF (by rw[hfd]) hbd FL ⟨t,rfl,⟨c',pm,ctv,oc,fv,tt,hfd,gF,gc',hdc,hfv⟩,⟨oC,uC,gC,hdC,rC⟩,k _ (Same.refl _)⟩
theorem let0{s:bS}(h:s.kd=0∨s.kd=5):lW s=λ_=>s.wd:=funext λt=>by
 unfold lW;rw[if_neg (by lia),if_neg (λz=>by have:=z.1;lia),if_neg (λz=>by have:=z.1;lia)]
theorem aGW{s:bS}(h:s.kd=1):lW s=vI s.wd s.fi:=funext λt=>by
 unfold lW vI
 by_cases c:t<s.fi
 .rw[if_pos (.inl ⟨h,c⟩),if_neg (by lia)]
 .rw[if_neg (by lia),if_neg (λz=>by have:=z.1;lia),if_neg (λz=>by have:=z.1;lia),if_pos (by lia)]
theorem aGS{s:bS}(h:s.kd=2):lW s=vK s.wd s.fi:=funext λt=>by
 unfold lW vK
 by_cases c:t<s.fi
 .rw[if_neg (by lia),if_neg (λz=>by have:=z.1;lia),if_neg (λz=>by have:=z.1;lia),if_pos (by lia)]
 .rw[if_pos (.inr ⟨h,by lia⟩),if_neg (by lia)]
theorem aGV{s:bS}(h:s.kd=3)(hm:1<=s.mo):lW s=BQ s.wd s.mo s.fi:=funext λt=>by
 unfold lW BQ;have h0:=jw (t - s.fi) (show s.mo≠0 by lia);rw[if_neg (by lia)]
 by_cases c:t<s.fi∨0<(t - s.fi)%s.mo
 .rw[if_pos ⟨h,c⟩,if_neg (by lia)]
 .rw[if_neg (λz=>c z.2),if_neg (λz=>by have:=z.1;lia),if_pos (by lia)]
theorem aG5{s:bS}(h:s.kd=4):lW s=rD s.wd s.mo:=funext λt=>by
 unfold lW rD;rw[if_neg (by lia),if_neg (λz=>by have:=z.1;lia)]
 by_cases c:s.mo/2^t.toNat%2=0
 .rw[if_pos ⟨h,c⟩,if_neg (by lia)]
 .rw[if_neg (λz=>c z.2),if_pos (by lia)]
def dE(s:bS):aF:=(s.n,s.st,s.e,lW s)
abbrev qL:Str:=("_law_door" :Str)++ ".<locals>." ++ "<lambda>"
abbrev pL:Pos:=⟨450,54,450,81⟩
inductive xY(P:gd)(w:gx)(K:W.Frag)(mg:Str->Option ak)(base:Heap)(PL:Addr)(vs:List V)(H:Hp)(Q:VK)(E:XK):Prop
 | mk (q:Addr) (s:bS) (rs:List bY) (f:Int) (_:vs=[.ref q]) (_:dH H (.ref q) s) (_:kE rs f s) (_:0<=f) (_:TabS H PL pL qL) (_:∀v H',SameT H H'->TabS H' PL pL qL->(aP P w K mg base (some 4)).at' H' v (dE s)->Q v H'):xY P w K mg base PL vs H Q E
theorem aDC{E:XK}{s:bS}{rs:List bY}(hs:dH H (.ref q) s)(so:kE rs f s)(hf:0<=f)(ht:TabS H PL pL qL)(k:∀v H',SameT H H'->TabS H' PL pL qL->(aP P w K mg base (some 4)).at' H' v (dE s)->Q v H'):xY P w K mg base PL [.ref q] H Q E:=⟨_,_,_,_,rfl,hs,so,hf,ht,k⟩
local macro_rules| `(tactic| tm_at"l")=> `(tactic| first|(with_reducible refine aDm ?_)|(with_reducible refine aCe ?_))
theorem LH(m:M K mg)(hcL:m.eO.code= .ref cL)(hCL:W.CodeHd base cL PL)(hBL:base.BuiltinsAt mg PL):FnOk P w K mg base CX0 6 m.vA m.eO ["_law_spec_here"] (xY P w K mg base PL):=by
 refine m.oV.okR aIh (i:=5) (y:= "_law_wide") rfl (by kernel_rfl) (λvs H Q E h=> ?_) (λcdv A outer s H vs Q E c hcd hc hr h=> ?_)
 .obtain⟨q,s',rs,f,rfl,hs,so,hf,hPL,k⟩:=h;rfl
 .obtain⟨q,s',rs,f,rfl,hs,so,hf,hPL,k⟩:=h;have nd:=aIh.nd;tm_at"d";obtain rfl:=hcd.symm.trans hcL;obtain rfl:s.heap.objs.size+1=c:=dg ((show _=some (s.heap.objs.size+1) from by kernel_rfl).symm.trans hc);have aI6:= @X0 P w K mg base m;have aI7:= @WY P w K mg base m;have aIT:= @PD P w K mg base m;have aI1:= @TC P w K mg base m;have aI9:= @WR P w K mg base m;have aI2:= @TY P w K mg base m;have aJf:=m.v8;have aJe:=m.tM;have aJd:=m.sY;have aJg:=m.v9;have aJc:=m.pE;have aIZ:=m.wA;refine⟨_,(m9 (zI (pv 0) (v7 (n:=7) rfl (aX (aL (i:=1) nd rfl (by tm_at"b")) (aX (aL (i:=2) nd rfl (by tm_at"b")) (aX (aL (i:=3) nd rfl (by tm_at"b")) (aX (aL (i:=4) nd rfl (by tm_at"b")) (aX (aL (i:=5) nd rfl (by tm_at"b")) (aX (aL (i:=6) nd rfl (by tm_at"b")) (aX (aL (i:=7) nd rfl (by tm_at"b")) dY)))))))))
   (m9 (b8 (bB fG (pv 4) aD (bG _)) (aE (aS (uI aI7 hr (aA (pv 1) (aA (pv 2) (aA (pv 3) (aA (pv 5) aC))))))) bK)
   (m9 (b8 (bB fG (pv 4) aD (bG _)) (aE (aS (uI aI1 hr (aA (pv 1) (aA (pv 2) (aA (pv 3) (aA (pv 5) (aA (pv 6) aC)))))))) bK)
   (m9 (b8 (bB fG (pv 4) aD (bG _)) (aE (aS (uI aI2 hr (aA (pv 1) (aA (pv 2) (aA (pv 3) (aA (pv 5) (aA (pv 6) aC)))))))) bK)
   (m9 (b8 (bB fG (pv 4) aD (bG _)) (aE (aS (uI aI6 hr (aA (pv 1) (aA (pv 2) (aA (pv 3) (aA (pv 5) (aA (pv 7) (aA (pv 6) aC))))))))) bK)
   (m9 (b8 (bB fG (pv 4) aD (bG _)) (aE (aS (uI aIT hr (aA (pv 1) (aA (pv 2) (aA (pv 3) (aA (pv 5) (aA (pv 7) aC)))))))) bK)
   (aBN (uI aI9 hr (aA (pv 1) (aA (pv 2) (aA (pv 3) (aA (aDK (y:= "_law_wide") (c:=s.heap.objs.size+1) rfl hCL hBL rfl) aC)))))))))))),?_⟩
  refine UQ (σ:=[some (.ref q),none,none,none,none,none,none,none]) rfl ?_;obtain⟨hnm,hsm,-,heo,-,hk0,hk1,hw0,hf0,hm0,hm1,-⟩:=so;have fx0:=let0 (s:=s');have fx1:=aGW (s:=s');have fx2:=aGS (s:=s');have fx3:=aGV (s:=s');have fx4:=aG5 (s:=s');unfold dE at k;generalize lW s'=LS at k fx0 fx1 fx2 fx3 fx4;obtain⟨n,st,e,kd,wd,fi,mo⟩:=s';rcases hs with⟨q',hq',eq'⟩;cases hq';have eq:H q=some (.tup [.str n,.str st,e,.int kd,.int wd,.int fi,.int mo]):=eq';clear eq';simp only[]at hnm hsm heo hk0 hk1 hw0 hf0 hm0 hm1 k fx0 fx1 fx2 fx3 fx4;tm_at"a";refine bR (λh0=> ?_) (λh0=> ?_)
  .rw[fx0 (.inl h0)]at k;tm_at"a";rename_i p dx H2 n2 S2 e2;exact k _ _ (Same.t S2) (hPL.same S2) (aC8 (P:=P) (w:=w) (base:=base) m e2)
  tm_at"a";refine bR (λh1=> ?_) (λh1=> ?_)
  .rw[fx1 h1]at k;tm_at"a";rename_i p dx H2 n2 S2 e2;exact k _ _ (Same.t S2) (hPL.same S2) (aAE (P:=P) (w:=w) (base:=base) m (by lia) e2)
  tm_at"a";refine bR (λh2=> ?_) (λh2=> ?_)
  .rw[fx2 h2]at k;tm_at"a";rename_i p dx H2 n2 S2 e2;exact k _ _ (Same.t S2) (hPL.same S2) (ZU (P:=P) (w:=w) (base:=base) m (by lia) e2)
  tm_at"a";refine bR (λh3=> ?_) (λh3=> ?_)
  .rw[fx3 h3 (hm1 h3)]at k;have hm1':=hm1 h3;tm_at"a";rename_i p dx H2 n2 S2 e2;exact k _ _ (Same.t S2) (hPL.same S2) (aCN (P:=P) (w:=w) (base:=base) m (hm1 h3) (by lia) e2)
  tm_at"a";refine bR (λh4=> ?_) (λh4=> ?_)
  .rw[fx4 h4]at k;tm_at"a";rename_i p dx H2 n2 S2 e2;exact k _ _ (Same.t S2) (hPL.same S2) (UP (P:=P) (w:=w) (base:=base) m hm0 e2)
  tm_at"a";refine⟨hPL,λF fd G4 hFn hL T hT4=> ?_⟩;have FL:=λ(cell:Int)=>aFw (P:=P) (w:=w) (K:=K) (mg:=mg) (base:=base) (cell:=cell) hL rfl rfl rfl (by decide +kernel) (by kernel_rfl) (aC5 (by decide +kernel)) (by kernel_rfl) (λcdv A outer s H E=>pv 1);have hbd:Binds K fd ["_law_turn"] []:=by
   obtain⟨c',pm,ctv,oc,fv,tt,rfl,_⟩:=id hL;exact Binds.all<|QJ 1 _ λ_=>rfl
  tm_at"a";refine Y4 rfl aIZ hnm hsm heo λp5 dx5 G5 n5 S5 e5=> ?_;refine⟨_,rfl,λH6 S6 nc kc=> ?_⟩;rw[fx0 (by lia)]at k;exact k _ _ ((T.snoc S5).snoc S6) ((hT4.same S5).same S6) (aDE (P:=P) (w:=w) (base:=base) m (S6 _ _ e5) ((hL.same S5).same S6) kc hbd (FL wd))
theorem LD(m:M K mg)(hcL:m.eO.code= .ref cL)(hCL:W.CodeHd base cL PL)(hBL:base.BuiltinsAt mg PL):Fc P w K mg base "_law_door" 6 ["_law_spec_here"] (xY P w K mg base PL):=⟨_,_,m.P0,m.oV.kp,m.P5,LH m hcL hCL hBL⟩
structure DrawnAt(H:Hp)(q p1 p2 p3:Addr)(us ws:List V)(rs:List bY)(ss:List bS)(f l:Int):Prop where
 eq:H q=some (.tup [.ref p1,.ref p2,.ref p3])
 e1:H p1=some (.lst us)
 e2:H p2=some (.lst ws)
 e3:H p3=some (.tup [.int f,.int l])
 ru:bu (dC H) us rs
 sw:bu (dH H) ws ss
 ro:j8 rs
 so:∀s∈ss,kE rs f s
 nd:(ss.map (·.n)).Nodup
 l7:ss.length<=7
 f0:0<=f
 f1:f<100000000000
 fl:f<=l
 fl7:l<=f+7
structure DrB(H:Hp)(p1 p2 p3:Addr)(us ws:List V)(rs:List bY)(ss:List bS)(f l:Int):Prop where
 e1:H p1=some (.lst us)
 e2:H p2=some (.lst ws)
 e3:H p3=some (.tup [.int f,.int l])
 ru:bu (dC H) us rs
 sw:bu (dH H) ws ss
 ro:j8 rs
 so:∀s∈ss,kE rs f s
 nd:(ss.map (·.n)).Nodup
 l7:ss.length<=7
 f0:0<=f
 f1:f<100000000000
 fl:f<=l
 fl7:l<=f+7
theorem DrawnAt.b{rs:List bY}{ss:List bS}(x:DrawnAt H q p1 p2 p3 us ws rs ss f l):DrB H p1 p2 p3 us ws rs ss f l:=⟨x.e1,x.e2,x.e3,x.ru,x.sw,x.ro,x.so,x.nd,x.l7,x.f0,x.f1,x.fl,x.fl7⟩
theorem BH{ss:List bS}(h:bu (dH H) us ss)(s:Same H H'):bu (dH H') us ss:=Paired.imp' (λv d ⟨q,e,h⟩=>⟨q,e,s _ _ h⟩) h
theorem WD{ss:List bS}(h:bu (dH H) us ss)(s:SameT H H'):bu (dH H') us ss:=Paired.imp' (λv d ⟨q,e,h⟩=>⟨q,e,s.tup h⟩) h
theorem WA{ss:List bY}(h:bu (dC H) us ss)(s:SameT H H'):bu (dC H') us ss:=Paired.imp' (λv d ⟨q,e,h⟩=>⟨q,e,s.tup h⟩) h
theorem D2{rs:List bY}:∀{l:List Nat}{ys:List V},bu (λi y=>∃s c,dH H y s/\kE rs f s/\s.n=wnF c (20+(i:Nat))) l ys->(∀i∈l,i<7)->l.Nodup →
  ∃ss,bu (dH H) ys ss/\(∀s∈ss,kE rs f s)/\(ss.map (·.n)).Nodup/\(∀s∈ss,∃i∈l,∃c,s.n=wnF c (20+(i:Nat)))/\ss.length=l.length
 | _,_,.nil,_,_=>⟨[],.nil,(λ_ z=>nomatch z),oy,(λ_ z=>nomatch z),rfl⟩
 | i::l,_,.cons ⟨s,c,h1,h2,h3⟩ t,h7,nd=>by
  obtain⟨ss,g1,g2,g3,g4,g5⟩:=D2 t (λj hj=>h7 j (ab _ hj)) (cm.mp nd).2;refine⟨s::ss,.cons h1 g1,λx hx=> ?_,?_,λx hx=> ?_,by rw[bb,bb,g5]⟩
  .rcases az.mp hx with rfl|hx
   .exact h2
   .exact g2 x hx
  .rw[bo,cm];refine⟨λz=> ?_,g3⟩;rcases ag.mp z with⟨x,hx,e⟩;obtain⟨j,hj,c',e'⟩:=g4 x hx;have hi7:=h7 i (.head _);have hj7:=h7 j (ab _ hj);have e:=e'.symm.trans (e.trans h3);have:=vY (by lia) (by lia) (by lia) (by lia) e;have hij:i=j:=by lia
   exact(cm.mp nd).1 (hij▸hj)
  .rcases az.mp hx with rfl|hx
   .exact⟨i,.head _,c,h3⟩
   .rcases g4 x hx with⟨j,hj,r⟩;exact⟨j,ab _ hj,r⟩
inductive lI(K:W.Frag)(vs:List V)(H:Hp)(Q:VK)(E:XK):Prop
 | mk (a:Addr) (ns:List Int) (_:vs=[.ref a]) (_:SqL K H a (ns.map V.int)) (_:ns.length<=63) (_:∀q p1 p2 p3 us ws rs ss f l H',Same H H'->DrawnAt H' q p1 p2 p3 us ws rs ss f l->Q (.ref q) H'):lI K vs H Q E
theorem NF{E:XK}{ns:List Int}(hS:SqL K H a (ns.map V.int))(hl:ns.length<=63)(k:∀q p1 p2 p3 us ws rs ss f l H',Same H H'->DrawnAt H' q p1 p2 p3 us ws rs ss f l->Q (.ref q) H'):lI K [.ref a] H Q E:=⟨_,_,rfl,hS,hl,k⟩
theorem U9(ns:List Int):(el (Int.toNat 4)).map (λi:Nat=>V.int (fC ns (i:Int)))=[.int (fC ns 0),.int (fC ns 1),.int (fC ns 2),.int (fC ns 3)]:=rfl
theorem KP{ns:List Int}{i:Nat}(h:i<(min ((ns.length:Int) - 4) 7).toNat):4+i<ns.length/\i<7:=by lia
theorem zC(m:M K mg):FnOk P w K mg base CX0 4 m.jR m.fZ.d ["_law_script"] (lI K):=by
 refine m.fZ.F.ok aHx ?_ ?_;tm_at"h";tm_at"g";rcases h with⟨a,ns,rfl,hS,hlen,k⟩;tm_at"f";have nd:=aHx.nd;tm_at"d";have aHg:= @lQ P w K mg base m;have aHi:= @nT P w K mg base m;have aIs:= @zP P w K mg base m;have aIz:= @BZ P w K mg base m;refine⟨_,(aB (eG (i:=1) nd rfl (by tm_at"b") (N:=["_law_k","_law_script"]) (nl:=1) (ci:=[0]) rfl (blk (s.heap.objs.size+1) rfl rfl rfl (by kernel_rfl)) (gM rfl m.gL (aA aD aC)) (λ_ _ _ _=>(aL (i:=0) (show (["_law_k","_law_script"]:List Str).Nodup by decide +kernel) rfl (by tm_at"b"))) (λ_ _ _ _=>dI) (λ_ _ _ _=>(bI aHg hr (aA (pv 1) (aA (pv 0) aC)))))
  (aB (aO (i:=2) nd rfl (by tm_at"b") (bI aIs hr (aA (pv 1) aC)))
  (aB (zI (bI aHi hr (aA (aT bF (pv 1) aD (λ_ _=>rfl)) (aA (cP (aA aD (aA (eQ 100000000000 (by decide) ⟨by decide,by decide,by decide⟩) aC))) aC))) (QM (n:=2) rfl (aX (aL (i:=3) nd rfl (by tm_at"b")) (aX (aL (i:=4) nd rfl (by tm_at"b")) dY))))
  (aB (aO (i:=5) nd rfl (by tm_at"b") (cZ (aA (pv 4) (aA (aK bX (pv 4) (pv 3)) aC))))
  (aB (eG (i:=6) nd rfl (by tm_at"b") (N:=["_law_k","_law_rooms_here","_law_turns","_law_script"]) (nl:=1) (ci:=[2,5,0]) rfl (blk (s.heap.objs.size+1) rfl rfl rfl (by kernel_rfl)) (gM rfl m.gL (aA (bL (zO rfl) rfl m.K6 FF (aA (aK hV (bL dU rfl m.kK hZ (aA (pv 0) aC)) aD) (aA aD aC))) aC)) (λ_ _ _ _=>(aL (i:=0) (show (["_law_k","_law_rooms_here","_law_turns","_law_script"]:List Str).Nodup by decide +kernel) rfl (by tm_at"b"))) (λ_ _ _ _=>dI) (λ_ _ _ _=>(bI aIz hr (aA (aT (DG (K:=K)) (pv 3) (aK bX aD (pv 0)) (λ_ _=>rfl)) (aA (pv 0) (aA (pv 1) (aA (pv 2) aC)))))))
  (aE (aS (cZ (aA (pv 2) (aA (pv 6) (aA (pv 5) aC))))))))))),?_⟩
 refine aJ (σ:=[some (.ref a),none,none,none,none,none,none]) rfl ?_;tm_at"e";tm_at"a";refine DW (λi=> .int (fC ns (i:Int))) (by decide) (rest:=[some (.ref a)]) (by rfl) ?_ ?_
 .intro i H1 hi s1 R hR;tm_at"a";rw[gp];exact hR _ (Same.refl _)
 intro H1 S1;rw[U9];tm_at"a";rename_i p2 H2 n2 S2 e2;refine NA e2 λp4 us rs H4 n4 S4 e4 hr4 ro=> ?_;have e24:=S4 _ _ e2;tm_at"a";rename_i p5 H5 n5 S5 e5;refine yT (bs:=[8,100000000000]) (SqL.of e5) (λx hx=>by
  simp only[az,gi,or_false]at hx;rcases hx with rfl|rfl<;>lia) (show 2<=20 by decide) λp6 ds H6 n6 S6 e6 hds=> ?_
 obtain⟨mo,t1,rfl,hm,hds⟩:=gQ hds;obtain⟨fi,t2,rfl,hf,hds⟩:=gQ hds;obtain rfl:=M0 hds;have e6':H6 p6=some (.lst [.int mo,.int fi]):=e6;tm_at"a";rename_i p7 H7 n7 S7 e7;have s07:Same H H7:=(S1.trans S2).trans (S4.trans (S5.trans (S6.trans S7)));have s47:Same H4 H7:=S5.trans (S6.trans S7);have hS7:=s07.seq hS;have e47:=s47 _ _ e4;have hr7:=gG hr4 s47;tm_at"a";rw[ae];refine UX (λi y H=>∃s c,dH H y s/\kE rs fi s/\s.n=wnF c (20+(i:Nat))) (λ_ _ _ _ ⟨s,c,⟨q,h1,h2⟩,h3⟩ s2=>⟨s,c,⟨q,h1,s2 _ _ h2⟩,h3⟩) (by rw[sizeLine_eq];lia) (rest:=[some (.ref p4),some (.ref p7),some (.ref a)]) (by rfl) ?_ ?_
 .intro i H8 hi s8 R hR;have h47:=KP hi;have hS8:=s8.seq hS7;have e48:=s8 _ _ e47;have e78:=s8 _ _ e7;have hr8:=gG hr7 s8;tm_at"a";refine sJ hS8 (by lia) (by rw[ae];lia) λv hv=> ?_;rcases ag.mp hv with⟨c,hc,rfl⟩;tm_at"a";refine P7 (by lia) (by lia) (SqL.of e48) hr8 ro e78 λq s H9 S9 hs so hn=> ?_;rw[gp]at hn;exact hR _ _ ⟨s,c,hs,so,hn⟩ S9
 intro ys H8 s8 hys;obtain⟨ss,g1,g2,g3,g4,g5⟩:=D2 hys (λi hi=>(KP (gr.mp hi)).2) mz;rw[fk]at g5;tm_at"a";rename_i p9 H9 n9 S9 e9 pA HA nA SA eA;have s79:Same H7 HA:=s8.trans (S9.trans SA);refine k _ _ _ _ _ _ _ _ _ _ _ (s07.trans s79) ⟨eA,s79 _ _ e47,SA _ _ e9,s79 _ _ e7,gG hr7 s79,BH g1 (S9.trans SA),ro,g2,g3,by lia,hf.1,hf.2,by lia,by lia⟩
theorem zS(m:M K mg):Fc P w K mg base "_law_drawn_told" 4 ["_law_script"] (lI K):=⟨_,_,m.CP,m.fZ.F.kp,m.fZ.b,zC m⟩
theorem J4(m:M K mg):FnOk P w K mg base CX0 5 m.tQ m.mH.d ["_law_script"] (lI K):=by
 refine m.mH.F.ok aIe ?_ ?_;tm_at"h";tm_at"g";rcases h with⟨a,ns,rfl,hS,hlen,k⟩;tm_at"f";have nd:=aIe.nd;tm_at"d";have aHg:= @lQ P w K mg base m;have aIt:= @zS P w K mg base m;have aHh:= @pQ P w K mg base m;have aIN:= @JV P w K mg base m;have aIP:= @MM P w K mg base m;refine⟨_,(aB (b8 (bB fG (aK bP (bI aHg hr (aA (pv 0) (aA aD aC))) aD) aD (bG _)) (aE (aS (bI aIt hr (aA (pv 0) aC)))) bK)
  (aB (eG (i:=1) nd rfl (by tm_at"b") (N:=["_law_k","_law_script"]) (nl:=1) (ci:=[0]) rfl (blk (s.heap.objs.size+1) rfl rfl rfl (by kernel_rfl)) (gM rfl m.gL (aA aD aC)) (λ_ _ _ _=>(aL (i:=0) (show (["_law_k","_law_script"]:List Str).Nodup by decide +kernel) rfl (by tm_at"b"))) (λ_ _ _ _=>dI) (λ_ _ _ _=>(bI aHg hr (aA (pv 1) (aA (pv 0) aC)))))
  (aB (aO (i:=2) nd rfl (by tm_at"b") (bI aIN hr (aA (pv 1) aC)))
  (aB (aO (i:=3) nd rfl (by tm_at"b") (aT bF (cP (aA aD (aA (aK bP (bI aHh hr (aA (aT bF (pv 1) aD (λ_ _=>rfl)) (aA aD aC))) aD) aC))) (aK bP (aT bF (pv 1) aD (λ_ _=>rfl)) aD) (λ_ _=>rfl)))
  (aB (b8 (bB fG (aK bP (aK cK (aT bF (pv 1) aD (λ_ _=>rfl)) aD) aD) aD (bG _)) (aE (aO (i:=3) nd rfl (by tm_at"b") (aK bP (aK cK (aT bF (pv 1) aD (λ_ _=>rfl)) aD) (eQ 100000000000 (by decide) ⟨by decide,by decide,by decide⟩)))) bK)
  (aB (aO (i:=4) nd rfl (by tm_at"b") (cZ (aA (pv 3) (aA (aK bX (pv 3) (aK bP (bI aHh hr (aA (aT bF (pv 1) aD (λ_ _=>rfl)) (aA aD aC))) aD)) aC))))
  (aB (eG (i:=5) nd rfl (by tm_at"b") (N:=["_law_k","_law_rooms_here","_law_turns","_law_script"]) (nl:=1) (ci:=[2,4,0]) rfl (blk (s.heap.objs.size+1) rfl rfl rfl (by kernel_rfl)) (gM rfl m.gL (aA (bL (zO rfl) rfl m.K6 FF (aA (aK hV (bL dU rfl m.kK hZ (aA (pv 0) aC)) aD) (aA aD aC))) aC)) (λ_ _ _ _=>(aL (i:=0) (show (["_law_k","_law_rooms_here","_law_turns","_law_script"]:List Str).Nodup by decide +kernel) rfl (by tm_at"b"))) (λ_ _ _ _=>dI) (λ_ _ _ _=>(bI aIP hr (aA (aT (DG (K:=K)) (pv 3) (aK bX aD (pv 0)) (λ_ _=>rfl)) (aA (pv 0) (aA (pv 1) (aA (pv 2) aC)))))))
  (aE (aS (cZ (aA (pv 2) (aA (pv 5) (aA (pv 4) aC))))))))))))),?_⟩
 refine aJ (σ:=[some (.ref a),none,none,none,none,none]) rfl ?_;tm_at"e";tm_at"a";refine bR (λhc=> ?_) (λhc=> ?_)
 .tm_at"a";refine NF hS hlen λq p1 p2 p3 us ws rs ss f l H1 S1 dr=> ?_;exact k _ _ _ _ _ _ _ _ _ _ _ S1 dr
 tm_at"a";refine DW (λi=> .int (fC ns (i:Int))) (by decide) (rest:=[some (.ref a)]) (by rfl) ?_ ?_
 .intro i H1 hi s1 R hR;tm_at"a";rw[gp];exact hR _ (Same.refl _)
 intro H1 S1;rw[U9];tm_at"n";rename_i p2 H2 n2 S2 e2;refine NA e2 λp4 us rs H4 n4 S4 e4 hr4 ro=> ?_;have e24:=S4 _ _ e2;tm_at"n";rename_i n5 h50 h51 p5 H5 m5 S5 e5 v5 hv5;refine lE (λσ' G=>H5=G/\∃f6,0<=f6/\f6<100000000000/\σ'=[some (.ref a),some (.ref p2),some (.ref p4),some (.int f6),none,none]) ?_ ?_
 rotate_left
 .intro nx' hnx;have e25:=S5 _ _ e24;tm_at"a";refine bR (λhc=> ?_) (λhc=> ?_)
  .tm_at"a";exact hnx _ _ ⟨rfl,_,by lia,by lia,rfl⟩
  .tm_at"a";exact hnx _ _ ⟨rfl,_,by lia,by lia,rfl⟩
 rintro _ G hq_;obtain⟨hG,f6,hf0,hf1,rfl⟩:=hq_;subst hG;have e25:=S5 _ _ e24;tm_at"a";rename_i n6 h60 h61 p7 H7 n7 S7 e7;have s07:Same H H7:=(S1.trans S2).trans (S4.trans (S5.trans S7));have s47:Same H4 H7:=S5.trans S7;have hS7:=s07.seq hS;have e47:=s47 _ _ e4;have hr7:=gG hr4 s47;tm_at"a";rw[ae];refine UX (λi y H=>∃s c,dH H y s/\kE rs f6 s/\s.n=wnF c (20+(i:Nat))) (λ_ _ _ _ ⟨s,c,⟨q,h1,h2⟩,h3⟩ s2=>⟨s,c,⟨q,h1,s2 _ _ h2⟩,h3⟩) (by rw[sizeLine_eq];lia) (rest:=[some (.ref p4),some (.ref p7),some (.ref a)]) (by rfl) ?_ ?_
 .intro i H8 hi s8 R hR;have h47:=KP hi;have hS8:=s8.seq hS7;have e48:=s8 _ _ e47;have e78:=s8 _ _ e7;have hr8:=gG hr7 s8;tm_at"a";refine sJ hS8 (by lia) (by rw[ae];lia) λv hv=> ?_;rcases ag.mp hv with⟨c,hc,rfl⟩;tm_at"a";refine P7 (by lia) (by lia) (SqL.of e48) hr8 ro e78 λq s H9 S9 hs so hn=> ?_;rw[gp]at hn;exact hR _ _ ⟨s,c,hs,so,hn⟩ S9
 intro ys H8 s8 hys;obtain⟨ss,g1,g2,g3,g4,g5⟩:=D2 hys (λi hi=>(KP (gr.mp hi)).2) mz;rw[fk]at g5;tm_at"a";rename_i p9 H9 n9 S9 e9 pA HA nA SA eA;have s79:Same H7 HA:=s8.trans (S9.trans SA);refine k _ _ _ _ _ _ _ _ _ _ _ (s07.trans s79) ⟨eA,s79 _ _ e47,SA _ _ e9,s79 _ _ e7,gG hr7 s79,BH g1 (S9.trans SA),ro,g2,g3,by lia,hf0,hf1,by lia,by lia⟩
theorem JX(m:M K mg):Fc P w K mg base "_law_drawn" 5 ["_law_script"] (lI K):=⟨_,_,m.OL,m.mH.F.kp,m.mH.b,J4 m⟩
def cI(rs:List bY):List (Str×Int):=rs.map λr=>(r.1,r.2.1)
def dN(rs:List bY):List (Str×Int):=(rs.filter λr=>decide (0<r.2.2)).map λr=>(r.1,r.2.2)
theorem fQ(rs:List bY):(cI rs).map (·.1)=rs.map (·.1):=by unfold cI;rw[bw];rfl
theorem MF(ss:List bS):(ss.map dE).map (·.1)=ss.map (·.n):=by rw[bw];rfl
theorem JH{rs:List bY}(h:z∉rs.map (·.1)):dA (dN rs) z=0:=by
 have e:(dN rs).filter (λp=>decide (p.1=z))=[]:=by
  rw[pq];intro p hp;unfold dN at hp;rcases ag.mp hp with⟨r,hr,rfl⟩;have hr':=(cg.mp hr).1;intro hz;exact h (ag.mpr ⟨r,hr',by simpa using hz⟩)
 unfold dA;rw[e];rfl
theorem vU{r:bY}:∀{rs:List bY},(rs.map (·.1)).Nodup->(∀r∈rs,0<=r.2.2)->r∈rs->dA (dN rs) r.1=r.2.2
 | a::rs,nd,h0,hm=>by
  have nd':=cm.mp nd;have ha:=h0 a (.head _);have hz:=JH nd'.1;rcases az.mp hm with rfl|hm
  .by_cases hc:0<r.2.2
   .unfold dA dN at hz ⊢;rw[da (by simpa using hc),bo,da (by simp),bo,dh,hz];exact ja _
   .have:r.2.2=0:=by lia
    rw[this];unfold dA dN at hz ⊢;rw[cx (by simpa using hc)];exact hz
  .have ih:=vU nd'.2 (λx hx=>h0 x (ab _ hx)) hm;have hne:¬a.1=r.1:=λz=>nd'.1 (show a.1∈_ by rw[z];exact ag.mpr ⟨r,hm,rfl⟩)
   by_cases hc:0<a.2.2
   .unfold dA dN at ih ⊢;rw[da (by simpa using hc),bo,cx (by simpa using hne)];exact ih
   .unfold dA dN at ih ⊢;rw[cx (by simpa using hc)];exact ih
theorem aCU{rs:List bY}(ro:j8 rs):GY (cI rs) (dN rs):=by
 refine⟨λp hp=> ?_,λe he=> ?_⟩
 .unfold dN at hp;rcases ag.mp hp with⟨r,hr,rfl⟩;exact(ro.ok r (cg.mp hr).1).1
 .unfold cI at he;rcases ag.mp he with⟨r,hr,rfl⟩;rw[show ((r.1,r.2.1):Str×Int).1=r.1 from rfl,vU ro.nd (λx hx=>(ro.ok x hx).1) hr];exact(ro.ok r hr).2
theorem aCP{rs:List bY}{ss:List bS}(x:DrawnAt H q p1 p2 p3 us ws rs ss f l)(T:SameT H H'):DrawnAt H' q p1 p2 p3 us ws rs ss f l :=
 ⟨T.tup x.eq,T.lst x.e1,T.lst x.e2,T.tup x.e3,WA x.ru T,WD x.sw T,x.ro,x.so,x.nd,x.l7,x.f0,x.f1,x.fl,x.fl7⟩
theorem aBd{rs:List bY}{ss:List bS}(x:DrB H p1 p2 p3 us ws rs ss f l)(T:SameT H H'):DrB H' p1 p2 p3 us ws rs ss f l :=
 ⟨T.lst x.e1,T.lst x.e2,T.tup x.e3,WA x.ru T,WD x.sw T,x.ro,x.so,x.nd,x.l7,x.f0,x.f1,x.fl,x.fl7⟩
theorem aEM{rs:List bY}{ss:List bS}(x:DrB H p1 p2 p3 us ws rs ss f l)(s:Same H H'):DrB H' p1 p2 p3 us ws rs ss f l:=aBd x s.t
def TabR(PL:Addr)(A B:Hp):Prop:=SameT A B/\(TabS A PL pL qL->TabS B PL pL qL)
theorem TabR.refl(PL:Addr)(H:Hp):TabR PL H H:=⟨SameT.refl _,id⟩
theorem TabR.trans{A B C:Hp}(x:TabR PL A B)(y:TabR PL B C):TabR PL A C:=⟨x.1.trans y.1,λh=>y.2 (x.2 h)⟩
theorem XQ{k:Nat}{d:aF}(h:DoorAt P w K mg base (some j) H v d)(hjk:j<=k):DoorAt P w K mg base (some k) H v d:=by
 obtain⟨p,C,dx,fs,fp,e,hp,dc,l1,l2,l3,l4,l5,mc,hf,lt⟩:=h;refine⟨p,C,dx,fs,fp,e,hp,dc,l1,l2,l3,l4,l5,mc,hf,λkl hk=> ?_⟩;cases hk;rcases lt j rfl with⟨sp,m1,m2⟩;exact⟨sp,Mc.mono m1 hjk,m2⟩
theorem aGJ{ss:List (Str×Int)}(h:bu (dD H) us ss)(s:SameT H H'):bu (dD H') us ss:=Paired.imp' (λv d ⟨q,e,h⟩=>⟨q,e,s.tup h⟩) h
inductive uN(P:gd)(w:gx)(base:Heap)(m:M K mg)(PL:Addr)(vs:List V)(H:Hp)(Q:VK)(E:XK):Prop
 | mk (p1 p2 p3:Addr) (us ws:List V) (rs:List bY) (ss:List bS) (f l:Int) (_:vs=[.ref p1,.ref p2,.ref p3]) (_:DrB H p1 p2 p3 us ws rs ss f l) (_:TabS H PL pL qL) (_:∀h H',SameT H H'->TabS H' PL pL qL->bO m.aM (aP P w K mg base (some 4)) H' h f l (cI rs) (dN rs) (ss.map dE)->Q (.ref h) H'):uN P w base m PL vs H Q E
theorem MG{m:M K mg}{E:XK}{rs:List bY}{ss:List bS}(x:DrB H p1 p2 p3 us ws rs ss f l)(ht:TabS H PL pL qL)(k:∀h H',SameT H H'->TabS H' PL pL qL->bO m.aM (aP P w K mg base (some 4)) H' h f l (cI rs) (dN rs) (ss.map dE)->Q (.ref h) H'):uN P w base m PL [.ref p1,.ref p2,.ref p3] H Q E:=⟨_,_,_,_,_,_,_,_,_,rfl,x,ht,k⟩
theorem JY(m:M K mg)(hcL:m.eO.code= .ref cL)(hCL:W.CodeHd base cL PL)(hBL:base.BuiltinsAt mg PL):FnOk P w K mg base CX0 7 m.tD m.mX.d ["_law_rooms_here","_law_specs","_law_turns"] (uN P w base m PL):=by
 refine m.mX.F.ok aId ?_ ?_;tm_at"h";tm_at"g";rcases h with⟨p1,p2,p3,us,ws,rs,ss,f,l,rfl,dr,hPL,k⟩;tm_at"f";have nd:=aId.nd;tm_at"d";have oV:=LD (P:=P) (w:=w) (base:=base) m hcL hCL hBL;have aI0:= @TU P w K mg base m;have aHa:=m.bJ;refine⟨_,(aB (eG (i:=3) nd rfl (by tm_at"b") (N:=["_law_room"]) (nl:=1) (ci:=[]) rfl (blk (s.heap.objs.size+1) rfl rfl rfl (by kernel_rfl)) (bN (pv 0)) (λ_ _ _ _=>(aL (i:=0) (show (["_law_room"]:List Str).Nodup by decide +kernel) rfl (by tm_at"b"))) (λ_ _ _ _=>(r9 (bB xF (aT (d0 (K:=K)) (pv 0) aD (λ_ _=>rfl)) aD (bG _)))) (λ_ _ _ _=>(cZ (aA (aT (d0 (K:=K)) (pv 0) aD (λ_ _=>rfl)) (aA (aT (d0 (K:=K)) (pv 0) aD (λ_ _=>rfl)) aC)))))
  (aB (eG (i:=4) nd rfl (by tm_at"b") (N:=["_law_spec_here"]) (nl:=1) (ci:=[]) rfl (blk (s.heap.objs.size+1) rfl rfl rfl (by kernel_rfl)) (bN (pv 1)) (λ_ _ _ _=>(aL (i:=0) (show (["_law_spec_here"]:List Str).Nodup by decide +kernel) rfl (by tm_at"b"))) (λ_ _ _ _=>dI) (λ_ _ _ _=>(bI oV hr (aA (pv 0) aC))))
  (aE (aS (uI aI0 hr (aA (dG (N:=["_law_room"]) (nl:=1) (ci:=[]) rfl (blk (s.heap.objs.size+1) rfl rfl rfl (by kernel_rfl)) (bN (pv 0)) (λ_ _ _ _=>(aL (i:=0) (show (["_law_room"]:List Str).Nodup by decide +kernel) rfl (by tm_at"b"))) (λ_ _ _ _=>dI) (λ_ _ _ _=>(cZ (aA (aT (d0 (K:=K)) (pv 0) aD (λ_ _=>rfl)) (aA (aT (d0 (K:=K)) (pv 0) aD (λ_ _=>rfl)) aC))))) (aA (pv 4) (aA (pv 3) (aA (aT c4 (pv 2) aD (λ_ _=>rfl)) (aA (aT c4 (pv 2) aD (λ_ _=>rfl)) aC)))))))))),?_⟩
 refine aJ (σ:=[some (.ref p1),some (.ref p2),some (.ref p3),none,none]) rfl ?_;tm_at"e";have ro:=dr.ro;have hrl:rs.length<=4:=ro.l1;have e1:=dr.e1;have e2:=dr.e2;have e3:=dr.e3;have hul:us.length=rs.length:=bx dr.ru;have hwl:ws.length=ss.length:=bx dr.sw;tm_at"a";refine iF (α:=bY) (xs:=rs) (vs:=us) (dC H) (λr=>decide (0<r.2.2)) (λr y H=>dD H y (r.1,r.2.2)) (λ_ _ _ _ ⟨q,h1,h2⟩ s=>⟨q,h1,s _ _ h2⟩) (by rw[sizeLine_eq];lia) (rest:=[]) (by rfl) (SqL.of e1) dr.ru ?_ ?_ ?_
 .rintro v ⟨z,i,j⟩ H2 ⟨q2,rfl,hq2⟩ hm s2 R hR;have hq2:H2 q2=some (.tup [.str z,.int i,.int j]):=s2 _ _ hq2;tm_at"a";refine⟨q2,_,2,_,rfl,rfl,SqT.of hq2,rfl,?_⟩;tm_at"a";exact hR _ (Same.refl _)
 .rintro v ⟨z,i,j⟩ H2 ⟨q2,rfl,hq2⟩ hm - s2 R hR;have hq2:H2 q2=some (.tup [.str z,.int i,.int j]):=s2 _ _ hq2;tm_at"a";refine⟨q2,_,0,_,rfl,rfl,SqT.of hq2,rfl,?_⟩;tm_at"a";refine⟨q2,_,2,_,rfl,rfl,SqT.of hq2,rfl,?_⟩;tm_at"a";rename_i q3 H3 n3 S3 e3';exact hR _ _ ⟨q3,rfl,e3'⟩ S3
 intro ys H2 s2 hys;have hyp:bu (dD H2) ys (dN rs):=rT (F:=dD H2) (λr:bY=>(r.1,r.2.2)) hys;tm_at"a";rename_i p4 H4 n4 S4 e4;have s04:=s2.trans S4;have dr4:=aEM dr s04;have hPL4:=hPL.same s04;refine aDN (α:=bS) (xs:=ss) (vs:=ws) (TabR PL) (TabR.refl PL) (λ_ _ _=>TabR.trans) (dH H4) (λs y H=>(aP P w K mg base (some 4)).at' H y (dE s)) (λ_ _ _ _ h s=>ET h s.1) (by have:=dr.l7;rw[sizeLine_eq];lia) (rest:=[]) (by rfl) (λH1 s=>s.1.seq (SqL.of dr4.e2)) dr4.sw (λv x H1 _ _ _ R hR=>hR _ (TabR.refl _ _)) ?_ ?_
 .rintro v s5 H5 ⟨q5,rfl,h5⟩ hm t5 R hR;have hs5:dH H5 (.ref q5) s5:=⟨q5,rfl,t5.1.tup h5⟩
  tm_at"a";refine aDC hs5 (dr.so s5 hm) dr.f0 (t5.2 hPL4) λv6 H6 T6 hT6 hd6=> ?_;exact hR _ _ hd6 ⟨T6,λ_=>hT6⟩
 intro zs H5 t5 hzs;have dr5:=aBd dr4 t5.1;have hPL5:=t5.2 hPL4;have e45:=t5.1.lst e4;have e15:=dr5.e1;have e35:=dr5.e3;have hyp5:=aGJ hyp ((Same.t S4).trans t5.1);have hzd:bu ((aP P w K mg base (some 4)).at' H5) zs (ss.map dE):=rT (F:=(aP P w K mg base (some 4)).at' H5) dE (Paired.imp' (λs y h=>XQ h (by decide)) hzs);tm_at"a";rename_i p6 H6 n6 S6 e6;have e16:=S6 _ _ e15;refine iF (α:=bY) (xs:=rs) (vs:=us) (dC H6) (λ_=>true) (λr y H=>dD H y (r.1,r.2.1)) (λ_ _ _ _ ⟨q,h1,h2⟩ s=>⟨q,h1,s _ _ h2⟩) (by rw[sizeLine_eq];lia) (rest:=[]) (by rfl) (SqL.of e16) (gG dr5.ru S6) (λv x H1 _ hx s1 R hR=>hR _ (Same.refl _)) ?_ ?_
 .rintro v ⟨z,i,j⟩ H7 ⟨q2,rfl,hq2⟩ hm - s7 R hR;have hq2:H7 q2=some (.tup [.str z,.int i,.int j]):=s7 _ _ hq2;tm_at"a";refine⟨q2,_,0,_,rfl,rfl,SqT.of hq2,rfl,?_⟩;tm_at"a";refine⟨q2,_,1,_,rfl,rfl,SqT.of hq2,rfl,?_⟩;tm_at"a";rename_i q3 H3 n3 S3 e3';exact hR _ _ ⟨q3,rfl,e3'⟩ S3
 intro xs H7 s7 hxs;rw[dM]at hxs;have hxr:bu (dD H7) xs (cI rs):=rT (F:=dD H7) (λr:bY=>(r.1,r.2.1)) hxs;tm_at"a";rename_i p8 H8 n8 S8 e8;have s58:Same H5 H8:=S6.trans (s7.trans S8);have e38:=s58 _ _ e35;refine⟨p3,_,1,_,rfl,rfl,SqT.of e38,rfl,?_⟩;tm_at"a";refine⟨p3,_,0,_,rfl,rfl,SqT.of e38,rfl,?_⟩;tm_at"a";have hin:∀d∈ss.map dE,b7 ((cI rs).map (·.1)) d:=λd hd=>by
  rcases ag.mp hd with⟨s,hs,rfl⟩;rw[fQ];exact⟨(dr.so s hs).sin,(dr.so s hs).ein⟩
 have hpr:∀p∈dN rs,p.1∈(cI rs).map (·.1):=λp hp=>by
  unfold dN at hp;rcases ag.mp hp with⟨r,hr,rfl⟩;rw[fQ];exact ag.mpr ⟨r,(cg.mp hr).1,rfl⟩
 have hlp:(dN rs).length<=40:=by
  have h1:(rs.filter λr=>decide (0<r.2.2)).length<=rs.length:=du _ _;unfold dN;rw[ae];lia
 have hl7:=dr.l7;refine XF (f:=f) (l:=l) (rz:=cI rs) (ps:=dN rs) (ds:=ss.map dE) rfl aHa e8 (RoomsAt.sm hxr S8) (SqL.of (S8 _ _ (s7 _ _ e6))) (yB hzd s58) (SqL.of (s58 _ _ e45)) (rY hyp5 s58) (by rw[fQ];exact ro.nd) (by rw[MF];exact dr.nd) hin hpr (aCU ro) (by unfold cI;rw[ae];lia) (by rw[ae];lia) hlp dr.f0 dr.fl λh H9 n9 S9 hh=> ?_;exact k _ _ (((s04.t).trans t5.1).snoc (s58.trans S9)) (hPL5.same (s58.trans S9)) hh
theorem KH(m:M K mg)(hcL:m.eO.code= .ref cL)(hCL:W.CodeHd base cL PL)(hBL:base.BuiltinsAt mg PL):Fc P w K mg base "_law_house" 7 ["_law_rooms_here","_law_specs","_law_turns"] (uN P w base m PL):=⟨_,_,m.OT,m.mX.F.kp,m.mX.b,JY m hcL hCL hBL⟩
def at0(l:List Int)(k:Nat):Int:=l.getD k 0
def xr(k:Nat):Nat:=if k%2=0 then k+1 else k - 1
theorem TD(k:Nat):xr k≠k:=by unfold xr;split<;>lia
theorem TF(k:Nat):xr (xr k)=k:=by
 unfold xr
 by_cases h:k%2=0
 .rw[if_pos h,if_neg (by lia)];lia
 .rw[if_neg h,if_pos (by lia)];lia
theorem FE{k:Nat}(h:k<2 * n):xr k<2 * n:=by unfold xr;split<;>lia
theorem GM(l:List Int)(k m:Nat)(x:Int)(h:k<l.length):at0 (l.set k x) m=if m=k then x else at0 l m:=by
 unfold at0;rw[au,au,List.getElem?_set]
 by_cases e:k=m
 .subst e;rw[if_pos rfl,if_pos h,if_pos rfl];rfl
 .rw[if_neg e,if_neg (fb e)]
def l8(sp:List Int)(k:Nat)(x:Int):List Int:=(sp.set k (at0 sp k - x)).set (xr k) (at0 sp (xr k)+x)
theorem AK(sp:List Int)(k:Nat)(x:Int):(l8 sp k x).length=sp.length:=by unfold l8;rw[la,la]
theorem NR{sp:List Int}{k:Nat}(x:Int)(hl:sp.length=2 * n)(hk:k<2 * n)(m:Nat):at0 (l8 sp k x) m=at0 sp m - (if m=k then x else 0)+if m=xr k then x else 0:=by
 have h2:=FE hk;have h3:=TD k;unfold l8;rw[GM _ _ _ _ (by rw[la];lia),GM _ _ _ _ (by lia)]
 by_cases h:m=xr k
 .rw[if_pos h,if_pos h,if_neg (by lia),h];lia
 .rw[if_neg h,if_neg h]
  by_cases h':m=k
  .rw[if_pos h',if_pos h',h'];lia
  .rw[if_neg h',if_neg h'];lia
def cW(ts sp:List Int)(v:Int):Nat->Int
 | 0=>0
 | n+1=>cW ts sp v n+((if at0 ts (2 * n)=v then at0 sp (2 * n+1) else 0) - if at0 ts (2 * n+1)=v then at0 sp (2 * n+1) else 0)
theorem E4{sp:List Int}{v:Int}:∀n:Nat,(∀m,m<n->at0 ts (2 * m)=at0 ts' (2 * m)/\at0 ts (2 * m+1)=at0 ts' (2 * m+1)/\at0 sp (2 * m+1)=at0 sp' (2 * m+1))->cW ts sp v n=cW ts' sp' v n
 | 0,_=>rfl
 | n+1,h=>by
  unfold cW;obtain⟨h1,h2,h3⟩:=h n (by lia);rw[E4 n λm hm=>h m (by lia),h1,h2,h3]
theorem WI(A B:Prop)[Decidable A][Decidable B](E s x:Int):E+0+((if A then s - 0+x else 0) - if B then s - 0+x else 0)=E+((if A then s else 0) - if B then s else 0)+((if A then x else 0) - if B then x else 0):=by
 split<;>split<;>lia
theorem U8(A B:Prop)[Decidable A][Decidable B](E s x:Int):E+0+((if B then s - x+0 else 0) - if A then s - x+0 else 0)=E+((if B then s else 0) - if A then s else 0)+((if A then x else 0) - if B then x else 0):=by
 split<;>split<;>lia
theorem L7{sp:List Int}{k:Nat}(x v:Int)(hl:sp.length=2 * n)(hk:k<2 * n):∀j:Nat,j<=n->cW ts (l8 sp k x) v j=cW ts sp v j+if k<2 * j then (if at0 ts k=v then x else 0) - (if at0 ts (xr k)=v then x else 0) else 0
 | 0,_=>by rw[if_neg (by lia)];rfl
 | j+1,hj=>by
  unfold cW;rw[L7 x v hl hk j (by lia),NR x hl hk]
  by_cases h:k=2 * j
  .have hx:xr k=2 * j+1:=by unfold xr;rw[if_pos (by lia),h]
   rw[if_neg (show ¬k<2 * j by lia),if_pos (show k<2 * (j+1) by lia),if_neg (show ¬2 * j+1=k by lia),if_pos hx.symm,hx,h];exact WI _ _ _ _ _
  .by_cases h':k=2 * j+1
   .have hx:xr k=2 * j:=by unfold xr;rw[if_neg (by lia),h'];lia
    rw[if_neg (show ¬k<2 * j by lia),if_pos (show k<2 * (j+1) by lia),if_pos h'.symm,if_neg (show ¬2 * j+1=xr k by lia),hx,h'];exact U8 _ _ _ _ _
   .have hx:¬2 * j+1=xr k:=by unfold xr;split<;>lia
    rw[if_neg (show ¬2 * j+1=k by lia),if_neg hx,Int.sub_zero,ja]
    by_cases hlt:k<2 * j
    .rw[if_pos hlt,if_pos (show k<2 * (j+1) by lia)];exact Int.add_right_comm _ _ _
    .rw[if_neg hlt,if_neg (show ¬k<2 * (j+1) by lia),ja,ja]
inductive Pth(ts:List Int)(s:Int):Int->List Nat->Prop
 | nil:Pth ts s s []
 | cons {v:Int}{k:Nat}{p:List Nat}:at0 ts k=v->Pth ts s (at0 ts (xr k)) p->Pth ts s v (k::p)
def dR(sp:List Int)(p:List Nat)(x:Int):List Int:=p.foldl (λs k=>l8 s k x) sp
theorem wP(x:Int):∀(p:List Nat) (sp:List Int),(dR sp p x).length=sp.length
 | [],_=>rfl
 | k::p,sp=>by
  show (dR (l8 sp k x) p x).length=_;rw[wP x p,AK]
theorem EL{s:Int}(x u:Int):∀{p:List Nat}{v:Int}{sp:List Int},Pth ts s v p->sp.length=2 * n->(∀k∈p,k<2 * n)->cW ts (dR sp p x) u n=cW ts sp u n+((if v=u then x else 0) - if s=u then x else 0)
 | _,_,sp,.nil,_,_=>by
  show cW ts sp u n=_
  lia
 | k::p,v,sp,.cons hv t,hl,hk=>by
  show cW ts (dR (l8 sp k x) p x) u n=_;have hk0:=hk k (.head _);rw[EL x u t (by rw[AK];exact hl) λm hm=>hk m (ab _ hm),L7 x u hl hk0 n (aq _),if_pos hk0,hv]
  split<;>split<;>split<;>lia
def nV(p:List Nat)(m:Nat):Int:=((p.filter λk=>decide (k=m)).length:Int)
theorem qU(x:Int)(m:Nat):∀{p:List Nat}{sp:List Int},sp.length=2 * n->(∀k∈p,k<2 * n)->at0 (dR sp p x) m=at0 sp m - x * nV p m+x * nV p (xr m)
 | [],sp,_,_=>by
  show at0 sp m=at0 sp m - x * 0+x * 0
  lia
 | k::p,sp,hl,hk=>by
  show at0 (dR (l8 sp k x) p x) m=_;rw[qU x m (by rw[AK];exact hl) λm hm=>hk m (ab _ hm),NR x hl (hk k (.head _))];have c:∀j,nV (k::p) j=nV p j+if j=k then 1 else 0:=λj=>by
   unfold nV
   by_cases h:k=j
   .rw[da (by simpa using h),if_pos h.symm,bb];lia
   .rw[cx (by simpa using h),if_neg (fb h)];lia
  have hx:(m=xr k)=(xr m=k):=propext ⟨λh=>by rw[h,TF],λh=>by rw[←h,TF]⟩;rw[c,c,Int.mul_add,Int.mul_add]
  by_cases h1:m=k
  .by_cases h2:m=xr k
   .exact absurd (h1▸h2) (fb (TD k))
   .rw[if_pos h1,if_neg h2,if_pos h1,if_neg (by rw[←hx];exact h2)];lia
  .by_cases h2:m=xr k
   .rw[if_neg h1,if_pos h2,if_neg h1,if_pos (by rw[←hx];exact h2)];lia
   .rw[if_neg h1,if_neg h2,if_neg h1,if_neg (by rw[←hx];exact h2)];lia
theorem aC0(p:List Nat)(m:Nat):0<=nV p m:=by unfold nV;lia
theorem aDJ{p:List Nat}(h:p.Nodup)(m:Nat):nV p m<=1:=by
 unfold nV
 induction p with
 | nil=>exact(show (0:Int)<=1 by decide)
 | cons a p ih =>
  rcases cm.mp h with⟨h1,h2⟩
  by_cases e:a=m
  .subst e;rw[da (by simp),pq.mpr λk hk=>by
    have:k≠a:=λz=>h1 (z▸hk)
    simpa using this]
   exact(show (1:Int)<=1 by decide)
  .rw[cx (by simpa using e)];exact ih h2
theorem VI{p:List Nat}{m:Nat}(h:m∉p):nV p m=0:=by
 unfold nV;rw[pq.mpr λk hk=>by
  have:k≠m:=λz=>h (z▸hk)
  simpa using this]
 rfl
theorem W8{x:Int}{p:List Nat}{sp:List Int}(hl:sp.length=2 * n)(hk:∀k∈p,k<2 * n)(nd:p.Nodup)(x0:0<=x)(hx:∀k∈p,x<=at0 sp k)(h0:∀m,0<=at0 sp m)(m:Nat):0<=at0 (dR sp p x) m:=by
 rw[qU x m hl hk];have h2:0<=x * nV p (xr m):=Int.mul_nonneg x0 (aC0 _ _)
 by_cases h:m∈p
 .have h1:=hx m h;have h3:x * nV p m<=x * 1:=Int.mul_le_mul_of_nonneg_left (aDJ nd m) x0
  lia
 .have:=h0 m;rw[VI h];lia
theorem T8{x:Int}{p:List Nat}{sp:List Int}(hl:sp.length=2 * n)(hk:∀k∈p,k<2 * n)(m:Nat):at0 (dR sp p x) m+at0 (dR sp p x) (xr m)=at0 sp m+at0 sp (xr m):=by
 rw[qU x m hl hk,qU x (xr m) hl hk,TF];lia
def pH(ts sp:List Int)(rs:List Int)(n:Nat):Int:=(rs.map λv=>cW ts sp v n).sum
def xA(ts sp:List Int)(rs:List Int):Nat->Int
 | 0=>0
 | n+1=>xA ts sp rs n+if at0 ts (2 * n+1)∈rs/\at0 ts (2 * n)∉rs then at0 sp (2 * n)+at0 sp (2 * n+1) else 0
theorem uL(ts sp rs:List Int)(n:Nat):xA ts sp rs (n+1)=xA ts sp rs n+if at0 ts (2 * n+1)∈rs/\at0 ts (2 * n)∉rs then at0 sp (2 * n)+at0 sp (2 * n+1) else 0:=rfl
theorem lG{rs:List Int}(nd:rs.Nodup)(a x:Int):(rs.map λv=>if a=v then x else 0).sum=if a∈rs then x else 0:=by
 induction rs with
 | nil=>rw[if_neg (λz=>nomatch z)];rfl
 | cons b l ih =>
  rcases cm.mp nd with⟨h1,h2⟩;rw[bo,dh,ih h2]
  by_cases h:a=b
  .rw[if_pos h,if_neg (by rw[h];exact h1),if_pos (by rw[h];exact .head _),ja]
  .rw[if_neg h,gp]
   by_cases h3:a∈l
   .rw[if_pos h3,if_pos (ab _ h3)]
   .rw[if_neg h3,if_neg];intro z;rcases az.mp z with z|z
    .exact h z
    .exact h3 z
theorem vX(l:List Int)(f g h:Int->Int):(l.map λv=>f v+(g v - h v)).sum=(l.map f).sum+((l.map g).sum - (l.map h).sum):=by
 induction l with
 | nil=>rfl
 | cons a l ih=>rw[bo,dh,ih,bo,dh,bo,dh,bo,dh];lia
theorem QT{sp rs:List Int}(nd:rs.Nodup):∀{n:Nat},(∀k,k<2 * n->0<=at0 sp k)->(∀k,k<2 * n->at0 ts (xr k)∈rs->at0 ts k∉rs->at0 sp k<=0)->pH ts sp rs n= - xA ts sp rs n
 | 0,_,_=>by
  have e:∀l:List Int,(l.map λv=>cW ts sp v 0).sum=0:=λl=>by
   induction l with
   | nil=>rfl
   | cons a l ih=>rw[bo,dh,ih];rfl
  exact e rs
 | n+1,h0,hc=>by
  have ih:=QT nd (n:=n) (λk hk=>h0 k (by lia)) λk hk=>hc k (by lia);unfold pH at ih ⊢;have e:(rs.map λv=>cW ts sp v (n+1)).sum=(rs.map λv=>cW ts sp v n).sum+((rs.map λv=>if at0 ts (2 * n)=v then at0 sp (2 * n+1) else 0).sum - (rs.map λv=>if at0 ts (2 * n+1)=v then at0 sp (2 * n+1) else 0).sum):=vX rs _ _ _;rw[e,ih,lG nd,lG nd,uL];have x0:xr (2 * n)=2 * n+1:=by unfold xr;rw[if_pos (by lia)]
  have x1:xr (2 * n+1)=2 * n:=by unfold xr;rw[if_neg (by lia)];lia
  have a0:=h0 (2 * n) (by lia);have a1:=h0 (2 * n+1) (by lia);have c0:=hc (2 * n) (by lia);have c1:=hc (2 * n+1) (by lia);rw[x0]at c0;rw[x1]at c1
  by_cases ht:at0 ts (2 * n+1)∈rs
  .by_cases hh:at0 ts (2 * n)∈rs
   .rw[if_pos hh,if_pos ht,if_neg (λz=>z.2 hh)];lia
   .have:=c0 ht hh;rw[if_neg hh,if_pos ht,if_pos ⟨ht,hh⟩];lia
  .by_cases hh:at0 ts (2 * n)∈rs
   .have:=c1 hh ht;rw[if_pos hh,if_neg ht,if_neg (λz=>ht z.1)];lia
   .rw[if_neg hh,if_neg ht,if_neg (λz=>ht z.1)];lia
structure Ways(ts sp:List Int)(s:Int)(ws:List (Int×Nat)):Prop where
 nd:(s::ws.map (·.1)).Nodup
 ok:∀(i:Nat) (v:Int) (k:Nat),ws[i]? =some (v,k)->at0 ts k=v/\0<at0 sp k/\k<sp.length/\at0 ts (xr k)∈s::(ws.take i).map (·.1)
theorem Ways.nil(ts sp:List Int)(s:Int):Ways ts sp s []:=⟨by simp,λi v k h=>by simp at h⟩
theorem Ways.snoc{sp:List Int}{s:Int}{ws:List (Int×Nat)}(x:Ways ts sp s ws){k:Nat}(hk:k<sp.length)(h0:0<at0 sp k)(ht:at0 ts (xr k)∈s::ws.map (·.1))(hn:at0 ts k∉s::ws.map (·.1)):Ways ts sp s (ws++[(at0 ts k,k)]):=by
 refine⟨?_,λi v j h=> ?_⟩
 .rw[aw];show (s::(ws.map (·.1)++[at0 ts k])).Nodup;rw[←iy];exact L2.nd_snoc x.nd hn
 .by_cases hi:i<ws.length
  .rw[ft hi]at h;obtain⟨h1,h2,h3,h4⟩:=x.ok i v j h;refine⟨h1,h2,h3,?_⟩;rw[jd (by lia)];exact h4
  .have he:i=ws.length:=by
    have:=(av.mp h).1;rw[ao]at this;have:i<ws.length+1:=this
    lia
   subst he;rw[gh (aq _),Nat.sub_self]at h;have h:(at0 ts k,k)=(v,j):=dg h;cases h;refine⟨rfl,h0,hk,?_⟩;rw[jd (aq _),cp];exact ht
def Frm(fp:List Addr)(H H':Hp):Prop:=∀b u,H b=some u->b∉fp->H' b=some u
theorem Frm.same{fp:List Addr}(s:Same H H'):Frm fp H H':=λb u h _=>s b u h
theorem Frm.trans{fp fp':List Addr}{H2:Hp}(a:Frm fp H H1)(b:Frm fp' H1 H2)(hf:∀x∈fp',x∈fp∨H x=none):Frm fp H H2:=λc u e hc=>b c u (a c u e hc) λz=>by
 rcases hf c z with h|h
 .exact hc h
 .rw[e]at h;cases h
abbrev aBn(q1 q2 q3:Addr):List (Str×V):=bT "arcs" (.ref q3) (bT "spare" (.ref q2) (bT "targets" (.ref q1) []))
inductive NetE(C:Addr)(H:Hp)(n:Addr)(fp:List Addr)(ts sp:List Int)(as:List (List Int)):Prop
 | mk (dx q1 q2 q3:Addr) (rs:List Addr) (_:fp=q1::q2::q3::rs) (_:H n=some (.ins C dx (aBn q1 q2 q3))) (_:H q1=some (.lst (ts.map V.int))) (_:H q2=some (.lst (sp.map V.int))) (_:H q3=some (.lst (rs.map V.ref))) (_:bu (λr a=>H r=some (.lst (a.map V.int))) rs as) (_:(q1::q2::q3::rs).Nodup):NetE C H n fp ts sp as
theorem NetE.same{n:Addr}{fp:List Addr}{sp:List Int}(x:NetE C H n fp ts sp as)(s:Same H H'):NetE C H' n fp ts sp as:=by
 obtain⟨dx,q1,q2,q3,rs,ef,e0,e1,e2,e3,e4,e5⟩:=x;exact⟨dx,q1,q2,q3,rs,ef,s _ _ e0,s _ _ e1,s _ _ e2,s _ _ e3,Paired.imp' (λ_ _ h=>s _ _ h) e4,e5⟩
theorem GC{l:List Int}{k:Nat}(h:k<l.length):(l.map V.int)[k]? =some (.int (at0 l k)):=by
 rw[bq,ah h];unfold at0;rw[au,ah h];rfl
theorem EM(e:SqL K H p xs)(hx:xs[j]? =some v)(h:Q v H):AL K (.ref p) (.int (j:Int)) H Q:=⟨p,xs,_,v,rfl,rfl,e,rK hx,h⟩
theorem zK{l:List Int}{k:Nat}(e:SqL K H p (l.map V.int))(hk:k<l.length)(h:Q (.int (at0 l k)) H):AL K (.ref p) (.int (k:Int)) H Q:=⟨p,_,_,_,rfl,rfl,e,rK (GC hk),h⟩
inductive wR(C:Addr)(vs:List V)(H:Hp)(Q:VK)(E:XK):Prop
 | mk (n:Addr) (k:Nat) (fp:List Addr) (ts sp:List Int) (as:List (List Int)) (_:vs=[.ref n,.int (k:Int)]) (_:NetE C H n fp ts sp as) (_:k+1<sp.length) (_:Q (.int (at0 sp (k+1))) H):wR C vs H Q E
theorem aDL{E:XK}{n:Addr}{k:Nat}{fp:List Addr}{sp:List Int}(hn:NetE C H n fp ts sp as)(hk:k+1<sp.length)(h:Q (.int (at0 sp (k+1))) H):wR C [.ref n,.int (k:Int)] H Q E:=⟨_,_,_,_,_,_,rfl,hn,hk,h⟩
theorem O5(m:M K mg):FnOk P w K mg base CX0 1 m.yI m.yD.d ["self","arc"] (wR m.aV):=by
 refine m.yD.F.ok aIw ?_ ?_;tm_at"h";tm_at"g";rcases h with⟨n,k,fp,ts,sp,as,rfl,hn,hk,h⟩;tm_at"f";have nd:=aIw.nd;tm_at"d";have aHc:=m.cJ;refine⟨_,(aE (aS (aT bF (aH (pv 0) rfl) (aK bX (pv 1) aD) (λ_ _=>rfl)))),?_⟩;refine aJ (σ:=[some (.ref n),some (.int (k:Int))]) rfl ?_;tm_at"e";obtain⟨dx,q1,q2,q3,rs,ef,e0,e1,e2,e3,e4,e5⟩:=hn;tm_at"a";rw[show ((k:Int)+1)=((k+1:Nat):Int) by lia];exact zK (SqL.of e2) hk h
theorem O8(m:M K mg):Mc P w K mg base m.aV "sent" 1 (wR m.aV):=⟨_,_,_,m.cJ.ic.cl,m.P1,m.yD.b,O5 m⟩
theorem eJ{F G:α->β->Prop}:∀{l:List α}{m:List β},bu F l m->(∀a b,a∈l->F a b->G a b)->bu G l m
 | _,_,.nil,_=> .nil
 | _,_,.cons h t,k=> .cons (k _ _ (.head _) h) (eJ t λa b ha=>k a b (ab _ ha))
inductive rN(C:Addr)(vs:List V)(H:Hp)(Q:VK)(E:XK):Prop
 | mk (n:Addr) (fp:List Addr) (ts sp:List Int) (as:List (List Int)) (_:vs=[.ref n]) (_:NetE C H n fp ts sp as) (_:as.length<100000) (_:∀r H',H r=none->Frm fp H H'->NetE C H' n (fp++[r]) ts sp (as++[[]])->Q (.int (as.length:Int)) H'):rN C vs H Q E
theorem RA{E:XK}{n:Addr}{fp:List Addr}{sp:List Int}(hn:NetE C H n fp ts sp as)(hl:as.length<100000)(k:∀r H',H r=none->Frm fp H H'->NetE C H' n (fp++[r]) ts sp (as++[[]])->Q (.int (as.length:Int)) H'):rN C [.ref n] H Q E:=⟨_,_,_,_,_,rfl,hn,hl,k⟩
theorem ER(m:M K mg):FnOk P w K mg base CX0 1 m.oG m.oJ.d ["self"] (rN m.aV):=by
 refine m.oJ.F.ok aHP ?_ ?_;tm_at"h";tm_at"g";rcases h with⟨n,fp,ts,sp,as,rfl,hn,hl,k⟩;tm_at"f";have nd:=aHP.nd;tm_at"d";have aHc:=m.cJ;refine⟨_,(aB (aY (gS df dm dq cY (aH (pv 0) rfl) (aA (cP aC) aC)))
  (aE (aS (aK hV (bL dU rfl m.kK hZ (aA (aH (pv 0) rfl) aC)) aD)))),?_⟩
 refine aJ (σ:=[some (.ref n)]) rfl ?_;tm_at"e";obtain⟨dx,q1,q2,q3,rs,ef,e0,e1,e2,e3,e4,e5⟩:=hn;have hrl:rs.length=as.length:=bx e4;tm_at"a";rename_i r H1 n1 S1 er;refine cX (S1 _ _ e3) (by rw[sizeLine_eq,ae];lia) λH2 B2 e2'=> ?_;have hq:∀x u,H x=some u->x≠q3->H2 x=some u:=λx u h h'=>B2 _ _ (S1 _ _ h) h';have nd:=cm.mp e5;have nd2:=cm.mp nd.2;have nd3:=cm.mp nd2.2;have h13:q1≠q3:=λz=>nd.1 (by rw[z];exact ab _ (.head _));have h23:q2≠q3:=λz=>nd2.1 (by rw[z];exact .head _);have hn3:n≠q3:=λz=>by rw[z,e3]at e0;cases e0
 have hr3:r≠q3:=λz=>by rw[z,e3]at n1;cases n1
 have e02:=hq _ _ e0 hn3;tm_at"a";rw[show ((List.map V.ref rs++[V.ref r]).length:Int) - 1=(as.length:Int) by rw[ao,ae,hrl];show ((as.length+1:Nat):Int) - 1=_;lia];subst ef;have hfr:∀x∈q1::q2::q3::rs,x≠r:=λx hx z=>by
  have:∃u,H x=some u:=by
   rcases az.mp hx with rfl|hx
   .exact⟨_,e1⟩
   .rcases az.mp hx with rfl|hx
    .exact⟨_,e2⟩
    .rcases az.mp hx with rfl|hx
     .exact⟨_,e3⟩
     .rcases gT e4 hx with⟨a,_,ha⟩;exact⟨_,ha⟩
  rcases this with⟨u,hu⟩;rw[z,n1]at hu;cases hu
 refine k r H2 n1 (λb u h hb=>hq b u h λz=>hb (by rw[z];exact ab _ (ab _ (.head _)))) ⟨dx,q1,q2,q3,rs++[r],rfl,e02,hq _ _ e1 h13,hq _ _ e2 h23,by rw[e2',aw];rfl,L2.Paired.snoc ?_ (B2 _ _ er hr3),?_⟩
 .exact eJ e4 λx a hx h=>hq _ _ h λz=>nd3.1 (z▸hx)
 .exact L2.nd_snoc (l:=q1::q2::q3::rs) e5 λz=>hfr _ z rfl
theorem fI(m:M K mg):Mc P w K mg base m.aV "new_node" 1 (rN m.aV):=⟨_,_,_,m.cJ.ic.cl,m.FZ,m.oJ.b,ER m⟩
def fR(as:List (List Int))(i:Nat)(x:Int):List (List Int):=as.modify i (·++[x])
theorem r6(as:List (List Int))(i:Nat)(x:Int):(fR as i x).length=as.length:=List.length_modify _ _ _
theorem w6{x:Int}:∀{rs:List Addr}{as:List (List Int)}{i:Nat}{r:Addr}{a:List Int},bu (λr a=>H r=some (.lst (a.map V.int))) rs as->rs.Nodup->rs[i]? =some r->as[i]? =some a->SameBut r H H'->H' r=some (.lst (a.map V.int++[.int x]))->bu (λr a=>H' r=some (.lst (a.map V.int))) rs (fR as i x)
 | _,_,_,_,_,.nil,_,h,_,_,_=>by simp at h
 | r0::rs,a0::as,0,r,a,.cons h t,nd,hr,ha,B,e=>by
  have hr:r0=r:=by simpa using hr
  have ha:a0=a:=by simpa using ha
  subst hr ha;refine .cons ?_ (eJ t λb c hb h=>B _ _ h λz=>(cm.mp nd).1 (z▸hb));rw[e,aw];rfl
 | r0::rs,a0::as,i+1,r,a,.cons h t,nd,hr,ha,B,e=>by
  have hr:rs[i]? =some r:=by simpa using hr
  have ha:as[i]? =some a:=by simpa using ha
  refine .cons (B _ _ h λz=>(cm.mp nd).1 (z▸ay hr)) (w6 t (cm.mp nd).2 hr ha B e)
inductive vN(C:Addr)(vs:List V)(H:Hp)(Q:VK)(E:XK):Prop
 | mk (n:Addr) (s t:Nat) (most:Int) (fp:List Addr) (ts sp:List Int) (as:List (List Int)) (_:vs=[.ref n,.int (s:Int),.int (t:Int),.int most]) (_:NetE C H n fp ts sp as) (_:s<as.length) (_:t<as.length) (_:ts.length<100000) (_:sp.length<100000) (_:(∀a∈as,a.length<100000)) (_:∀H',Frm fp H H'->NetE C H' n fp (ts++[(t:Int),(s:Int)]) (sp++[most,0]) (fR (fR as s (ts.length:Int)) t ((ts.length:Int)+1))->Q (.int (ts.length:Int)) H'):vN C vs H Q E
theorem aFo{E:XK}{n:Addr}{s t:Nat}{most:Int}{fp:List Addr}{sp:List Int}(hn:NetE C H n fp ts sp as)(hs:s<as.length)(ht:t<as.length)(l1:ts.length<100000)(l2:sp.length<100000)(l3:∀a∈as,a.length<100000)(k:∀H',Frm fp H H'->NetE C H' n fp (ts++[(t:Int),(s:Int)]) (sp++[most,0]) (fR (fR as s (ts.length:Int)) t ((ts.length:Int)+1))->Q (.int (ts.length:Int)) H'):vN C [.ref n,.int (s:Int),.int (t:Int),.int most] H Q E:=⟨_,_,_,_,_,_,_,_,rfl,hn,hs,ht,l1,l2,l3,k⟩
theorem G3(m:M K mg):FnOk P w K mg base CX0 1 m.pV m.pW.d ["self","start","target","most"] (vN m.aV):=by
 refine m.pW.F.ok aH1 ?_ ?_;tm_at"h";tm_at"g";rcases h with⟨n,s',t',most,fp,ts,sp,as,rfl,hn,hs',ht',hl1,hl2,hl3,k⟩;tm_at"f";have nd:=aH1.nd;tm_at"d";have aHc:=m.cJ;refine⟨_,(aB (aO (i:=4) nd rfl (by tm_at"b") (bL dU rfl m.kK hZ (aA (aH (pv 0) rfl) aC)))
  (aB (aY (gS df vp vq JC (aH (pv 0) rfl) (aA (cP (aA (pv 2) (aA (pv 1) aC))) aC)))
  (aB (aY (gS df vp vq JC (aH (pv 0) rfl) (aA (cP (aA (pv 3) (aA aD aC))) aC)))
  (aB (aY (gS df dm dq cY (aT bF (aH (pv 0) rfl) (pv 1) (λ_ _=>rfl)) (aA (pv 4) aC)))
  (aB (aY (gS df dm dq cY (aT bF (aH (pv 0) rfl) (pv 2) (λ_ _=>rfl)) (aA (aK bX (pv 4) aD) aC)))
  (aE (aS (pv 4)))))))),?_⟩
 refine aJ (σ:=[some (.ref n),some (.int (s':Int)),some (.int (t':Int)),some (.int most),none]) rfl ?_;tm_at"e";obtain⟨dx,q1,q2,q3,rs,ef,e0,e1,e2,e3,e4,e5⟩:=hn;have hrl:rs.length=as.length:=bx e4;have nd:=cm.mp e5;have nd2:=cm.mp nd.2;have nd3:=cm.mp nd2.2;obtain⟨r1,hr1⟩:∃r,rs[s']? =some r:=⟨_,ah (by lia)⟩
 obtain⟨r2,hr2⟩:∃r,rs[t']? =some r:=⟨_,ah (by lia)⟩
 rcases ⟨_,ah hs'⟩ with⟨a1,ha1⟩:∃a,as[s']? =some a
 have hm1:=ay hr1;have hm2:=ay hr2;have hn1:n≠q1:=λz=>by rw[z,e1]at e0;cases e0
 have hn2:n≠q2:=λz=>by rw[z,e2]at e0;cases e0
 have h12:q1≠q2:=λz=>nd.1 (by rw[z];exact .head _);have h13:q1≠q3:=λz=>nd.1 (by rw[z];exact ab _ (.head _));have h1r:∀x∈rs,x≠q1:=λx hx z=>nd.1 (by rw[←z];exact ab _ (ab _ hx));have h23:q2≠q3:=λz=>nd2.1 (by rw[z];exact .head _);have h2r:∀x∈rs,x≠q2:=λx hx z=>nd2.1 (by rw[←z];exact ab _ hx);have h3r:∀x∈rs,x≠q3:=λx hx z=>nd3.1 (by rw[←z];exact hx);have hnr:∀x∈rs,n≠x:=λx hx z=>by
  rcases gT e4 hx with⟨a,_,ha⟩;rw[z,ha]at e0;cases e0
 tm_at"a";rename_i p1 H1 n1 S1 ep1;refine IX (S1 _ _ e1) ep1 (by rw[sizeLine_eq,ae];show _+2<=_;lia) λH2 B2 f1=> ?_;have f0:=B2 _ _ (S1 _ _ e0) hn1;have f2:=B2 _ _ (S1 _ _ e2) (fb h12);have f3:=B2 _ _ (S1 _ _ e3) (fb h13);have f4:=eJ (G:=λr a=>H2 r=some (.lst (a.map V.int))) e4 λx a hx h=>B2 _ _ (S1 _ _ h) (h1r x hx);tm_at"a";rename_i p3 H3 n3 S3 ep3;refine IX (S3 _ _ f2) ep3 (by rw[sizeLine_eq,ae];show _+2<=_;lia) λH4 B4 g2=> ?_;have g0:=B4 _ _ (S3 _ _ f0) hn2;have g1:=B4 _ _ (S3 _ _ f1) h12;have g3:=B4 _ _ (S3 _ _ f3) (fb h23);have g4:=eJ (G:=λr a=>H4 r=some (.lst (a.map V.int))) f4 λx a hx h=>B4 _ _ (S3 _ _ h) (h2r x hx);tm_at"a";refine EM (SqL.of g3) (show (rs.map V.ref)[s']? =some (.ref r1) by rw[bq,hr1];rfl) ?_;have hg1:H4 r1=some (.lst (a1.map V.int)):=by have z:=Paired.at2 g4 hr1 ha1;exact z
 tm_at"a";refine cX hg1 (by rw[sizeLine_eq,ae];have:=hl3 a1 (ay ha1);lia) λH5 B5 i1=> ?_;have i0:=B5 _ _ g0 (hnr r1 hm1);have i2:=B5 _ _ g1 (fb (h1r r1 hm1));have i3:=B5 _ _ g2 (fb (h2r r1 hm1));have i4:=B5 _ _ g3 (fb (h3r r1 hm1));rw[ae]at i1;have i5:=w6 g4 nd3.2 hr1 ha1 B5 i1;obtain⟨a2,ha2⟩:∃a,(fR as s' (ts.length:Int))[t']? =some a:=⟨_,ah (by rw[r6];exact ht')⟩
 tm_at"a";refine EM (SqL.of i4) (show (rs.map V.ref)[t']? =some (.ref r2) by rw[bq,hr2];rfl) ?_;have hi1:H5 r2=some (.lst (a2.map V.int)):=by have z:=Paired.at2 i5 hr2 ha2;exact z
 have hl4:a2.length<200000:=by
  have hm:=ay ha2;unfold fR at hm;rcases fg.mp hm with⟨j,hj⟩;rw[yc]at hj;rcases cj.mp hj with⟨b,hb,e⟩;have:=hl3 b (ay hb);rw[←e]
  by_cases h:s'=j
  .rw[if_pos h,ao];show b.length+1<_;lia
  .rw[if_neg h];show b.length<_;lia
 tm_at"a";refine cX hi1 (by rw[sizeLine_eq,ae];lia) λH6 B6 j1=> ?_;have j0:=B6 _ _ i0 (hnr r2 hm2);have j2:=B6 _ _ i2 (fb (h1r r2 hm2));have j3:=B6 _ _ i3 (fb (h2r r2 hm2));have j4:=B6 _ _ i4 (fb (h3r r2 hm2));rw[ae]at j1;have j5:=w6 i5 nd3.2 hr2 ha2 B6 j1;tm_at"a";rw[ae];refine k H6 (λb u h hb=> ?_) ⟨dx,q1,q2,q3,rs,ef,j0,by rw[j2,aw];rfl,by rw[j3,aw];rfl,j4,j5,e5⟩;subst ef;have b1:b≠q1:=λz=>hb (by rw[z];exact .head _);have b2:b≠q2:=λz=>hb (by rw[z];exact ab _ (.head _));have br:∀x∈rs,b≠x:=λx hx z=>hb (by rw[z];exact ab _ (ab _ (ab _ hx)));exact B6 _ _ (B5 _ _ (B4 _ _ (S3 _ _ (B2 _ _ (S1 _ _ h) b1)) b2) (br _ hm1)) (br _ hm2)
theorem gJ(m:M K mg):Mc P w K mg base m.aV "new_arc" 1 (vN m.aV):=⟨_,_,_,m.cJ.ic.cl,m.IE,m.pW.b,G3 m⟩
def WhB(Wl:Nat->St->Hp->Prop)(m:Nat)(tb:TS)(nx:St->Hp->Prop)(rt:VK)(σ:St)(H:Hp):Prop:=∃N:St->Hp->Prop,(∀σ' H',N σ' H'->∃m',m'<m/\Wl m' σ' H')/\tb ⟨N,rt,nx,N⟩ σ H
theorem w9{c:TT}{bk:St->Hp->Prop}(Wl:Nat->St->Hp->Prop)(m0:Nat)(h0:Wl m0 σ H)(hs:∀m σ H,Wl m σ H->c σ H λb H1=>if b=true then WhB Wl m tb nx rt σ H1 else nx σ H1):WH c tb ⟨nx,rt,bk,ct⟩ σ H:=⟨Wl,⟨m0,h0⟩,hs⟩
theorem E5{Wl:Nat->St->Hp->Prop}{m:Nat}(h:tb ⟨λσ' H'=>∃m',m'<m/\Wl m' σ' H',rt,nx,λσ' H'=>∃m',m'<m/\Wl m' σ' H'⟩ σ H):WhB Wl m tb nx rt σ H:=⟨_,λ_ _ z=>z,h⟩
structure NetOk(ts sp:List Int)(as:List (List Int)):Prop where
 len:∃n,ts.length=2 * n
 eq:sp.length=ts.length
 nd:∀k,k<ts.length->∃v:Nat,at0 ts k=(v:Int)/\v<as.length
 inn:∀(u:Nat) (a:List Int),as[u]? =some a->∀x∈a,∃k:Nat,x=(k:Int)/\k<ts.length/\at0 ts (xr k)=(u:Int)
 all:∀(k u:Nat) (a:List Int),k<ts.length->at0 ts (xr k)=(u:Int)->as[u]? =some a->(k:Int)∈a
 l0:as.length<100000
 l1:ts.length<100000
def d7(s:Int)(ws:List (Int×Nat)):List (Key×V):=(.inl s,.non)::ws.map λx=>(.inl x.1,.int (x.2:Int))
theorem qO(s:Int)(ws:List (Int×Nat)):(d7 s ws).map (·.1)=(s::ws.map (·.1)).map nz:=by
 unfold d7;rw[bo,bw,bo,bw];rfl
theorem yA(s v:Int)(ws:List (Int×Nat)):(aW (d7 s ws) (.inl v)).isSome=decide (v∈s::ws.map (·.1)):=by
 cases hv:aW (d7 s ws) (.inl v) with
 | some x =>
  have hm:(nz v:Key)∈(d7 s ws).map (·.1):=ag.mpr ⟨_,tZ hv,rfl⟩;rw[qO]at hm;rcases ag.mp hm with⟨y,hy,e⟩;rw[←md e,decide_eq_true hy];rfl
 | none =>
  have hn:v∉s::ws.map (·.1):=λh=>by
   have hm:(nz v:Key)∈(d7 s ws).map (·.1):=by rw[qO];exact ag.mpr ⟨v,h,rfl⟩
   rcases ag.mp hm with⟨e,he,e1⟩;unfold aW at hv;have:=ug.mp (Option.map_eq_none_iff.mp hv) e he;exact this (decide_eq_true e1)
  rw[decide_eq_false hn];rfl
theorem UO(s:Int)(ws:List (Int×Nat))(v:Int)(k:Nat)(h:v∉s::ws.map (·.1)):cB (d7 s ws) (.inl v) (.int (k:Int))=d7 s (ws++[(v,k)]):=by
 rw[eF _ (by
  have:=yA s v ws;rw[decide_eq_false h]at this;cases hv:aW (d7 s ws) (.inl v) with
  | none=>rfl
  | some x=>rw[hv]at this;cases this)]
 unfold d7;rw[aw];rfl
theorem GU:∀(N:Nat) (l:List Nat),l.Nodup->(∀x∈l,x<N)->l.length<=N
 | 0,l,_,h=>by
  cases l with
  | nil=>exact aq _
  | cons a l=>exact absurd (h a (.head _)) (jf _)
 | N+1,l,nd,h=>by
  by_cases hm:N∈l
  .have h1:=GU N (l.erase N) (nd.erase _) λx hx=>by
    have h2:=(nd.mem_erase_iff).mp hx;have h3:=h x h2.2;have:=h2.1
    lia
   rw[List.length_erase_of_mem hm]at h1
   lia
  .have:=GU N l nd λx hx=>by
    have h3:=h x hx;have:x≠N:=λz=>hm (z▸hx)
    lia
   lia
theorem D4{N:Nat}{l:List Int}(nd:l.Nodup)(h:∀x∈l,∃v:Nat,x=(v:Int)/\v<N):l.length<=N:=by
 rw[←ae (f:=Int.toNat)];refine GU N _ ?_ λx hx=> ?_
 .rw[kx,gk];refine vo (λ{a b} ha hb hne z=> ?_) nd;rcases h a ha with⟨v,rfl,_⟩;rcases h b hb with⟨w,rfl,_⟩;rw[fc,fc]at z;exact hne (by rw[z])
 .rcases ag.mp hx with⟨a,ha,rfl⟩;rcases h a ha with⟨v,rfl,hv⟩;rw[fc];exact hv
theorem wX{sp:List Int}(ok:NetOk ts sp as){s:Nat}(hs:s<as.length){ws:List (Int×Nat)}(w:Ways ts sp (s:Int) ws):∀x∈(s:Int)::ws.map (·.1),∃v:Nat,x=(v:Int)/\v<as.length:=λx hx=>by
 rcases az.mp hx with rfl|hx
 .exact⟨s,rfl,hs⟩
 .obtain⟨⟨v,k⟩,hm,rfl⟩:=ag.mp hx;rcases fg.mp hm with⟨i,hi⟩;obtain⟨h1,_,h3,_⟩:=w.ok i v k hi;rw[ok.eq]at h3;rcases ok.nd k h3 with⟨z,hz,hl⟩;exact⟨z,by rw[←hz];exact h1.symm,hl⟩
theorem SF{z:Int}(e:Rd H p (.dK kvs))(h:Q (.bl (!(aW kvs (.inl z)).isSome)) H):GD Q (.int z) (.ref p) H:=⟨p,_,rfl,.inl ⟨kvs,.inl z,e,rfl,rfl⟩,h⟩
theorem QA{z:Int}(e:Rd H p (.dK kvs))(h:Q (.bl (aW kvs (.inl z)).isSome) H):aAq Q (.int z) (.ref p) H:=⟨p,_,rfl,.inl ⟨kvs,.inl z,e,rfl,rfl⟩,h⟩
theorem Y3{z:Int}(e:H p=some (.dK kvs))(hl:kvs.length<sizeLine)(h:∀H',SameBut p H H'->H' p=some (.dK (cB kvs (.inl z) v))->nx σ H'):K4 nx σ (.ref p) v (.int z) H:=⟨p,_,rfl,.inl ⟨kvs,.inl z,e,rfl,hl,rfl⟩,h _ SameBut.upd aR⟩
theorem DB{z:Int}(e:Rd H p (.dK kvs))(hv:aW kvs (.inl z)=some v)(h:Q v H):KY Q (.ref p) (.int z) H:=⟨p,v,rfl,.inl ⟨kvs,.inl z,e,rfl,hv.symm⟩,h⟩
inductive DM(C:Addr)(vs:List V)(H:Hp)(Q:VK)(E:XK):Prop
 | mk (n:Addr) (s:Nat) (fp:List Addr) (ts sp:List Int) (as:List (List Int)) (_:vs=[.ref n,.int (s:Int)]) (_:NetE C H n fp ts sp as) (_:NetOk ts sp as) (_:s<as.length) (_:∀p ws H',H p=none->Same H H'->H' p=some (.dK (d7 (s:Int) ws))->Ways ts sp (s:Int) ws->(∀k,k<ts.length->at0 ts (xr k)∈(s:Int)::ws.map (·.1)->0<at0 sp k->at0 ts k∈(s:Int)::ws.map (·.1))->Q (.ref p) H'):DM C vs H Q E
theorem C8(m:M K mg):FnOk P w K mg base CX0 1 m.mL m.mQ.d ["self","source"] (DM m.aV):=by
 refine m.mQ.F.ok aHK ?_ ?_;tm_at"h";tm_at"g";rcases h with⟨n,s',fp,ts,sp,as,rfl,hn,ok,hs',k⟩;tm_at"f";have nd:=aHK.nd;tm_at"d";have aHc:=m.cJ;refine⟨_,(aB (aO (i:=2) nd rfl (by tm_at"b") (aF0 (pv 1) pB))
  (aB (aO (i:=3) nd rfl (by tm_at"b") (cP (aA (pv 1) aC)))
  (aB (aO (i:=4) nd rfl (by tm_at"b") aD)
  (aB (sV cn (bB kF (pv 4) (bL dU rfl m.kK hZ (aA (pv 3) aC)) (bG _)) (aB (aO (i:=5) nd rfl (by tm_at"b") (aT bF (pv 3) (pv 4) (λ_ _=>rfl)))
  (aB (cO cn rfl (bN (aT bF (aH (pv 0) rfl) (pv 5) (λ_ _=>rfl))) (aL (i:=6) nd rfl (by tm_at"b")) (aB (aO (i:=7) nd rfl (by tm_at"b") (aT bF (aH (pv 0) rfl) (pv 6) (λ_ _=>rfl)))
  (aE (b8 (PW.pt (E9 (bB xF (aT bF (aH (pv 0) rfl) (pv 6) (λ_ _=>rfl)) aD (bG _)) (BD (sM (uO hu1 (pv 7) (pv 2)) (by with_unfolding_all rfl))))) (aB (gB hu1 (pv 2) (pv 7) (pv 6) rfl)
  (aE (aY (gS df dm dq cY (pv 3) (aA (pv 7) aC))))) bK))))
  (aE (VW (i:=4) nd rfl (by tm_at"b") aD NO)))))
  (aE (aS (pv 2))))))),?_⟩
 refine aJ (σ:=[some (.ref n),some (.int (s':Int)),none,none,none,none,none,none]) rfl ?_;tm_at"e";obtain⟨dx,q1,q2,q3,rs,ef,e0,e1,e2,e3,e4,e5⟩:=hn;have l0:=ok.l0;have l1:=ok.l1;have hrl:rs.length=as.length:=bx e4;tm_at"a";refine aGp λp H1 n1 S1 f1=> ?_;tm_at"a";refine aFr f1 λH2 B2 f2=> ?_;have s2:Same H H2:=λb u e=>B2 _ _ (S1 _ _ e) λz=>by rw[z,n1]at e;cases e
 tm_at"a";rename_i q H3 n3 S3 f3;have s3:=s2.trans S3;have hpq:p≠q:=λz=>by rw[←z,f2]at n3;cases n3
 have nq:H q=none:=by
  cases h:H q with
  | none=>rfl
  | some u=>rw[s2 _ _ h]at n3;cases n3
 refine w9 (λmm σ' H'=>Same H H'/\∃(ws:List (Int×Nat)) (i:Nat),H' p=some (.dK (d7 (s':Int) ws))/\H' q=some (.lst (((s':Int)::ws.map (·.1)).map V.int))/\Ways ts sp (s':Int) ws/\(∀k,k<ts.length->at0 ts (xr k)∈((s':Int)::ws.map (·.1)).take i->0<at0 sp k->at0 ts k∈(s':Int)::ws.map (·.1))/\i<=((s':Int)::ws.map (·.1)).length/\mm+i=as.length+1/\∃x y z,σ'=[some (.ref n),some (.int (s':Int)),some (.ref p),some (.ref q),some (.int (i:Int)),x,y,z]) (as.length+1) ⟨s3,[],0,S3 _ _ f2,f3,Ways.nil _ _ _,(λ_ _ h=>nomatch h),et _,rfl,_,_,_,rfl⟩ ?_;rintro mm _ H4 hq_;obtain⟨s4,ws,i,g1,g2,w,cl,hi,hmm,x1,x2,x3,rfl⟩:=hq_;have hno:=wX ok hs' w;have hle:=D4 w.nd hno;tm_at"a";refine bR (λhc=> ?_) (λhc=> ?_)
 .rw[ae]at hc;obtain⟨x,hx⟩:∃x,((s':Int)::ws.map (·.1))[i]? =some x:=⟨_,ah (by lia)⟩
  rcases hno x (ay hx) with⟨u,rfl,hu⟩;obtain⟨r,hr⟩:∃r,rs[u]? =some r:=⟨_,ah (by lia)⟩
  rcases ⟨_,ah hu⟩ with⟨a,ha⟩:∃a,as[u]? =some a
  have hra:H r=some (.lst (a.map V.int)):=by have z:=Paired.at2 e4 hr ha;exact z
  have h0:=s4 _ _ e0;have h3:=s4 _ _ e3;refine E5 ?_;tm_at"a";refine EM (SqL.of g2) (show (((s':Int)::ws.map (·.1)).map V.int)[i]? =some (.int (u:Int)) by rw[bq,hx];rfl) ?_;tm_at"a";refine EM (SqL.of h3) (show (rs.map V.ref)[u]? =some (.ref r) by rw[bq,hr];rfl) ?_;have hr4:=s4 _ _ hra;tm_at"a";let Pv1:Nat->St->Hp->Prop:=λj σ' H'=>Same H H'/\(∃(ws' tl:List (Int×Nat)),ws'=ws++tl/\H' p=some (.dK (d7 (s':Int) ws'))/\H' q=some (.lst (((s':Int)::ws'.map (·.1)).map V.int))/\Ways ts sp (s':Int) ws'/\∀k:Nat,(k:Int)∈a.take j->0<at0 sp k->at0 ts k∈(s':Int)::ws'.map (·.1))/\∃y z,σ'=[some (.ref n),some (.int (s':Int)),some (.ref p),some (.ref q),some (.int (i:Int)),some (.int (u:Int)),y,z];refine c6 (a.map V.int) Pv1 ⟨s4,⟨ws,[],by rw[dj],g1,g2,w,λ_ h=>nomatch h⟩,_,_,rfl⟩ (λj σ' H' _ g=>g.1.seq (SqL.of hra)) ?_ ?_
  .rintro j x _ H5 hx5 hq_;obtain⟨s5,⟨ws',tl,hws,i1,i2,w',cl'⟩,y1,y2,rfl⟩:=hq_;have hno':=wX ok hs' w';have hle':=D4 w'.nd hno';obtain⟨x',hx',rfl⟩:∃x',a[j]? =some x'/\x= .int x':=by
    rw[bq]at hx5;rcases cj.mp hx5 with⟨x',h1,h2⟩;exact⟨x',h1,h2.symm⟩
   obtain⟨k',rfl,hk1,hk2⟩:=ok.inn u a ha x' (ay hx');have j0:=s5 _ _ e0;have j1:=s5 _ _ e1;have j2:=s5 _ _ e2;have hk3:k'<sp.length:=by rw[ok.eq];exact hk1
   tm_at"a";refine zK (SqL.of j1) hk1 ?_;tm_at"a";refine zK (SqL.of j2) hk3 ?_;have htk:a.take (j+1)=a.take j++[(k':Int)]:=aU hx';have hstay:(0<at0 sp k'->at0 ts k'∈(s':Int)::ws'.map (·.1))->∀k:Nat,(k:Int)∈a.take (j+1)->0<at0 sp k->at0 ts k∈(s':Int)::ws'.map (·.1):=λhk k hkm h0=>by
    rw[htk]at hkm;rcases bh.mp hkm with h|h
    .exact cl' k h h0
    .have e:k=k':=by have:=bz.mp h;lia
     subst e;exact hk h0
   tm_at"a";refine bR (λhp0=> ?_) (λhp0=> ?_)
   .tm_at"a";refine SF (.inl i1) ?_;rw[yA];tm_at"a"
    by_cases hin:at0 ts k'∈(s':Int)::ws'.map (·.1)
    .rw[decide_eq_true hin];tm_at"a";exact⟨s5,⟨ws',tl,hws,i1,i2,w',hstay λ_=>hin⟩,_,_,rfl⟩
    .rw[decide_eq_false hin];have wl:(d7 (s':Int) ws').length<sizeLine:=by
      rw[sizeLine_eq,←ae (f:=λe:Key×V=>e.1),qO,ae];lia
     have ht:at0 ts (xr k')∈(s':Int)::ws'.map (·.1):=by
      rw[hk2,hws,aw];rw[←iy];exact fj _ (ay hx)
     tm_at"a";refine Y3 i1 wl λH6 B6 f6=> ?_;rw[UO _ _ _ _ hin]at f6;have s6:Same H H6:=λb v e=>B6 _ _ (s5 _ _ e) λz=>by rw[z,n1]at e;cases e
     have i26:=B6 _ _ i2 (fb hpq);tm_at"a";refine cX i26 (by rw[sizeLine_eq,ae];lia) λH7 B7 f7=> ?_;have s7:Same H H7:=λb v e=>B7 _ _ (s6 _ _ e) λz=>by rw[z,nq]at e;cases e
     have w7:=w'.snoc hk3 hp0 ht hin;refine⟨s7,⟨ws'++[(at0 ts k',k')],tl++[(at0 ts k',k')],by rw[hws,cq],B7 _ _ f6 hpq,?_,w7,λk hkm h0=> ?_⟩,_,_,rfl⟩
     .rw[f7,aw,←iy,aw];rfl
     .rw[aw,←iy];rw[htk]at hkm;rcases bh.mp hkm with h|h
      .exact fj _ (cl' k h h0)
      .have e:k=k':=by have:=bz.mp h;lia
       subst e;exact bp _ (.head _)
   .tm_at"a";exact⟨s5,⟨ws',tl,hws,i1,i2,w',hstay λh=>absurd h hp0⟩,_,_,rfl⟩
  .rintro _ H5 hq_;obtain⟨s5,⟨ws',tl,hws,i1,i2,w',cl'⟩,y1,y2,rfl⟩:=hq_;rw[ae,cp]at cl';have hpre:((s':Int)::ws'.map (·.1)).take (i+1)=((s':Int)::ws.map (·.1)).take i++[(u:Int)]:=by
    rw[hws,aw,←iy,jd (by lia)];exact aU hx
   have hsub:∀v,v∈(s':Int)::ws.map (·.1)->v∈(s':Int)::ws'.map (·.1):=λv hv=>by
    rw[hws,aw,←iy];exact fj _ hv
   tm_at"a";refine⟨_,_,rfl,rfl,?_⟩;tm_at"a";refine⟨mm - 1,by lia,s5,ws',i+1,i1,i2,w',λk hk hm h0=> ?_,?_,by lia,_,_,_,rfl⟩
   .rw[hpre]at hm;rcases bh.mp hm with h|h
    .exact hsub _ (cl k hk h h0)
    .exact cl' k (ok.all k u a hk (bz.mp h) ha) h0
   .rw[hws,aw,←iy,ao];lia
 .tm_at"a";rw[ae]at hc;rw[show i=((s':Int)::ws.map (·.1)).length by lia,cp]at cl;exact k p ws H4 n1 s4 g1 w cl
theorem sS(m:M K mg):Mc P w K mg base m.aV "ways_from" 1 (DM m.aV):=⟨_,_,_,m.cJ.ic.cl,m.EB,m.mQ.b,C8 m⟩
theorem RS(k:Nat):yd (k:Int) 1=((k%2:Nat):Int):=by
 unfold yd;rw[decide_eq_true (show (0:Int)<=(k:Int) by lia),decide_eq_true (show (0:Int)<=1 by lia)];show (((k:Int).toNat &&& (1:Int).toNat:Nat):Int)=_;rw[fc,show (1:Int).toNat=1 from rfl,Nat.and_one_is_mod]
theorem V6(k:Nat):ux.bitOr (k:Int) 1=((if k%2=0 then k+1 else k:Nat):Int):=by
 unfold ux.bitOr yd;rw[decide_eq_false (show ¬(0:Int)<=gu (k:Int) by unfold gu;lia),decide_eq_false (show ¬(0:Int)<=gu 1 by unfold gu;lia)];show gu (gu (((gu (gu (k:Int))).toNat ||| (gu (gu 1)).toNat:Nat):Int))=_;have e:∀z:Int,gu (gu z)=z:=λz=>by unfold gu;lia
 rw[e,e,e,fc,show (1:Int).toNat=1 from rfl];have h1:(k ||| 1)/2=k/2:=by rw[Nat.or_div_two];exact Nat.or_zero _
 have h2:(k ||| 1)%2=1:=by
  rw[Nat.or_mod_two_eq_one];exact .inr rfl
 split<;>lia
theorem E6(k:Nat):xo (k:Int) 1=((xr k:Nat):Int):=by
 unfold xo;rw[RS,V6];unfold xr
 by_cases h:k%2=0
 .rw[if_pos h,if_pos h,h];lia
 .rw[if_neg h,if_neg h];lia
inductive Ch(ts:List Int)(s:Int)(ws:List (Int×Nat)):List Nat->Prop
 | last {k:Nat}:at0 ts (xr k)=s->Ch ts s ws [k]
 | cons {k k':Nat}{p:List Nat}:(at0 ts (xr k),k')∈ws->Ch ts s ws (k'::p)->Ch ts s ws (k::k'::p)
theorem Ways.chain{sp:List Int}{s:Int}{ws:List (Int×Nat)}(x:Ways ts sp s ws):∀(i:Nat) (v:Int) (k:Nat),ws[i]? =some (v,k)->∃p,Pth ts s v (k::p)/\(k::p).Nodup/\(∀j∈k::p,0<at0 sp j/\j<sp.length/\at0 ts j∈(ws.take (i+1)).map (·.1))/\Ch ts s ws (k::p)/\p.length<=i:=by
 intro i
 induction i using rh with
 | _ i ih =>
  intro v k h;obtain⟨h1,h2,h3,h4⟩:=x.ok i v k h;have hmem:v∈(ws.take (i+1)).map (·.1):=ag.mpr ⟨(v,k),by rw[pj,h];exact bp _ (.head _),rfl⟩;rcases az.mp h4 with e|e
  .refine⟨[],.cons h1 (by rw[e];exact .nil),by simp,λj hj=> ?_,.last e,et _⟩;rw[bz.mp hj];exact⟨h2,h3,by rw[h1];exact hmem⟩
  .obtain⟨⟨v',k'⟩,hm,e'⟩:=ag.mp e;rcases ye.mp hm with⟨i',hi',hget⟩;have hi2:i'<i:=by rw[cw]at hi';lia
   have hg:ws[i']? =some (v',k'):=by
    rw[←hget,List.getElem_take];exact ah _
   obtain⟨p,hp1,hp2,hp3,hp4,hp5⟩:=ih i' hi2 v' k' hg;have e':v'=at0 ts (xr k):=e';refine⟨k'::p,.cons h1 (by rw[←e'];exact hp1),?_,λj hj=> ?_,.cons (by rw[←e'];exact ay hg) hp4,by rw[bb];lia⟩
   .rw[cm];refine⟨λhk=> ?_,hp2⟩;have h5:=(hp3 k hk).2.2;rw[h1]at h5;have hnd:(ws.map (·.1)).Nodup:=(cm.mp x.nd).2;have hsplit:ws=ws.take (i'+1)++ws.drop (i'+1):=(jr _ _).symm;have hdrop:v∈(ws.drop (i'+1)).map (·.1):=ag.mpr ⟨(v,k),by
     rw[fg];exact⟨i - (i'+1),by rw[oj,show i'+1+(i - (i'+1))=i by lia];exact h⟩,rfl⟩
    rw[hsplit,aw]at hnd;exact(ib.mp hnd).2.2 _ h5 _ hdrop rfl
   .rcases az.mp hj with rfl|hj
    .exact⟨h2,h3,by rw[h1];exact hmem⟩
    .rcases hp3 j hj with⟨a,b,c⟩;refine⟨a,b,?_⟩;rcases ag.mp c with⟨y,hy,e⟩;refine ag.mpr ⟨y,?_,e⟩;have:ws.take (i'+1)=(ws.take (i+1)).take (i'+1):=by rw[List.take_take];congr 1;lia
     rw[this]at hy;exact List.mem_of_mem_take hy
theorem aBS(s:Int)(ws:List (Int×Nat)):aW (d7 s ws) (.inl s)=some .non:=by unfold d7;exact dO rfl
theorem MX{sp:List Int}{s:Int}{ws:List (Int×Nat)}(w:Ways ts sp s ws){v:Int}{k:Nat}(h:(v,k)∈ws):aW (d7 s ws) (.inl v)=some (.int (k:Int)):=by
 have hnd:((d7 s ws).map (·.1)).Nodup:=by
  rw[qO,kx,gk];exact ze (λhne z=>hne (md z)) w.nd
 exact eZ (e:=(nz v,V.int (k:Int))) hnd (ab _ (ag.mpr ⟨(v,k),h,rfl⟩))
inductive D0(C:Addr)(vs:List V)(H:Hp)(Q:VK)(E:XK):Prop
 | mk (n d:Addr) (s v:Int) (i k0:Nat) (ws:List (Int×Nat)) (fp:List Addr) (ts sp:List Int) (as:List (List Int)) (_:vs=[.ref n,.ref d,.int v]) (_:NetE C H n fp ts sp as) (_:NetOk ts sp as) (_:H d=some (.dK (d7 s ws))) (_:Ways ts sp s ws) (_:ws[i]? =some (v,k0)) (_:ws.length<100000) (_:∀q path H',H q=none->Same H H'->H' q=some (.lst (path.map λk:Nat=>V.int (k:Int)))->Pth ts s v path->path.Nodup->(∀j∈path,0<at0 sp j/\j<sp.length)->path≠[]->path.length<=ws.length->Q (.ref q) H'):D0 C vs H Q E
theorem GH(m:M K mg):FnOk P w K mg base CX0 1 m.qF m.qK.d ["self","ways","node"] (D0 m.aV):=by
 refine m.qK.F.ok aH2 ?_ ?_;tm_at"h";tm_at"g";rcases h with⟨n,d,s',v,i,k0,ws,fp,ts,sp,as,rfl,hn,ok,hd,w,hi,hl,k⟩;tm_at"f";have nd:=aH2.nd;tm_at"d";have aHc:=m.cJ;refine⟨_,(aB (aO (i:=3) nd rfl (by tm_at"b") (cP aC))
  (aB (aO (i:=4) nd rfl (by tm_at"b") (dL hu1 (pv 1) (pv 2) (λ_ _=>rfl)))
  (aB (sV cn (bB G7 (pv 4) pB (bG _)) (aB (aY (gS df dm dq cY (pv 3) (aA (pv 4) aC)))
  (aE (aO (i:=4) nd rfl (by tm_at"b") (dL hu1 (pv 1) (aT bF (aH (pv 0) rfl) (aK XO (pv 4) aD) (λ_ _=>rfl)) (λ_ _=>rfl))))))
  (aE (aS (pv 3)))))),?_⟩
 refine aJ (σ:=[some (.ref n),some (.ref d),some (.int v),none,none]) rfl ?_;tm_at"e";obtain⟨dx,q1,q2,q3,rs,ef,e0,e1,e2,e3,e4,e5⟩:=hn;obtain⟨pp,hp1,hp2,hp3,hp4,hp5⟩:=w.chain i v k0 hi;tm_at"a";rename_i q H1 n1 S1 f1;have hdq:d≠q:=λz=>by rw[←z,hd]at n1;cases n1
 have hchk:∀j∈k0::pp,0<at0 sp j/\j<sp.length:=λj hj=>⟨(hp3 j hj).1,(hp3 j hj).2.1⟩
 have hil:i<ws.length:=(av.mp hi).1;refine DB (.inl (S1 _ _ hd)) (MX w (ay hi)) ?_;tm_at"a";refine w9 (λmm σ' H'=>Same H H'/\∃(pr rest:List Nat),H' q=some (.lst (pr.map λk:Nat=>V.int (k:Int)))/\pr++rest=k0::pp/\mm=rest.length/\((rest=[]/\σ'=[some (.ref n),some (.ref d),some (.int v),some (.ref q),some .non])∨∃k p,rest=k::p/\Ch ts s' ws (k::p)/\σ'=[some (.ref n),some (.ref d),some (.int v),some (.ref q),some (.int (k:Int))])) (pp.length+1) ⟨S1,[],k0::pp,f1,rfl,rfl,.inr ⟨k0,pp,rfl,hp4,rfl⟩⟩ ?_;rintro mm σ' H2 hq_;obtain⟨s2,pr,rest,g1,hpr,hmm,hσ⟩:=hq_;have hlen:pr.length+rest.length=pp.length+1:=by rw[←ao,hpr,bb]
 rcases hσ with⟨rfl,rfl⟩|⟨k',p,rfl,hch,rfl⟩
 .tm_at"a";rw[dj]at hpr;subst hpr;exact k q (k0::pp) H2 n1 s2 g1 hp1 hp2 hchk (λz=>nomatch z) (by rw[bb];lia)
 .have hk':=hchk k' (by rw[←hpr];exact bp _ (.head _));have hkl:xr k'<ts.length:=by
   rcases ok.len with⟨nn,hnn⟩;rw[ok.eq]at hk';rw[hnn]at hk' ⊢;exact FE hk'.2
  tm_at"a";refine E5 ?_;tm_at"a";refine cX g1 (by rw[sizeLine_eq,ae];lia) λH3 B3 g3=> ?_;have s3:Same H H3:=λb u e=>B3 _ _ (s2 _ _ e) λz=>by rw[z,n1]at e;cases e
  have j0:=s3 _ _ e0;have j1:=s3 _ _ e1;tm_at"a";rw[E6];refine zK (SqL.of j1) hkl ?_;have g4:H3 q=some (.lst ((pr++[k']).map λk:Nat=>V.int (k:Int))):=by rw[g3,aw];rfl
  cases hch with
  | last he =>
   refine DB (.inl (s3 _ _ hd)) (by rw[he];exact aBS _ _) ?_;tm_at"a";exact⟨0,by rw[hmm];exact Nat.zero_lt_succ _,s3,pr++[k'],[],g4,by rw[dj];exact hpr,rfl,.inl ⟨rfl,rfl⟩⟩
  | @cons _ k2 p2 hm hch2 =>
   refine DB (.inl (s3 _ _ hd)) (MX w hm) ?_;tm_at"a";exact⟨_,by rw[hmm];exact mw _,s3,pr++[k'],k2::p2,g4,by rw[cq];exact hpr,rfl,.inr ⟨k2,p2,rfl,hch2,rfl⟩⟩
theorem HK(m:M K mg):Mc P w K mg base m.aV "path_to" 1 (D0 m.aV):=⟨_,_,_,m.cJ.ic.cl,m.HX,m.qK.b,GH m⟩
def aA0(K:W.Frag):List V->Hp->VK->Prop:=λxs H Q=>∃(p:Addr) (ns:List Int),xs=[.ref p]/\SqL K H p (ns.map V.int)/\ns≠[]/\∀M,M∈ns->(∀a∈ns,M<=a)->Q (.int M) H
theorem VC(hc:X.calm=true):dZ X (.builtin "min") (aA0 X.K):=by
 intro pins s σ H xs us Q I r h;obtain⟨p,ns,rfl,hq,hne,q⟩:=h;rcases l6 r with⟨u,rfl,rx⟩;cases rx;obtain⟨its,r',pl,hz⟩:=I.list hq;rcases wB r' with⟨zs,rfl,rfl⟩;have hl:s.heap.IsList p (intItems zs.toArray):=by
  have:=pl.isList
  simpa [intItems] using this
 have hpos:0<zs.length:=by
  cases zs with
  | nil=>exact absurd rfl hne
  | cons a l=>exact Nat.zero_lt_succ _
 have hn:∀j,j<zs.length->numAt zs.toArray j∈zs.map (·.1)/\True:=λj hj=>by
  refine⟨?_,trivial⟩;unfold numAt;rw[ag];refine⟨zs[j],qi _,?_⟩;simp[hj]
 refine min_intList (I.ok.hd hc) hl (by simpa using hpos) λv h' tk hv hk=> ?_;rcases intItems_at hv with⟨t,rfl⟩;rcases argBest_lt (numAt zs.toArray) (zs.toArray.size - 1) with⟨h1,h2⟩;rw[bj]at h1 h2;refine⟨.int _,H,I.kept hk,⟨t,rfl⟩,q _ ?_ λa ha=> ?_⟩
 .rw[bj];exact(hn _ (by lia)).1
 .rw[bj];rcases ag.mp ha with⟨y,hy,rfl⟩;rcases ye.mp hy with⟨j,hj,e⟩;have:=h2 j (by lia);have e2:numAt zs.toArray j=y.1:=by unfold numAt;simp[hj,e]
  rw[←e2];exact this
theorem aCc{ns:List Int}(e:SqL K H p (ns.map V.int))(hne:ns≠[])(h:∀M,M∈ns->(∀a∈ns,M<=a)->Q (.int M) H):aA0 K [.ref p] H Q:=⟨p,ns,rfl,e,hne,h⟩
theorem BK{to ti te:TE}{tget:V->V->Hp->VK->Prop}{tip:TIp}{tset:R9}{bk:St->Hp->Prop}(h:to σ H λo H1=>ti σ H1 λi H2=>tget o i H2 λx H3=>te σ H3 λy H4=>tip x y H4 λz H5=>tset o i z H5 λH6=>nx σ H6):aBg to ti te tget tip tset ⟨nx,rt,bk,ct⟩ σ H:=h
theorem UY{k:Nat}(h:k<n):ixN n (k:Int)=some k:=by
 unfold ixN;rw[if_pos (by lia),if_pos (by lia),fc]
inductive zM(C:Addr)(vs:List V)(H:Hp)(Q:VK)(E:XK):Prop
 | mk (n q:Addr) (path:List Nat) (fp:List Addr) (ts sp:List Int) (as:List (List Int)) (_:vs=[.ref n,.ref q]) (_:NetE C H n fp ts sp as) (_:NetOk ts sp as) (_:H q=some (.lst (path.map λk:Nat=>V.int (k:Int)))) (_:q∉fp) (_:path.Nodup) (_:(∀j∈path,0<at0 sp j/\j<sp.length)) (_:path≠[]) (_:path.length<200000) (_:∀x H',0<x->(∀j∈path,x<=at0 sp j)->Frm fp H H'->NetE C H' n fp ts (dR sp path x) as->Q (.int x) H'):zM C vs H Q E
theorem CC(m:M K mg):FnOk P w K mg base CX0 1 m.k8 m.kY.d ["self","path"] (zM m.aV):=by
 refine m.kY.F.ok aHy ?_ ?_;tm_at"h";tm_at"g";rcases h with⟨n,q,path,fp,ts,sp,as,rfl,hn,ok,hq,hqf,hnd,hpa,hpn,hpl,k⟩;tm_at"f";have nd:=aHy.nd;tm_at"d";have aHc:=m.cJ;refine⟨_,(aB (aO (i:=2) nd rfl (by tm_at"b") (bL (VC rfl) rfl m.K6 FF (aA (dG (N:=["arc","self"]) (nl:=1) (ci:=[0]) rfl (blk (s.heap.objs.size+1) rfl rfl rfl (by kernel_rfl)) (bN (pv 1)) (λ_ _ _ _=>(aL (i:=0) (show (["arc","self"]:List Str).Nodup by decide +kernel) rfl (by tm_at"b"))) (λ_ _ _ _=>dI) (λ_ _ _ _=>(aT (DG (K:=K)) (rE (K:=K) (pv 1) rfl) (pv 0) (λ_ _=>rfl)))) aC)))
  (aB (cO cn rfl (bN (pv 1)) (aL (i:=3) nd rfl (by tm_at"b")) (aB (Q4 (aH (pv 0) rfl) (pv 3) LI (pv 2) aE3 N9)
  (aE (Q4 (aH (pv 0) rfl) (aK XO (pv 3) aD) LI (pv 2) NO N9))))
  (aE (aS (pv 2))))),?_⟩
 refine aJ (σ:=[some (.ref n),some (.ref q),none,none]) rfl ?_;tm_at"e";obtain⟨dx,q1,q2,q3,rs,ef,e0,e1,e2,e3,e4,e5⟩:=hn;have nd':=cm.mp e5;have nd2:=cm.mp nd'.2;tm_at"a";refine iF (α:=Nat) (xs:=path) (vs:=path.map λk:Nat=>V.int (k:Int)) (λv k=>v= .int (k:Int)) (λ_=>true) (λk y _=>y= .int (at0 sp k)) (λ_ _ _ _ h _=>h) (by rw[sizeLine_eq];lia) (rest:=[some (.ref n)]) (by rfl) (SqL.of hq) ?_ (λv x H1 _ _ _ R hR=>hR _ (Same.refl _)) ?_ ?_
 .clear hq hpa hpn hpl k hnd
  induction path with
  | nil=>exact .nil
  | cons a l ih=>exact .cons rfl ih
 .rintro v k' H1 rfl hm - s1 R hR;have j0:=s1 _ _ e0;tm_at"a";refine zK (SqL.of (s1 _ _ e2)) (hpa k' hm).2 ?_;exact hR _ _ rfl (Same.refl _)
 intro ys H1 s1 hys;rw[dM]at hys;have hy:ys=(path.map (at0 sp)).map V.int:=by
  clear hq hpa hpn hpl k hnd
  induction hys with
  | nil=>rfl
  | cons h t ih=>rw[h,ih];rfl
 tm_at"a";rename_i r H2 n2 S2 f2;rw[hy]at f2;refine aCc (SqL.of f2) (λz=>hpn (List.map_eq_nil_iff.mp z)) λx hx1 hx2=> ?_;have hxj:∀j∈path,x<=at0 sp j:=λj hj=>hx2 _ (ag.mpr ⟨j,hj,rfl⟩);have hx0:0<x:=by
  rcases ag.mp hx1 with⟨j,hj,rfl⟩;exact(hpa j hj).1
 have s2:=s1.trans S2;subst ef;have hqq2:q≠q2:=λz=>hqf (by rw[z];exact ab _ (.head _));have hn2:n≠q2:=λz=>by rw[z,e2]at e0;cases e0
 tm_at"a";let Pv1:Nat->St->Hp->Prop:=λj σ' H'=>SameBut q2 H2 H'/\H' q2=some (.lst ((dR sp (path.take j) x).map V.int))/\∃y,σ'=[some (.ref n),some (.ref q),some (.int x),y];refine c6 (path.map λk:Nat=>V.int (k:Int)) Pv1 ⟨SameBut.refl,s2 _ _ e2,_,rfl⟩ (λj σ' H' _ g=>SqL.of (g.1 _ _ (s2 _ _ hq) hqq2)) ?_ ?_
 .rintro j y _ H3 hy3 hq_;obtain⟨B3,g2,y1,rfl⟩:=hq_;obtain⟨k',hk',rfl⟩:∃k',path[j]? =some k'/\y= .int (k':Int):=by
   rw[bq]at hy3;rcases cj.mp hy3 with⟨x',h1,h2⟩;exact⟨x',h1,h2.symm⟩
  have hkl:=(hpa k' (ay hk')).2;generalize hsj:dR sp (path.take j) x=sj at g2;have hsl:sj.length=sp.length:=by rw[←hsj,wP]
  have hxl:xr k'<sp.length:=by
   rcases ok.len with⟨nn,hnn⟩;rw[ok.eq,hnn]at hkl ⊢;exact FE hkl
  have j0:=B3 _ _ (s2 _ _ e0) hn2;have hnext:dR sp (path.take (j+1)) x=l8 sj k' x:=by
   rw[aU hk',←hsj];unfold dR;rw[va];rfl
  tm_at"a";refine BK ?_;tm_at"a";refine QC (SqL.of g2) (GC (by lia)) ?_;tm_at"a";refine⟨_,_,rfl,rfl,?_⟩;refine DC g2 (UY (by rw[ae];lia)) λH4 B4 g4=> ?_;have j4:=B4 _ _ j0 hn2;have g4':H4 q2=some (.lst ((sj.set k' (at0 sj k' - x)).map V.int)):=by rw[g4,List.map_set]
  tm_at"a";refine BK ?_;tm_at"a";rw[E6];refine QC (SqL.of g4') (GC (by rw[la];lia)) ?_;tm_at"a";refine⟨_,_,rfl,rfl,?_⟩;refine DC g4' (UY (by rw[ae,la];lia)) λH5 B5 g5=> ?_;refine⟨λb u e hb=>B5 _ _ (B4 _ _ (B3 _ _ e hb) hb) hb,?_,_,rfl⟩;rw[g5,hnext,←List.map_set];unfold l8;rw[GM _ _ _ _ (by lia),if_neg (TD k')]
 .rintro _ H3 hq_;obtain⟨B3,g2,y1,rfl⟩:=hq_;rw[ae,cp]at g2;tm_at"a";have hk:∀b u,H b=some u->b≠q2->H3 b=some u:=λb u e hb=>B3 _ _ (s2 _ _ e) hb;refine k x H3 hx0 hxj (λb u e hb=>hk b u e λz=>hb (by rw[z];exact ab _ (.head _))) ⟨dx,q1,q2,q3,rs,rfl,hk _ _ e0 hn2,hk _ _ e1 λz=>nd'.1 (by rw[z];exact .head _),g2,hk _ _ e3 λz=>nd2.1 (by rw[←z];exact .head _),?_,e5⟩;exact eJ e4 λb c hb h=>hk _ _ h λz=>nd2.1 (by rw[←z];exact ab _ hb)
theorem BY(m:M K mg):Mc P w K mg base m.aV "send_along" 1 (zM m.aV):=⟨_,_,_,m.cJ.ic.cl,m.CI,m.kY.b,CC m⟩
def oR(ts sp:List Int)(v:Int):Nat->Int
 | 0=>0
 | n+1=>oR ts sp v n+if at0 ts (2 * n)=v then at0 sp (2 * n)+at0 sp (2 * n+1) else 0
theorem wZ{ts sp:List Int}{v:Int}(h0:∀m,0<=at0 sp m):∀n,cW ts sp v n<=oR ts sp v n
 | 0=>gc _
 | n+1=>by
  show cW ts sp v n+_<=oR ts sp v n+_;have ih:=wZ (ts:=ts) (v:=v) h0 n;have a0:=h0 (2 * n);have a1:=h0 (2 * n+1)
  split<;>split<;>lia
theorem CQ{sp:List Int}{v:Int}(h:∀m,at0 sp' m+at0 sp' (xr m)=at0 sp m+at0 sp (xr m)):∀n,oR ts sp' v n=oR ts sp v n
 | 0=>rfl
 | n+1=>by
  show oR ts sp' v n+_=oR ts sp v n+_;have h1:=h (2 * n);rw[show xr (2 * n)=2 * n+1 by unfold xr;rw[if_pos (by lia)]]at h1;rw[CQ h n,h1]
structure Sent(ts sp sp':List Int)(n:Nat)(s t x:Int):Prop where
 len:sp'.length=sp.length
 nn:∀m,0<=at0 sp' m
 cap:∀m,at0 sp' m+at0 sp' (xr m)=at0 sp m+at0 sp (xr m)
 exc:∀v,cW ts sp' v n=cW ts sp v n+((if t=v then x else 0) - if s=v then x else 0)
 x0:0<=x
theorem Sent.refl{sp:List Int}{s t:Int}(h0:∀m,0<=at0 sp m):Sent ts sp sp n s t 0:=⟨rfl,h0,λ_=>rfl,λv=>by split<;>split<;>lia,gc _⟩
theorem Sent.more{sp:List Int}{s t x y:Int}(a:Sent ts sp sp' n s t x)(hl:sp.length=2 * n){p:List Nat}(hp:Pth ts s t p)(hnd:p.Nodup)(hj:∀j∈p,0<at0 sp' j/\j<sp'.length)(hy0:0<y)(hy:∀j∈p,y<=at0 sp' j):Sent ts sp (dR sp' p y) n s t (x+y):=by
 have hl':sp'.length=2 * n:=by rw[a.len,hl]
 have hk:∀k∈p,k<2 * n:=λk hk=>by rw[←hl'];exact(hj k hk).2
 refine⟨by rw[wP];exact a.len,W8 hl' hk hnd (by lia) hy a.nn,λm=>by rw[T8 hl' hk];exact a.cap m,λv=> ?_,by have:=a.x0;lia⟩;rw[EL y v hp hl' hk,a.exc]
 split<;>split<;>lia
theorem NetOk.sp{sp:List Int}(x:NetOk ts sp as)(h:sp'.length=sp.length):NetOk ts sp' as:=⟨x.len,by rw[h];exact x.eq,x.nd,x.inn,x.all,x.l0,x.l1⟩
def MW(ts sp:List Int)(s t:Int)(rs:List Int):Prop:=rs.Nodup/\s∈rs/\t∉rs/\∀k,k<ts.length->at0 ts (xr k)∈rs->at0 ts k∉rs->at0 sp k<=0
theorem wS{n:Addr}{fp:List Addr}{sp:List Int}(x:NetE C H n fp ts sp as){b:Addr}(hb:b∈fp):H b≠none:=by
 obtain⟨dx,q1,q2,q3,rs,ef,e0,e1,e2,e3,e4,e5⟩:=x;subst ef;intro z;rcases az.mp hb with rfl|hb
 .rw[e1]at z;cases z
 .rcases az.mp hb with rfl|hb
  .rw[e2]at z;cases z
  .rcases az.mp hb with rfl|hb
   .rw[e3]at z;cases z
   .rcases gT e4 hb with⟨a,_,ha⟩;rw[z]at ha;cases ha
inductive BA(C:Addr)(vs:List V)(H:Hp)(Q:VK)(E:XK):Prop
 | mk (n:Addr) (s t nn:Nat) (fp:List Addr) (ts sp:List Int) (as:List (List Int)) (_:vs=[.ref n,.int (s:Int),.int (t:Int)]) (_:NetE C H n fp ts sp as) (_:NetOk ts sp as) (_:s<as.length) (_:s≠t) (_:ts.length=2 * nn) (_:(∀m,0<=at0 sp m)) (_:∀x sp' rs H',Frm fp H H'->NetE C H' n fp ts sp' as->Sent ts sp sp' nn (s:Int) (t:Int) x->MW ts sp' (s:Int) (t:Int) rs->Q (.int x) H'):BA C vs H Q E
theorem EZ(m:M K mg):FnOk P w K mg base CX0 2 m.oI m.oB.d ["self","source","sink"] (BA m.aV):=by
 refine m.oB.F.ok aHN ?_ ?_;tm_at"h";tm_at"g";rcases h with⟨n,s',t',nn,fp,ts,sp,as,rfl,hn,ok,hs',hst,hnn,h0,k⟩;tm_at"f";have nd:=aHN.nd;tm_at"d";have aHc:=m.cJ;refine⟨_,(aB (aO (i:=3) nd rfl (by tm_at"b") aD)
  (aB (aO (i:=4) nd rfl (by tm_at"b") (cQ 1 hr (pv 0) (aA (pv 1) aC)))
  (aB (sV cn (sM (FI hu1 (pv 2) (pv 4)) (by with_unfolding_all rfl)) (aB (VW (i:=3) nd rfl (by tm_at"b") (cQ 1 hr (pv 0) (aA (cQ 1 hr (pv 0) (aA (pv 4) (aA (pv 2) aC))) aC)) NO)
  (aE (aO (i:=4) nd rfl (by tm_at"b") (cQ 1 hr (pv 0) (aA (pv 1) aC))))))
  (aE (aS (pv 3)))))),?_⟩
 refine aJ (σ:=[some (.ref n),some (.int (s':Int)),some (.int (t':Int)),none,none]) rfl ?_;tm_at"e";obtain⟨dx,q1,q2,q3,rs,ef,e0,e1,e2,e3,e4,e5⟩:=id hn;have M1:= @sS P w K mg base m;have M2:= @HK P w K mg base m;have M3:= @BY P w K mg base m;have l0:=ok.l0;have l1:=ok.l1;tm_at"a";refine⟨n,s',fp,ts,sp,as,rfl,hn,ok,hs',λd ws H1 n1 S1 f1 w c1=> ?_⟩;tm_at"a";refine w9 (λmm σ' H'=>∃(x:Int) (sp':List Int) (d:Addr) (ws:List (Int×Nat)),Frm fp H H'/\NetE m.aV H' n fp ts sp' as/\Sent ts sp sp' nn (s':Int) (t':Int) x/\d∉fp/\H' d=some (.dK (d7 (s':Int) ws))/\Ways ts sp' (s':Int) ws/\(∀k,k<ts.length->at0 ts (xr k)∈(s':Int)::ws.map (·.1)->0<at0 sp' k->at0 ts k∈(s':Int)::ws.map (·.1))/\(mm:Int)=oR ts sp (t':Int) nn - cW ts sp' (t':Int) nn/\σ'=[some (.ref n),some (.int (s':Int)),some (.int (t':Int)),some (.int x),some (.ref d)]) (oR ts sp (t':Int) nn - cW ts sp (t':Int) nn).toNat ⟨0,sp,d,ws,Frm.same S1,hn.same S1,Sent.refl h0,?_,f1,w,c1,?_,rfl⟩ ?_
 .exact λz=>(wS hn z) n1
 .have:=wZ (ts:=ts) (v:=(t':Int)) h0 nn
  lia
 rintro mm _ H2 hq_;obtain⟨x,sp',d',ws',fr2,hn2,sent,hdf,g1,w',c2,hmm,rfl⟩:=hq_;have ok':=ok.sp sent.len;obtain⟨dx2,r1,r2,r3,rr,ef2,y0,y1,y2,y3,y4,y5⟩:=id hn2;tm_at"a";refine QA (.inl g1) ?_;rw[yA];tm_at"a";refine bR (λhin=> ?_) (λhin=> ?_)
 .obtain⟨⟨v0,k0⟩,hm0,hv0⟩:=ag.mp ((az.mp hin).resolve_left λz=>hst (by lia));have hv0:v0=(t':Int):=hv0;subst hv0;rcases fg.mp hm0 with⟨i,hi⟩;have hwl:ws'.length<100000:=by
   have h:=D4 w'.nd (wX ok' hs' w');rw[bb,ae]at h
   lia
  have hl2:sp.length=2 * nn:=by rw[ok.eq,hnn]
  refine E5 ?_;tm_at"a";refine⟨n,d',(s':Int),(t':Int),i,k0,ws',fp,ts,sp',as,rfl,hn2,ok',g1,w',hi,hwl,λq path H3 n3 S3 f3 hP hN hA hne hpl=> ?_⟩;have hn3:=hn2.same S3;have z0:=S3 _ _ y0;tm_at"a";refine⟨n,q,path,fp,ts,sp',as,rfl,hn3,ok',f3,λz=>(wS hn2 z) n3,hN,hA,hne,by lia,λy H4 hy0 hyj fr4 hn4=> ?_⟩;have hmore:=sent.more hl2 hP hN hA hy0 hyj;have ok4:=ok.sp hmore.len;obtain⟨dx4,b1,b2,b3,br,ef4,z1,_⟩:=id hn4;tm_at"a";refine⟨_,_,rfl,rfl,?_⟩;tm_at"a";refine⟨n,s',fp,ts,dR sp' path y,as,rfl,hn4,ok4,hs',λd5 ws5 H5 n5 S5 f5 w5 c5=> ?_⟩;tm_at"a";have he:=hmore.exc (t':Int);have he0:=sent.exc (t':Int);rw[if_pos rfl,if_neg (by lia)]at he he0;have hc:=wZ (ts:=ts) (v:=(t':Int)) hmore.nn nn;rw[CQ hmore.cap]at hc;exact⟨(oR ts sp (t':Int) nn - cW ts (dR sp' path y) (t':Int) nn).toNat,by lia,x+y,_,d5,ws5,(fr2.trans (Frm.same S3) λz hz=> .inl hz).trans (fr4.trans (Frm.same S5) λz hz=> .inl hz) λz hz=> .inl hz,hn4.same S5,hmore,λz=>(wS hn4 z) n5,f5,w5,c5,by lia,rfl⟩
 .tm_at"a";refine k x sp' ((s':Int)::ws'.map (·.1)) H2 fr2 hn2 sent ⟨w'.nd,.head _,hin,λk hk h1 h2=> ?_⟩;rcases Int.lt_or_le 0 (at0 sp' k) with h|h
  .exact absurd (c2 k hk h1 h) h2
  .exact h
theorem uM(m:M K mg):Mc P w K mg base m.aV "send_all" 2 (BA m.aV):=⟨_,_,_,m.cJ.ic.cl,m.FV,m.oB.b,EZ m⟩
inductive xW(K:W.Frag)(vs:List V)(H:Hp)(Q:VK)(E:XK):Prop
 | mk (p C dx:Addr) (_:vs=[.ref p]) (_:DCls K C) (_:H p=some (.ins C dx [])) (_:∀fp H',SameBut p H H'->(∀b∈fp,H b=none)->NetE C H' p fp [] [] []->Q .non H'):xW K vs H Q E
theorem EK(m:M K mg):FnOk P w K mg base CX0 1 m.oA m.oO.d ["self"] (xW K):=by
 refine m.oO.F.ok aHM ?_ ?_;tm_at"h";tm_at"g";rcases h with⟨p,C,dx,rfl,dc,hp,k⟩;tm_at"f";have nd:=aHM.nd;tm_at"d";refine⟨_,(aB (cC (pv 0) (cP aC) rfl)
  (aB (cC (pv 0) (cP aC) rfl)
  (aE (cC (pv 0) (cP aC) rfl)))),?_⟩
 refine aJ (σ:=[some (.ref p)]) rfl ?_;tm_at"e";tm_at"a";rename_i a1 H1 n1 S1 f1 H2 B2 f2 a2 H3 n3 S3 f3 H4 B4 f4 a3 H5 n5 S5 f5 H6 B6 f6;have h1:a1≠p:=λz=>by rw[z,hp]at n1;cases n1
 have g1:=B2 _ _ f1 h1;have h2:a2≠p:=λz=>by rw[z,f2]at n3;cases n3
 have h21:a1≠a2:=λz=>by rw[←z,g1]at n3;cases n3
 have i1:=B4 _ _ (S3 _ _ g1) h1;have i2:=B4 _ _ f3 h2;have h3:a3≠p:=λz=>by rw[z,f4]at n5;cases n5
 have h31:a1≠a3:=λz=>by rw[←z,i1]at n5;cases n5
 have h32:a2≠a3:=λz=>by rw[←z,i2]at n5;cases n5
 have keep:∀b u,H b=some u->b≠p->H6 b=some u:=λb u e hb=>B6 _ _ (S5 _ _ (B4 _ _ (S3 _ _ (B2 _ _ (S1 _ _ e) hb)) hb)) hb;have nn:∀b,H3 b=none∨H2 b=none∨H4 b=none∨H b=none->b≠p->H b=none:=λb hb hbp=>by
  cases e:H b with
  | none=>rfl
  | some u =>
   have k2:=B2 _ _ (S1 _ _ e) hbp;have k4:=B4 _ _ (S3 _ _ k2) hbp;rcases hb with z|z|z|z
   .rw[S3 _ _ k2]at z;cases z
   .rw[k2]at z;cases z
   .rw[k4]at z;cases z
   .rw[e]at z;cases z
 refine k [a1,a2,a3] H6 keep (λb hb=> ?_) ⟨dx,a1,a2,a3,[],rfl,f6,B6 _ _ (S5 _ _ i1) h1,B6 _ _ (S5 _ _ i2) h2,B6 _ _ f5 h3,.nil,?_⟩
 .simp only[az,gi,or_false]at hb;rcases hb with rfl|rfl|rfl
  .exact n1
  .exact nn _ (.inr (.inl n3)) h2
  .exact nn _ (.inr (.inr (.inl n5))) h3
 .simp[h21,h31,h32]
theorem aAm(m:M K mg):Kc P w K mg base "Net" m.aV 1 [] (xW K):=⟨_,_,_,_,m.aGL,m.aFX,.nil,m.oO.b,EK m⟩
abbrev SS(h a1 a2 n a3 a4:Addr)(u pl:Int):List (Str×V):=bT "plenty" (.int pl) (bT "door_arcs" (.ref a4) (bT "pair_nodes" (.ref a3) (bT "source" (.int 0) (bT "net" (.ref n) (bT "cuts" (.ref a2) (bT "outs" (.ref a1) (bT "turn" (.int u) (bT "house" (.ref h) []))))))))
structure HNAt where
 dx:Addr
 h:Addr
 a1:Addr
 a2:Addr
 n:Addr
 a3:Addr
 a4:Addr
 np:List Addr
def HNAt.fp(x:HNAt)(hn:Addr):List Addr:=hn::x.a1::x.a2::x.a3::x.a4::x.np
inductive HNE(CN CH:Addr)(H:Hp)(hn:Addr)(x:HNAt)(u pl:Int)(outs:List Int)(cv:List V)(pk dk:List (List Key×V))(ts sp:List Int)(as:List (List Int)):Prop
 | mk (_:H hn=some (.ins CH x.dx (SS x.h x.a1 x.a2 x.n x.a3 x.a4 u pl))) (_:H x.a1=some (.lst (outs.map V.int))) (_:H x.a2=some (.lst cv)) (_:H x.a3=some (.dT pk)) (_:H x.a4=some (.dT dk)) (_:NetE CN H x.n x.np ts sp as) (_:x.a3≠x.a4) (_:x.a1≠x.a2) (_:x.a1∉x.np) (_:x.a2∉x.np) (_:x.n≠hn):HNE CN CH H hn x u pl outs cv pk dk ts sp as
theorem HNE.same{x:HNAt}{u:Int}{sp:List Int}(h:HNE CN CH H hn x u pl outs cv pk dk ts sp as)(s:Same H H'):HNE CN CH H' hn x u pl outs cv pk dk ts sp as:=by
 obtain⟨e0,e1,e2,e3,e4,e5,d1,d2,d3,d4,d5⟩:=h;exact⟨s _ _ e0,s _ _ e1,s _ _ e2,s _ _ e3,s _ _ e4,e5.same s,d1,d2,d3,d4,d5⟩
theorem BO{n:Addr}{fp:List Addr}{sp:List Int}(x:NetE C H n fp ts sp as){b:Addr}(hb:b∈fp):∃xs,H b=some (.lst xs):=by
 obtain⟨dx,q1,q2,q3,rs,ef,e0,e1,e2,e3,e4,e5⟩:=x;subst ef;rcases az.mp hb with rfl|hb
 .exact⟨_,e1⟩
 .rcases az.mp hb with rfl|hb
  .exact⟨_,e2⟩
  .rcases az.mp hb with rfl|hb
   .exact⟨_,e3⟩
   .rcases gT e4 hb with⟨a,_,ha⟩;exact⟨_,ha⟩
theorem HNE.net{x:HNAt}{u:Int}{sp:List Int}(h:HNE CN CH H hn x u pl outs cv pk dk ts sp as)(f:Frm x.np H H')(ne:NetE CN H' x.n x.np ts' sp' as'):HNE CN CH H' hn x u pl outs cv pk dk ts' sp' as':=by
 obtain⟨e0,e1,e2,e3,e4,e5,d1,d2,d3,d4,d5⟩:=h;have k:∀b u,H b=some u->(∀xs,u≠ .lst xs)->b∉x.np:=λb u e hu z=>by
  rcases BO e5 z with⟨xs,hx⟩;rw[hx]at e;exact hu xs (dg e).symm
 exact⟨f _ _ e0 (k _ _ e0 λ_ z=>nomatch z),f _ _ e1 d3,f _ _ e2 d4,f _ _ e3 (k _ _ e3 λ_ z=>nomatch z),f _ _ e4 (k _ _ e4 λ_ z=>nomatch z),ne,d1,d2,d3,d4,d5⟩
theorem HNE.net2{x:HNAt}{np':List Addr}{u:Int}{sp:List Int}(h:HNE CN CH H hn x u pl outs cv pk dk ts sp as)(f:Frm x.np H H')(hn':∀b∈np',b∈x.np∨H b=none)(ne:NetE CN H' x.n np' ts' sp' as'):HNE CN CH H' hn { x with np:=np' } u pl outs cv pk dk ts' sp' as':=by
 obtain⟨e0,e1,e2,e3,e4,e5,d1,d2,d3,d4,d5⟩:=h;have k:∀b u,H b=some u->(∀xs,u≠ .lst xs)->b∉x.np:=λb u e hu z=>by
  rcases BO e5 z with⟨xs,hx⟩;rw[hx]at e;exact hu xs (dg e).symm
 have k2:∀b u,H b=some u->b∉x.np->b∉np':=λb u e hb z=>by
  rcases hn' b z with h|h
  .exact hb h
  .rw[e]at h;cases h
 exact⟨f _ _ e0 (k _ _ e0 λ_ z=>nomatch z),f _ _ e1 d3,f _ _ e2 d4,f _ _ e3 (k _ _ e3 λ_ z=>nomatch z),f _ _ e4 (k _ _ e4 λ_ z=>nomatch z),ne,d1,d2,k2 _ _ e1 d3,k2 _ _ e2 d4,d5⟩
inductive BN(CN CH:Addr)(vs:List V)(H:Hp)(Q:VK)(E:XK):Prop
 | mk (hn:Addr) (z:Str) (v:Int) (x:HNAt) (u pl:Int) (outs:List Int) (cv:List V) (pk dk:List (List Key×V)) (ts sp:List Int) (as:List (List Int)) (_:vs=[.ref hn,.str z]) (_:HNE CN CH H hn x u pl outs cv pk dk ts sp as) (_:aW pk [.inr z,.inl u]=some (.int v)) (_:∀H',Same H H'->Q (.int v) H'):BN CN CH vs H Q E
theorem z5(m:M K mg):FnOk P w K mg base CX0 1 m.jX m.jU.d ["self","room"] (BN m.aV m.aQ):=by
 refine m.jU.F.ok aHr ?_ ?_;tm_at"h";tm_at"g";rcases h with⟨hn,z,v,x,u,pl,outs,cv,pk,dk,ts,sp,as,rfl,hh,hv,k⟩;tm_at"f";have nd:=aHr.nd;tm_at"d";have aHb:=m.bM;refine⟨_,(aE (aS (dL hu1 (aH (pv 0) rfl) (cZ (aA (pv 1) (aA (aH (pv 0) rfl) aC))) (λ_ _=>rfl)))),?_⟩;refine aJ (σ:=[some (.ref hn),some (.str z)]) rfl ?_;tm_at"e";obtain⟨e0,e1,e2,e3,e4,e5,d1,d2,d3,d4,d5⟩:=hh;tm_at"a";rename_i q H1 n1 S1 f1;exact aAw [.inr z,.inl u] (.inl (S1 _ _ e3)) f1 hv (k _ S1)
theorem i6(m:M K mg):Mc P w K mg base m.aQ "now_in" 1 (BN m.aV m.aQ):=⟨_,_,_,m.bM.ic.cl,m.AT,m.jU.b,z5 m⟩
inductive AW(CN CH CHo:Addr)(D:bE)(vs:List V)(H:Hp)(Q:VK)(E:XK):Prop
 | mk (hn:Addr) (dv:V) (d:aF) (tn sn:Nat) (f l:Int) (rz ps:List (Str×Int)) (ds:List aF) (H0:Hp) (x:HNAt) (u pl:Int) (outs:List Int) (cv:List V) (pk dk:List (List Key×V)) (ts sp:List Int) (as:List (List Int)) (_:vs=[.ref hn,dv,.int (tn:Int)]) (_:HNE CN CH H hn x u pl outs cv pk dk ts sp as) (_:bO CHo D H0 x.h f l rz ps ds) (_:Same H0 H) (_:(∀b∈x.fp hn,H0 b=none)) (_:(ds.map (·.1)).Nodup) (_:d∈ds) (_:D.at' H dv d) (_:f<=u) (_:u<l) (_:0<=f) (_:aW pk [.inr d.2.1,.inl u]=some (.int (sn:Int))) (_:sn<as.length) (_:tn<as.length) (_:ts.length<90000) (_:sp.length<90000) (_:(∀a∈as,a.length<90000)) (_:dk.length<90000) (_:∀H',Frm (x.fp hn) H H'->HNE CN CH H' hn x u pl outs cv pk (cB dk [.inl u,.inr d.1] (.int (ts.length:Int))) (ts++[(tn:Int),(sn:Int)]) (sp++[cU f l d u,0]) (fR (fR as sn (ts.length:Int)) tn ((ts.length:Int)+1))->Q .non H'):AW CN CH CHo D vs H Q E
theorem wH(m:M K mg):FnOk P w K mg base CX0 8 m.iK m.iL.d ["self","door","target"] (AW m.aV m.aQ m.aM (aP P w K mg base (some 4))):=by
 refine m.iL.F.ok aHn ?_ ?_;tm_at"h";tm_at"g";rcases h with⟨hn,dv,d,tn,sn,f,l,rz,ps,ds,H0,x,u,pl,outs,cv,pk,dk,ts,sp,as,rfl,hh,ho,hS,hfr,ndd,hd,hdv,hu0',hu1',hf0,hpv,hsn,htn,hl1,hl2,hl3,hl4,k⟩;tm_at"f";have nd:=aHn.nd;tm_at"d";have aHb:=m.bM;refine⟨_,(aB (aO (i:=3) nd rfl (by tm_at"b") (cQ 6 hr (aH (pv 0) rfl) (aA (aH (pv 1) rfl) (aA (aH (pv 0) rfl) aC))))
  (aE (gB hu1 (aH (pv 0) rfl) (cZ (aA (aH (pv 0) rfl) (aA (aH (pv 1) rfl) aC))) (cQ 1 hr (aH (pv 0) rfl) (aA (cQ 1 hr (pv 0) (aA (aH (pv 1) rfl) aC)) (aA (pv 2) (aA (pv 3) aC)))) rfl))),?_⟩
 refine aJ (σ:=[some (.ref hn),some (dv),some (.int (tn:Int)),none]) rfl ?_;tm_at"e";obtain⟨e0,e1,e2,e3,e4,e5,d1,d2,d3,d4,d5⟩:=hh;obtain⟨dn,dst,de,dlt⟩:=d;obtain⟨q,C9,dx',fs,fp,rfl,hq,dcC,l1,l2,l3,l4,l5,mcE,hfp,hlt⟩:=DoorAt.ex hdv;have M1:= @yQ P w K mg base m;have M2:= @i6 P w K mg base m;have M3:= @gJ P w K mg base m;have hqH:=hq;obtain⟨hdx,hqs,hqp,hqd,hnk,hkvs,ho1,_⟩:=ho.ex;have ho1H:=hS _ _ ho1;obtain⟨ndx,n1',n2',n3',nrs,nef,ne0,_⟩:=id e5;have hh:HNE m.aV m.aQ H hn x u pl outs cv pk dk ts sp as:=⟨e0,e1,e2,e3,e4,e5,d1,d2,d3,d4,d5⟩
 tm_at"a";refine Q8 (d:=(dn,dst,de,dlt)) (sP ho hS) ndd hd hf0 λH1 S1=> ?_;have g0:=S1 _ _ e0;have gq:=S1 _ _ hqH;have gn:=S1 _ _ ne0;tm_at"a";refine⟨hn,dst,(sn:Int),x,u,pl,outs,cv,pk,dk,ts,sp,as,rfl,hh.same S1,hpv,λH2 S2=> ?_⟩;have s2:=S1.trans S2;have hh2:=hh.same s2;tm_at"a";refine⟨x.n,sn,tn,cU f l (dn,dst,de,dlt) u,x.np,ts,sp,as,rfl,e5.same s2,hsn,htn,by lia,by lia,λa ha=>by have:=hl3 a ha;lia,λH3 fr3 ne3=> ?_⟩;have hh3:=hh2.net fr3 ne3;obtain⟨i0,i1,i2,i3,i4,i5,_⟩:=id hh3;have hq3:H3 q=some (.ins C9 dx' fs):=fr3 _ _ (S2 _ _ gq) λz=>by
  rcases BO (e5.same s2) z with⟨xs,hx⟩;rw[S2 _ _ gq]at hx;cases hx
 tm_at"a";rename_i r H4 n4 S4 f4;refine xO [.inl u,.inr dn] (S4 _ _ i4) f4 (by rw[sizeLine_eq];lia) λH5 B5 f5=> ?_;have hb:∀b v,H3 b=some v->b≠x.a4->H5 b=some v:=λb v e hb=>B5 _ _ (S4 _ _ e) hb;have nl:∀b xs,H3 b=some (.lst xs)->b≠x.a4:=λb xs e z=>by rw[z,i4]at e;cases e
 refine k H5 (λb v e hbf=> ?_) ⟨hb _ _ i0 (λz=>by rw[z,i4]at i0;cases i0),hb _ _ i1 (nl _ _ i1),hb _ _ i2 (nl _ _ i2),hb _ _ i3 d1,f5,?_,d1,d2,d3,d4,d5⟩
 .have h4:b≠x.a4:=λz=>hbf (by unfold HNAt.fp;rw[z];exact ab _ (ab _ (ab _ (ab _ (.head _)))));refine hb _ _ (fr3 _ _ (s2 _ _ e) λz=>hbf ?_) h4;unfold HNAt.fp;exact ab _ (ab _ (ab _ (ab _ (ab _ z))))
 .obtain⟨c0,c1,c2,c3,crs,cef,y0,y1,y2,y3,y4,y5⟩:=ne3;exact⟨c0,c1,c2,c3,crs,cef,hb _ _ y0 (λz=>by rw[z,i4]at y0;cases y0),hb _ _ y1 (nl _ _ y1),hb _ _ y2 (nl _ _ y2),hb _ _ y3 (nl _ _ y3),eJ y4 λb c _ h=>hb _ _ h (nl _ _ h),y5⟩
theorem mD(m:M K mg):Mc P w K mg base m.aQ "add_door" 8 (AW m.aV m.aQ m.aM (aP P w K mg base (some 4))):=⟨_,_,_,m.bM.ic.cl,m.yF,m.iL.b,wH m⟩
theorem kS{a b:List Int}{k:Nat}(h:k<a.length):at0 (a++b) k=at0 a k:=by
 unfold at0;rw[au,au,ft h]
theorem lK{a b:List Int}{k:Nat}(h:a.length<=k):at0 (a++b) k=at0 b (k - a.length):=by
 unfold at0;rw[au,au,gh h]
theorem aBM{a:List Int}{k:Nat}(h:a.length<=k):at0 a k=0:=by
 unfold at0;rw[au,lz h];rfl
theorem aCX{sp:List Int}(ht:ts.length=2 * n)(hs:sp.length=2 * n)(a b c v:Int):cW (ts++[a,b]) (sp++[c,0]) v (n+1)=cW ts sp v n:=by
 show cW (ts++[a,b]) (sp++[c,0]) v n+_=_;have e:at0 (sp++[c,0]) (2 * n+1)=0:=by rw[lK (by lia),show 2 * n+1 - sp.length=1 by lia];rfl
 rw[e,E4 (ts':=ts) (sp':=sp) n λm hm=>⟨kS (by lia),kS (by lia),kS (by lia)⟩]
 split<;>split<;>lia
theorem aEy{sp:List Int}(h:∀m,0<=at0 sp m){c:Int}(hc:0<=c)(m:Nat):0<=at0 (sp++[c,0]) m:=by
 by_cases h1:m<sp.length
 .rw[kS h1];exact h m
 .rw[lK (by lia)]
  match hk:m - sp.length with
  | 0=>exact hc
  | 1=>exact gc _
  | k+2=>exact gc _
theorem GP(as:List (List Int))(i j:Nat)(x:Int):(fR as i x)[j]? =if i=j then (as[j]?).map (·++[x]) else as[j]? :=by
 unfold fR;rw[yc]
 by_cases h:i=j
 .rw[if_pos h];cases as[j]? with
  | none=>rfl
  | some a=>show some (if i=j then a++[x] else a)=some (a++[x]);rw[if_pos h]
 .rw[if_neg h];cases as[j]? with
  | none=>rfl
  | some a=>show some (if i=j then a++[x] else a)=some a;rw[if_neg h]
theorem NetOk.node{sp:List Int}(x:NetOk ts sp as)(h:as.length+1<100000):NetOk ts sp (as++[[]]):=by
 refine⟨x.len,x.eq,λk hk=> ?_,λu a ha y hy=> ?_,λk u a hk hu ha=> ?_,by rw[ao];exact h,x.l1⟩
 .rcases x.nd k hk with⟨v,h1,h2⟩;exact⟨v,h1,by rw[ao];lia⟩
 .by_cases hl:u<as.length
  .rw[ft hl]at ha;exact x.inn u a ha y hy
  .rw[gh (by lia)]at ha;have:a=[]:=by
    cases hk:u - as.length with
    | zero=>rw[hk]at ha;exact(dg ha).symm
    | succ m=>rw[hk]at ha;simp at ha
   rw[this]at hy;exact nomatch hy
 .by_cases hl:u<as.length
  .rw[ft hl]at ha;exact x.all k u a hk hu ha
  .rcases x.len with⟨n,hn⟩;obtain⟨v,h1,h2⟩:=x.nd (xr k) (by rw[hn]at hk ⊢;exact FE hk);rw[hu]at h1
   lia
theorem NetOk.arc{sp:List Int}(x:NetOk ts sp as){s t:Nat}(hs:s<as.length)(ht:t<as.length)(hl:ts.length+2<100000)(c:Int):NetOk (ts++[(t:Int),(s:Int)]) (sp++[c,0]) (fR (fR as s (ts.length:Int)) t ((ts.length:Int)+1)):=by
 rcases x.len with⟨n,hn⟩;have h0:at0 (ts++[(t:Int),(s:Int)]) (2 * n)=(t:Int):=by rw[lK (by lia),show 2 * n - ts.length=0 by lia];rfl
 have h1:at0 (ts++[(t:Int),(s:Int)]) (2 * n+1)=(s:Int):=by rw[lK (by lia),show 2 * n+1 - ts.length=1 by lia];rfl
 have x0:xr (2 * n)=2 * n+1:=by unfold xr;rw[if_pos (by lia)]
 have x1:xr (2 * n+1)=2 * n:=by unfold xr;rw[if_neg (by lia)];lia
 have hlen:(ts++[(t:Int),(s:Int)]).length=2 * (n+1):=by rw[ao];show ts.length+2=_;lia
 have hold:∀k,k<ts.length->at0 (ts++[(t:Int),(s:Int)]) k=at0 ts k:=λk hk=>kS hk;have hxo:∀k,k<ts.length->at0 (ts++[(t:Int),(s:Int)]) (xr k)=at0 ts (xr k):=λk hk=>hold _ (by rw[hn]at hk ⊢;exact FE hk);have hget:∀u,(fR (fR as s (ts.length:Int)) t ((ts.length:Int)+1))[u]? =(as[u]?).map λa=>(a++if s=u then [(ts.length:Int)] else [])++if t=u then [(ts.length:Int)+1] else []:=λu=>by
  rw[GP,GP];cases as[u]? with
  | none=>split<;>split<;>rfl
  | some a =>
   by_cases h2:t=u
   .by_cases h3:s=u
    .simp[h2,h3]
    .simp[h2,h3]
   .by_cases h3:s=u
    .simp[h2,h3]
    .simp[h2,h3]
 have hpl:(fR (fR as s (ts.length:Int)) t ((ts.length:Int)+1)).length=as.length:=by rw[r6,r6]
 refine⟨⟨n+1,hlen⟩,by rw[ao,ao,x.eq];rfl,λk hk=> ?_,λu a ha y hy=> ?_,λk u a hk hu ha=> ?_,by rw[hpl];exact x.l0,by rw[hlen];lia⟩
 .rw[hpl]
  by_cases hk':k<ts.length
  .rw[hold k hk'];exact x.nd k hk'
  .rw[hlen]at hk
   by_cases e:k=2 * n
   .rw[e,h0];exact⟨t,rfl,ht⟩
   .rw[show k=2 * n+1 by lia,h1];exact⟨s,rfl,hs⟩
 .rw[hget]at ha;rcases cj.mp ha with⟨b,hb,rfl⟩;rcases bh.mp hy with hy|hy
  .rcases bh.mp hy with hy|hy
   .obtain⟨k,rfl,hk,hx⟩:=x.inn u b hb y hy;exact⟨k,rfl,by rw[ao];lia,by rw[hxo k hk];exact hx⟩
   .by_cases h3:s=u
    .rw[if_pos h3]at hy;refine⟨2 * n,by have:=bz.mp hy;lia,by rw[hlen];lia,?_⟩;rw[x0,h1,h3]
    .rw[if_neg h3]at hy;exact nomatch hy
  .by_cases h2:t=u
   .rw[if_pos h2]at hy;refine⟨2 * n+1,by have:=bz.mp hy;lia,by rw[hlen];lia,?_⟩;rw[x1,h0,h2]
   .rw[if_neg h2]at hy;exact nomatch hy
 .rw[hget]at ha;obtain⟨b,hb,rfl⟩:=cj.mp ha
  by_cases hk':k<ts.length
  .rw[hxo k hk']at hu;exact fj _ (fj _ (x.all k u b hk' hu hb))
  .rw[hlen]at hk
   by_cases e:k=2 * n
   .subst e;rw[x0,h1]at hu;rw[if_pos (show s=u by lia),hn];exact fj _ (bp _ (.head _))
   .have e:k=2 * n+1:=by lia
    subst e;rw[x1,h0]at hu;rw[if_pos (show t=u by lia),hn];exact bp _ (.head _)
abbrev Arc:=Nat×Nat×Int
def cG:List Arc->List Int
 | []=>[]
 | a::l=>(a.2.1:Int)::(a.1:Int)::cG l
theorem iX:∀L:List Arc,(cG L).length=2 * L.length
 | []=>rfl
 | a::l=>by
  show (cG l).length+1+1=_;rw[iX l,bb];lia
theorem o0(a:Arc):∀L:List Arc,cG (L++[a])=cG L++[(a.2.1:Int),(a.1:Int)]
 | []=>rfl
 | b::l=>by
  show _::_::cG (l++[a])=_::_::(cG l++_);rw[o0 a l]
theorem BM:∀{L:List Arc}{j:Nat}{a:Arc},L[j]? =some a->at0 (cG L) (2 * j)=(a.2.1:Int)/\at0 (cG L) (2 * j+1)=(a.1:Int)
 | [],_,_,h=>by simp at h
 | b::l,0,a,h=>by
  have e:b=a:=by simpa using h
  subst e;exact⟨rfl,rfl⟩
 | b::l,j+1,a,h=>by
  have ih:=BM (L:=l) (j:=j) (a:=a) (by simpa using h);exact ih
def CapOk(sp:List Int)(L:List Arc):Prop:=∀(j:Nat) (a:Arc),L[j]? =some a->at0 sp (2 * j)+at0 sp (2 * j+1)=a.2.2
theorem CapOk.snoc{sp:List Int}{L:List Arc}(h:CapOk sp L)(hl:sp.length=2 * L.length)(a:Arc):CapOk (sp++[a.2.2,0]) (L++[a]):=λj b hb=>by
 by_cases hj:j<L.length
 .rw[ft hj]at hb;rw[kS (by lia),kS (by lia)];exact h j b hb
 .have he:j=L.length:=by
   have:=(av.mp hb).1;rw[ao]at this;have:j<L.length+1:=this
   lia
  subst he;rw[gh (aq _),Nat.sub_self]at hb;have hb:a=b:=dg hb;rw[lK (by lia),lK (by lia),show 2 * L.length - sp.length=0 by lia,show 2 * L.length+1 - sp.length=1 by lia,←hb];show a.2.2+0=_
  lia
theorem CapOk.sent{sp:List Int}{s t x:Int}{L:List Arc}(h:CapOk sp L)(y:Sent ts sp sp' n s t x):CapOk sp' L:=λj a ha=>by
 have h1:=y.cap (2 * j);rw[show xr (2 * j)=2 * j+1 by unfold xr;rw[if_pos (by lia)]]at h1;rw[h1];exact h j a ha
def gI(rs:List Int)(a:Arc):Int:=if (a.1:Int)∈rs/\(a.2.1:Int)∉rs then a.2.2 else 0
theorem uJ{sp rs:List Int}{L:List Arc}(h:CapOk sp L):∀n,n<=L.length->xA (cG L) sp rs n=((L.take n).map (gI rs)).sum
 | 0,_=>rfl
 | n+1,hn=>by
  obtain⟨a,ha⟩:∃a,L[n]? =some a:=⟨_,ah (by lia)⟩
  rcases BM ha with⟨h1,h2⟩;rw[uL,uJ h n (by lia),aU ha,aw,iu,h1,h2,h n a ha];show _+_=_+(gI rs a+0);unfold gI;rw[ja]
inductive t8(CN CH:Addr)(vs:List V)(H:Hp)(Q:VK)(E:XK):Prop
 | mk (hn:Addr) (x:HNAt) (u pl:Int) (outs:List Int) (cv:List V) (pk dk:List (List Key×V)) (ts sp:List Int) (as:List (List Int)) (_:vs=[.ref hn]) (_:HNE CN CH H hn x u pl outs cv pk dk ts sp as) (_:NetOk ts sp as) (_:0<as.length) (_:pk.length<64) (_:(∀e∈pk,∃(z:Str) (t v:Int),e=([.inr z,.inl t],.int v))) (_:∀q vs H',H q=none->Same H H'->H' q=some (.lst vs)->Q (.ref q) H'):t8 CN CH vs H Q E
theorem qW(m:M K mg):FnOk P w K mg base CX0 2 m.eV m.eW.d ["self"] (t8 m.aV m.aQ):=by
 refine m.eW.F.ok aHj ?_ ?_;tm_at"h";tm_at"g";rcases h with⟨hn,x,u,pl,outs,cv,pk,dk,ts,sp,as,rfl,hh,ok,ha0,hp64,hpk,k⟩;tm_at"f";have nd:=aHj.nd;tm_at"d";have aHb:=m.bM;refine⟨_,(aB (aO (i:=1) nd rfl (by tm_at"b") (cQ 1 hr (aH (pv 0) rfl) (aA (aH (pv 0) rfl) aC)))
  (aE (aS (bL zQ rfl m.yK uE (aA (GZ (dG (N:=["pair","node","ways"]) (nl:=2) (ci:=[1]) rfl (blk (s.heap.objs.size+1) rfl rfl rfl (by kernel_rfl)) (AB (aH (pv 0) rfl)) (λ_ _ _ _=>(nM (K:=K) (n:=2) rfl (aX (aL (i:=0) (show (["pair","node","ways"]:List Str).Nodup by decide +kernel) rfl (by tm_at"b")) (aX (aL (i:=1) (show (["pair","node","ways"]:List Str).Nodup by decide +kernel) rfl (by tm_at"b")) dY)))) (λ_ _ _ _=>(r9 (sM (FI hu1 (pv 1) (pv 2)) (by with_unfolding_all rfl)))) (λ_ _ _ _=>(pv 0)))) aC))))),?_⟩
 refine aJ (σ:=[some (.ref hn),none]) rfl ?_;tm_at"e";obtain⟨e0,e1,e2,e3,e4,e5,d1,d2,d3,d4,d5⟩:=id hh;have M1:= @sS P w K mg base m;obtain⟨ndx,n1',n2',n3',nrs,nef,ne0,_⟩:=id e5;tm_at"a";refine⟨x.n,0,x.np,ts,sp,as,rfl,e5,ok,ha0,λd ws H1 n1 S1 f1 w c1=> ?_⟩;have g0:=S1 _ _ e0;have g3:=S1 _ _ e3;tm_at"a";refine DX g3 (λ_ _ z=>nomatch z) ?_;tm_at"a";refine z7 g3 λo H2 B2 f2=> ?_;have hda:d≠x.a3:=λz=>by rw[z,e3]at n1;cases n1
 have fd:=B2 _ _ f1 hda;refine MZ (λe=>match e.2 with| .int v=>decide (v∈((0:Nat):Int)::ws.map (·.1))|_=>false) (λe y H=>∃q,y= .ref q/\H q=some (.tup (e.1.map kV))) (λ_ _ _ _ ⟨q,h1,h2⟩ s=>⟨q,h1,s _ _ h2⟩) (by rw[sizeLine_eq];lia) (rest:=[some (.ref d)]) (by rfl) f2 ?_ ?_ ?_
 .rintro ⟨kk,v⟩ H3 q hm s3 hq R hR;obtain⟨z,t,v',e⟩:=hpk _ hm;cases e;tm_at"a";refine QA (.inl (s3 _ _ fd)) ?_;rw[yA];tm_at"a";exact hR _ (Same.refl _)
 .rintro ⟨kk,v⟩ H3 q hm - s3 hq R hR;tm_at"a";exact hR _ _ ⟨q,rfl,hq⟩ (Same.refl _)
 intro ys H3 s3 hys;tm_at"a";rename_i p4 H4 n4 S4 f4;refine uB (S4 _ _ (s3 _ _ f2)) λH5 B5 f5=> ?_;have hp4:p4≠x.a3:=λz=>by rw[z,s3 _ _ f2]at n4;cases n4
 have s5:Same H H5:=λb v e=>by
  by_cases hb:b=x.a3
  .rw[hb]at e ⊢;rw[e3]at e;rw[f5,←e]
  .exact B5 _ _ (S4 _ _ (s3 _ _ (B2 _ _ (S1 _ _ e) hb))) hb
 have kr:∀{es:List (List Key×V)}{zs:List V},bu (λe y=>∃q,y= .ref q/\H3 q=some (.tup (e.1.map kV))) es zs->KRows H5 zs (es.map (·.1)):=λ{es zs} h=>by
  induction h with
  | nil=>exact .nil
  | cons h t ih =>
   rcases h with⟨q,e,hq⟩;exact .cons ⟨q,e,B5 _ _ (S4 _ _ hq) λz=>by rw[z,s3 _ _ f2]at hq;cases hq⟩ ih
 tm_at"a";refine LA (SqL.of (B5 _ _ f4 hp4)) (kr hys) ?_ (sh:=[fL (.inr ⟨#[]⟩),fL (.inl 0)]) (λrr hrr=> ?_) (λz=>nomatch z) λl2 ws2 H6 n6 S6 f6 _=> ?_
 .rw[←bx hys];exact uc (du _ _) hp64
 .rcases ag.mp hrr with⟨e,he,rfl⟩;obtain⟨z,t,v',rfl⟩:=hpk e (cg.mp he).1;rfl
 .tm_at"a";exact k l2 ws2 H6 (by
   cases h:H l2 with
   | none=>rfl
   | some v=>rw[s5 _ _ h]at n6;cases n6) (s5.trans S6) f6
theorem qX(m:M K mg):Mc P w K mg base m.aQ "reached_pairs" 2 (t8 m.aV m.aQ):=⟨_,_,_,m.bM.ic.cl,m.qY,m.eW.b,qW m⟩
theorem MQ{i:Nat}{x:Int}{N:Nat}(h:∀a∈as,a.length<N):∀a∈fR as i x,a.length<N+1:=λa ha=>by
 rcases fg.mp ha with⟨j,hj⟩;rw[GP]at hj
 by_cases e:i=j
 .rw[if_pos e]at hj;rcases cj.mp hj with⟨b,hb,rfl⟩;have:=h b (ay hb);rw[ao];show b.length+1<_
  lia
 .rw[if_neg e]at hj;have:=h a (ay hj)
  lia
structure NS(L:List Arc)(sp:List Int)(as:List (List Int))(N:Nat):Prop where
 ok:NetOk (cG L) sp as
 cap:CapOk sp L
 nn:∀m,0<=at0 sp m
 len:as.length=N
 aa:∀a∈as,a.length<=2 * L.length
def cH(L:List Arc)(sp:List Int)(v:Int):Int:=cW (cG L) sp v L.length
theorem NS.splen{L:List Arc}{sp:List Int}{N:Nat}(x:NS L sp as N):sp.length=2 * L.length:=by rw[x.ok.eq,iX]
theorem NS.node{L:List Arc}{sp:List Int}{N:Nat}(x:NS L sp as N)(h:N+1<100000):NS L sp (as++[[]]) (N+1):=by
 have hl:=x.len;refine⟨x.ok.node (by lia),x.cap,x.nn,by rw[ao,hl];rfl,λa ha=> ?_⟩;rcases bh.mp ha with h|h
 .exact x.aa a h
 .rw[bz.mp h];exact et _
theorem NS.arc{L:List Arc}{sp:List Int}{N:Nat}(x:NS L sp as N){s t:Nat}{c:Int}(hs:s<N)(ht:t<N)(hc:0<=c)(hL:L.length<40000):NS (L++[(s,t,c)]) (sp++[c,0]) (fR (fR as s ((cG L).length:Int)) t (((cG L).length:Int)+1)) N:=by
 have hl:=x.len;have ht':=iX L;refine⟨?_,x.cap.snoc x.splen (s,t,c),aEy x.nn hc,by rw[r6,r6];exact hl,λa ha=> ?_⟩
 .rw[o0];exact x.ok.arc (s:=s) (t:=t) (by lia) (by lia) (by lia) c
 .have h:=MQ (MQ (N:=2 * L.length+1) (λa ha=>Nat.lt_succ_of_le (x.aa a ha))) a ha;rw[ao];show _<=2 * (_+1)
  lia
theorem NS.exc{L:List Arc}{sp:List Int}{N:Nat}(x:NS L sp as N)(s t:Nat)(c v:Int):cH (L++[(s,t,c)]) (sp++[c,0]) v=cH L sp v:=by
 unfold cH;rw[o0,ao];exact aCX (iX L) x.splen _ _ _ v
theorem NS.sent{L:List Arc}{sp:List Int}{N:Nat}{s t y:Int}(x:NS L sp as N)(z:Sent (cG L) sp sp' L.length s t y):NS L sp' as N:=⟨x.ok.sp z.len,x.cap.sent z,z.nn,x.len,x.aa⟩
structure HC(CHo:Addr)(D:bE)(H:Hp)(h:Addr)(f l:Int)(rz ps:List (Str×Int))(ds:List aF):Prop where
 at':bO CHo D H h f l rz ps ds
 nr:(rz.map (·.1)).Nodup
 nd:(ds.map (·.1)).Nodup
 din:∀d∈ds,b7 (rz.map (·.1)) d
 lr:rz.length<=4
 ld:ds.length<=7
 f0:0<=f
 fl:f<=l
 fl7:l - f<=7
 l1:l<1000000000000
 let0:∀d∈ds,∀u,0<=u->0<=cU f l d u
 rz0:∀e∈rz,0<=e.2
 ps0:∀z,0<=dA ps z
theorem HC.same{D:bE}{h:Addr}{ds:List aF}(x:HC CHo D H h f l rz ps ds)(s:Same H H'):HC CHo D H' h f l rz ps ds:=⟨sP x.at' s,x.nr,x.nd,x.din,x.lr,x.ld,x.f0,x.fl,x.fl7,x.l1,x.let0,x.rz0,x.ps0⟩
inductive HNS(CN CH CHo:Addr)(D:bE)(H0 H:Hp)(hn:Addr)(x:HNAt)(f l:Int)(rz ps:List (Str×Int))(ds:List aF)(u pl:Int)(outs:List Int)(cv:List V)(pk dk:List (List Key×V))(L:List Arc)(sp:List Int)(N:Nat):Prop
 | mk (np:List Addr) (as:List (List Int)) (_:HNE CN CH H hn { x with np:=np } u pl outs cv pk dk (cG L) sp as) (_:Same H0 H) (_:∀b∈HNAt.fp { x with np:=np } hn,H0 b=none) (_:NS L sp as N) (_:HC CHo D H0 x.h f l rz ps ds):HNS CN CH CHo D H0 H hn x f l rz ps ds u pl outs cv pk dk L sp N
theorem NetE.on{n:Addr}{fp:List Addr}{sp:List Int}(x:NetE C H n fp ts sp as)(s:SameBut p H H')(h1:n≠p)(h2:p∉fp):NetE C H' n fp ts sp as:=by
 obtain⟨dx,q1,q2,q3,rs,ef,e0,e1,e2,e3,e4,e5⟩:=x;subst ef;have k:∀b∈q1::q2::q3::rs,b≠p:=λb hb z=>h2 (z▸hb);exact⟨dx,q1,q2,q3,rs,rfl,s _ _ e0 h1,s _ _ e1 (k _ (.head _)),s _ _ e2 (k _ (ab _ (.head _))),s _ _ e3 (k _ (ab _ (ab _ (.head _)))),eJ e4 λb c hb h=>s _ _ h (k _ (ab _ (ab _ (ab _ hb)))),e5⟩
section
variable {D:bE}{H0:Hp}{x:HNAt}{ds:List aF}{u:Int}{pk' dk':List (List Key×V)}{L L':List Arc}{sp:List Int}{N N':Nat}
theorem HNS.same(y:HNS CN CH CHo D H0 H hn x f l rz ps ds u pl outs cv pk dk L sp N)(s:Same H H'):HNS CN CH CHo D H0 H' hn x f l rz ps ds u pl outs cv pk dk L sp N:=by
 obtain⟨np,as,e1,e2,e3,e4,e5⟩:=y;exact⟨np,as,e1.same s,e2.trans s,e3,e4,e5⟩
theorem HNS.hc(y:HNS CN CH CHo D H0 H hn x f l rz ps ds u pl outs cv pk dk L sp N):HC CHo D H0 x.h f l rz ps ds:=by
 obtain⟨np,as,e1,e2,e3,e4,e5⟩:=y;exact e5
theorem HNS.sm(y:HNS CN CH CHo D H0 H hn x f l rz ps ds u pl outs cv pk dk L sp N):Same H0 H:=by
 obtain⟨np,as,e1,e2,e3,e4,e5⟩:=y;exact e2
theorem HNS.hc'(y:HNS CN CH CHo D H0 H hn x f l rz ps ds u pl outs cv pk dk L sp N):HC CHo D H x.h f l rz ps ds:=y.hc.same y.sm
theorem HNS.ns(y:HNS CN CH CHo D H0 H hn x f l rz ps ds u pl outs cv pk dk L sp N):∃as,NS L sp as N:=by
 obtain⟨np,as,e1,e2,e3,e4,e5⟩:=y;exact⟨as,e4⟩
theorem HNS.exc(y:HNS CN CH CHo D H0 H hn x f l rz ps ds u pl outs cv pk dk L sp N)(s t:Nat)(c v:Int):cH (L++[(s,t,c)]) (sp++[c,0]) v=cH L sp v:=by
 rcases y.ns with⟨as,z⟩;exact z.exc s t c v
theorem HNE.none{x:HNAt}(y:HNE CN CH H hn x u pl outs cv pk dk ts sp as){b:Addr}(hb:b∈x.fp hn):H b≠none:=by
 obtain⟨i0,i1,i2,i3,i4,i5,_⟩:=y;intro z;rcases az.mp hb with rfl|hb
 .rw[i0]at z;cases z
 .rcases az.mp hb with rfl|hb
  .rw[i1]at z;cases z
  .rcases az.mp hb with rfl|hb
   .rw[i2]at z;cases z
   .rcases az.mp hb with rfl|hb
    .rw[i3]at z;cases z
    .rcases az.mp hb with rfl|hb
     .rw[i4]at z;cases z
     .exact wS i5 hb z
theorem HNS.keep(y:HNS CN CH CHo D H0 H hn x f l rz ps ds u pl outs cv pk dk L sp N)(s:Same H H'){o:HO}(hp:H p=none)(hp':H' p=some o):H0 p=none/\Same H0 (upd H0 p o)/\HNS CN CH CHo D (upd H0 p o) H' hn x f l rz ps ds u pl outs cv pk dk L sp N:=by
 obtain⟨np,as,e1,e2,e3,e4,e5⟩:=y;have hpf:p∉HNAt.fp { x with np:=np } hn:=λz=>e1.none z hp;have hn0:H0 p=none:=by
  cases hq:H0 p with
  | none=>rfl
  | some v=>rw[e2 _ _ hq]at hp;cases hp
 have s01:Same H0 (upd H0 p o):=L2.same_upd hn0;refine⟨hn0,s01,np,as,e1.same s,λb v hb=> ?_,λb hb=> ?_,e4,e5.same s01⟩
 .by_cases hbp:b=p
  .rw[hbp]at hb ⊢;rw[aR]at hb;rw[hp',←hb]
  .rw[aI hbp]at hb;exact s _ _ (e2 _ _ hb)
 .rw[aI (λz:b=p=>hpf (by rw[←z];exact hb))];exact e3 b hb
theorem HNS.back(y:HNS CN CH CHo D H1 H' hn x f l rz ps ds u pl outs cv pk dk L sp N)(s:Same H0 H1)(hc:HC CHo D H0 x.h f l rz ps ds):HNS CN CH CHo D H0 H' hn x f l rz ps ds u pl outs cv pk dk L sp N:=by
 obtain⟨np,as,e1,e2,e3,e4,e5⟩:=y;refine⟨np,as,e1,s.trans e2,λb hb=> ?_,e4,hc⟩;cases hq:H0 b with
 | none=>rfl
 | some v=>have:=s _ _ hq;rw[e3 b hb]at this;cases this
theorem ZT{a b:HO}(h:p≠q):upd (upd H q b) p a=upd (upd H p a) q b:=funext λc=>by
 by_cases h1:c=p
 .rw[h1,aR,aI h,aR]
 .by_cases h2:c=q
  .rw[h2,aI (fb h),aR,aR]
  .rw[aI h1,aI h2,aI h2,aI h1]
theorem HNS.put{B:Hp}{o':HO}(y:HNS CN CH CHo D (upd B q (.dK kvs)) H hn x f l rz ps ds u pl outs cv pk dk L sp N)(hB:B q=none)(hc:HC CHo D B x.h f l rz ps ds)(s:SameBut q H H')(e':H' q=some o'):HNS CN CH CHo D (upd B q o') H' hn x f l rz ps ds u pl outs cv pk dk L sp N:=by
 obtain⟨np,as,e1,e2,e3,e4,e5⟩:=y;have hqf:q∉HNAt.fp { x with np:=np } hn:=λz=>by have:=e3 q z;rw[aR]at this;cases this
 have hq:H q=some (.dK kvs):=e2 _ _ aR;obtain⟨i0,i1,i2,i3,i4,i5,d1,d2,d3,d4,d5⟩:=e1;have k:∀b∈HNAt.fp { x with np:=np } hn,b≠q:=λb hb z=>hqf (z▸hb);have hx:x.n≠q:=λz=>by
  obtain⟨_,_,_,_,_,_,j0,_⟩:=i5;have j0:H x.n=_:=j0;rw[z,hq]at j0;cases j0
 refine⟨np,as,⟨s _ _ i0 (k _ (.head _)),s _ _ i1 (k _ (ab _ (.head _))),s _ _ i2 (k _ (ab _ (ab _ (.head _)))),s _ _ i3 (k _ (ab _ (ab _ (ab _ (.head _))))),s _ _ i4 (k _ (ab _ (ab _ (ab _ (ab _ (.head _)))))),i5.on s hx λz=>hqf (ab _ (ab _ (ab _ (ab _ (ab _ z))))),d1,d2,d3,d4,d5⟩,λb v hb=> ?_,λb hb=> ?_,e4,hc.same (L2.same_upd hB)⟩
 .by_cases hbp:b=q
  .rw[hbp]at hb ⊢;rw[aR]at hb;rw[e',←hb]
  .rw[aI hbp]at hb;refine s _ _ (e2 _ _ ?_) hbp;rw[aI hbp];exact hb
 .have h1:=e3 b hb;rw[aI (k b hb)]at h1 ⊢;exact h1
theorem HNS.ob(y:HNS CN CH CHo D H0 H hn x f l rz ps ds u pl outs cv pk dk L sp N):H hn=some (.ins CH x.dx (SS x.h x.a1 x.a2 x.n x.a3 x.a4 u pl))/\H x.a1=some (.lst (outs.map V.int))/\H x.a2=some (.lst cv)/\H x.a3=some (.dT pk)/\H x.a4=some (.dT dk)/\(∃dn q1 q2 q3,H x.n=some (.ins CN dn (aBn q1 q2 q3))):=by
 obtain⟨np,as,e1,e2,e3,e4,e5⟩:=y;obtain⟨i0,i1,i2,i3,i4,i5,_⟩:=e1;obtain⟨dn,q1,q2,q3,rs,_,j0,_⟩:=i5;exact⟨i0,i1,i2,i3,i4,⟨_,_,_,_,j0⟩⟩
theorem RX{x:HNAt}{b:Addr}(hb:b∈x.np):b∈x.fp hn:=by unfold HNAt.fp;exact ab _ (ab _ (ab _ (ab _ (ab _ hb))))
theorem t9{fp:List Addr}(e2:Same H0 H)(e3:∀b∈fp,H0 b=none)(s:SameBut p H H')(hp:p∈fp):Same H0 H':=λb v hb=>s _ _ (e2 _ _ hb) λz=>by rw[z,e3 p hp]at hb;cases hb
theorem HNS.outp(y:HNS CN CH CHo D H0 H hn x f l rz ps ds u pl outs cv pk dk L sp N)(s:SameBut x.a1 H H')(e:H' x.a1=some (.lst (os.map V.int))):HNS CN CH CHo D H0 H' hn x f l rz ps ds u pl os cv pk dk L sp N:=by
 obtain⟨np,as,e1,e2,e3,e4,e5⟩:=y;obtain⟨i0,i1,i2,i3,i4,i5,d1,d2,d3,d4,d5⟩:=e1;have hx:x.n≠x.a1:=λz=>by
  obtain⟨_,_,_,_,_,_,j0,_⟩:=i5;have j0:H x.n=_:=j0;rw[z,i1]at j0;cases j0
 exact⟨np,as,⟨s _ _ i0 (λz=>by rw[z,i1]at i0;cases i0),e,s _ _ i2 (fb d2),s _ _ i3 (λz=>by rw[z,i1]at i3;cases i3),s _ _ i4 (λz=>by rw[z,i1]at i4;cases i4),i5.on s hx d3,d1,d2,d3,d4,d5⟩,t9 e2 e3 s (ab _ (.head _)),e3,e4,e5⟩
theorem HNS.cuts(y:HNS CN CH CHo D H0 H hn x f l rz ps ds u pl outs cv pk dk L sp N){cs:List V}(s:SameBut x.a2 H H')(e:H' x.a2=some (.lst cs)):HNS CN CH CHo D H0 H' hn x f l rz ps ds u pl outs cs pk dk L sp N:=by
 obtain⟨np,as,e1,e2,e3,e4,e5⟩:=y;obtain⟨i0,i1,i2,i3,i4,i5,d1,d2,d3,d4,d5⟩:=e1;have hx:x.n≠x.a2:=λz=>by
  obtain⟨_,_,_,_,_,_,j0,_⟩:=i5;have j0:H x.n=_:=j0;rw[z,i2]at j0;cases j0
 exact⟨np,as,⟨s _ _ i0 (λz=>by rw[z,i2]at i0;cases i0),s _ _ i1 d2,e,s _ _ i3 (λz=>by rw[z,i2]at i3;cases i3),s _ _ i4 (λz=>by rw[z,i2]at i4;cases i4),i5.on s hx d4,d1,d2,d3,d4,d5⟩,t9 e2 e3 s (ab _ (ab _ (.head _))),e3,e4,e5⟩
theorem NB{fp:List Addr}{n:Addr}(i5:NetE CN H n fp ts sp as){o:HO}(e:H p=some o)(ho:∀xs,o≠ .lst xs):p∉fp:=λz=>by
 rcases BO i5 z with⟨xs,hx⟩;rw[hx]at e;exact ho xs (dg e).symm
theorem HNS.pkp(y:HNS CN CH CHo D H0 H hn x f l rz ps ds u pl outs cv pk dk L sp N){pk2:List (List Key×V)}(s:SameBut x.a3 H H')(e:H' x.a3=some (.dT pk2)):HNS CN CH CHo D H0 H' hn x f l rz ps ds u pl outs cv pk2 dk L sp N:=by
 obtain⟨np,as,e1,e2,e3,e4,e5⟩:=y;obtain⟨i0,i1,i2,i3,i4,i5,d1,d2,d3,d4,d5⟩:=e1;have hx:x.n≠x.a3:=λz=>by
  obtain⟨_,_,_,_,_,_,j0,_⟩:=i5;have j0:H x.n=_:=j0;rw[z,i3]at j0;cases j0
 exact⟨np,as,⟨s _ _ i0 (λz=>by rw[z,i3]at i0;cases i0),s _ _ i1 (λz=>by rw[z,i3]at i1;cases i1),s _ _ i2 (λz=>by rw[z,i3]at i2;cases i2),e,s _ _ i4 (fb d1),i5.on s hx (NB i5 i3 λ_ z=>nomatch z),d1,d2,d3,d4,d5⟩,t9 e2 e3 s (ab _ (ab _ (ab _ (.head _)))),e3,e4,e5⟩
theorem HNS.turn(y:HNS CN CH CHo D H0 H hn x f l rz ps ds u pl outs cv pk dk L sp N){v:Int}(s:SameBut hn H H')(e:H' hn=some (.ins CH x.dx (SS x.h x.a1 x.a2 x.n x.a3 x.a4 v pl))):HNS CN CH CHo D H0 H' hn x f l rz ps ds v pl outs cv pk dk L sp N:=by
 obtain⟨np,as,e1,e2,e3,e4,e5⟩:=y;obtain⟨i0,i1,i2,i3,i4,i5,d1,d2,d3,d4,d5⟩:=e1;have hx:x.n≠hn:=d5;exact⟨np,as,⟨e,s _ _ i1 (λz=>by rw[z,i0]at i1;cases i1),s _ _ i2 (λz=>by rw[z,i0]at i2;cases i2),s _ _ i3 (λz=>by rw[z,i0]at i3;cases i3),s _ _ i4 (λz=>by rw[z,i0]at i4;cases i4),i5.on s hx (NB i5 i0 λ_ z=>nomatch z),d1,d2,d3,d4,d5⟩,t9 e2 e3 s (.head _),e3,e4,e5⟩
theorem VM{E:XK}{v:Int}(y:HNS CN CH CHo D H0 H hn x f l rz ps ds u pl outs cv pk dk L sp N)(hv:aW pk [.inr z,.inl u]=some (.int v))(k:∀H',Same H H'->Q (.int v) H'):BN CN CH [.ref hn,.str z] H Q E:=by
 obtain⟨np,as,e1,e2,e3,e4,e5⟩:=y;exact⟨_,_,_,_,_,_,_,_,_,_,_,_,_,rfl,e1,hv,k⟩
theorem v4{E:XK}(y:HNS CN CH CHo D H0 H hn x f l rz ps ds u pl outs cv pk dk L sp N)(hN:N+1<90000)(k:∀H',HNS CN CH CHo D H0 H' hn x f l rz ps ds u pl outs cv pk dk L sp (N+1)->Q (.int (N:Int)) H'):rN CN [.ref x.n] H Q E:=by
 obtain⟨np,as,e1,e2,e3,e4,e5⟩:=y;obtain⟨i0,i1,i2,i3,i4,i5,d1,d2,d3,d4,d5⟩:=id e1;have hl:=e4.len;refine RA i5 (by lia) λr H1 n1 fr1 ne1=> ?_;have hnp1:∀b∈np++[r],b∈np∨H b=none:=λb hb=>by
  rcases bh.mp hb with h|h
  .exact .inl h
  .rw[bz.mp h];exact .inr n1
 rw[hl];refine k H1 ⟨np++[r],as++[[]],e1.net2 fr1 hnp1 ne1,λb v hb=>fr1 _ _ (e2 _ _ hb) λz=> ?_,λb hb=> ?_,e4.node (by lia),e5⟩
 .have:=e3 b (RX z);rw[hb]at this;cases this
 .have hb:b∈(hn::x.a1::x.a2::x.a3::x.a4::np)++[r]:=hb;rcases bh.mp hb with h|h
  .exact e3 b h
  .rw[bz.mp h];cases e:H0 r with
   | none=>rfl
   | some v=>rw[e2 _ _ e]at n1;cases n1
theorem EW{E:XK}{s t:Nat}{c:Int}(y:HNS CN CH CHo D H0 H hn x f l rz ps ds u pl outs cv pk dk L sp N)(hs:s<N)(ht:t<N)(hc:0<=c)(hL:L.length<20000)(k:∀H',HNS CN CH CHo D H0 H' hn x f l rz ps ds u pl outs cv pk dk (L++[(s,t,c)]) (sp++[c,0]) N->Q (.int ((2 * L.length:Nat):Int)) H'):vN CN [.ref x.n,.int (s:Int),.int (t:Int),.int c] H Q E:=by
 obtain⟨np,as,e1,e2,e3,e4,e5⟩:=y;obtain⟨i0,i1,i2,i3,i4,i5,d1,d2,d3,d4,d5⟩:=id e1;have hl:=e4.len;have htl:=iX L;have hsl:=e4.splen;refine aFo i5 (by lia) (by lia) (by lia) (by lia) (λa ha=>by have:=e4.aa a ha;lia) λH1 fr1 ne1=> ?_;have hh1:=e1.net fr1 ne1;have hS1:Same H0 H1:=λb v hb=>fr1 _ _ (e2 _ _ hb) λz=>by
  have:=e3 b (RX z);rw[hb]at this;cases this
 have k':=k H1 ⟨np,_,by rw[o0];exact hh1,hS1,e3,e4.arc hs ht hc (by lia),e5⟩;rw[htl];exact k'
theorem VP{E:XK}{d:aF}{tn sn:Nat}(y:HNS CN CH CHo D H0 H hn x f l rz ps ds u pl outs cv pk dk L sp N)(hd:d∈ds)(hdv:D.at' H dv d)(hu0:f<=u)(hu1:u<l)(hv:aW pk [.inr d.2.1,.inl u]=some (.int (sn:Int)))(hs:sn<N)(ht:tn<N)(hL:L.length<20000)(hdk:dk.length<20000)(hnew:aW dk (bV u d.1)=none)(k:∀H',HNS CN CH CHo D H0 H' hn x f l rz ps ds u pl outs cv pk (dk++[(bV u d.1,.int ((2 * L.length:Nat):Int))]) (L++[(sn,tn,cU f l d u)]) (sp++[cU f l d u,0]) N->Q .non H'):AW CN CH CHo D [.ref hn,dv,.int (tn:Int)] H Q E:=by
 obtain⟨np,as,e1,e2,e3,e4,e5⟩:=y;have hl:=e4.len;have htl:=iX L;have hsl:=e4.splen;have hf0:=e5.f0;refine⟨hn,dv,d,tn,sn,f,l,rz,ps,ds,H0,{ x with np:=np },u,pl,outs,cv,pk,dk,_,sp,as,rfl,e1,e5.at',e2,e3,e5.nd,hd,hdv,hu0,hu1,e5.f0,hv,by lia,by lia,by lia,by lia,λa ha=>by have:=e4.aa a ha;lia,by lia,λH1 fr1 hh1=> ?_⟩;refine k H1 ⟨np,_,?_,λb v hb=>fr1 _ _ (e2 _ _ hb) λz=> ?_,e3,e4.arc hs ht (e5.let0 d hd u (by lia)) (by lia),e5⟩
 .have e6:cB dk [.inl u,.inr d.1] (.int ((cG L).length:Int))=dk++[(bV u d.1,.int ((2 * L.length:Nat):Int))]:=by
   rw[show ([.inl u,.inr d.1]:List Key)=bV u d.1 from rfl,eF _ hnew,htl]
  rw[e6]at hh1;rw[o0];exact hh1
 .have:=e3 b z;rw[hb]at this;cases this
theorem US{E:XK}{t:Nat}(y:HNS CN CH CHo D H0 H hn x f l rz ps ds u pl outs cv pk dk L sp N)(hN:0<N)(ht:t≠0)(k:∀y sp' rs H',HNS CN CH CHo D H0 H' hn x f l rz ps ds u pl outs cv pk dk L sp' N->0<=y->(∀v,cH L sp' v=cH L sp v+((if (t:Int)=v then y else 0) - if (0:Int)=v then y else 0))->CapOk sp' L->(∀m,0<=at0 sp' m)->MW (cG L) sp' 0 (t:Int) rs->Q (.int y) H'):BA CN [.ref x.n,.int 0,.int (t:Int)] H Q E:=by
 obtain⟨np,as,e1,e2,e3,e4,e5⟩:=y;obtain⟨i0,i1,i2,i3,i4,i5,d1,d2,d3,d4,d5⟩:=id e1;have hl:=e4.len;refine⟨x.n,0,t,L.length,np,_,sp,as,rfl,i5,e4.ok,by lia,fb ht,iX L,e4.nn,λy sp2 rs H1 fr1 ne1 sent shut=> ?_⟩;refine k y sp2 rs H1 ⟨np,as,e1.net fr1 ne1,λb v hb=>fr1 _ _ (e2 _ _ hb) λz=> ?_,e3,e4.sent sent,e5⟩ sent.x0 (λv=>sent.exc v) (e4.cap.sent sent) sent.nn shut;have:=e3 b (RX z);rw[hb]at this;cases this
theorem YU{E:XK}(y:HNS CN CH CHo D H0 H hn x f l rz ps ds u pl outs cv pk dk L sp N)(hN:0<N)(h64:pk.length<64)(hpk:∀e∈pk,∃(z:Str) (t v:Int),e=([.inr z,.inl t],.int v))(k:∀q vs H',H q=none->Same H H'->H' q=some (.lst vs)->Q (.ref q) H'):t8 CN CH [.ref hn] H Q E:=by
 obtain⟨np,as,e1,e2,e3,e4,e5⟩:=y;have hl:=e4.len;exact⟨hn,{ x with np:=np },u,pl,outs,cv,pk,dk,_,sp,as,rfl,e1,e4.ok,by lia,h64,hpk,k⟩
end
def cN(u:Int):List aF->Nat->List (List Key×V)
 | [],_=>[]
 | d::l,a=>(bV u d.1,.int ((2 * a:Nat):Int))::cN u l (a+1)
theorem AG(u:Int)(d:aF):∀(l:List aF) (a:Nat),cN u (l++[d]) a=cN u l a++[(bV u d.1,.int ((2 * (a+l.length):Nat):Int))]
 | [],a=>rfl
 | e::l,a=>by
  show _::cN u (l++[d]) (a+1)=_::(cN u l (a+1)++_);rw[AG u d l (a+1),bb,show a+1+l.length=a+(l.length+1) by lia]
theorem nR(u:Int):∀(l:List aF) (a:Nat),(cN u l a).length=l.length
 | [],_=>rfl
 | _::l,a=>by show (cN u l (a+1)).length+1=_;rw[nR u l (a+1)];rfl
theorem gN(u:Int):∀(l:List aF) (a:Nat),(cN u l a).map (·.1)=l.map λd=>bV u d.1
 | [],_=>rfl
 | _::l,a=>by show _::(cN u l (a+1)).map (·.1)=_;rw[gN u l (a+1)];rfl
theorem rB{κ:Type}[DecidableEq κ]{kvs:List (κ×V)}{k:κ}(h:k∉kvs.map (·.1)):aW kvs k=none:=by
 cases hv:aW kvs k with
 | none=>rfl
 | some v=>exact absurd (ag.mpr ⟨_,tZ hv,rfl⟩) h
def bZ(s:Str->Nat)(c:Str×Int->Int):List (Str×Int)->Nat->List Arc
 | [],_=>[]
 | e::l,a=>(s e.1,a,c e)::bZ s c l (a+1)
theorem gR(s:Str->Nat)(c:Str×Int->Int)(e:Str×Int):∀(l:List (Str×Int)) (a:Nat),bZ s c (l++[e]) a=bZ s c l a++[(s e.1,a+l.length,c e)]
 | [],a=>rfl
 | d::l,a=>by
  show _::bZ s c (l++[e]) (a+1)=_::(bZ s c l (a+1)++_);rw[gR s c e l (a+1),bb,show a+1+l.length=a+(l.length+1) by lia]
theorem gO(s:Str->Nat)(c:Str×Int->Int):∀(l:List (Str×Int)) (a:Nat),(bZ s c l a).length=l.length
 | [],_=>rfl
 | _::l,a=>by show (bZ s c l (a+1)).length+1=_;rw[gO s c l (a+1)];rfl
theorem fD(s:Str->Nat)(c:Str×Int->Int):∀(l:List (Str×Int)) (a:Nat),∀x∈bZ s c l a,∃e∈l,x.1=s e.1/\a<=x.2.1/\x.2.1<a+l.length/\x.2.2=c e
 | [],_,x,h=>nomatch h
 | e::l,a,x,h=>by
  rcases az.mp h with rfl|h
  .exact⟨e,.head _,rfl,aq _,by rw[bb];show a<_;lia,rfl⟩
  .obtain⟨e',h1,h2,h3,h4,h5⟩:=fD s c l (a+1) x h;exact⟨e',ab _ h1,h2,by lia,by rw[bb];lia,h5⟩
def dS(t:Int):List (Str×Int)->Nat->List (List Key×V)
 | [],_=>[]
 | e::l,a=>([.inr e.1,.inl t],.int (a:Int))::dS t l (a+1)
theorem yY(t:Int)(e:Str×Int):∀(l:List (Str×Int)) (a:Nat),dS t (l++[e]) a=dS t l a++[([.inr e.1,.inl t],.int ((a+l.length:Nat):Int))]
 | [],a=>rfl
 | d::l,a=>by
  show _::dS t (l++[e]) (a+1)=_::(dS t l (a+1)++_);rw[yY t e l (a+1),bb,show a+1+l.length=a+(l.length+1) by lia]
theorem iT(t:Int):∀(l:List (Str×Int)) (a:Nat),(dS t l a).map (·.1)=l.map λe=>([.inr e.1,.inl t]:List Key)
 | [],_=>rfl
 | _::l,a=>by show _::(dS t l (a+1)).map (·.1)=_;rw[iT t l (a+1)];rfl
theorem xK(t:Int)(l:List (Str×Int))(a:Nat):(dS t l a).length=l.length:=by rw[←ae (f:=(·.1)),iT,ae]
def ixR:List (Str×Int)->Str->Nat
 | [],_=>0
 | e::l,z=>if e.1=z then 0 else ixR l z+1
theorem gE:∀{l:List (Str×Int)}{z:Str},z∈l.map (·.1)->ixR l z<l.length
 | [],_,h=>nomatch h
 | e::l,z,h=>by
  unfold ixR
  by_cases he:e.1=z
  .rw[if_pos he,bb];lia
  .rw[if_neg he,bb];have:=gE (l:=l) ((az.mp h).resolve_left λx=>he x.symm)
   lia
theorem zW:∀{l:List (Str×Int)}{i:Nat}{e:Str×Int},(l.map (·.1)).Nodup->l[i]? =some e->ixR l e.1=i
 | [],_,_,_,h=>by simp at h
 | d::l,0,e,_,h=>by
  have h:d=e:=by simpa using h
  unfold ixR;rw[if_pos (by rw[h])]
 | d::l,i+1,e,nd,h=>by
  have h:l[i]? =some e:=by simpa using h
  have nd':=cm.mp nd;have hne:d.1≠e.1:=λz=>nd'.1 (ag.mpr ⟨e,ay h,z.symm⟩);unfold ixR;rw[if_neg hne,zW nd'.2 h]
theorem GI(t:Int):∀{l:List (Str×Int)}{z:Str}{a:Nat},z∈l.map (·.1)->([.inr z,.inl t],.int ((a+ixR l z:Nat):Int))∈dS t l a
 | [],_,_,h=>nomatch h
 | e::l,z,a,h=>by
  unfold ixR
  by_cases he:e.1=z
  .rw[if_pos he,←he];exact .head _
  .rw[if_neg he];have:=GI t (l:=l) (z:=z) (a:=a+1) ((az.mp h).resolve_left λx=>he x.symm);rw[show a+(ixR l z+1)=a+1+ixR l z by lia];exact ab _ this
def enK:List (Str×Int)->Nat->List (Key×V)
 | [],_=>[]
 | e::l,a=>(.inr e.1,.int (a:Int))::enK l (a+1)
theorem MO(e:Str×Int):∀(l:List (Str×Int)) (a:Nat),enK (l++[e]) a=enK l a++[(.inr e.1,.int ((a+l.length:Nat):Int))]
 | [],a=>rfl
 | d::l,a=>by
  show _::enK (l++[e]) (a+1)=_::(enK l (a+1)++_);rw[MO e l (a+1),bb,show a+1+l.length=a+(l.length+1) by lia]
theorem rM:∀(l:List (Str×Int)) (a:Nat),(enK l a).map (·.1)=(l.map (·.1)).map km
 | [],_=>rfl
 | _::l,a=>by show _::(enK l (a+1)).map (·.1)=_;rw[rM l (a+1)];rfl
theorem aDc(l:List (Str×Int))(a:Nat):(enK l a).length=l.length:=by rw[←ae (f:=(·.1)),rM,ae,ae]
theorem WQ:∀{l:List (Str×Int)}{z:Str}{a:Nat},z∈l.map (·.1)->(.inr z,.int ((a+ixR l z:Nat):Int))∈enK l a
 | [],_,_,h=>nomatch h
 | e::l,z,a,h=>by
  unfold ixR
  by_cases he:e.1=z
  .rw[if_pos he,←he];exact .head _
  .rw[if_neg he];have:=WQ (l:=l) (z:=z) (a:=a+1) ((az.mp h).resolve_left λx=>he x.symm);rw[show a+(ixR l z+1)=a+1+ixR l z by lia];exact ab _ this
theorem QN{l:List (Str×Int)}(nd:(l.map (·.1)).Nodup){a:Nat}(h:z∈l.map (·.1)):aW (enK l a) (.inr z)=some (.int ((a+ixR l z:Nat):Int)):=eZ (by rw[rM];exact o9 nd) (WQ h)
def exO(d:aF):Bool:=decide (d.2.2.1= .non)
def exA(ds:List aF)(pn:Str->Nat)(o:Nat)(f l u:Int)(j:Nat):List Arc:=((ds.take j).filter exO).map λd=>(pn d.2.1,o,cU f l d u)
theorem aCF(ds:List aF)(pn:Str->Nat)(o:Nat)(f l u:Int)(j:Nat):(exA ds pn o f l u j).length<=j:=by
 unfold exA;rw[ae];exact dy (du _ _) (by rw[cw];lia)
theorem aDl{ds:List aF}{o:Nat}{u:Int}{d:aF}(hd:ds[j]? =some d)(h:exO d=true):exA ds pn o f l u (j+1)=exA ds pn o f l u j++[(pn d.2.1,o,cU f l d u)]:=by
 unfold exA;rw[aU hd,fh,aw,da h];rfl
theorem aEf{ds:List aF}{o:Nat}{u:Int}{d:aF}(hd:ds[j]? =some d)(h:¬exO d=true):exA ds pn o f l u (j+1)=exA ds pn o f l u j:=by
 unfold exA;rw[aU hd,fh,aw,cx h];show _++[]=_;rw[dj]
theorem zL{u:Int}{l:List aF}{a:Nat}{n:Str}(h:∀n,bV u n∉dk.map (·.1))(hn:n∉l.map (·.1)):aW (dk++cN u l a) (bV u n)=none:=rB λz=>by
 rw[aw,gN]at z;rcases bh.mp z with z|z
 .exact h n z
 .rcases ag.mp z with⟨d,hd,e⟩;exact hn (ag.mpr ⟨d,hd,(gU e).2⟩)
theorem RO{ds:List aF}{d:aF}(nd:(ds.map (·.1)).Nodup)(hd:ds[j]? =some d)(c:aF->Bool):d.1∉((ds.take j).filter c).map (·.1):=λz=>by
 rcases ag.mp z with⟨e,he,h1⟩;have he:=(cg.mp he).1;have hs:ds=ds.take j++ds.drop j:=(jr _ _).symm;rw[hs,aw]at nd;refine(ib.mp nd).2.2 _ (ag.mpr ⟨e,he,rfl⟩) _ (ag.mpr ⟨d,?_,rfl⟩) h1;rw[fg];exact⟨0,by rw[oj];exact hd⟩
inductive GR(CN CH CHo:Addr)(D:bE)(vs:List V)(H:Hp)(Q:VK)(E:XK):Prop
 | mk (hn:Addr) (x:HNAt) (pn:Str->Nat) (f l:Int) (rz ps:List (Str×Int)) (ds:List aF) (H0:Hp) (u pl:Int) (outs:List Int) (cv:List V) (pk dk:List (List Key×V)) (L:List Arc) (sp:List Int) (N:Nat) (_:vs=[.ref hn]) (_:HNS CN CH CHo D H0 H hn x f l rz ps ds u pl outs cv pk dk L sp N) (_:f<=u) (_:u<l) (_:(∀d∈ds,aW pk [.inr d.2.1,.inl u]=some (.int (pn d.2.1:Int))/\pn d.2.1<N)) (_:(∀n,bV u n∉dk.map (·.1))) (_:0<N) (_:N<10000) (_:L.length<10000) (_:dk.length<10000) (_:∀y sp' rs H',HNS CN CH CHo D H0 H' hn x f l rz ps ds u pl outs cv pk (dk++cN u (ds.filter exO) L.length) (L++(ds.filter exO).map λd=>(pn d.2.1,N,cU f l d u)) sp' (N+1)->0<=y->(∀v,cH (L++(ds.filter exO).map λd=>(pn d.2.1,N,cU f l d u)) sp' v=cH L sp v+((if (N:Int)=v then y else 0) - if (0:Int)=v then y else 0))->CapOk sp' (L++(ds.filter exO).map λd=>(pn d.2.1,N,cU f l d u))->(∀m,0<=at0 sp' m)->MW (cG (L++(ds.filter exO).map λd=>(pn d.2.1,N,cU f l d u))) sp' 0 (N:Int) rs->Q (.int y) H'):GR CN CH CHo D vs H Q E
theorem wK(m:M K mg):FnOk P w K mg base CX0 9 m.iN m.iO.d ["self"] (GR m.aV m.aQ m.aM (aP P w K mg base (some 4))):=by
 refine m.iO.F.ok aHp ?_ ?_;tm_at"h";tm_at"g";rcases h with⟨hn,x,pn,f,l,rz,ps,ds,H0,u,pl,outs,cv,pk,dk,L,sp,N,rfl,hh,hu0',hu1',hpn,hkn,hN0,hN1,hL1,hdk1,k⟩;tm_at"f";have nd:=aHp.nd;tm_at"d";have aHb:=m.bM;have aHc:=m.cJ;have aHa:=m.bJ;refine⟨_,(aB (aO (i:=1) nd rfl (by tm_at"b") (cA 1 hr (aH (pv 0) rfl)))
  (aB (cO cn rfl (bN (cA 1 hr (aH (pv 0) rfl))) (aL (i:=2) nd rfl (by tm_at"b")) (aB (aO (i:=3) nd rfl (by tm_at"b") (cQ 1 hr (aH (pv 0) rfl) (aA (pv 2) aC)))
  (aE (b8 (kA (cA 1 hr (pv 3))) (aE (aY (cQ 8 hr (pv 0) (aA (pv 3) (aA (pv 1) aC))))) bK))))
  (aE (aS (cQ 2 hr (aH (pv 0) rfl) (aA (aH (pv 0) rfl) (aA (pv 1) aC))))))),?_⟩
 refine aJ (σ:=[some (.ref hn),none,none,none]) rfl ?_;tm_at"e";have M1:= @fI P w K mg base m;have M2:= @i8 P w K mg base m;have M3:= @iB P w K mg base m;have M4:= @mD P w K mg base m;have M5:= @uM P w K mg base m;have hc:=hh.hc;have ndd:=hc.nd;have hdl:=hc.ld;obtain⟨e0,e1,e2,e3,e4,⟨ddn,q1,q2,q3,e5⟩⟩:=hh.ob;tm_at"a";refine v4 hh (by lia) λH1 hh1=> ?_;obtain⟨e0,e1,e2,e3,e4,⟨ddn,q1,q2,q3,e5⟩⟩:=hh1.ob;obtain⟨hdx,hqs,hqp,hqd,hnk,hkvs,ho1,_⟩:=hh1.hc'.at'.ex;tm_at"a";refine i9 hh1.hc'.at' λp H2 n2 S2 f2=> ?_;rcases hh1.keep S2 n2 f2 with⟨_,s0,hh2⟩;generalize hH0:upd H0 p _=H0' at s0 hh2;have p0:H0' p=some (.lst ((ds.map (·.1)).map V.str)):=by rw[←hH0];exact aR
 tm_at"a";let Pv1:Nat->St->Hp->Prop:=λj σ' H'=>(∃sp',HNS m.aV m.aQ m.aM (aP P w K mg base (some 4)) H0' H' hn x f l rz ps ds u pl outs cv pk (dk++cN u ((ds.take j).filter exO) L.length) (L++exA ds pn N f l u j) sp' (N+1)/\∀v,cH (L++exA ds pn N f l u j) sp' v=cH L sp v)/\∃y z,σ'=[some (.ref hn),some (.int (N:Int)),y,z];refine c6 ((ds.map (·.1)).map V.str) Pv1 ⟨⟨sp,?_⟩,_,_,rfl⟩ (λj σ' H' _ g=> ?_) ?_ ?_
 .have e:L++exA ds pn N f l u 0=L:=dj L;have e':dk++cN u ((ds.take 0).filter exO) L.length=dk:=dj dk;rw[e,e'];exact⟨hh2,λ_=>rfl⟩
 .obtain⟨⟨sp',g,_⟩,_⟩:=g;exact SqL.of (g.sm _ _ p0)
 .rintro j y _ H3 hy3 hq_;obtain⟨⟨sp',hh3,ex3⟩,y1,y2,rfl⟩:=hq_;obtain⟨d,hdj,rfl⟩:∃d,ds[j]? =some d/\y= .str d.1:=by
   rw[bq,bq]at hy3;rcases cj.mp hy3 with⟨z,h1,h2⟩;rcases cj.mp h1 with⟨d,h3,h4⟩;exact⟨d,h3,by rw[←h2,←h4]⟩
  have hdm:=ay hdj;have hjl:j<ds.length:=(av.mp hdj).1;obtain⟨e0,e1,e2,e3,e4,⟨ddn,q1,q2,q3,e5⟩⟩:=hh3.ob;obtain⟨hdx,hqs,hqp,hqd,hnk,hkvs,ho1,_⟩:=hh3.hc'.at'.ex;tm_at"a";refine zX hh3.hc'.at' ndd hdm λv hv=> ?_;obtain⟨dn,dst,de,dlt⟩:=d;obtain⟨q,C9,dx',fs,fp,rfl,hq,dcC,l1,l2,l3,l4,l5,mcE,hfp,hlt⟩:=DoorAt.ex hv;tm_at"a";refine⟨q,C9,dx',fs,de,rfl,dcC,hq,l3,?_⟩;have hexl:=aCF ds pn N f l u j;have hpd:=hpn _ hdm;have hpl:pn dst<N:=hpd.2;have hLj:(L++exA ds pn N f l u j).length=L.length+((ds.take j).filter exO).length:=by rw[ao];unfold exA;rw[ae]
  have htl:((ds.take j).filter exO).length<=j:=dy (du _ _) (by rw[cw];lia);tm_at"a";refine bR (λhx=> ?_) (λhx=> ?_)
  .tm_at"a";refine VP (sn:=pn dst) (tn:=N) (d:=(dn,dst,de,dlt)) hh3 hdm hv hu0' hu1' hpd.1 (by lia) (by lia) (by lia) (by rw[ao,nR];lia) (zL hkn (RO ndd hdj exO)) λH4 hh4=> ?_;tm_at"a";have eA:=aDl (pn:=pn) (o:=N) (f:=f) (l:=l) (u:=u) hdj (decide_eq_true hx);have eT:(ds.take (j+1)).filter exO=(ds.take j).filter exO++[(dn,dst,de,dlt)]:=by rw[aU hdj,fh,da (show exO (dn,dst,de,dlt)=true from decide_eq_true hx)];rfl
   refine⟨⟨sp'++[cU f l (dn,dst,de,dlt) u,0],?_,λv=> ?_⟩,_,_,rfl⟩
   .rw[eA,eT,AG,←cq,←cq,←hLj];exact hh4
   .rw[eA,←cq,←ex3 v];exact hh3.exc _ _ _ v
  .tm_at"a";have eA:=aEf (pn:=pn) (o:=N) (f:=f) (l:=l) (u:=u) hdj (λz=>hx (of_decide_eq_true z));have eT:(ds.take (j+1)).filter exO=(ds.take j).filter exO:=by
    rw[aU hdj,fh,cx (λz:exO (dn,dst,de,dlt)=true=>hx (of_decide_eq_true z))];exact dj _
   refine⟨⟨sp',?_⟩,_,_,rfl⟩;rw[eA,eT];exact⟨hh3,ex3⟩
 .rintro _ H3 hq_;obtain⟨⟨sp',hh3,ex3⟩,y1,y2,rfl⟩:=hq_;have eL:exA ds pn N f l u ((ds.map (·.1)).map V.str).length=(ds.filter exO).map λd=>(pn d.2.1,N,cU f l d u):=by
   unfold exA;rw[ae,ae,cp]
  have eD:(ds.take ((ds.map (·.1)).map V.str).length).filter exO=ds.filter exO:=by rw[ae,ae,cp]
  rw[eL,eD]at hh3;rw[eL]at ex3;obtain⟨e0,e1,e2,e3,e4,⟨ddn,q1,q2,q3,e5⟩⟩:=hh3.ob;tm_at"a";refine US hh3 (by lia) (by lia) λy sp2 rs H4 hh4 y0 ex4 cap4 nn4 shut=> ?_;exact k y sp2 rs H4 (hh4.back s0 hc) y0 (λv=>by rw[ex4 v,ex3 v]) cap4 nn4 shut
theorem wG(m:M K mg):Mc P w K mg base m.aQ "send_out" 9 (GR m.aV m.aQ m.aM (aP P w K mg base (some 4))):=⟨_,_,_,m.bM.ic.cl,m.yJ,m.iO.b,wK m⟩
theorem wJ{y:V}(h:((rz.map (·.1)).map V.str)[j]? =some y):∃e,rz[j]? =some e/\y= .str e.1:=by
 rw[bq,bq]at h;rcases cj.mp h with⟨z,h1,h2⟩;rcases cj.mp h1 with⟨d,h3,h4⟩;exact⟨d,h3,by rw[←h2,←h4]⟩
inductive GG(CN CH CHo:Addr)(D:bE)(vs:List V)(H:Hp)(Q:VK)(E:XK):Prop
 | mk (hn:Addr) (x:HNAt) (pn:Str->Nat) (f l:Int) (rz ps:List (Str×Int)) (ds:List aF) (H0:Hp) (u pl:Int) (outs:List Int) (cv:List V) (pk dk:List (List Key×V)) (L:List Arc) (sp:List Int) (N:Nat) (_:vs=[.ref hn]) (_:HNS CN CH CHo D H0 H hn x f l rz ps ds u pl outs cv pk dk L sp N) (_:0<=pl) (_:(∀e∈rz,aW pk [.inr e.1,.inl u]=some (.int (pn e.1:Int))/\pn e.1<N)) (_:N<10000) (_:L.length<10000) (_:∀q sp' H',Same H0 (upd H0 q (.dK (enK rz N)))->HNS CN CH CHo D (upd H0 q (.dK (enK rz N))) H' hn x f l rz ps ds u pl outs cv pk dk (L++bZ pn (λ_=>pl) rz N) sp' (N+rz.length)->(∀v,cH (L++bZ pn (λ_=>pl) rz N) sp' v=cH L sp v)->Q (.ref q) H'):GG CN CH CHo D vs H Q E
theorem tT(m:M K mg):FnOk P w K mg base CX0 2 m.fS m.fU.d ["self"] (GG m.aV m.aQ m.aM (aP P w K mg base (some 4))):=by
 refine m.fU.F.ok aHm ?_ ?_;tm_at"h";tm_at"g";rcases h with⟨hn,x,pn,f,l,rz,ps,ds,H0,u,pl,outs,cv,pk,dk,L,sp,N,rfl,hh,hpl0,hpn,hN1,hL1,k⟩;tm_at"f";have nd:=aHm.nd;tm_at"d";have aHb:=m.bM;have aHc:=m.cJ;have aHa:=m.bJ;refine⟨_,(aB (aO (i:=1) nd rfl (by tm_at"b") m6)
  (aB (cO cn rfl (bN (cA 1 hr (aH (pv 0) rfl))) (aL (i:=2) nd rfl (by tm_at"b")) (aB (gB hu1 (pv 1) (pv 2) (cA 1 hr (aH (pv 0) rfl)) rfl)
  (aE (aY (cQ 1 hr (aH (pv 0) rfl) (aA (cQ 1 hr (pv 0) (aA (pv 2) aC)) (aA (dL hu1 (pv 1) (pv 2) (λ_ _=>rfl)) (aA (aH (pv 0) rfl) aC))))))))
  (aE (aS (pv 1))))),?_⟩
 refine aJ (σ:=[some (.ref hn),none,none]) rfl ?_;tm_at"e";have M1:= @fI P w K mg base m;have M2:= @gD P w K mg base m;have M3:= @gJ P w K mg base m;have M4:= @i6 P w K mg base m;have hc:=hh.hc;have nr:=hc.nr;have hrl:=hc.lr;obtain⟨e0,e1,e2,e3,e4,⟨ddn,q1,q2,q3,e5⟩⟩:=hh.ob;tm_at"a";rename_i q H1 n1 S1 f1;rcases hh.keep S1 n1 f1 with⟨hq0,sq0,hh1⟩;obtain⟨e0,e1,e2,e3,e4,⟨ddn,q1,q2,q3,e5⟩⟩:=hh1.ob;obtain⟨hdx,hqs,hqp,hqd,hnk,hkvs,ho1,_⟩:=hh1.hc'.at'.ex;tm_at"a";refine i9 hh1.hc'.at' λp H2 n2 S2 f2=> ?_;have hpq:p≠q:=λz=>by rw[z,f1]at n2;cases n2
 rcases hh1.keep S2 n2 f2 with⟨hp0,sp0,hh2⟩;rw[ZT hpq]at hh2;rw[aI hpq]at hp0;have sp1:Same H0 (upd H0 p (.lst ((rz.map (·.1)).map V.str))):=L2.same_upd hp0;generalize hB:upd H0 p (.lst ((rz.map (·.1)).map V.str))=B at hh2 sp1;have hBp:B p=some (.lst ((rz.map (·.1)).map V.str)):=by rw[←hB];exact aR
 have hBq:B q=none:=by rw[←hB,aI (fb hpq)];exact hq0
 have hcB:HC m.aM (aP P w K mg base (some 4)) B x.h f l rz ps ds:=hc.same sp1;tm_at"a";let Pv2:Nat->St->Hp->Prop:=λj σ' H'=>(∃sp',HNS m.aV m.aQ m.aM (aP P w K mg base (some 4)) (upd B q (.dK (enK (rz.take j) N))) H' hn x f l rz ps ds u pl outs cv pk dk (L++bZ pn (λ_=>pl) (rz.take j) N) sp' (N+j)/\∀v,cH (L++bZ pn (λ_=>pl) (rz.take j) N) sp' v=cH L sp v)/\∃y,σ'=[some (.ref hn),some (.ref q),y];refine c6 ((rz.map (·.1)).map V.str) Pv2 ⟨⟨sp,?_⟩,_,rfl⟩ (λj σ' H' _ g=> ?_) ?_ ?_
 .have e:L++bZ pn (λ_=>pl) (rz.take 0) N=L:=dj L;rw[e];exact⟨hh2,λ_=>rfl⟩
 .obtain⟨⟨sp',g,_⟩,_⟩:=g;exact SqL.of (g.sm _ _ (by rw[aI hpq];exact hBp))
 .rintro j y _ H3 hy3 hq_;obtain⟨⟨sp',hh3,ex3⟩,y1,rfl⟩:=hq_;rcases wJ hy3 with⟨e,hej,rfl⟩;have hem:=ay hej;have hjl:j<rz.length:=(av.mp hej).1;rcases hpn e hem with⟨hv,hvl⟩;have htl:(rz.take j).length=j:=by rw[cw];lia
  have hLl:(L++bZ pn (λ_=>pl) (rz.take j) N).length=L.length+j:=by rw[ao,gO,htl]
  obtain⟨e0,e1,e2,e3,e4,⟨ddn,q1,q2,q3,e5⟩⟩:=hh3.ob;tm_at"a";refine v4 hh3 (by lia) λH4 hh4=> ?_;have hq4:=hh4.sm _ _ aR;tm_at"a";refine nZ hq4 (by rw[sizeLine_eq,aDc];lia) λH5 B5 f5=> ?_;have hnw:aW (enK (rz.take j) N) (.inr e.1)=none:=rB (by
   rw[rM];intro z;rcases ag.mp z with⟨r,hr,hre⟩;rcases ag.mp hr with⟨e',he',hre'⟩;have h1:e'.1=e.1:=hre'.trans (ir hre);have hs:rz=rz.take j++rz.drop j:=(jr _ _).symm;have nr2:=nr;rw[hs,aw]at nr2;refine(ib.mp nr2).2.2 _ (ag.mpr ⟨e',he',rfl⟩) _ (ag.mpr ⟨e,?_,rfl⟩) h1;rw[fg];exact⟨0,by rw[oj];exact hej⟩)
  have eK:cB (enK (rz.take j) N) (.inr e.1) (.int ((N+j:Nat):Int))=enK (rz.take (j+1)) N:=by rw[eF _ hnw,aU hej,MO,htl]
  rw[eK]at f5;have hh5:=hh4.put hBq hcB B5 f5;have hen:aW (enK (rz.take (j+1)) N) (.inr e.1)=some (.int ((N+j:Nat):Int)):=by
   rw[←eK,eF _ hnw];refine eZ (e:=((.inr e.1:Key),(.int ((N+j:Nat):Int):V))) ?_ (bp _ (.head _));rw[←eF _ hnw,eK,rM];exact o9 ((List.take_sublist _ _).map _ |>.nodup nr)
  obtain⟨e0,e1,e2,e3,e4,⟨ddn,q1,q2,q3,e5⟩⟩:=hh5.ob;tm_at"a";refine VM hh5 hv λH6 S6=> ?_;have hh6:=hh5.same S6;obtain⟨e0,e1,e2,e3,e4,⟨ddn,q1,q2,q3,e5⟩⟩:=hh6.ob;tm_at"a";refine d9 (.inl (S6 _ _ f5)) hen ?_;tm_at"a";refine EW (s:=pn e.1) (t:=N+j) hh6 (by lia) (by lia) hpl0 (by lia) λH7 hh7=> ?_;tm_at"a";refine⟨⟨sp'++[pl,0],?_,λv=> ?_⟩,_,rfl⟩
  .rw[aU hej,gR,htl,←cq,←aU hej];exact hh7
  .rw[aU hej,gR,htl,←cq,←ex3 v];exact hh6.exc _ _ _ v
 .rintro _ H3 hq_;obtain⟨⟨sp',hh3,ex3⟩,y1,rfl⟩:=hq_;have hl:((rz.map (·.1)).map V.str).length=rz.length:=by rw[ae,ae]
  rw[hl,cp]at hh3;rw[hl,cp]at ex3;tm_at"a";have s0:Same H0 (upd H0 q (.dK (enK rz N))):=L2.same_upd hq0;refine k q sp' H3 s0 (hh3.back (λb v hb=> ?_) (hc.same s0)) ex3
  by_cases hbq:b=q
  .rw[hbq,aR]at hb ⊢;exact hb
  .rw[aI hbq]at hb ⊢;exact sp1 _ _ hb
theorem tV(m:M K mg):Mc P w K mg base m.aQ "new_entries" 2 (GG m.aV m.aQ m.aM (aP P w K mg base (some 4))):=⟨_,_,_,m.bM.ic.cl,m.tY,m.fU.b,tT m⟩
def aBD(K:W.Frag)(f:Str)(tv:TE)(rd:V->V->Hp->VK->Prop)(nx:St->Hp->Prop)(σ:St):VK:=λx H1=>∃a C dx fs v,x= .ref a/\H1 a=some (.ins C dx fs)/\Cls K C/\NoAttr K C f/\fs.lookup f=some v ∧
 tv σ H1 λy H2=>rd v y H2 λz H3=>∃dx' fs',H3 a=some (.ins C dx' fs')/\fs'.length<1000/\nx σ (upd H3 a (.ins C dx' (bT f z fs')))
theorem aCx{K:W.Frag}{ta:TE}{f:Str}{bk:St->Hp->Prop}(h:ta σ H (aBD K f tv rd nx σ)):Q9 K ta tv rd f ⟨nx,rt,bk,ct⟩ σ H:=h
theorem ZP{K:W.Frag}{f:Str}{fs:List (Str×V)}(e:H a=some (.ins C dx fs))(cl:Cls K C)(na:NoAttr K C f)(l:fs.lookup f=some v)(h:tv σ H λy H2=>rd v y H2 λz H3=>∃dx' fs',H3 a=some (.ins C dx' fs')/\fs'.length<1000/\nx σ (upd H3 a (.ins C dx' (bT f z fs')))):aBD K f tv rd nx σ (.ref a) H:=⟨a,C,dx,fs,v,rfl,e,cl,na,l,h⟩
def GL:V->Str
 | .str z=>z
 | _=>⟨#[]⟩
def inD(d:aF):Bool:= !exO d
def exL(ds:List aF)(pn:Str->Nat)(f l u:Int)(N:Nat):List Arc:=(ds.filter exO).map λd=>(pn d.2.1,N,cU f l d u)
def doL(rz:List (Str×Int))(ds:List aF)(pn:Str->Nat)(f l u:Int)(N:Nat):List Arc:=(ds.filter inD).map λd=>(pn d.2.1,N+1+ixR rz (GL d.2.2.1),cU f l d u)
def iS(rz:List (Str×Int))(ds:List aF)(pn:Str->Nat)(f l pl u:Int)(N:Nat):List Arc:=exL ds pn f l u N++(bZ pn (λ_=>pl) rz (N+1)++(doL rz ds pn f l u N++bZ (λz=>N+1+ixR rz z) (λe=>e.2) rz (N+1+rz.length)))
def dkB(rz:List (Str×Int))(ds:List aF)(u:Int)(a:Nat):List (List Key×V):=cN u (ds.filter exO) a++cN u (ds.filter inD) (a+(ds.filter exO).length+rz.length)
theorem NE{ds:List aF}(nd:(ds.map (·.1)).Nodup){d e:aF}(hd:d∈ds)(he:e∈ds)(h:d.1=e.1):d=e:=by
 induction ds with
 | nil=>exact nomatch hd
 | cons a l ih =>
  rcases cm.mp nd with⟨h1,h2⟩;cases hd with
  | head =>
   cases he with
   | head=>rfl
   | tail _ he=>exact(h1 (ag.mpr ⟨e,he,h.symm⟩)).elim
  | tail _ hd =>
   cases he with
   | head=>exact(h1 (ag.mpr ⟨d,hd,h⟩)).elim
   | tail _ he=>exact ih h2 hd he
theorem aCp{u:Int}{ds:List aF}{a b:Nat}{d:aF}(h:∀n,bV u n∉dk.map (·.1))(nd:(ds.map (·.1)).Nodup)(hd:ds[j]? =some d)(hi:inD d=true):aW (dk++cN u (ds.filter exO) a++cN u ((ds.take j).filter inD) b) (bV u d.1)=none:=rB λz=>by
 rw[aw,aw,gN,gN]at z;rcases bh.mp z with z|z
 .rcases bh.mp z with z|z
  .exact h d.1 z
  .rcases ag.mp z with⟨e,he,h1⟩;rcases cg.mp he with⟨he1,he2⟩;have:=NE nd he1 (ay hd) (gU h1).2;rw[this]at he2;unfold inD at hi;rw[he2]at hi;exact absurd hi (by decide)
 .rcases ag.mp z with⟨e,he,h1⟩;exact RO nd hd inD (ag.mpr ⟨e,he,(gU h1).2⟩)
theorem aB6{e:Str×Int}(nr:(rz.map (·.1)).Nodup)(hd:rz[j]? =some e):e.1∉(rz.take j).map (·.1):=λz=>by
 rcases ag.mp z with⟨e',he',h1⟩;have hs:rz=rz.take j++rz.drop j:=(jr _ _).symm;rw[hs,aw]at nr;refine(ib.mp nr).2.2 _ (ag.mpr ⟨e',he',rfl⟩) _ (ag.mpr ⟨e,?_,rfl⟩) h1;rw[fg];exact⟨0,by rw[oj];exact hd⟩
theorem UL{u:Int}{a:Nat}{e:Str×Int}(h:∀z,([.inr z,.inl u]:List Key)∉pk.map (·.1))(nr:(rz.map (·.1)).Nodup)(hd:rz[j]? =some e):aW (pk++dS u (rz.take j) a) [.inr e.1,.inl u]=none:=rB λz=>by
 rw[aw,iT]at z;rcases bh.mp z with z|z
 .exact h e.1 z
 .rcases ag.mp z with⟨e',he',h1⟩;refine aB6 nr hd (ag.mpr ⟨e',he',?_⟩);injection h1 with h1 _;exact ir h1
inductive LB(CN CH CHo:Addr)(D:bE)(vs:List V)(H:Hp)(Q:VK)(E:XK):Prop
 | mk (hn:Addr) (x:HNAt) (pn:Str->Nat) (f l:Int) (rz ps:List (Str×Int)) (ds:List aF) (H0:Hp) (u pl:Int) (outs:List Int) (cv:List V) (pk dk:List (List Key×V)) (L:List Arc) (sp:List Int) (N:Nat) (_:vs=[.ref hn]) (_:HNS CN CH CHo D H0 H hn x f l rz ps ds u pl outs cv pk dk L sp N) (_:f<=u) (_:u<l) (_:0<=pl) (_:(∀e∈rz,aW pk [.inr e.1,.inl u]=some (.int (pn e.1:Int))/\pn e.1<N)) (_:(∀n,bV u n∉dk.map (·.1))) (_:(∀e∈pk,∃(z:Str) (t v:Int),e=([.inr z,.inl t],.int v))) (_:(∀z,([.inr z,.inl (u+1)]:List Key)∉pk.map (·.1))) (_:pk.length<64) (_:outs.length<100) (_:cv.length<100) (_:0<N) (_:N<5000) (_:L.length<5000) (_:dk.length<5000) (_:∀y cv' sp1 rs sp' H',cv'.length=cv.length+1->CapOk sp1 (L++exL ds pn f l u N)->(∀m,0<=at0 sp1 m)->(∀v,cH (L++exL ds pn f l u N) sp1 v=cH L sp v+((if (N:Int)=v then y else 0) - if (0:Int)=v then y else 0))->MW (cG (L++exL ds pn f l u N)) sp1 0 (N:Int) rs->HNS CN CH CHo D H0 H' hn x f l rz ps ds (u+1) pl (outs++[y]) cv' (pk++dS (u+1) rz (N+1+rz.length)) (dk++dkB rz ds u L.length) (L++iS rz ds pn f l pl u N) sp' (N+1+rz.length+rz.length)->0<=y->(∀v,cH (L++iS rz ds pn f l pl u N) sp' v=cH L sp v+((if (N:Int)=v then y else 0) - if (0:Int)=v then y else 0))->Q .non H'):LB CN CH CHo D vs H Q E
theorem CF(m:M K mg):FnOk P w K mg base CX0 10 m.k7 m.kZ.d ["self"] (LB m.aV m.aQ m.aM (aP P w K mg base (some 4))):=by
 refine m.kZ.F.ok aHB ?_ ?_;tm_at"h";tm_at"g";rcases h with⟨hn,x,pn,f,l,rz,ps,ds,H0,u,pl,outs,cv,pk,dk,L,sp,N,rfl,hh,hu0',hu1',hpl0,hpn,hkn,hps,hpw,hp64,hol,hcl,hN0,hN1,hL1,hdk1,k⟩;tm_at"f";have nd:=aHB.nd;tm_at"d";have aHb:=m.bM;have aHc:=m.cJ;have aHa:=m.bJ;refine⟨_,(aB (aY (gS df dm dq cY (aH (pv 0) rfl) (aA (cA 9 hr (pv 0)) aC)))
  (aB (aY (gS df dm dq cY (aH (pv 0) rfl) (aA (cA 2 hr (pv 0)) aC)))
  (aB (aO (i:=1) nd rfl (by tm_at"b") (cA 2 hr (pv 0)))
  (aB (cO cn rfl (bN (cA 1 hr (aH (pv 0) rfl))) (aL (i:=2) nd rfl (by tm_at"b")) (aB (aO (i:=3) nd rfl (by tm_at"b") (cQ 1 hr (aH (pv 0) rfl) (aA (pv 2) aC)))
  (aE (b8 (AF (kA (cA 1 hr (pv 3)))) (aE (aY (cQ 8 hr (pv 0) (aA (pv 3) (aA (dL hu1 (pv 1) (aH (pv 3) rfl) (λ_ _=>rfl)) aC))))) bK))))
  (aB (WB (pv 0) aD WT)
  (aE (cO cn rfl (bN (cA 1 hr (aH (pv 0) rfl))) (aL (i:=4) nd rfl (by tm_at"b")) (aB (aO (i:=5) nd rfl (by tm_at"b") (cA 1 hr (aH (pv 0) rfl)))
  (aB (aY (cQ 1 hr (aH (pv 0) rfl) (aA (dL hu1 (pv 1) (pv 4) (λ_ _=>rfl)) (aA (pv 5) (aA (cQ 3 hr (aH (pv 0) rfl) (aA (pv 4) aC)) aC)))))
  (aE (gB hu1 (aH (pv 0) rfl) (cZ (aA (pv 4) (aA (aH (pv 0) rfl) aC))) (pv 5) rfl))))))))))),?_⟩
 refine aJ (σ:=[some (.ref hn),none,none,none,none,none]) rfl ?_;tm_at"e";have M1:= @wG P w K mg base m;have M2:= @qX P w K mg base m;have M3:= @tV P w K mg base m;have M4:= @mD P w K mg base m;have M5:= @i8 P w K mg base m;have M6:= @iB P w K mg base m;have M7:= @gD P w K mg base m;have M8:= @vT P w K mg base m;have M9:= @fI P w K mg base m;have M10:= @gJ P w K mg base m;have hc:=hh.hc;have nr:=hc.nr;have ndd:=hc.nd;have hrl:=hc.lr;have hdl:=hc.ld;have hxl:(ds.filter exO).length<=ds.length:=du _ _;have hil:(ds.filter inD).length<=ds.length:=du _ _;have hpd:∀d∈ds,aW pk [.inr d.2.1,.inl u]=some (.int (pn d.2.1:Int))/\pn d.2.1<N:=λd hd=>by
  rcases ag.mp (hc.din d hd).1 with⟨e,he,h1⟩;rw[←h1];exact hpn e he
 obtain⟨e0,e1,e2,e3,e4,⟨ddn,q1,q2,q3,e5⟩⟩:=hh.ob;tm_at"a";refine⟨hn,x,pn,f,l,rz,ps,ds,H0,u,pl,outs,cv,pk,dk,L,sp,N,rfl,hh,hu0',hu1',hpd,hkn,hN0,by lia,by lia,by lia,λy sp1 rs H1 hh1 y0 ex1 NU nn1 shut=> ?_⟩;have hLx:(L++exL ds pn f l u N).length=L.length+(ds.filter exO).length:=by rw[ao];unfold exL;rw[ae]
 obtain⟨e0,e1,e2,e3,e4,⟨ddn,q1,q2,q3,e5⟩⟩:=hh1.ob;tm_at"a";refine cX e1 (by rw[sizeLine_eq,ae];lia) λH2 B2 f2=> ?_;have hh2:=hh1.outp (os:=outs++[y]) B2 (by rw[f2,aw];rfl);obtain⟨e0,e1,e2,e3,e4,⟨ddn,q1,q2,q3,e5⟩⟩:=hh2.ob;tm_at"a";refine YU hh2 (by lia) hp64 hps λqr vr H3 n3 S3 f3=> ?_;have hh3:=hh2.same S3;obtain⟨e0,e1,e2,e3,e4,⟨ddn,q1,q2,q3,e5⟩⟩:=hh3.ob;tm_at"a";refine cX e2 (by rw[sizeLine_eq];lia) λH4 B4 f4=> ?_;have hh4:=hh3.cuts B4 f4;obtain⟨e0,e1,e2,e3,e4,⟨ddn,q1,q2,q3,e5⟩⟩:=hh4.ob;tm_at"a";refine⟨hn,x,pn,f,l,rz,ps,ds,H0,u,pl,outs++[y],cv++[.ref qr],pk,_,_,sp1,N+1,rfl,hh4,hpl0,λe he=>⟨(hpn e he).1,by have:=(hpn e he).2;lia⟩,by lia,by have:=hLx;unfold exL at this;lia,λq sp2 H5 s5 hh5 ex5=> ?_⟩;have hLx':(L++List.map (λd:aF=>(pn d.2.1,N,cU f l d u)) (ds.filter exO)).length=L.length+(ds.filter exO).length:=hLx;have hh5:HNS m.aV m.aQ m.aM (aP P w K mg base (some 4)) (upd H0 q (.dK (enK rz (N+1)))) H5 hn x f l rz ps ds u pl (outs++[y]) (cv++[.ref qr]) pk (dk++cN u (ds.filter exO) L.length) (L++exL ds pn f l u N++bZ pn (λ_=>pl) rz (N+1)) sp2 (N+1+rz.length):=hh5;have ex5:∀v,cH (L++exL ds pn f l u N++bZ pn (λ_=>pl) rz (N+1)) sp2 v=cH (L++exL ds pn f l u N) sp1 v:=ex5;generalize hB1:upd H0 q (.dK (enK rz (N+1)))=B1 at s5 hh5;have hBq:B1 q=some (.dK (enK rz (N+1))):=by rw[←hB1];exact aR
 generalize hLY:L++exL ds pn f l u N++bZ pn (λ_=>pl) rz (N+1)=LY at hh5 ex5;have hLYl:LY.length=L.length+(ds.filter exO).length+rz.length:=by rw[←hLY,ao,gO,hLx]
 obtain⟨e0,e1,e2,e3,e4,⟨ddn,q1,q2,q3,e5⟩⟩:=hh5.ob;obtain⟨hdx,hqs,hqp,hqd,hnk,hkvs,ho1,_⟩:=hh5.hc'.at'.ex;tm_at"a";refine i9 hh5.hc'.at' λp H6 n6 S6 f6=> ?_;rcases hh5.keep S6 n6 f6 with⟨_,s6,hh6⟩;generalize hB2:upd B1 p _=B2' at s6 hh6;have hBp:B2' p=some (.lst ((ds.map (·.1)).map V.str)):=by rw[←hB2];exact aR
 tm_at"a";let Pv1:Nat->St->Hp->Prop:=λj σ' H'=>(∃sp',HNS m.aV m.aQ m.aM (aP P w K mg base (some 4)) B2' H' hn x f l rz ps ds u pl (outs++[y]) (cv++[.ref qr]) pk (dk++cN u (ds.filter exO) L.length++cN u ((ds.take j).filter inD) LY.length) (LY++doL rz (ds.take j) pn f l u N) sp' (N+1+rz.length)/\∀v,cH (LY++doL rz (ds.take j) pn f l u N) sp' v=cH (L++exL ds pn f l u N) sp1 v)/\∃y z,σ'=[some (.ref hn),some (.ref q),y,z,none,none];refine c6 ((ds.map (·.1)).map V.str) Pv1 ⟨⟨sp2,?_⟩,_,_,rfl⟩ (λj σ' H' _ g=> ?_) ?_ ?_
 .have e:LY++doL rz (ds.take 0) pn f l u N=LY:=dj _;have e':dk++cN u (ds.filter exO) L.length++cN u ((ds.take 0).filter inD) LY.length=dk++cN u (ds.filter exO) L.length:=dj _;rw[e,e'];exact⟨hh6,ex5⟩
 .obtain⟨⟨sp',g,_⟩,_⟩:=g;exact SqL.of (g.sm _ _ hBp)
 .rintro j yy _ H7 hy7 hq_;obtain⟨⟨sp',hh7,ex7⟩,y1,y2,rfl⟩:=hq_;obtain⟨d,hdj,rfl⟩:∃d,ds[j]? =some d/\yy= .str d.1:=by
   rw[bq,bq]at hy7;rcases cj.mp hy7 with⟨z,h1,h2⟩;rcases cj.mp h1 with⟨d,h3,h4⟩;exact⟨d,h3,by rw[←h2,←h4]⟩
  have hdm:=ay hdj;have hjl:j<ds.length:=(av.mp hdj).1;obtain⟨e0,e1,e2,e3,e4,⟨ddn,q1,q2,q3,e5⟩⟩:=hh7.ob;obtain⟨hdx,hqs,hqp,hqd,hnk,hkvs,ho1,_⟩:=hh7.hc'.at'.ex;tm_at"a";refine zX hh7.hc'.at' ndd hdm λv hv=> ?_;obtain⟨dn,dst,de,dlt⟩:=d;obtain⟨q9,C9,dx',fs,fp,rfl,hq9,dcC,l1,l2,l3,l4,l5,mcE,hfp,hlt⟩:=DoorAt.ex hv;tm_at"a";refine⟨q9,C9,dx',fs,de,rfl,dcC,hq9,l3,?_⟩;rcases hpd _ hdm with⟨hpv,hpl⟩;have hpl:pn dst<N:=hpl;have htl:((ds.take j).filter inD).length<=j:=dy (du _ _) (by rw[cw];lia);have hLj:(LY++doL rz (ds.take j) pn f l u N).length=LY.length+((ds.take j).filter inD).length:=by rw[ao];unfold doL;rw[ae]
  rcases (hc.din _ hdm).2 with hde|⟨z,hde,hz⟩
  .have hde:de= .non:=hde;subst hde;tm_at"a";have eT:(ds.take (j+1)).filter inD=(ds.take j).filter inD:=by
    rw[aU hdj,fh,cx (by unfold inD exO;rw[decide_eq_true rfl];decide)];exact dj _
   have eA:doL rz (ds.take (j+1)) pn f l u N=doL rz (ds.take j) pn f l u N:=by unfold doL;rw[eT]
   refine⟨⟨sp',?_⟩,_,_,rfl⟩;rw[eT,eA];exact⟨hh7,ex7⟩
  .have hde:de= .str z:=hde;subst hde;have hix:=gE hz;tm_at"a"
   try rw[if_pos (show (!decide (V.str z=V.non))=true by rw[decide_eq_false (λz=>nomatch z)];rfl)]
   tm_at"a";refine d9 (.inl (hh7.sm _ _ (s6 _ _ hBq))) (QN nr hz) ?_;tm_at"a";refine VP (sn:=pn dst) (tn:=N+1+ixR rz z) (d:=(dn,dst,.str z,dlt)) hh7 hdm hv hu0' hu1' hpv (by lia) (by lia) (by lia) (by rw[ao,ao,nR,nR];lia) (aCp hkn ndd hdj (by unfold inD exO;rw[decide_eq_false (λz=>nomatch z)];rfl)) λH8 hh8=> ?_;tm_at"a";have eT:(ds.take (j+1)).filter inD=(ds.take j).filter inD++[(dn,dst,.str z,dlt)]:=by rw[aU hdj,fh,da (by unfold inD exO;rw[decide_eq_false (λz=>nomatch z)];rfl)];rfl
   have eA:doL rz (ds.take (j+1)) pn f l u N=doL rz (ds.take j) pn f l u N++[(pn dst,N+1+ixR rz z,cU f l (dn,dst,.str z,dlt) u)]:=by unfold doL;rw[eT,aw];rfl
   refine⟨⟨sp'++[cU f l (dn,dst,.str z,dlt) u,0],?_,λv=> ?_⟩,_,_,rfl⟩
   .rw[eT,eA,AG,←cq,←cq,←hLj];exact hh8
   .rw[eA,←cq,←ex7 v];exact hh7.exc _ _ _ v
 .rintro _ H7 hq_;obtain⟨⟨sp',hh7,ex7⟩,y1,y2,rfl⟩:=hq_;have hl:((ds.map (·.1)).map V.str).length=ds.length:=by rw[ae,ae]
  rw[hl,cp]at hh7 ex7;generalize hLZ:LY++doL rz ds pn f l u N=LZ at hh7 ex7;have hLZl:LZ.length=LY.length+(ds.filter inD).length:=by rw[←hLZ,ao];unfold doL;rw[ae]
  obtain⟨e0,e1,e2,e3,e4,⟨ddn,q1,q2,q3,e5⟩⟩:=hh7.ob;tm_at"a";refine aCx ?_;tm_at"a";refine ZP e0 (by tm_at"o") (by tm_at"o") (by tm_at"i") ?_;tm_at"a";refine⟨u,1,rfl,rfl,_,_,e0,(show (9:Nat)<1000 by decide),?_⟩;generalize hH8:upd H7 hn _=H8;have hh8:HNS m.aV m.aQ m.aM (aP P w K mg base (some 4)) B2' H8 hn x f l rz ps ds (u+1) pl (outs++[y]) (cv++[.ref qr]) pk (dk++cN u (ds.filter exO) L.length++cN u (ds.filter inD) LY.length) LZ sp' (N+1+rz.length):=by
   refine hh7.turn (v:=u+1) ?_ ?_
   .rw[←hH8];exact SameBut.upd
   .rw[←hH8];exact aR
  obtain⟨e0,e1,e2,e3,e4,⟨ddn,q1,q2,q3,e5⟩⟩:=hh8.ob;obtain⟨hdx,hqs,hqp,hqd,hnk,hkvs,ho1,_⟩:=hh8.hc'.at'.ex;tm_at"a";refine i9 hh8.hc'.at' λp2 H9 n9 S9 f9=> ?_;rcases hh8.keep S9 n9 f9 with⟨_,s9,hh9⟩;generalize hB3:upd B2' p2 _=B3 at s9 hh9;have hBp3:B3 p2=some (.lst ((rz.map (·.1)).map V.str)):=by rw[←hB3];exact aR
  have hBq3:=s9 _ _ (s6 _ _ hBq);tm_at"a";let Pv2:Nat->St->Hp->Prop:=λj σ' H'=>(∃sp',HNS m.aV m.aQ m.aM (aP P w K mg base (some 4)) B3 H' hn x f l rz ps ds (u+1) pl (outs++[y]) (cv++[.ref qr]) (pk++dS (u+1) (rz.take j) (N+1+rz.length)) (dk++cN u (ds.filter exO) L.length++cN u (ds.filter inD) LY.length) (LZ++bZ (λz=>N+1+ixR rz z) (λe=>e.2) (rz.take j) (N+1+rz.length)) sp' (N+1+rz.length+j)/\∀v,cH (LZ++bZ (λz=>N+1+ixR rz z) (λe=>e.2) (rz.take j) (N+1+rz.length)) sp' v=cH (L++exL ds pn f l u N) sp1 v)/\∃y z a b,σ'=[some (.ref hn),some (.ref q),y,z,a,b];refine c6 ((rz.map (·.1)).map V.str) Pv2 ⟨⟨sp',?_⟩,_,_,_,_,rfl⟩ (λj σ' H' _ g=> ?_) ?_ ?_
  .have e:LZ++bZ (λz=>N+1+ixR rz z) (λe=>e.2) (rz.take 0) (N+1+rz.length)=LZ:=dj _;have e':pk++dS (u+1) (rz.take 0) (N+1+rz.length)=pk:=dj _;rw[e,e'];exact⟨hh9,ex7⟩
  .obtain⟨⟨sp',g,_⟩,_⟩:=g;exact SqL.of (g.sm _ _ hBp3)
  .rintro j yy _ H10 hy10 hq_;obtain⟨⟨sp',hh10,ex10⟩,y1,y2,y3,y4,rfl⟩:=hq_;rcases wJ hy10 with⟨e,hej,rfl⟩;have hem:=ay hej;have hjl:j<rz.length:=(av.mp hej).1;have hez:e.1∈rz.map (·.1):=ag.mpr ⟨e,hem,rfl⟩;have hix:=gE hez;have htl:(rz.take j).length=j:=by rw[cw];lia
   have hLl:(LZ++bZ (λz=>N+1+ixR rz z) (λe=>e.2) (rz.take j) (N+1+rz.length)).length=LZ.length+j:=by rw[ao,gO,htl]
   obtain⟨e0,e1,e2,e3,e4,⟨ddn,q1,q2,q3,e5⟩⟩:=hh10.ob;tm_at"a";refine v4 hh10 (by lia) λH11 hh11=> ?_;obtain⟨e0,e1,e2,e3,e4,⟨ddn,q1,q2,q3,e5⟩⟩:=hh11.ob;obtain⟨hdx,hqs,hqp,hqd,hnk,hkvs,ho1,_⟩:=hh11.hc'.at'.ex;tm_at"a";refine d9 (.inl (hh11.sm _ _ hBq3)) (QN nr hez) ?_;tm_at"a";refine RI (z:=e.1) (i:=e.2) hh11.hc'.at' nr hem λH12 S12=> ?_;have hh12:=hh11.same S12;tm_at"a";refine EW (s:=N+1+ixR rz e.1) (t:=N+1+rz.length+j) hh12 (by lia) (by lia) (hc.rz0 e hem) (by lia) λH13 hh13=> ?_;obtain⟨e0,e1,e2,e3,e4,⟨ddn,q1,q2,q3,e5⟩⟩:=hh13.ob;tm_at"a";rename_i r14 H14 n14 S14 f14;have hh14:=hh13.same S14;refine xO [.inr e.1,.inl (u+1)] (S14 _ _ e3) f14 (by rw[sizeLine_eq,ao,xK];lia) λH15 B15 f15=> ?_;have eK:cB (pk++dS (u+1) (rz.take j) (N+1+rz.length)) [.inr e.1,.inl (u+1)] (.int ((N+1+rz.length+j:Nat):Int))=pk++dS (u+1) (rz.take (j+1)) (N+1+rz.length):=by rw[eF _ (UL hpw nr hej),aU hej,yY,htl,cq]
   rw[eK]at f15;have hh15:=hh14.pkp B15 f15;refine⟨⟨sp'++[e.2,0],?_,λv=> ?_⟩,_,_,_,_,rfl⟩
   .rw[aU hej,gR,htl,←cq,←aU hej];exact hh15
   .rw[aU hej,gR,htl,←cq,←ex10 v];exact hh12.exc _ _ _ v
  .rintro _ H10 hq_;obtain⟨⟨sp',hh10,ex10⟩,y1,y2,y3,y4,rfl⟩:=hq_;have hl:((rz.map (·.1)).map V.str).length=rz.length:=by rw[ae,ae]
   rw[hl,cp]at hh10 ex10;tm_at"a";have eB:LZ++bZ (λz=>N+1+ixR rz z) (λe=>e.2) rz (N+1+rz.length)=L++iS rz ds pn f l pl u N:=by
    rw[←hLZ,←hLY];unfold iS;rw[cq,cq,cq]
   have eD:dk++cN u (ds.filter exO) L.length++cN u (ds.filter inD) LY.length=dk++dkB rz ds u L.length:=by
    rw[hLYl,cq];rfl
   rw[eB,eD]at hh10;rw[eB]at ex10;refine k y _ sp1 rs sp' H10 ?_ NU nn1 ex1 shut (hh10.back (s5.trans (s6.trans s9)) hc) y0 (λv=>by rw[ex10 v];exact ex1 v);rw[ao];rfl
theorem CB(m:M K mg):Mc P w K mg base m.aQ "go_on" 10 (LB m.aV m.aQ m.aM (aP P w K mg base (some 4))):=⟨_,_,_,m.bM.ic.cl,m.CM,m.kZ.b,CF m⟩
inductive FG(K:W.Frag)(vs:List V)(H:Hp)(Q:VK)(E:XK):Prop
 | mk (a:Addr) (us:List V) (rows:List bQ) (_:vs=[.ref a]) (_:SqL K H a us) (_:cV H us rows) (_:rows.length<=200) (_:∀p H',H p=none->Same H H'->H' p=some (.dT (jJ rows))->Q (.ref p) H'):FG K vs H Q E
theorem aGt{E:XK}(hS:SqL K H a us)(hr:cV H us rows)(hl:rows.length<=200)(h:∀p H',H p=none->Same H H'->H' p=some (.dT (jJ rows))->Q (.ref p) H'):FG K [.ref a] H Q E:=⟨_,_,_,rfl,hS,hr,hl,h⟩
theorem O6(m:M K mg):FnOk P w K mg base CX0 1 m.yH m.qZ.d ["plan"] (FG K):=by
 refine m.qZ.F.ok aIx ?_ ?_;tm_at"h";tm_at"g";rcases h with⟨a,us,rows,rfl,hS,hpl,hlen,k⟩;tm_at"f";have nd:=aIx.nd;tm_at"d";refine⟨_,(aB (aO (i:=1) nd rfl (by tm_at"b") D7)
  (aB (cO cn rfl (bN (pv 0)) (v7 (n:=3) rfl (aX (aL (i:=2) nd rfl (by tm_at"b")) (aX (aL (i:=3) nd rfl (by tm_at"b")) (aX (aL (i:=4) nd rfl (by tm_at"b")) dY)))) (aE (gB hu1 (pv 1) (cZ (aA (pv 2) (aA (pv 3) aC))) (aK bX (aAA hu1 (pv 1) (cZ (aA (pv 2) (aA (pv 3) aC))) aD ⟨rfl,rfl,rfl,rfl⟩) (pv 4)) rfl)))
  (aE (aS (pv 1))))),?_⟩
 refine aJ (σ:=[some (.ref a),none,none,none,none]) rfl ?_;tm_at"e";have hul:us.length=rows.length:=bx hpl;tm_at"a";rename_i p H1 n1 S1 e1;let Pv1:Nat->St->Hp->Prop:=λi σ' H'=>SameBut p H1 H'/\H' p=some (.dT (jJ (rows.take i)))/\∃x y z,σ'=[some (.ref a),some (.ref p),x,y,z];refine c6 us Pv1 ⟨SameBut.refl,e1,_,_,_,rfl⟩ (λi σ' H' _ q=>(SameBut.same n1 S1 q.1).seq hS) ?_ ?_
 .rintro i x _ H' hx hq_;obtain⟨sb,ek,x1,x2,x3,rfl⟩:=hq_;have hi:i<us.length:=(av.mp hx).1;obtain⟨⟨t,n,j⟩,hrx⟩:∃r,rows[i]? =some r:=⟨_,ah (by lia)⟩
  rcases Paired.at2 hpl hx hrx with⟨q,rfl,hq⟩;have hq':H' q=some (.tup [.int t,.str n,.int j]):=(SameBut.same n1 S1 sb) _ _ hq;rcases aAs (rows.take i) t n with⟨i0,ei⟩;have hkl:=DL (rows.take i);rw[cw]at hkl;tm_at"a";refine U0 ek ?_;tm_at"a";rename_i b1 H2 n2 S2 e2;refine YF (bV t n) (by tm_at"k") (by assumption) ?_;rw[ei];tm_at"a";rename_i b3 H3 n3 S3 e3;refine xO (bV t n) (by tm_at"k") (by assumption) (by rw[sizeLine_eq];lia) λH4 B4 e4=> ?_;refine⟨by tm_at"m",?_,_,_,_,rfl⟩;rw[e4,aU hrx,o7];unfold NY;rw[ei];rfl
 .rintro _ H' hq_;obtain⟨sb,ek,x1,x2,x3,rfl⟩:=hq_;rw[hul,cp]at ek;tm_at"a";exact k _ _ n1 (SameBut.same n1 S1 sb) ek
theorem O0(m:M K mg):Fc P w K mg base "added_up" 1 ["plan"] (FG K):=⟨_,_,m.UF,m.qZ.F.kp,m.qZ.b,O6 m⟩
inductive A2(K:W.Frag)(vs:List V)(H:Hp)(Q:VK)(E:XK):Prop
 | mk (a:Addr) (us:List V) (rows:List bQ) (_:vs=[.ref a]) (_:SqL K H a us) (_:cV H us rows) (_:rows.length<=200) (_:(fE rows).length<64) (_:∀p ws xs H',H p=none->Same H H'->H' p=some (.lst ws)->cV H' ws xs->xs.map fP=lV (fE rows)->Q (.ref p) H'):A2 K vs H Q E
theorem aEL{E:XK}(hS:SqL K H a us)(hr:cV H us rows)(hl:rows.length<=200)(h64:(fE rows).length<64)(h:∀p ws xs H',H p=none->Same H H'->H' p=some (.lst ws)->cV H' ws xs->xs.map fP=lV (fE rows)->Q (.ref p) H'):A2 K [.ref a] H Q E:=⟨_,_,_,rfl,hS,hr,hl,h64,h⟩
theorem IG:∀{es:List (List Key×V)}{ys:List V},bu (λe y=>∃q,y= .ref q/\H q=some (.tup ((TL e).map kV))) es ys->KRows H ys (es.map TL)
 | _,_,.nil=> .nil
 | _,_,.cons h t=> .cons h (IG t)
theorem EU:∀{ws:List V}{ks:List (List Key)},KRows H ws ks->(∀k∈ks,∃r:bQ,k=fP r)->∃xs,cV H ws xs/\xs.map fP=ks
 | _,_,.nil,_=>⟨[],.nil,rfl⟩
 | _,_,.cons ⟨p,e,h⟩ t,hk=>by
  rcases EU t λk hk'=>hk k (ab _ hk') with⟨xs,h1,h2⟩;rcases hk _ (.head _) with⟨r,rfl⟩;exact⟨r::xs,.cons ⟨p,e,h⟩ h1,by rw[bo,h2]⟩
theorem T3(m:M K mg):FnOk P w K mg base CX0 2 m.AO m.uT.d ["plan"] (A2 K):=by
 refine m.uT.F.ok aIB ?_ ?_;tm_at"h";tm_at"g";rcases h with⟨a,us,rows,rfl,hS,hpl,hlen,h64,k⟩;tm_at"f";have nd:=aIB.nd;tm_at"d";have aIS:= @O0 P w K mg base m;refine⟨_,(aE (aS (bL zQ rfl m.yK uE (aA (dG (N:=["place","number"]) (nl:=2) (ci:=[]) rfl (blk (s.heap.objs.size+1) rfl rfl rfl (by kernel_rfl)) (AB (bI aIS hr (aA (pv 0) aC))) (λ_ _ _ _=>(nM (K:=K) (n:=2) rfl (aX (aL (i:=0) (show (["place","number"]:List Str).Nodup by decide +kernel) rfl (by tm_at"b")) (aX (aL (i:=1) (show (["place","number"]:List Str).Nodup by decide +kernel) rfl (by tm_at"b")) dY)))) (λ_ _ _ _=>(r9 (bB xF (pv 1) aD (bG _)))) (λ_ _ _ _=>(cZ (aA (aT (d0 (K:=K)) (pv 0) aD (λ_ _=>rfl)) (aA (aT (d0 (K:=K)) (pv 0) aD (λ_ _=>rfl)) (aA (pv 1) aC)))))) aC)))),?_⟩;refine aJ (σ:=[some (.ref a)]) rfl ?_;tm_at"e";have hkl:=DL rows;tm_at"a";refine aGt hS hpl hlen λp H1 n1 S1 e1=> ?_;tm_at"a";refine z7 e1 λo H2 B2 e2=> ?_;have sA:Same H H2:=SameBut.same n1 S1 B2;refine MZ aAD (λe y H=>∃q,y= .ref q/\H q=some (.tup ((TL e).map kV))) (λ_ _ _ _ ⟨q,h1,h2⟩ s=>⟨q,h1,s _ _ h2⟩) (by rw[sizeLine_eq];lia) (rest:=[]) (by rfl) e2 ?_ ?_ ?_
 .rintro ⟨kk,v⟩ H3 q hm s3 hq R hR;obtain⟨t,n,i,e⟩:=(lF rows).2 _ hm;cases e;show (_:TT) (some (V.ref q)::some (V.int i)::[]) H3 R;tm_at"a";exact hR _ (Same.refl _)
 .rintro ⟨kk,v⟩ H3 q hm - s3 hq R hR;obtain⟨t,n,i,e⟩:=(lF rows).2 _ hm;cases e;have hq':H3 q=some (.tup [.int t,.str n]):=hq;show (_:TE) (some (V.ref q)::some (V.int i)::[]) H3 R;tm_at"a";refine⟨q,_,0,_,rfl,rfl,SqT.of hq',rfl,?_⟩;tm_at"a";refine⟨q,_,1,_,rfl,rfl,SqT.of hq',rfl,?_⟩;tm_at"a";rename_i q4 H4 n4 S4 e4;exact hR _ _ ⟨q4,rfl,e4⟩ S4
 intro ys H3 s3 hys;have kr:=IG hys;tm_at"a";rename_i q4 H4 n4 S4 e4;refine LA (SqL.of e4) (kr.same S4) (by rw[bx kr];exact h64) (T7 rows) (by decide) λl ws H5 n5 S5 e5 kr5=> ?_;obtain⟨xs,h1,h2⟩:=EU kr5 λkk hk=>by
  obtain⟨t,n,rfl,_⟩:=mem_told.mp ((qN _).mem_iff.mp hk);exact⟨_,rfl⟩
 have sB:Same H H5:=((sA.trans s3).trans S4).trans S5;have sB4:Same H H4:=(sA.trans s3).trans S4;tm_at"a";refine k l ws xs H5 ?_ sB e5 h1 h2;cases hq:H l with
 | none=>rfl
 | some u=>rw[sB4 _ _ hq]at n5;cases n5
theorem SL(m:M K mg):Fc P w K mg base "as_told" 2 ["plan"] (A2 K):=⟨_,_,m.YD,m.uT.F.kp,m.uT.b,T3 m⟩
def kpL(rz:List (Str×Int))(pn:Str->Nat)(N:Nat)(pl:Int):List Arc:=rz.map λe=>(pn e.1,N,pl)
inductive DP(CN CH CHo:Addr)(D:bE)(vs:List V)(H:Hp)(Q:VK)(E:XK):Prop
 | mk (hn:Addr) (x:HNAt) (pn:Str->Nat) (f l:Int) (rz ps:List (Str×Int)) (ds:List aF) (H0:Hp) (u pl:Int) (outs:List Int) (cv:List V) (pk dk:List (List Key×V)) (L:List Arc) (sp:List Int) (N:Nat) (_:vs=[.ref hn]) (_:HNS CN CH CHo D H0 H hn x f l rz ps ds u pl outs cv pk dk L sp N) (_:0<=pl) (_:(∀e∈rz,aW pk [.inr e.1,.inl u]=some (.int (pn e.1:Int))/\pn e.1<N)) (_:0<N) (_:N<10000) (_:L.length<10000) (_:∀sp' H',HNS CN CH CHo D H0 H' hn x f l rz ps ds u pl outs cv pk dk (L++kpL rz pn N pl) sp' (N+1)->(∀v,v≠0->v≠(N:Int)->cH (L++kpL rz pn N pl) sp' v=cH L sp v)->Q .non H'):DP CN CH CHo D vs H Q E
theorem tU(m:M K mg):FnOk P w K mg base CX0 3 m.fT m.fV.d ["self"] (DP m.aV m.aQ m.aM (aP P w K mg base (some 4))):=by
 refine m.fV.F.ok aHl ?_ ?_;tm_at"h";tm_at"g";rcases h with⟨hn,x,pn,f,l,rz,ps,ds,H0,u,pl,outs,cv,pk,dk,L,sp,N,rfl,hh,hpl0,hpn,hN0,hN1,hL1,k⟩;tm_at"f";have nd:=aHl.nd;tm_at"d";have aHb:=m.bM;have aHc:=m.cJ;have aHa:=m.bJ;refine⟨_,(aB (aO (i:=1) nd rfl (by tm_at"b") (cA 1 hr (aH (pv 0) rfl)))
  (aB (cO cn rfl (bN (cA 1 hr (aH (pv 0) rfl))) (aL (i:=2) nd rfl (by tm_at"b")) (aE (aY (cQ 1 hr (aH (pv 0) rfl) (aA (cQ 1 hr (pv 0) (aA (pv 2) aC)) (aA (pv 1) (aA (aH (pv 0) rfl) aC)))))))
  (aE (aY (cQ 2 hr (aH (pv 0) rfl) (aA (aH (pv 0) rfl) (aA (pv 1) aC))))))),?_⟩
 refine aJ (σ:=[some (.ref hn),none,none]) rfl ?_;tm_at"e";have M1:= @fI P w K mg base m;have M2:= @gD P w K mg base m;have M3:= @gJ P w K mg base m;have M4:= @i6 P w K mg base m;have M5:= @uM P w K mg base m;have hc:=hh.hc;have hrl:=hc.lr;obtain⟨e0,e1,e2,e3,e4,⟨ddn,q1,q2,q3,e5⟩⟩:=hh.ob;tm_at"a";refine v4 hh (by lia) λH1 hh1=> ?_;obtain⟨e0,e1,e2,e3,e4,⟨ddn,q1,q2,q3,e5⟩⟩:=hh1.ob;obtain⟨hdx,hqs,hqp,hqd,hnk,hkvs,ho1,_⟩:=hh1.hc'.at'.ex;tm_at"a";refine i9 hh1.hc'.at' λp H2 n2 S2 f2=> ?_;rcases hh1.keep S2 n2 f2 with⟨_,s0,hh2⟩;generalize hB:upd H0 p _=B at s0 hh2;have p0:B p=some (.lst ((rz.map (·.1)).map V.str)):=by rw[←hB];exact aR
 tm_at"a";let Pv2:Nat->St->Hp->Prop:=λj σ' H'=>(∃sp',HNS m.aV m.aQ m.aM (aP P w K mg base (some 4)) B H' hn x f l rz ps ds u pl outs cv pk dk (L++kpL (rz.take j) pn N pl) sp' (N+1)/\∀v,cH (L++kpL (rz.take j) pn N pl) sp' v=cH L sp v)/\∃y,σ'=[some (.ref hn),some (.int (N:Int)),y];refine c6 ((rz.map (·.1)).map V.str) Pv2 ⟨⟨sp,?_⟩,_,rfl⟩ (λj σ' H' _ g=> ?_) ?_ ?_
 .have e:L++kpL (rz.take 0) pn N pl=L:=dj L;rw[e];exact⟨hh2,λ_=>rfl⟩
 .obtain⟨⟨sp',g,_⟩,_⟩:=g;exact SqL.of (g.sm _ _ p0)
 .rintro j y _ H3 hy3 hq_;obtain⟨⟨sp',hh3,ex3⟩,y1,rfl⟩:=hq_;rcases wJ hy3 with⟨e,hej,rfl⟩;have hem:=ay hej;have hjl:j<rz.length:=(av.mp hej).1;rcases hpn e hem with⟨hv,hvl⟩;have hLl:(L++kpL (rz.take j) pn N pl).length=L.length+j:=by unfold kpL;rw[ao,ae,cw];lia
  obtain⟨e0,e1,e2,e3,e4,⟨ddn,q1,q2,q3,e5⟩⟩:=hh3.ob;tm_at"a";refine VM hh3 hv λH6 S6=> ?_;have hh6:=hh3.same S6;obtain⟨e0,e1,e2,e3,e4,⟨ddn,q1,q2,q3,e5⟩⟩:=hh6.ob;tm_at"a";refine EW (s:=pn e.1) (t:=N) hh6 (by lia) (by lia) hpl0 (by lia) λH7 hh7=> ?_;tm_at"a";have eA:kpL (rz.take (j+1)) pn N pl=kpL (rz.take j) pn N pl++[(pn e.1,N,pl)]:=by unfold kpL;rw[aU hej,aw];rfl
  refine⟨⟨sp'++[pl,0],?_,λv=> ?_⟩,_,rfl⟩
  .rw[eA,←cq];exact hh7
  .rw[eA,←cq,←ex3 v];exact hh6.exc _ _ _ v
 .rintro _ H3 hq_;obtain⟨⟨sp',hh3,ex3⟩,y1,rfl⟩:=hq_;have hl:((rz.map (·.1)).map V.str).length=rz.length:=by rw[ae,ae]
  rw[hl,cp]at hh3 ex3;obtain⟨e0,e1,e2,e3,e4,⟨ddn,q1,q2,q3,e5⟩⟩:=hh3.ob;tm_at"a";refine US hh3 (by lia) (by lia) λy sp2 rs H4 hh4 y0 ex4 cap4 nn4 shut=> ?_;tm_at"a";refine k sp2 H4 (hh4.back s0 hc) λv h0 h1=> ?_;rw[ex4 v,ex3 v,if_neg (fb h1),if_neg (fb h0)]
  lia
theorem tW(m:M K mg):Mc P w K mg base m.aQ "keep_others" 3 (DP m.aV m.aQ m.aM (aP P w K mg base (some 4))):=⟨_,_,_,m.bM.ic.cl,m.tX,m.fV.b,tU m⟩
def cS(sp:List Int)(e:List Key×V):bQ:=match e with
 | ([.inl t,.inr n],.int a)=>(t,n,at0 sp (a.toNat+1))
 | _=>(0,⟨#[]⟩,0)
inductive D1(CN CH CHo:Addr)(D:bE)(vs:List V)(H:Hp)(Q:VK)(E:XK):Prop
 | mk (hn:Addr) (x:HNAt) (f l:Int) (rz ps:List (Str×Int)) (ds:List aF) (H0:Hp) (u pl:Int) (outs:List Int) (cv:List V) (pk dk:List (List Key×V)) (L:List Arc) (sp:List Int) (N:Nat) (_:vs=[.ref hn]) (_:HNS CN CH CHo D H0 H hn x f l rz ps ds u pl outs cv pk dk L sp N) (_:(∀e∈dk,∃(t:Int) (n:Str) (a:Nat),e=(bV t n,.int (a:Int))/\a+1<sp.length)) (_:dk.length<64) (_:∀p ws xs H',Same H0 H'->H' p=some (.lst ws)->cV H' ws xs->xs.map fP=lV (fE (dk.map (cS sp)))->Q (.ref p) H'):D1 CN CH CHo D vs H Q E
theorem C5(m:M K mg):FnOk P w K mg base CX0 3 m.mO m.mW.d ["self"] (D1 m.aV m.aQ m.aM (aP P w K mg base (some 4))):=by
 refine m.mW.F.ok aHL ?_ ?_;tm_at"h";tm_at"g";rcases h with⟨hn,x,f,l,rz,ps,ds,H0,u,pl,outs,cv,pk,dk,L,sp,N,rfl,hh,hdk,h64,k⟩;tm_at"f";have nd:=aHL.nd;tm_at"d";have aIX:= @SL P w K mg base m;have aHb:=m.bM;have aHc:=m.cJ;have aHa:=m.bJ;refine⟨_,(aE (aS (bI aIX hr (aA (GZ (dG (N:=["place","arc","self"]) (nl:=2) (ci:=[0]) rfl (blk (s.heap.objs.size+1) rfl rfl rfl (by kernel_rfl)) (AB (aH (pv 0) rfl)) (λ_ _ _ _=>(nM (K:=K) (n:=2) rfl (aX (aL (i:=0) (show (["place","arc","self"]:List Str).Nodup by decide +kernel) rfl (by tm_at"b")) (aX (aL (i:=1) (show (["place","arc","self"]:List Str).Nodup by decide +kernel) rfl (by tm_at"b")) dY)))) (λ_ _ _ _=>dI) (λ_ _ _ _=>(cZ (aA (aT (d0 (K:=K)) (pv 0) aD (λ_ _=>rfl)) (aA (aT (d0 (K:=K)) (pv 0) aD (λ_ _=>rfl)) (aA (MT (P:=P) (w:=w) (K:=K) (mg:=mg) (base:=base) 1 hr (rE (K:=K) (pv 2) rfl) (aA (pv 1) aC)) aC))))))) aC)))),?_⟩;refine aJ (σ:=[some (.ref hn)]) rfl ?_;tm_at"e";have M1:= @O8 P w K mg base m;obtain⟨np,as,hne,hS,hfr,hns,hc⟩:=id hh;obtain⟨i0,i1,i2,i3,i4,i5,d1,d2,d3,d4,d5⟩:=id hne;tm_at"a";refine DX i4 (λ_ _ z=>nomatch z) ?_;tm_at"a";refine z7 i4 λo H2 B2 f2=> ?_;have hx4:x.n≠x.a4:=λz=>by
  obtain⟨_,_,_,_,_,_,j0,_⟩:=i5;have j0:H x.n=_:=j0;have i4:H x.a4=_:=i4;rw[z,i4]at j0;cases j0
 have ne2:NetE m.aV H2 x.n np (cG L) sp as:=i5.on B2 hx4 (NB i5 i4 λ_ z=>nomatch z);have g0:H2 hn=some (.ins m.aQ x.dx (SS x.h x.a1 x.a2 x.n x.a3 x.a4 u pl)):=B2 _ _ i0 (λz=>by
  have i4:H x.a4=_:=i4;rw[z,i4]at i0;cases i0)
 refine MZ (λ_=>true) (λe y H=>AM H y (cS sp e)) (λ_ _ _ _ ⟨q,h1,h2⟩ s=>⟨q,h1,s _ _ h2⟩) (by rw[sizeLine_eq];lia) (rest:=[some (.ref hn)]) (by rfl) f2 ?_ ?_ ?_
 .rintro ⟨kk,v⟩ H3 q hm s3 hq R hR;exact hR _ (Same.refl _)
 .rintro ⟨kk,v⟩ H3 q hm - s3 hq R hR;obtain⟨t,n,a,e,ha⟩:=hdk _ hm;cases e;have hq':H3 q=some (.tup [.int t,.str n]):=hq;have g3:=s3 _ _ g0;have ne3:=ne2.same s3;obtain⟨dn3,c1,c2,c3,rs3,ef3,z0,_⟩:=id ne3;show (_:TE) (some (V.ref q)::some (V.int (a:Int))::[some (.ref hn)]) H3 R;tm_at"a";refine⟨q,_,0,_,rfl,rfl,SqT.of hq',rfl,?_⟩;tm_at"a";refine⟨q,_,1,_,rfl,rfl,SqT.of hq',rfl,?_⟩;tm_at"a";refine aDL ne3 ha ?_;tm_at"a";rename_i q4 H4 n4 S4 e4;exact hR _ _ ⟨q4,rfl,by rw[e4];show _=some (HO.tup [V.int t,V.str n,V.int (at0 sp ((a:Int).toNat+1))]);rw[fc]⟩ S4
 intro ys H3 s3 hys;rw[dM]at hys;have hpl:cV H3 ys (dk.map (cS sp)):=by
  have:∀{es:List (List Key×V)}{zs:List V},bu (λe y=>AM H3 y (cS sp e)) es zs->cV H3 zs (es.map (cS sp)):=λ{es zs} h=>by
   induction h with
   | nil=>exact .nil
   | cons h t ih=>exact .cons h ih
  exact this hys
 have hyl:(dk.map (cS sp)).length=dk.length:=ae _;tm_at"a";rename_i p4 H4 n4 S4 f4;refine uB (S4 _ _ (s3 _ _ f2)) λH5 B5 f5=> ?_;have hp4:p4≠x.a4:=λz=>by
  have h:=s3 _ _ f2;rw[z]at n4;rw[n4]at h;cases h
 have nl:∀b o,H3 b=some o->(∀oo xx,o≠HO.frz oo xx)->b≠x.a4:=λb o hb ho z=>by
  rw[z,s3 _ _ f2]at hb;exact ho _ _ (dg hb).symm
 have hpl5:cV H5 ys (dk.map (cS sp)):=Paired.imp' (λv r ⟨q,e,h⟩=>⟨q,e,B5 _ _ (S4 _ _ h) (nl _ _ h λ_ _ z=>nomatch z)⟩) hpl;have s5:Same H0 H5:=λb v hb=>by
  have hb4:b≠x.a4:=λz=>by
   have:=hfr x.a4 (ab _ (ab _ (ab _ (ab _ (.head _)))));rw[z,this]at hb;cases hb
  exact B5 _ _ (S4 _ _ (s3 _ _ (B2 _ _ (hS _ _ hb) hb4))) hb4
 have htk:(fE (dk.map (cS sp))).length<64:=by
  have h1:=DL (dk.map (cS sp));unfold fE;rw[ae];have h2:=du aAD (jJ (dk.map (cS sp)))
  lia
 tm_at"a";refine aEL (SqL.of (B5 _ _ f4 hp4)) hpl5 (by lia) htk λp6 ws6 xs6 H6 n6 S6 f6 hp6 hx6=> ?_;tm_at"a";exact k p6 ws6 xs6 H6 (s5.trans S6) f6 hp6 hx6
theorem D6(m:M K mg):Mc P w K mg base m.aQ "rows" 3 (D1 m.aV m.aQ m.aM (aP P w K mg base (some 4))):=⟨_,_,_,m.bM.ic.cl,m.D9,m.mW.b,C5 m⟩
def nb(R k:Nat):Nat:=1+k * (2 * R+1)
theorem rJ(R k:Nat):nb R (k+1)=nb R k+R+1+R:=by unfold nb;rw[qu];lia
def pnK(rz:List (Str×Int))(k:Nat)(z:Str):Nat:=nb rz.length k+ixR rz z
def LK(rz ps:List (Str×Int))(ds:List aF)(f l pl:Int):Nat->List Arc
 | 0=>bZ (λ_=>0) (λe=>dA ps e.1) rz 1
 | k+1=>LK rz ps ds f l pl k++iS rz ds (pnK rz k) f l pl (f+(k:Int)) (nb rz.length k+rz.length)
def pkK(rz:List (Str×Int))(f:Int):Nat->List (List Key×V)
 | 0=>dS f rz 1
 | k+1=>pkK rz f k++dS (f+(k:Int)+1) rz (nb rz.length k+rz.length+1+rz.length)
def dkK(rz ps:List (Str×Int))(ds:List aF)(f l pl:Int):Nat->List (List Key×V)
 | 0=>[]
 | k+1=>dkK rz ps ds f l pl k++dkB rz ds (f+(k:Int)) (LK rz ps ds f l pl k).length
theorem C7(ds:List aF):(ds.filter exO).length+(ds.filter inD).length=ds.length:=by
 induction ds with
 | nil=>rfl
 | cons d l ih =>
  by_cases h:exO d=true
  .rw[da h,cx (by unfold inD;rw[h];decide),bb,bb];lia
  .rw[cx h,da (by unfold inD;rw[Bool.not_eq_true]at h;rw[h];rfl),bb,bb];lia
theorem ZM(rz:List (Str×Int))(ds:List aF)(pn:Str->Nat)(f l pl u:Int)(N:Nat):(iS rz ds pn f l pl u N).length=ds.length+2 * rz.length:=by
 have:=C7 ds;unfold iS exL doL;rw[ao,ao,ao,gO,gO,ae,ae];lia
theorem aCQ(rz:List (Str×Int))(ds:List aF)(u:Int)(a:Nat):(dkB rz ds u a).length=ds.length:=by
 have:=C7 ds;unfold dkB;rw[ao,nR,nR];lia
theorem FN(rz ps:List (Str×Int))(ds:List aF)(f l pl:Int):∀k,(LK rz ps ds f l pl k).length=rz.length+k * (ds.length+2 * rz.length)
 | 0=>by show (bZ _ _ _ _).length=_;rw[gO];lia
 | k+1=>by
  show oq (_++_)=_;rw[ao,FN rz ps ds f l pl k,ZM,qu];lia
theorem BP(rz ps:List (Str×Int))(ds:List aF)(f l pl:Int):∀k,(dkK rz ps ds f l pl k).length=k * ds.length
 | 0=>by rw[wx];rfl
 | k+1=>by
  show oq (_++_)=_;rw[ao,BP rz ps ds f l pl k,aCQ,qu];lia
theorem QV(rz:List (Str×Int))(f:Int):∀k,(pkK rz f k).length=(k+1) * rz.length
 | 0=>by show (dS _ _ _).length=_;rw[xK];lia
 | k+1=>by
  show oq (_++_)=_;rw[ao,QV rz f k,xK,qu (k+1)];lia
theorem Q5{ds:List aF}{u:Int}{a:Nat}{k:List Key}(h:k∈(dkB rz ds u a).map (·.1)):∃d∈ds,k=bV u d.1:=by
 unfold dkB at h;rw[aw,gN,gN]at h;rcases bh.mp h with h|h
 .rcases ag.mp h with⟨d,hd,rfl⟩;exact⟨d,(cg.mp hd).1,rfl⟩
 .rcases ag.mp h with⟨d,hd,rfl⟩;exact⟨d,(cg.mp hd).1,rfl⟩
theorem A6{ds:List aF}{q:List Key}:∀{k:Nat},q∈(dkK rz ps ds f l pl k).map (·.1)->∃d∈ds,∃j:Nat,j<k/\q=bV (f+(j:Int)) d.1
 | 0,h=>nomatch h
 | k+1,h=>by
  have h:q∈(dkK rz ps ds f l pl k++dkB rz ds (f+(k:Int)) (LK rz ps ds f l pl k).length).map (·.1):=h;rw[aw]at h;rcases bh.mp h with h|h
  .obtain⟨d,hd,j,hj,e⟩:=A6 h;exact⟨d,hd,j,by lia,e⟩
  .rcases Q5 h with⟨d,hd,e⟩;exact⟨d,hd,k,by lia,e⟩
theorem GE{q:List Key}:∀{k:Nat},q∈(pkK rz f k).map (·.1)->∃e∈rz,∃j:Nat,j<=k/\q=[.inr e.1,.inl (f+(j:Int))]
 | 0,h=>by
  have h:q∈(dS f rz 1).map (·.1):=h;rw[iT]at h;rcases ag.mp h with⟨e,he,rfl⟩;exact⟨e,he,0,aq _,by rw[show f+((0:Nat):Int)=f by lia]⟩
 | k+1,h=>by
  have h:q∈(pkK rz f k++dS (f+(k:Int)+1) rz (nb rz.length k+rz.length+1+rz.length)).map (·.1):=h;rw[aw]at h;rcases bh.mp h with h|h
  .obtain⟨e,he,j,hj,e'⟩:=GE h;exact⟨e,he,j,by lia,e'⟩
  .rw[iT]at h;rcases ag.mp h with⟨e,he,rfl⟩;exact⟨e,he,k+1,aq _,by rw[show f+((k+1:Nat):Int)=f+(k:Int)+1 by lia]⟩
theorem xI{t:Int}:∀{l:List (Str×Int)}{a:Nat}{e:List Key×V},e∈dS t l a->∃(z:Str) (t v:Int),e=([.inr z,.inl t],.int v)
 | d::l,a,e,h=>by
  rcases az.mp h with rfl|h
  .exact⟨_,_,_,rfl⟩
  .exact xI h
theorem JQ{e:List Key×V}:∀{k:Nat},e∈pkK rz f k->∃(z:Str) (t v:Int),e=([.inr z,.inl t],.int v)
 | 0,h=>xI h
 | k+1,h=>by
  rcases bh.mp (show e∈pkK rz f k++_ from h) with h|h
  .exact JQ h
  .exact xI h
theorem N1{z':Str}{t t':Int}(h:([.inr z,.inl t]:List Key)=[.inr z',.inl t']):z=z'/\t=t':=by
 injection h with h1 h2;injection h2 with h2 _;exact⟨ir h1,md h2⟩
theorem QY{t:Int}(nr:(rz.map (·.1)).Nodup)(a:Nat):((dS t rz a).map (·.1)).Nodup:=by
 rw[iT];have:(rz.map λe=>([.inr e.1,.inl t]:List Key))=(rz.map (·.1)).map λz=>([.inr z,.inl t]:List Key):=by rw[bw];rfl
 rw[this,kx,gk];exact nr.imp λh z=>h (N1 z).1
theorem LQ(nr:(rz.map (·.1)).Nodup)(f:Int):∀k,((pkK rz f k).map (·.1)).Nodup
 | 0=>QY nr 1
 | k+1=>by
  show ((pkK rz f k++_).map (·.1)).Nodup;rw[aw];refine ib.mpr ⟨LQ nr f k,QY nr _,λa ha b hb e=> ?_⟩;obtain⟨e1,_,j,hj,h1⟩:=GE ha;rw[iT]at hb;rcases ag.mp hb with⟨e2,_,h2⟩;rw[h1,←h2]at e;have:=(N1 e).2
  lia
theorem aCo(nr:(rz.map (·.1)).Nodup)(f:Int)(hz:z∈rz.map (·.1)):∀k:Nat,aW (pkK rz f k) [.inr z,.inl (f+(k:Int))]=some (.int (pnK rz k z:Int))
 | 0=>by
  have h:=eZ (LQ nr f 0) (show ([.inr z,.inl f],(.int ((1+ixR rz z:Nat):Int):V))∈pkK rz f 0 from GI f hz);rw[show f+((0:Nat):Int)=f by lia];unfold pnK nb;rw[wx];exact h
 | k+1=>by
  have hm:=GI (f+(k:Int)+1) (a:=nb rz.length k+rz.length+1+rz.length) hz;have h:=eZ (LQ nr f (k+1)) (show _∈pkK rz f k++_ from bp _ hm);rw[show f+((k+1:Nat):Int)=f+(k:Int)+1 by lia];unfold pnK;rw[rJ];exact h
def oN(R j:Nat):Nat:=nb R j+R
def oE(R:Nat):List Int->Nat->Int->Int
 | [],_,_=>0
 | y::l,j,v=>(if (oN R j:Int)=v then y else 0)+oE R l (j+1) v
theorem P9(R:Nat)(y v:Int):∀(l:List Int) (j:Nat),oE R (l++[y]) j v=oE R l j v+if (oN R (j+l.length):Int)=v then y else 0
 | [],j=>by
  show (if (oN R j:Int)=v then y else 0)+0=0+if (oN R (j+0):Int)=v then y else 0;rw[su];lia
 | x::l,j=>by
  show _+oE R (l++[y]) (j+1) v=(_+oE R l (j+1) v)+_;rw[P9 R y v l (j+1),bb,show j+1+l.length=j+(l.length+1) by lia];lia
theorem wO(R:Nat){k:Nat}(h:j<k):oN R j<nb R k:=by
 unfold oN nb;have:(j+1) * (2 * R+1)<=k * (2 * R+1):=yf _ h;rw[qu]at this
 lia
theorem aEc(R j:Nat):0<oN R j:=by unfold oN nb;lia
def excOk(R:Nat)(L:List Arc)(sp outs:List Int):Prop:=∀v,cH L sp v=oE R outs 0 v - if (0:Int)=v then outs.sum else 0
def Bst(R:Nat)(LX:List Arc)(j:Nat)(outs:List Int):Prop:=∃sp rs,CapOk sp LX/\(∀m,0<=at0 sp m)/\excOk R LX sp outs/\MW (cG LX) sp 0 (oN R j:Int) rs
def LX(rz ps:List (Str×Int))(ds:List aF)(f l pl:Int)(k:Nat):List Arc:=LK rz ps ds f l pl k++exL ds (pnK rz k) f l (f+(k:Int)) (oN rz.length k)
def BstAll(rz ps:List (Str×Int))(ds:List aF)(f l pl:Int)(outs:List Int):Prop:=∀j,j<outs.length->Bst rz.length (LX rz ps ds f l pl j) j (outs.take (j+1))
theorem excOk.more{R:Nat}{L L':List Arc}{sp:List Int}{y:Int}(h:excOk R L sp outs)(e:∀v,cH L' sp' v=cH L sp v+((if (oN R outs.length:Int)=v then y else 0) - if (0:Int)=v then y else 0)):excOk R L' sp' (outs++[y]):=λv=>by
 rw[e v,h v,P9,si,iu];have:[y].sum=y:=by rw[dh];exact ja _
 rw[this]
 split<;>split<;>lia
theorem BstAll.more{ds:List aF}{y:Int}(h:BstAll rz ps ds f l pl outs)(b:Bst rz.length (LX rz ps ds f l pl outs.length) outs.length (outs++[y])):BstAll rz ps ds f l pl (outs++[y]):=λj hj=>by
 rw[ao]at hj;have hj:j<outs.length+1:=hj
 by_cases he:j=outs.length
 .subst he;rw[iq (by rw[ao];exact aq _)];exact b
 .rw[jd (by lia)];exact h j (by lia)
theorem MA{ts sp rs:List Int}(nd:rs.Nodup)(h0:∀k,0<=at0 sp k):∀n:Nat,- xA ts sp rs n<=pH ts sp rs n
 | 0=>by
  have e:∀l:List Int,(l.map λv=>cW ts sp v 0).sum=0:=λl=>by
   induction l with
   | nil=>rfl
   | cons a l ih=>rw[bo,dh,ih];rfl
  have e':pH ts sp rs 0=0:=e rs;rw[e'];exact gc _
 | n+1=>by
  have ih:=MA nd h0 n (ts:=ts);unfold pH at ih ⊢;have e:(rs.map λv=>cW ts sp v (n+1)).sum=(rs.map λv=>cW ts sp v n).sum+((rs.map λv=>if at0 ts (2 * n)=v then at0 sp (2 * n+1) else 0).sum - (rs.map λv=>if at0 ts (2 * n+1)=v then at0 sp (2 * n+1) else 0).sum):=vX rs _ _ _;rw[e,lG nd,lG nd,uL];have a0:=h0 (2 * n);have a1:=h0 (2 * n+1)
  by_cases ht:at0 ts (2 * n+1)∈rs
  .by_cases hh:at0 ts (2 * n)∈rs
   .rw[if_pos hh,if_pos ht,if_neg (λz=>z.2 hh)];lia
   .rw[if_neg hh,if_pos ht,if_pos ⟨ht,hh⟩];lia
  .by_cases hh:at0 ts (2 * n)∈rs
   .rw[if_pos hh,if_neg ht,if_neg (λz=>ht z.1)];lia
   .rw[if_neg hh,if_neg ht,if_neg (λz=>ht z.1)];lia
def DR(sp:List Int)(v:Nat)(a:Arc)(k:Nat):Int:=(if a.2.1=v then at0 sp (2 * k+1) else 0) - if a.1=v then at0 sp (2 * k+1) else 0
def gZ(sp:List Int)(v:Nat):List Arc->Nat->Int
 | [],_=>0
 | a::l,k=>DR sp v a k+gZ sp v l (k+1)
theorem kR(sp:List Int)(v:Nat)(B:List Arc):∀(A:List Arc) (k:Nat),gZ sp v (A++B) k=gZ sp v A k+gZ sp v B (k+A.length)
 | [],k=>by show _=0+gZ sp v B (k+0);rw[su];exact(gp _).symm
 | a::A,k=>by
  show _+gZ sp v (A++B) (k+1)=(_+gZ sp v A (k+1))+_;rw[kR sp v B A (k+1),bb,show k+1+A.length=k+(A.length+1) by lia];lia
theorem iU(sp:List Int)(v:Nat):∀(A:List Arc) (k:Nat),(∀a∈A,a.2.1≠v/\a.1≠v)->gZ sp v A k=0
 | [],_,_=>rfl
 | a::A,k,h=>by
  rcases h a (.head _) with⟨h1,h2⟩;show DR sp v a k+_=0;unfold DR;rw[if_neg h1,if_neg h2,iU sp v A (k+1) λb hb=>h b (ab _ hb)];rfl
def flS(sp:List Int):Nat->Nat->Int
 | 0,_=>0
 | n+1,k=>at0 sp (2 * k+1)+flS sp n (k+1)
theorem QP(sp:List Int)(v:Nat):∀(A:List Arc) (k:Nat),(∀a∈A,a.2.1=v/\a.1≠v)->gZ sp v A k=flS sp A.length k
 | [],_,_=>rfl
 | a::A,k,h=>by
  rcases h a (.head _) with⟨h1,h2⟩;show DR sp v a k+_=at0 sp (2 * k+1)+flS sp A.length (k+1);unfold DR;rw[if_pos h1,if_neg h2,QP sp v A (k+1) λb hb=>h b (ab _ hb)];lia
theorem aEZ(L:List Arc)(sp:List Int)(v:Nat):cH L sp (v:Int)=gZ sp v L 0:=by
 have key:∀n,n<=L.length->cW (cG L) sp (v:Int) n=gZ sp v (L.take n) 0:=λn=>by
  induction n with
  | zero=>intro _;rfl
  | succ n ih =>
   intro hn;obtain⟨a,ha⟩:∃a,L[n]? =some a:=⟨_,ah (by lia)⟩
   rcases BM ha with⟨h1,h2⟩;show cW (cG L) sp (v:Int) n+_=_;rw[ih (by lia),aU ha,kR,h1,h2];have hl:0+(L.take n).length=n:=by rw[cw];lia
   rw[hl];show _=_+(DR sp v a n+0);unfold DR
   by_cases c1:a.2.1=v
   .by_cases c2:a.1=v
    .rw[if_pos (by lia),if_pos (by lia),if_pos c1,if_pos c2];lia
    .rw[if_pos (by lia),if_neg (by lia),if_pos c1,if_neg c2];lia
   .by_cases c2:a.1=v
    .rw[if_neg (by lia),if_pos (by lia),if_neg c1,if_pos c2];lia
    .rw[if_neg (by lia),if_neg (by lia),if_neg c1,if_neg c2];lia
 unfold cH;rw[key _ (aq _),cp]
theorem rQ(hz:z∈rz.map (·.1))(k:Nat):nb rz.length k<=pnK rz k z/\pnK rz k z<oN rz.length k:=by
 have:=gE hz;unfold pnK oN
 lia
theorem aAY(R:Nat){k:Nat}(h:j<=k):nb R j<=nb R k:=by
 unfold nb;have:=yf (2 * R+1) h
 lia
theorem aDq{ds:List aF}{u:Int}(din:∀d∈ds,b7 (rz.map (·.1)) d)(sp:List Int)(i j a:Nat):gZ sp (oN rz.length j) (iS rz ds (pnK rz i) f l pl u (oN rz.length i)) a=if i=j then flS sp (ds.filter exO).length a else 0:=by
 have hpn:∀d∈ds,nb rz.length i<=pnK rz i d.2.1/\pnK rz i d.2.1<oN rz.length i:=λd hd=>rQ (din d hd).1 i;have hpe:∀e∈rz,nb rz.length i<=pnK rz i e.1/\pnK rz i e.1<oN rz.length i:=λe he=>rQ (ag.mpr ⟨e,he,rfl⟩) i;have hrange:∀x:Nat,nb rz.length i<=x->x<oN rz.length i+1+rz.length+rz.length->x≠oN rz.length i->x≠oN rz.length j:=λx h1 h2 h3 z=>by
  rcases uz j i with h|h|h
  .have:=wO rz.length h
   lia
  .rw[h]at z;exact h3 z
  .have h4:=aAY rz.length (show i+1<=j from h);rw[rJ]at h4;unfold oN at z h2
   lia
 have hoN:oN rz.length i=nb rz.length i+rz.length:=rfl;unfold iS;rw[kR,kR,kR];have z1:gZ sp (oN rz.length j) (bZ (pnK rz i) (λ_=>pl) rz (oN rz.length i+1)) (a+(exL ds (pnK rz i) f l u (oN rz.length i)).length)=0:=iU _ _ _ _ λx hx=>by
  obtain⟨e,he,h1,h2,h3,h4⟩:=fD _ _ _ _ x hx;have:=hpe e he;exact⟨hrange _ (by lia) (by lia) (by lia),hrange _ (by lia) (by lia) (by lia)⟩
 have z2:∀b,gZ sp (oN rz.length j) (doL rz ds (pnK rz i) f l u (oN rz.length i)) b=0:=λb=>iU _ _ _ _ λx hx=>by
  unfold doL at hx;rcases ag.mp hx with⟨d,hd,rfl⟩;rcases cg.mp hd with⟨hd1,hd2⟩;have h1:=hpn d hd1;have h2:GL d.2.2.1∈rz.map (·.1):=by
   rcases (din d hd1).2 with h|⟨z,h,hz⟩
   .unfold inD exO at hd2;rw[decide_eq_true h]at hd2;exact absurd hd2 (by decide)
   .rw[h];exact hz
  have h3:=gE h2;exact⟨hrange _ (by show _<=_+1+_;lia) (by show _+1+_<_;lia) (by show _+1+_≠_;lia),hrange _ (by show _<=pnK rz i d.2.1;lia) (by show pnK rz i d.2.1<_;lia) (by show pnK rz i d.2.1≠_;lia)⟩
 have z3:∀b,gZ sp (oN rz.length j) (bZ (λz=>oN rz.length i+1+ixR rz z) (λe=>e.2) rz (oN rz.length i+1+rz.length)) b=0:=λb=>iU _ _ _ _ λx hx=>by
  obtain⟨e,he,h1,h2,h3,h4⟩:=fD _ _ _ _ x hx;have h5:=gE (ag.mpr ⟨e,he,rfl⟩);exact⟨hrange _ (by lia) (by lia) (by lia),hrange _ (by lia) (by lia) (by lia)⟩
 rw[z1,z2,z3];have z0:gZ sp (oN rz.length j) (exL ds (pnK rz i) f l u (oN rz.length i)) a=if i=j then flS sp (ds.filter exO).length a else 0:=by
  by_cases h:i=j
  .rw[if_pos h,←h];have hl:(exL ds (pnK rz i) f l u (oN rz.length i)).length=(ds.filter exO).length:=by unfold exL;rw[ae]
   rw[←hl];refine QP _ _ _ _ λx hx=> ?_;unfold exL at hx;rcases ag.mp hx with⟨d,hd,rfl⟩;have h1:=hpn d (cg.mp hd).1;exact⟨rfl,by show pnK rz i d.2.1≠_;lia⟩
  .rw[if_neg h];refine iU _ _ _ _ λx hx=> ?_;unfold exL at hx;rcases ag.mp hx with⟨d,hd,rfl⟩;have h1:=hpn d (cg.mp hd).1;refine⟨λz=> ?_,hrange _ (by show _<=pnK rz i d.2.1;lia) (by show pnK rz i d.2.1<_;lia) (by show pnK rz i d.2.1≠_;lia)⟩;have z:oN rz.length i=oN rz.length j:=z;rcases Nat.lt_or_gt_of_ne h with h2|h2
   .have:=wO rz.length h2;unfold oN at z this
    lia
   .have:=wO rz.length h2;unfold oN at z this
    lia
 rw[z0]
 lia
theorem WL{ds:List aF}(din:∀d∈ds,b7 (rz.map (·.1)) d)(sp:List Int)(j:Nat):∀k,gZ sp (oN rz.length j) (LK rz ps ds f l pl k) 0=if j<k then flS sp (ds.filter exO).length (LK rz ps ds f l pl j).length else 0
 | 0=>by
  rw[if_neg (by lia)];refine iU _ _ _ _ λx hx=> ?_;obtain⟨e,he,h1,h2,h3,h4⟩:=fD _ _ _ _ x hx;have h5:=aAY rz.length (et j);have h6:nb rz.length 0=1:=by unfold nb;lia
  have h7:oN rz.length j=nb rz.length j+rz.length:=rfl;exact⟨by lia,by lia⟩
 | k+1=>by
  show gZ sp (oN rz.length j) (LK rz ps ds f l pl k++iS rz ds (pnK rz k) f l pl (f+(k:Int)) (oN rz.length k)) 0=_;rw[kR,WL din sp j k,aDq din sp k j,si]
  by_cases h:j<k
  .rw[if_pos h,if_neg (show ¬k=j by lia),if_pos (show j<k+1 by lia)];lia
  .by_cases h2:k=j
   .rw[if_neg h,if_pos h2,if_pos (show j<k+1 by lia),h2];lia
   .rw[if_neg h,if_neg h2,if_neg (show ¬j<k+1 by lia)];rfl
theorem aBt(R:Nat):∀(l:List Int) (i j:Nat) (y:Int),l[j]? =some y->oE R l i (oN R (i+j):Int)=y
 | [],_,_,_,h=>by simp at h
 | x::l,i,0,y,h=>by
  have h:x=y:=by simpa using h
  show (if (oN R i:Int)=(oN R (i+0):Int) then x else 0)+oE R l (i+1) _=y;have z:∀(l:List Int) (i':Nat),i<i'->oE R l i' (oN R (i+0):Int)=0:=λl=>by
   induction l with
   | nil=>intro _ _;rfl
   | cons b l ih =>
    intro i' hi;show (if (oN R i':Int)=(oN R (i+0):Int) then b else 0)+oE R l (i'+1) _=0;have h1:=wO R hi;rw[if_neg (by unfold oN at *;rw[su];lia),ih (i'+1) (by lia)];rfl
  rw[if_pos (show (oN R i:Int)=(oN R (i+0):Int) by rw[su]),z l (i+1) (by lia),h];lia
 | x::l,i,j+1,y,h=>by
  have h:l[j]? =some y:=by simpa using h
  show (if (oN R i:Int)=(oN R (i+(j+1)):Int) then x else 0)+oE R l (i+1) _=y;have h1:=wO R (show i<i+(j+1) by lia);rw[if_neg (by unfold oN at *;lia),show i+(j+1)=i+1+j by lia,aBt R l (i+1) j y h];lia
def o8(ds:List aF):List Str:=(ds.filter exO).map (·.1)
def c7(ds:List aF)(rows:List bQ)(t:Int):Int:=((rows.filter λr=>decide (r.2.1∈o8 ds)&&decide (r.1<t)).map (·.2.2)).sum
theorem DN{a b:List Int}(h:a.Perm b):a.sum=b.sum:=by
 induction h with
 | nil=>rfl
 | cons x _ ih=>rw[dh,dh,ih]
 | swap x y l=>rw[dh,dh,dh,dh];lia
 | trans _ _ i1 i2=>rw[i1,i2]
theorem qQ(c:bQ->Bool):∀rows:List bQ,((rows.filter c).map (·.2.2)).sum=(rows.map λr=>if c r=true then r.2.2 else 0).sum
 | []=>rfl
 | r::rows=>by
  by_cases h:c r=true
  .rw[da h,bo,dh,bo,dh,qQ c rows,if_pos h]
  .rw[cx h,bo,dh,qQ c rows,if_neg h,gp]
theorem qS(ds:List aF)(a b:List bQ)(t:Int):c7 ds (a++b) t=c7 ds a t+c7 ds b t:=by
 unfold c7;rw[fh,aw,iu]
theorem aDP(nd:(rows.map λr=>bV r.1 r.2.1).Nodup):jJ rows=rows.map λr=>(bV r.1 r.2.1,(.int r.2.2:V)):=by
 induction rows using BB with
 | h0=>rfl
 | hs l r ih =>
  rw[aw]at nd;have h1:=(ib.mp nd).1;have h2:bV r.1 r.2.1∉l.map λr=>bV r.1 r.2.1:=λz=>(ib.mp nd).2.2 _ z _ (.head _) rfl;have hv:aW (jJ l) (bV r.1 r.2.1)=none:=rB (by rw[ih h1,bw];exact h2);rw[o7];unfold NY;rw[eF _ hv,hv,ih h1,aw];show _++[(_,V.int ((0:Int)+r.2.2))]=_;rw[gp];rfl
theorem GN(nd:(rows.map λr=>bV r.1 r.2.1).Nodup):fE rows=(rows.filter λr=>decide (0<r.2.2)).map fP:=by
 unfold fE;rw[aDP nd,rj,bw];rfl
def gK(ds:List aF)(t:Int):List Key->Int
 | [.inl a,.inr n,.inl i]=>if (decide (n∈o8 ds)&&decide (a<t))=true then i else 0
 | _=>0
theorem MC(ds:List aF)(t:Int)(rows:List bQ):c7 ds rows t=((rows.map fP).map (gK ds t)).sum:=by
 unfold c7;rw[qQ,bw];rfl
theorem O9{ds:List aF}{xs:List bQ}(h:xs.map fP=lV (fE rows))(nd:(rows.map λr=>bV r.1 r.2.1).Nodup)(h0:∀r∈rows,0<=r.2.2)(t:Int):c7 ds xs t=c7 ds rows t:=by
 rw[MC,MC,h,DN ((qN _).map _),GN nd];have key:∀l:List bQ,(∀r∈l,0<=r.2.2)->(((l.filter λr=>decide (0<r.2.2)).map fP).map (gK ds t)).sum=((l.map fP).map (gK ds t)).sum:=λl=>by
  induction l with
  | nil=>intro _;rfl
  | cons r l ih =>
   intro hl;have ih':=ih λx hx=>hl x (ab _ hx);rw[bo,bo,dh,←ih']
   by_cases hc:0<r.2.2
   .rw[da (by simpa using hc),bo,bo,dh]
   .have h1:=hl r (.head _);have h2:r.2.2=0:=by lia
    have h3:gK ds t (fP r)=0:=by
     show (if _ then r.2.2 else 0)=0;rw[h2];split<;>rfl
    rw[cx (by simpa using hc),h3,gp]
 exact key rows h0
theorem YG{xs:List bQ}(h:xs.map fP=lV (fE rows))(nd:(rows.map λr=>bV r.1 r.2.1).Nodup){r:bQ}(hr:r∈xs):r∈rows:=by
 have h1:fP r∈xs.map fP:=ag.mpr ⟨r,hr,rfl⟩;rw[h,(qN _).mem_iff,GN nd]at h1;rcases ag.mp h1 with⟨r',hr',e⟩;rw[←YR e];exact(cg.mp hr').1
theorem zT(sp:List Int)(u:Int)(n:Str)(a:Nat):cS sp (bV u n,.int ((2 * a:Nat):Int))=(u,n,at0 sp (2 * a+1)):=by
 show (u,n,at0 sp (((2 * a:Nat):Int).toNat+1))=_;rw[fc]
theorem NP{ds:List aF}{t u:Int}{sp:List Int}:∀(l:List aF) (a:Nat),(∀d∈l,d.1∈o8 ds)->c7 ds ((cN u l a).map (cS sp)) t=if u<t then flS sp l.length a else 0
 | [],a,_=>by
  show (0:Int)=if u<t then 0 else 0
  split<;>rfl
 | d::l,a,h=>by
  have ih:=NP (t:=t) (u:=u) (sp:=sp) l (a+1) λx hx=>h x (ab _ hx);have e:(cN u (d::l) a).map (cS sp)=[(u,d.1,at0 sp (2 * a+1))]++(cN u l (a+1)).map (cS sp):=by
   show cS sp (bV u d.1,.int ((2 * a:Nat):Int))::_=_;rw[zT];rfl
  rw[e,qS,ih];have h1:=h d (.head _);have e1:c7 ds [(u,d.1,at0 sp (2 * a+1))] t=if u<t then at0 sp (2 * a+1) else 0:=by
   unfold c7;rw[qQ];show (if (decide (d.1∈o8 ds)&&decide (u<t))=true then at0 sp (2 * a+1) else 0)+0=_;rw[decide_eq_true h1,lu,ja]
   by_cases c:u<t
   .rw[if_pos c,if_pos (decide_eq_true c)]
   .rw[if_neg c,if_neg (λz=>c (of_decide_eq_true z))]
  rw[e1];show _=if u<t then at0 sp (2 * a+1)+flS sp l.length (a+1) else 0
  split
  .rfl
  .rfl
theorem Q2{ds:List aF}{t u:Int}{sp:List Int}:∀(l:List aF) (a:Nat),(∀d∈l,d.1∉o8 ds)->c7 ds ((cN u l a).map (cS sp)) t=0
 | [],a,_=>rfl
 | d::l,a,h=>by
  have ih:=Q2 (t:=t) (u:=u) (sp:=sp) l (a+1) λx hx=>h x (ab _ hx);have e:(cN u (d::l) a).map (cS sp)=[(u,d.1,at0 sp (2 * a+1))]++(cN u l (a+1)).map (cS sp):=by
   show cS sp (bV u d.1,.int ((2 * a:Nat):Int))::_=_;rw[zT];rfl
  rw[e,qS,ih];unfold c7;rw[cx (by simp[h d (.head _)])];rfl
theorem aBs{ds:List aF}{d:aF}(h:d∈ds.filter exO):d.1∈o8 ds:=ag.mpr ⟨d,h,rfl⟩
theorem X2{ds:List aF}(nd:(ds.map (·.1)).Nodup){d:aF}(h:d∈ds.filter inD):d.1∉o8 ds:=λz=>by
 rcases cg.mp h with⟨h1,h2⟩;rcases ag.mp z with⟨s,hs,e⟩;rcases cg.mp hs with⟨hs1,hs2⟩;have:=NE nd hs1 h1 e;rw[←this]at h2;unfold inD at h2;rw[hs2]at h2;exact absurd h2 (by decide)
theorem QK{ds:List aF}{sp:List Int}(nd:(ds.map (·.1)).Nodup)(h:∀(j:Nat) (y:Int),outs[j]? =some y->flS sp (ds.filter exO).length (LK rz ps ds f l pl j).length=y)(i:Nat):∀k,k<=outs.length->c7 ds ((dkK rz ps ds f l pl k).map (cS sp)) (f+(i:Int))=(outs.take (min k i)).sum
 | 0,_=>by rw[Nat.zero_min];rfl
 | k+1,hk=>by
  obtain⟨y,hy⟩:∃y,outs[k]? =some y:=⟨_,ah (by lia)⟩
  show c7 ds ((dkK rz ps ds f l pl k++dkB rz ds (f+(k:Int)) _).map (cS sp)) _=_;unfold dkB;rw[aw,aw,qS,qS,QK nd h i k (by lia),NP _ _ (λd hd=>aBs hd),Q2 _ _ (λd hd=>X2 nd hd),h k y hy]
  by_cases c:k<i
  .rw[if_pos (by lia),rl (show k<=i by lia),rl (show k+1<=i by lia),aU hy,iu,dh];rfl
  .rw[if_neg (by lia),qj (show i<=k by lia),qj (show i<=k+1 by lia)];lia
theorem RJ{u:Int}{l:List aF}(nd:(l.map (·.1)).Nodup)(a:Nat):((cN u l a).map (·.1)).Nodup:=by
 rw[gN];have:(l.map λd=>bV u d.1)=(l.map (·.1)).map λn=>bV u n:=by rw[bw];rfl
 rw[this,kx,gk];exact nd.imp λh z=>h (gU z).2
theorem RH{ds:List aF}(nd:(ds.map (·.1)).Nodup)(c:aF->Bool):((ds.filter c).map (·.1)).Nodup:=by
 rw[kx,gk]at nd ⊢;exact nd.filter _
theorem VS{ds:List aF}(nd:(ds.map (·.1)).Nodup):∀k,((dkK rz ps ds f l pl k).map (·.1)).Nodup
 | 0=>oy
 | k+1=>by
  show ((dkK rz ps ds f l pl k++dkB rz ds (f+(k:Int)) _).map (·.1)).Nodup;rw[aw];refine ib.mpr ⟨VS nd k,?_,λa ha b hb e=> ?_⟩
  .unfold dkB;rw[aw];refine ib.mpr ⟨RJ (RH nd _) _,RJ (RH nd _) _,λa ha b hb e=> ?_⟩;rw[gN]at ha hb;rcases ag.mp ha with⟨d1,hd1,e1⟩;rcases ag.mp hb with⟨d2,hd2,e2⟩;rcases cg.mp hd1 with⟨h1,h2⟩;rcases cg.mp hd2 with⟨h3,h4⟩;rw[←e1,←e2]at e;rw[NE nd h1 h3 (gU e).2]at h2;unfold inD at h4;rw[h2]at h4;exact absurd h4 (by decide)
  .obtain⟨d1,_,j,hj,e1⟩:=A6 ha;rcases Q5 hb with⟨d2,_,e2⟩;rw[e1,e2]at e;have:=(gU e).1
   lia
theorem wF{u:Int}:∀{l:List aF}{a:Nat}{e:List Key×V},e∈cN u l a->∃(n:Str) (b:Nat),e=(bV u n,.int ((2 * b:Nat):Int))/\b<a+l.length
 | d::l,a,e,h=>by
  rcases az.mp h with rfl|h
  .exact⟨_,a,rfl,by rw[bb];lia⟩
  .obtain⟨n,b,e1,hb⟩:=wF h;exact⟨n,b,e1,by rw[bb];lia⟩
theorem o6{ds:List aF}{e:List Key×V}:∀{k:Nat},e∈dkK rz ps ds f l pl k->∃(t:Int) (n:Str) (b:Nat),e=(bV t n,.int ((2 * b:Nat):Int))/\b<(LK rz ps ds f l pl k).length
 | 0,h=>nomatch h
 | k+1,h=>by
  have h1:=FN rz ps ds f l pl k;have h2:=FN rz ps ds f l pl (k+1);rw[qu]at h2;have h3:=C7 ds;rcases bh.mp (show e∈dkK rz ps ds f l pl k++dkB rz ds (f+(k:Int)) _ from h) with h|h
  .obtain⟨t,n,b,e1,hb⟩:=o6 h;exact⟨t,n,b,e1,by lia⟩
  .unfold dkB at h;rcases bh.mp h with h|h
   .obtain⟨n,b,e1,hb⟩:=wF h;exact⟨_,n,b,e1,by lia⟩
   .obtain⟨n,b,e1,hb⟩:=wF h;exact⟨_,n,b,e1,by lia⟩
theorem W3{ds:List aF}(sp:List Int)(k:Nat):((dkK rz ps ds f l pl k).map (cS sp)).map (λr=>bV r.1 r.2.1)=(dkK rz ps ds f l pl k).map (·.1):=by
 rw[bw];refine dw λe he=> ?_;obtain⟨t,n,b,rfl,_⟩:=o6 he;show bV (cS sp _).1 (cS sp _).2.1=_;rw[zT]
theorem aAx{ds:List aF}{xs:List bQ}(nd:(ds.map (·.1)).Nodup)(h:∀r∈xs,r.2.1∈ds.map (·.1)/\f<=r.1/\r.1<l)(t:Int):AI ds f l xs t=c7 ds xs t:=by
 unfold AI c7;have e1:xs.filter (cnt (ds.map (·.1)) f l)=xs:=by
  rw[List.filter_eq_self];intro r hr;rcases h r hr with⟨h1,h2,h3⟩;unfold cnt;rw[decide_eq_true h1,decide_eq_true h2,decide_eq_true h3];rfl
 rw[e1]
 congr 2
 refine List.filter_congr λr hr=> ?_;rcases h r hr with⟨h1,h2,h3⟩;obtain⟨d,hd,hdn,hdo⟩:=EQ h1;have:yC ds r.2.1=decide (r.2.1∈o8 ds):=by
  unfold yC;rw[hdo];show decide (d.2.2.1= .non)=_
  by_cases hx:exO d=true
  .have hx':d.2.2.1= .non:=of_decide_eq_true hx;rw[decide_eq_true hx',←hdn,decide_eq_true (aBs (cg.mpr ⟨hd,hx⟩))]
  .have hx':¬d.2.2.1= .non:=λz=>hx (decide_eq_true z);rw[decide_eq_false hx',←hdn,decide_eq_false (X2 nd (cg.mpr ⟨hd,by unfold inD;rw[Bool.not_eq_true]at hx;rw[hx];rfl⟩))]
 rw[this,Bool.and_comm]
theorem JP{ts sp rs:List Int}(nd:rs.Nodup)(h0:∀k,0<=at0 sp k):∀{n:Nat},pH ts sp rs n<= - xA ts sp rs n->∀k,k<2 * n->at0 ts (xr k)∈rs->at0 ts k∉rs->at0 sp k<=0
 | 0,_,k,hk,_,_=>by lia
 | n+1,he,k,hk,h1,h2=>by
  have ih:=JP nd h0 (n:=n) (ts:=ts);have lo:=MA nd h0 n (ts:=ts);unfold pH at ih lo he;have e:(rs.map λv=>cW ts sp v (n+1)).sum=(rs.map λv=>cW ts sp v n).sum+((rs.map λv=>if at0 ts (2 * n)=v then at0 sp (2 * n+1) else 0).sum - (rs.map λv=>if at0 ts (2 * n+1)=v then at0 sp (2 * n+1) else 0).sum):=vX rs _ _ _;rw[e,lG nd,lG nd,uL]at he;have x0:xr (2 * n)=2 * n+1:=by unfold xr;rw[if_pos (by lia)]
  have x1:xr (2 * n+1)=2 * n:=by unfold xr;rw[if_neg (by lia)];lia
  have a0:=h0 (2 * n);have a1:=h0 (2 * n+1)
  by_cases hk':k<2 * n
  .refine ih ?_ k hk' h1 h2
   by_cases ht:at0 ts (2 * n+1)∈rs
   .by_cases hh:at0 ts (2 * n)∈rs
    .rw[if_pos hh,if_pos ht,if_neg (λz=>z.2 hh)]at he;lia
    .rw[if_neg hh,if_pos ht,if_pos ⟨ht,hh⟩]at he;lia
   .by_cases hh:at0 ts (2 * n)∈rs
    .rw[if_pos hh,if_neg ht,if_neg (λz=>ht z.1)]at he;lia
    .rw[if_neg hh,if_neg ht,if_neg (λz=>ht z.1)]at he;lia
  .by_cases hk2:k=2 * n
   .subst hk2;rw[x0]at h1;rw[if_neg h2,if_pos h1,if_pos ⟨h1,h2⟩]at he;lia
   .have hk3:k=2 * n+1:=by lia
    subst hk3;rw[x1]at h1;rw[if_pos h1,if_neg h2,if_neg (λz=>h2 z.1)]at he;lia
theorem BI{ds:List aF}{u:Int}{N:Nat}{a:Arc}(h:a∈exL ds pn f l u N):a.2.1=N:=by
 unfold exL at h;rcases ag.mp h with⟨d,_,rfl⟩;rfl
def trC(rz:List (Str×Int))(ds:List aF)(pn:Str->Nat)(f l pl u:Int)(N:Nat):List Arc:=bZ pn (λ_=>pl) rz (N+1)++(doL rz ds pn f l u N++bZ (λz=>N+1+ixR rz z) (λe=>e.2) rz (N+1+rz.length))
theorem Q6{ds:List aF}{u:Int}{N:Nat}{a:Arc}(h:a∈trC rz ds pn f l pl u N):N<a.2.1:=by
 unfold trC at h;rcases bh.mp h with h|h
 .obtain⟨_,_,_,h1,_⟩:=fD _ _ _ _ _ h
  lia
 .rcases bh.mp h with h|h
  .unfold doL at h;rcases ag.mp h with⟨d,_,rfl⟩;show N<N+1+_
   lia
  .obtain⟨_,_,_,h1,_⟩:=fD _ _ _ _ _ h
   lia
theorem nL(R:Nat){k:Nat}(h:j<k):oN R j<oN R k:=by
 have:=wO R h;unfold oN at this ⊢
 lia
theorem QW(rz ps:List (Str×Int))(ds:List aF)(f l pl:Int)(j:Nat):∀m,∃B,LK rz ps ds f l pl (j+1+m)=LX rz ps ds f l pl j++B/\∀a∈B,oN rz.length j<a.2.1
 | 0=>⟨trC rz ds (pnK rz j) f l pl (f+(j:Int)) (oN rz.length j),by
   unfold LX;rw[cq];rfl,λa h=>Q6 h⟩
 | m+1=>by
  rcases QW rz ps ds f l pl j m with⟨B,e,hB⟩;refine⟨B++iS rz ds (pnK rz (j+1+m)) f l pl (f+((j+1+m:Nat):Int)) (oN rz.length (j+1+m)),?_,λa h=> ?_⟩
  .rw[←cq,←e];rfl
  .have hm:=nL rz.length (show j<j+1+m by lia);rcases bh.mp h with h|h
   .exact hB a h
   .rcases bh.mp h with h|h
    .have:=BI h
     lia
    .have:=Q6 (rz:=rz) (ds:=ds) h
     lia
theorem aFR(rz ps:List (Str×Int))(ds:List aF)(f l pl:Int){k:Nat}(h:j<k):∃B,LX rz ps ds f l pl k=LX rz ps ds f l pl j++B/\∀a∈B,oN rz.length j<a.2.1:=by
 rcases QW rz ps ds f l pl j (k - (j+1)) with⟨B,e,hB⟩;rw[show j+1+(k - (j+1))=k by lia]at e;refine⟨B++exL ds (pnK rz k) f l (f+(k:Int)) (oN rz.length k),?_,λa ha=> ?_⟩
 .rw[←cq,←e];rfl
 .rcases bh.mp ha with ha|ha
  .exact hB a ha
  .have:=BI ha;have:=nL rz.length h
   lia
theorem aC4{d:aF}(hd:b7 (rz.map (·.1)) d)(h:inD d=true):∃z,d.2.2.1= .str z/\z∈rz.map (·.1):=by
 rcases hd.2 with e|e
 .unfold inD exO at h;rw[decide_eq_true e]at h;cases h
 .exact e
theorem aBl{rz:List (Str×Int)}{ds:List aF}(din:∀d∈ds,b7 (rz.map (·.1)) d):∀k,∀a∈LK rz ps ds f l pl k,a.1<oN rz.length k/\a.2.1<oN rz.length k
 | 0,a,h=>by
  obtain⟨_,_,h0,h1,h2,_⟩:=fD _ _ _ _ _ h;have:oN rz.length 0=1+rz.length:=by unfold oN nb;lia
  lia
 | k+1,a,h=>by
  have e:oN rz.length (k+1)=oN rz.length k+1+rz.length+rz.length:=by
   unfold oN;rw[rJ]
  rcases bh.mp h with h|h
  .have:=aBl din k a h
   lia
  .have h:a∈iS rz ds (pnK rz k) f l pl (f+(k:Int)) (oN rz.length k):=h;have hs:∀d∈ds,pnK rz k d.2.1<oN rz.length k:=λd hd=>(rQ (din d hd).1 k).2;rcases bh.mp h with h|h
   .have h1:=BI h;unfold exL at h;rcases ag.mp h with⟨d,hd,rfl⟩;have:=hs d (cg.mp hd).1;show pnK rz k d.2.1<_/\oN rz.length k<_
    lia
   .rcases bh.mp h with h|h
    .obtain⟨e1,he,h0,h1,h2,_⟩:=fD _ _ _ _ _ h;have:=(rQ (ag.mpr ⟨e1,he,rfl⟩) k (rz:=rz)).2
     lia
    .rcases bh.mp h with h|h
     .unfold doL at h;rcases ag.mp h with⟨d,hd,rfl⟩;rcases cg.mp hd with⟨hd1,hd2⟩;rcases aC4 (din d hd1) hd2 with⟨z,ez,hz⟩;have h3:=gE hz;have h4:=hs d hd1;show pnK rz k d.2.1<_/\oN rz.length k+1+ixR rz (GL d.2.2.1)<_;rw[ez];show pnK rz k d.2.1<_/\oN rz.length k+1+ixR rz z<_
      lia
     .obtain⟨e1,he,h0,h1,h2,_⟩:=fD _ _ _ _ _ h;have:=gE (ag.mpr ⟨e1,he,rfl⟩:e1.1∈rz.map (·.1))
      lia
theorem KR{ds:List aF}(din:∀d∈ds,b7 (rz.map (·.1)) d)(k:Nat){a:Arc}(h:a∈LX rz ps ds f l pl k):a.1<=oN rz.length k/\a.2.1<=oN rz.length k:=by
 rcases bh.mp h with h|h
 .have:=aBl din k a h
  lia
 .have h1:=BI h;unfold exL at h;rcases ag.mp h with⟨d,hd,rfl⟩;have:=(rQ (din d (cg.mp hd).1).1 k).2;show pnK rz k d.2.1<=_/\oN rz.length k<=_
  lia
def oS(R:Nat)(rs:List Int):List Int->Nat->Int
 | [],_=>0
 | y::l,j=>(if (oN R j:Int)∈rs then y else 0)+oS R rs l (j+1)
theorem A7{R:Nat}{rs:List Int}:∀(l:List Int) (j:Nat),(∀i,j<=i->i<j+l.length->(oN R i:Int)∉rs)->oS R rs l j=0
 | [],_,_=>rfl
 | y::l,j,h=>by
  unfold oS;rw[if_neg (h j (aq _) (by rw[bb];lia)),A7 l (j+1) λi h1 h2=>h i (by lia) (by rw[bb];lia)];rfl
theorem W7{R:Nat}{rs:List Int}:∀(l:List Int) (j:Nat),(∀i,j<=i->i<j+l.length->(oN R i:Int)∈rs)->oS R rs l j=l.sum
 | [],_,_=>rfl
 | y::l,j,h=>by
  unfold oS;rw[if_pos (h j (aq _) (by rw[bb];lia)),W7 l (j+1) λi h1 h2=>h i (by lia) (by rw[bb];lia),dh]
theorem XZ{R:Nat}{rs:List Int}(b:List Int):∀(a:List Int) (j:Nat),oS R rs (a++b) j=oS R rs a j+oS R rs b (j+a.length)
 | [],j=>by
  show oS R rs b j=0+oS R rs b (j+0);rw[su,gp]
 | y::l,j=>by
  show _+oS R rs (l++b) (j+1)=(_+oS R rs l (j+1))+_;rw[XZ b l (j+1),bb,show j+1+l.length=j+(l.length+1) by lia]
  lia
theorem VZ(R:Nat){rs:List Int}(nd:rs.Nodup):∀(l:List Int) (j:Nat),(rs.map λv=>oE R l j v).sum=oS R rs l j
 | [],j=>by
  induction rs with
  | nil=>rfl
  | cons a rs ih=>rw[bo,dh,ih (cm.mp nd).2];rfl
 | y::l,j=>by
  have e:(rs.map λv=>oE R (y::l) j v).sum=(rs.map λv=>oE R l (j+1) v).sum+((rs.map λv=>if (oN R j:Int)=v then y else 0).sum - (rs.map λ_=>(0:Int)).sum):=by
   rw[←vX]
   congr 1
   refine dw λv _=> ?_;show (if (oN R j:Int)=v then y else 0)+oE R l (j+1) v=_
   lia
  have z:(rs.map λ_=>(0:Int)).sum=0:=by
   clear e nd
   induction rs with
   | nil=>rfl
   | cons a rs ih=>rw[bo,dh,ih];rfl
  rw[e,z,VZ R nd l (j+1),lG nd];rw[Int.sub_zero,Int.add_comm];rfl
theorem G1{R:Nat}{L:List Arc}{sp rs:List Int}(nd:rs.Nodup)(h:excOk R L sp os):pH (cG L) sp rs L.length=oS R rs os 0 - if (0:Int)∈rs then os.sum else 0:=by
 have e:pH (cG L) sp rs L.length=(rs.map λv=>(0:Int)).sum+((rs.map λv=>oE R os 0 v).sum - (rs.map λv=>if (0:Int)=v then os.sum else 0).sum):=by
  rw[←vX];unfold pH
  congr 1
  refine dw λv _=> ?_;have:=h v;unfold cH at this;rw[this];exact(gp _).symm
 have z:(rs.map λ_=>(0:Int)).sum=0:=by
  clear e nd
  induction rs with
  | nil=>rfl
  | cons a rs ih=>rw[bo,dh,ih];rfl
 rw[e,z,VZ R nd,lG nd,gp]
theorem YO{L:List Arc}{m:Nat}(h:m<2 * L.length):∃a∈L,at0 (cG L) m=(a.1:Int)∨at0 (cG L) m=(a.2.1:Int):=by
 have hl:m/2<L.length:=by lia
 rcases BM (ah hl) with⟨h1,h2⟩;refine⟨L[m/2],qi hl,?_⟩
 by_cases hm:m%2=0
 .right;rw[←h1];congr 1;lia
 .left;rw[←h2];congr 1;lia
def HJ(n:Nat):List Int:=(el (n+1)).map λi:Nat=>(i:Int)
theorem P8(n:Nat):(HJ n).Nodup:=gk.mpr (mz.imp λh z=>h (Int.ofNat.inj z))
theorem LR{k:Nat}(h:k<=n):(k:Int)∈HJ n:=ag.mpr ⟨k,gr.mpr (by lia),rfl⟩
structure aA6(rz ps:List (Str×Int))(ds:List aF)(f l pl:Int)(outs:List Int)(j:Nat)(rs:List Int):Prop where
 z:(0:Int)∈rs
 o:∀i,i<=j->(oN rz.length i:Int)∉rs
 c:((LX rz ps ds f l pl j).map (gI rs)).sum=(outs.take (j+1)).sum
abbrev inT(R j:Nat)(S:List Int)(v:Int):Prop:=v∈S∨(oN R j:Int)<v
theorem aFD{ds:List aF}{sp S:List Int}{k:Nat}(din:∀d∈ds,b7 (rz.map (·.1)) d)(hjk:j<k)(hk:k<outs.length)(cap:CapOk sp (LX rz ps ds f l pl k))(nn:∀m,0<=at0 sp m)(ex:excOk rz.length (LX rz ps ds f l pl k) sp (outs.take (k+1)))(hS:aA6 rz ps ds f l pl outs j S){m:Nat}(hm:m<2 * (LX rz ps ds f l pl k).length)(h1:inT rz.length j S (at0 (cG (LX rz ps ds f l pl k)) (xr m)))(h2:¬inT rz.length j S (at0 (cG (LX rz ps ds f l pl k)) m)):at0 sp m<=0:=by
 have nd:((HJ (oN rz.length k)).filter λv=>decide (inT rz.length j S v)).Nodup:=(P8 _).filter _;have hmem:∀n:Nat,n<=oN rz.length k->((n:Int)∈(HJ (oN rz.length k)).filter (λv=>decide (inT rz.length j S v))↔inT rz.length j S (n:Int)):=λn hn =>
  ⟨λh=>of_decide_eq_true (cg.mp h).2,λh=>cg.mpr ⟨LR hn,decide_eq_true h⟩⟩
 have hx:xr m<2 * (LX rz ps ds f l pl k).length:=by unfold xr;split<;>lia
 have nodes:∀m,m<2 * (LX rz ps ds f l pl k).length->∃n:Nat,n<=oN rz.length k/\at0 (cG (LX rz ps ds f l pl k)) m=(n:Int):=λm hm=>by
  rcases YO hm with⟨a,ha,e⟩;rcases KR din k ha with⟨b1,b2⟩;rcases e with e|e
  .exact⟨_,b1,e⟩
  .exact⟨_,b2,e⟩
 generalize hT:(HJ (oN rz.length k)).filter (λv=>decide (inT rz.length j S v))=T at nd hmem;have hO:∀i,i<=k->((oN rz.length i:Int)∈T↔j<i):=λi hi=>by
  have hle:oN rz.length i<=oN rz.length k:=by
   rcases uh hi with h|h
   .exact mq (nL _ h)
   .rw[h];exact aq _
  rw[hmem _ hle]
  constructor
  .rintro (h|h)
   .exact Nat.lt_of_not_le λz=>hS.o i z h
   .refine Nat.lt_of_not_le λz=> ?_;rcases uh z with z|z
    .have:=nL rz.length z
     lia
    .rw[z]at h
     lia
  .intro h;have:=nL rz.length h;exact we (by lia)
 have h0:(0:Int)∈T:=(hmem 0 (et _)).mpr (xk hS.z);have hsum:pH (cG (LX rz ps ds f l pl k)) sp T (LX rz ps ds f l pl k).length= - (outs.take (j+1)).sum:=by
  rw[G1 nd ex,if_pos h0];have e:outs.take (k+1)=outs.take (j+1)++(outs.take (k+1)).drop (j+1):=by
   have:=(jr (j+1) (outs.take (k+1))).symm;rw[List.take_take,rl (by lia)]at this;exact this
  have l1:(outs.take (j+1)).length=j+1:=by rw[cw];lia
  have l2:((outs.take (k+1)).drop (j+1)).length=k - j:=by rw[List.length_drop,cw];lia
  generalize (outs.take (k+1)).drop (j+1)=tl at e l2;rw[e,XZ,A7 _ _ (λi _ hi z=>absurd ((hO i (by lia)).mp z) (by lia)),W7 _ _ (λi h1 hi=>(hO i (by lia)).mpr (by lia)),iu]
  lia
 have hcap:xA (cG (LX rz ps ds f l pl k)) sp T (LX rz ps ds f l pl k).length=(outs.take (j+1)).sum:=by
  rw[uJ cap _ (aq _),cp,←hS.c];rcases aFR rz ps ds f l pl hjk with⟨B,e,hB⟩;have hT2:∀a∈B,gI T a=0:=λa ha=>by
   unfold gI;have h1:=hB a ha;have h2:=(KR din k (by rw[e];exact bp _ ha)).2;rw[if_neg λz=>z.2 ((hmem _ h2).mpr (we (by lia)))]
  have hB0:(B.map (gI T)).sum=0:=by
   clear hB e
   induction B with
   | nil=>rfl
   | cons a B ih=>rw[bo,dh,hT2 a (.head _),ih λb hb=>hT2 b (ab _ hb)];rfl
  rw[e,aw,iu,hB0,ja]
  congr 1
  refine dw λa ha=> ?_;rcases KR din j ha with⟨b1,b2⟩;have hjk':=nL rz.length hjk;have hin:∀n:Nat,n<=oN rz.length j->((n:Int)∈T↔(n:Int)∈S):=λn hn=>by
   rw[hmem n (by lia)];exact⟨λh=>h.resolve_right (by lia),xk⟩
  unfold gI;simp only[hin _ b1,hin _ b2]
 have:=JP nd nn (n:=(LX rz ps ds f l pl k).length) (by rw[hsum,hcap];exact gc _) m hm;rcases nodes _ hx with⟨n1,b1,e1⟩;rcases nodes _ hm with⟨n2,b2,e2⟩;rw[e1]at h1 this;rw[e2]at h2 this;exact this ((hmem _ b1).mpr h1) λz=>h2 ((hmem _ b2).mp z)
theorem aDg{ds:List aF}(din:∀d∈ds,b7 (rz.map (·.1)) d)(h:BstAll rz ps ds f l pl outs)(k:Nat):k<outs.length->∃rs,aA6 rz ps ds f l pl outs k rs:=by
 induction k using rh with
 | _ k ih =>
  intro hk;obtain⟨sp,rs,cap,nn,ex,nd,hs0,hso,hsh⟩:=h k hk;rw[iX]at hsh;have key:∀j,j<=k->∃rs:List Int,rs.Nodup/\(0:Int)∈rs/\(oN rz.length k:Int)∉rs/\(∀i,i<j->(oN rz.length i:Int)∉rs)/\∀m,m<2 * (LX rz ps ds f l pl k).length->at0 (cG (LX rz ps ds f l pl k)) (xr m)∈rs->at0 (cG (LX rz ps ds f l pl k)) m∉rs->at0 sp m<=0:=λj=>by
   induction j with
   | zero=>exact λ_=>⟨rs,nd,hs0,hso,λi hi=>absurd hi (jf _),hsh⟩
   | succ j ihj =>
    intro hj;obtain⟨r,r1,r2,r3,r4,r5⟩:=ihj (by lia);obtain⟨S,hS⟩:=ih j (by lia) (by lia);have hm:∀v,v∈r.filter (λv=>decide (inT rz.length j S v))↔v∈r/\inT rz.length j S v:=λv=>by
     rw[cg,decide_eq_true_iff]
    refine⟨r.filter λv=>decide (inT rz.length j S v),r1.filter _,(hm _).mpr ⟨r2,xk hS.z⟩,λz=>r3 ((hm _).mp z).1,λi hi z=> ?_,λm hml h1 h2=> ?_⟩
    .obtain⟨z1,z2⟩:=(hm _).mp z
     by_cases hij:i<j
     .exact r4 i hij z1
     .have hij:i=j:=by lia
      subst hij;rcases z2 with z2|z2
      .exact hS.o i (aq _) z2
      .lia
    .obtain⟨h3,h4⟩:=(hm _).mp h1
     by_cases h5:at0 (cG (LX rz ps ds f l pl k)) m∈r
     .exact aFD din (show j<k by lia) hk cap nn ex hS hml h4 λz=>h2 ((hm _).mpr ⟨h5,z⟩)
     .exact r5 m hml h3 h5
  obtain⟨r,r1,r2,r3,r4,r5⟩:=key k (aq _);have ho:∀i,i<=k->(oN rz.length i:Int)∉r:=λi hi=>by
   rcases uh hi with z|z
   .exact r4 i z
   .rw[z];exact r3
  refine⟨r,r2,ho,?_⟩;have e1:pH (cG (LX rz ps ds f l pl k)) sp r (LX rz ps ds f l pl k).length= - xA (cG (LX rz ps ds f l pl k)) sp r (LX rz ps ds f l pl k).length:=QT r1 (λk _=>nn k) r5;rw[G1 r1 ex,if_pos r2,A7 _ _ (λi _ hi=>ho i (by rw[cw]at hi;lia)),uJ cap _ (aq _),cp]at e1
  lia
theorem aEv{k k':Nat}{sp:Sp}{p pos:Pos}(F:Kc X.prog X.w X.K X.mg X.base x C k dvs sp)(hr:Room k' X.A)(hk:k+1<=k':=by decide)(hg:Gl X x:=by rfl)(hdb:(x==("__debug__" :Str))=false:=by decide):PE X (.Call (.Name x p) [] [] pos) (EI C sp dvs E0 GJ):=by
 obtain⟨f,fd,ps,ds,hm,M,hd,hb,G⟩:=F.ex;exact YQ M G (hr.mono hk) hg hm hb hd t7 hdb
inductive xD(K:W.Frag)(CN CHo:Addr)(D:bE)(vs:List V)(H:Hp)(Q:VK)(E:XK):Prop
 | mk (p C dx h:Addr) (f l:Int) (rz ps:List (Str×Int)) (ds:List aF) (H0:Hp) (_:vs=[.ref p,.ref h]) (_:DCls K C) (_:H p=some (.ins C dx [])) (_:Same H0 H) (_:H0 p=none) (_:HC CHo D H0 h f l rz ps ds) (_:∀x cv sp H',HNS CN C CHo D H0 H' p x f l rz ps ds f (aZ rz ps) [] cv (pkK rz f 0) [] (LK rz ps ds f l (aZ rz ps) 0) sp (nb rz.length 0+rz.length)->cv.length=1->(∀v,cH (LK rz ps ds f l (aZ rz ps) 0) sp v=0)->x.h=h->Q .non H'):xD K CN CHo D vs H Q E
theorem aCs{E:XK}(dc:DCls K CN)(k:∀p fp H',H p=none->Same H H'->(∀b∈fp,H b=none)->NetE CN H' p fp [] [] []->Q (.ref p) H'):lX CN (xW K) [] E Q [] H:=by
 intro x dx nx nd0 ne;have s0:Same H (upd (upd H dx (.own x)) x (.ins CN dx [])):=λb o e=>by
  rw[aI (bA e nx),aI (bA e nd0)];exact e
 refine⟨x,CN,dx,rfl,dc,aR,λfp H' sb hf hne=>⟨rfl,k x fp H' nx (λb o q=>sb b o (s0 b o q) (bA q nx)) (λb hb=> ?_) hne⟩⟩;have h1:=hf b hb;cases hq:H b with
 | none=>rfl
 | some v=>rw[s0 _ _ hq]at h1;cases h1
theorem NS.nil:NS [] [] [[]] 1:=by
 refine⟨⟨⟨0,rfl⟩,rfl,λk hk=>absurd hk (jf _),λu a ha x hx=> ?_,λk u a hk=>absurd hk (jf _),by show 1<_;lia,by show 0<_;lia⟩,λj a h=>by simp at h,λm=> ?_,rfl,λa ha=> ?_⟩
 .have:=ay ha;rw[bz.mp this]at hx;exact nomatch hx
 .rw[aBM (et _)];exact gc _
 .rw[bz.mp ha];exact aq _
theorem xX(m:M K mg):FnOk P w K mg base CX0 4 m.iP m.iM.d ["self","house"] (xD K m.aV m.aM (aP P w K mg base (some 4))):=by
 refine m.iM.F.ok aHo ?_ ?_;tm_at"h";tm_at"g";rcases h with⟨p,C,dx,h,f,l,rz,ps,ds,H0,rfl,dc,hp,hS0,hp0,hc,k⟩;tm_at"f";have nd:=aHo.nd;tm_at"d";have aJb:= @aAm P w K mg base m;have aHc:=m.cJ;have aHa:=m.bJ;refine⟨_,(aB (cC (pv 0) (pv 1) rfl)
  (aB (cC (pv 0) (aH (pv 1) rfl) rfl)
  (aB (cC (pv 0) (cP aC) rfl)
  (aB (cC (pv 0) (cP (aA (cP aC) aC)) rfl)
  (aB (cC (pv 0) (aEv aJb hr) rfl)
  (aB (cC (pv 0) (cA 1 hr (aH (pv 0) rfl)) rfl)
  (aB (cC (pv 0) D7 rfl)
  (aB (cC (pv 0) D7 rfl)
  (aB (cC (pv 0) (cA 1 hr (pv 1)) rfl)
  (aE (cO cn rfl (bN (cA 1 hr (pv 1))) (aL (i:=2) nd rfl (by tm_at"b")) (aB (aO (i:=3) nd rfl (by tm_at"b") (cA 1 hr (aH (pv 0) rfl)))
  (aB (aY (cQ 1 hr (aH (pv 0) rfl) (aA (aH (pv 0) rfl) (aA (pv 3) (aA (cQ 3 hr (pv 1) (aA (pv 2) aC)) aC)))))
  (aE (gB hu1 (aH (pv 0) rfl) (cZ (aA (pv 2) (aA (aH (pv 0) rfl) aC))) (pv 3) rfl))))))))))))))),?_⟩
 refine aJ (σ:=[some (.ref p),some (.ref h),none,none]) rfl ?_;tm_at"e";have M1:= @fI P w K mg base m;have M2:= @gD P w K mg base m;have M3:= @gJ P w K mg base m;have M4:= @nO P w K mg base m;have M5:= @GQ P w K mg base m;have hcH:=hc.same hS0;obtain⟨hdx,hqs,hqp,hqd,hnk,hkvs,ho1,_⟩:=hcH.at'.ex;have nr:=hc.nr;have hrl:=hc.lr;tm_at"a";rename_i H1 B1 e1;have hhp:h≠p:=λz=>by
  obtain⟨dx0,_,_,_,_,_,h0,_⟩:=hc.at'.ex;rw[z,hp0]at h0;cases h0
 have g1:=B1 _ _ ho1 hhp;tm_at"a";rename_i H2 B2 e2 a1 H3 n3 S3 e3 H4 B4 e4 ai H5 n5 S5 e5 a2 H6 n6 S6 e6 H7 B7 e7;have p7:∀b o,H b=some o->b≠p->H7 b=some o:=λb o hb hbp=>B7 _ _ (S6 _ _ (S5 _ _ (B4 _ _ (S3 _ _ (B2 _ _ (B1 _ _ hb hbp) hbp)) hbp))) hbp;have h0p:∀b o,H0 b=some o->b≠p:=λb o hb z=>by rw[z,hp0]at hb;cases hb
 have s7:Same H0 H7:=λb o hb=>p7 b o (hS0 _ _ hb) (h0p b o hb);have k1:a1≠p:=λz=>by rw[z,e2]at n3;cases n3
 have k2:a2≠p:=λz=>by rw[z,S5 _ _ e4]at n6;cases n6
 have f1:H7 a1=some (.lst []):=B7 _ _ (S6 _ _ (S5 _ _ (B4 _ _ e3 k1))) k1;have f2:H7 a2=some (.lst [.ref ai]):=B7 _ _ e6 k2;have k12:a1≠a2:=λz=>by rw[z,]at e3;rw[S5 _ _ (B4 _ _ e3 (by rw[←z];exact k1))]at n6;cases n6
 have z1:H0 a1=none:=by
  cases hq:H0 a1 with
  | none=>rfl
  | some v=>rw[B2 _ _ (B1 _ _ (hS0 _ _ hq) k1) k1]at n3;cases n3
 have z2:H0 a2=none:=by
  cases hq:H0 a2 with
  | none=>rfl
  | some v=>rw[S5 _ _ (B4 _ _ (S3 _ _ (B2 _ _ (B1 _ _ (hS0 _ _ hq) k2) k2)) k2)]at n6;cases n6
 refine aCs m.cJ λn np H8 n8 S8 fp8 ne8=> ?_;have e8:=S8 _ _ e7;tm_at"a";rename_i H9 B9 e9;have kn:n≠p:=λz=>by rw[z,e7]at n8;cases n8
 have kp:p∉np:=λz=>by have:=fp8 p z;rw[e7]at this;cases this
 have ne9:NetE m.aV H9 n np [] [] []:=ne8.on B9 kn kp;obtain⟨dn9,q91,q92,q93,rs9,ef9,y9,_⟩:=id ne9;tm_at"a";refine RA ne9 (by show 0<_;lia) λr H10 n10 fr10 ne10=> ?_;have e10:=fr10 _ _ e9 kp;tm_at"a";rename_i H11 B11 e11 a3 H12 n12 S12 f12 H13 B13 e13 a4 H14 n14 S14 f14 H15 B15 e15;have k3:a3≠p:=λz=>by rw[z,e11]at n12;cases n12
 have k4:a4≠p:=λz=>by rw[z,e13]at n14;cases n14
 have t10:∀b o,H7 b=some o->b≠p->H10 b=some o:=λb o hb hbp=>fr10 _ _ (B9 _ _ (S8 _ _ hb) hbp) λz=>by rw[fp8 b z]at hb;cases hb
 have t15:∀b o,H10 b=some o->b≠p->H15 b=some o:=λb o hb hbp=>B15 _ _ (S14 _ _ (B13 _ _ (S12 _ _ (B11 _ _ hb hbp)) hbp)) hbp;have s15:Same H0 H15:=λb o hb=>t15 b o (t10 b o (s7 _ _ hb) (h0p b o hb)) (h0p b o hb);have hc15:=hc.same s15;have z3:H0 a3=none:=by
  cases hq:H0 a3 with
  | none=>rfl
  | some v=>rw[B11 _ _ (t10 _ _ (s7 _ _ hq) k3) k3]at n12;cases n12
 have z4:H0 a4=none:=by
  cases hq:H0 a4 with
  | none=>rfl
  | some v=>rw[B13 _ _ (S12 _ _ (B11 _ _ (t10 _ _ (s7 _ _ hq) k4) k4)) k4]at n14;cases n14
 have f315:H15 a3=some (.dT []):=B15 _ _ (S14 _ _ (B13 _ _ f12 k3)) k3;have f415:H15 a4=some (.dT []):=B15 _ _ f14 k4;have k34:a3≠a4:=λz=>by rw[←z,B13 _ _ f12 k3]at n14;cases n14
 obtain⟨hdx,hqs,hqp,hqd,hnk,hkvs,ho15,_⟩:=hc15.at'.ex;tm_at"a";refine GO hc15.at' nr λH16 S16=> ?_;have e16:=S16 _ _ e15;tm_at"a";rename_i H17 B17 e17;have t17:∀b o,H15 b=some o->b≠p->H17 b=some o:=λb o hb hbp=>B17 _ _ (S16 _ _ hb) hbp;have s17:Same H0 H17:=λb o hb=>t17 b o (s15 _ _ hb) (h0p b o hb);have hnp:∀b∈np++[r],b≠p:=λb hb=>by
  rcases bh.mp hb with h|h
  .exact λz=>kp (z▸h)
  .rw[bz.mp h];exact λz=>by rw[z,e9]at n10;cases n10
 have ne11:NetE m.aV H11 n (np++[r]) [] [] [[]]:=ne10.on B11 kn λz=>hnp p z rfl;have ne15:NetE m.aV H15 n (np++[r]) [] [] [[]]:=((ne11.same S12).on B13 kn λz=>hnp p z rfl).same S14 |>.on B15 kn λz=>hnp p z rfl
 have ne17:NetE m.aV H17 n (np++[r]) [] [] [[]]:=(ne15.same S16).on B17 kn λz=>hnp p z rfl;have g1:H10 a1=some (.lst []):=t10 _ _ f1 k1;have g2:H10 a2=some (.lst [.ref ai]):=t10 _ _ f2 k2;have np1:∀b o,H7 b=some o->b∉np++[r]:=λb o hb z=>by
  rcases bh.mp z with z|z
  .rw[fp8 b z]at hb;cases hb
  .rw[bz.mp z]at hb;have hrp:r≠p:=hnp r (bp _ (.head _));rw[B9 _ _ (S8 _ _ hb) hrp]at n10;cases n10
 have hh17:HNS m.aV C m.aM (aP P w K mg base (some 4)) H0 H17 p ⟨dx,h,a1,a2,n,a3,a4,[]⟩ f l rz ps ds f (aZ rz ps) [] [.ref ai] [] [] [] [] 1:=by
  refine⟨np++[r],[[]],⟨e17,t17 _ _ (t15 _ _ g1 k1) k1,t17 _ _ (t15 _ _ g2 k2) k2,t17 _ _ f315 k3,t17 _ _ f415 k4,ne17,k34,k12,np1 _ _ f1,np1 _ _ f2,kn⟩,s17,λb hb=> ?_,NS.nil,hc⟩;have hb:b∈p::a1::a2::a3::a4::(np++[r]):=hb;rcases az.mp hb with rfl|hb
  .exact hp0
  .rcases az.mp hb with rfl|hb
   .exact z1
   .rcases az.mp hb with rfl|hb
    .exact z2
    .rcases az.mp hb with rfl|hb
     .exact z3
     .rcases az.mp hb with rfl|hb
      .exact z4
      .cases hq:H0 b with
       | none=>rfl
       | some v=>exact absurd hb (np1 _ _ (s7 _ _ hq))
 clear t17 t15 t10 ne17 ne15 ne11 ne10 ne9 ne8 B1 B2 B4 B7 B9 B11 B13 B15 B17 S3 S5 S6 S8 S12 S14 S16 fr10;generalize hx:(⟨dx,h,a1,a2,n,a3,a4,[]⟩:HNAt)=x at hh17;have hxh:x.h=h:=by rw[←hx]
 have hxn:x.n=n:=by rw[←hx]
 obtain⟨hdx,hqs,hqp,hqd,hnk,hkvs,ho17,_⟩:=hh17.hc'.at'.ex;have ho17:=ho17;rw[hxh]at ho17;tm_at"a";refine i9 (hc.same s17).at' λp9 H18 n18 S18 f18=> ?_;rcases hh17.keep S18 n18 f18 with⟨_,s18,hh18⟩;generalize hB:upd H0 p9 _=B at s18 hh18;have hBp:B p9=some (.lst ((rz.map (·.1)).map V.str)):=by rw[←hB];exact aR
 tm_at"a";let Pv1:Nat->St->Hp->Prop:=λj σ' H'=>(∃sp',HNS m.aV C m.aM (aP P w K mg base (some 4)) B H' p x f l rz ps ds f (aZ rz ps) [] [.ref ai] (dS f (rz.take j) 1) [] (bZ (λ_=>0) (λe=>dA ps e.1) (rz.take j) 1) sp' (1+j)/\∀v,cH (bZ (λ_=>0) (λe=>dA ps e.1) (rz.take j) 1) sp' v=0)/\∃y z,σ'=[some (.ref p),some (.ref h),y,z];refine c6 ((rz.map (·.1)).map V.str) Pv1 ⟨⟨[],hh18,λ_=>rfl⟩,_,_,rfl⟩ (λj σ' H' _ g=> ?_) ?_ ?_
 .obtain⟨⟨sp',g,_⟩,_⟩:=g;exact SqL.of (g.sm _ _ hBp)
 .rintro j yy _ H19 hy19 hq_;obtain⟨⟨sp',hh19,ex19⟩,y1,y2,rfl⟩:=hq_;rcases wJ hy19 with⟨e,hej,rfl⟩;have hem:=ay hej;have hjl:j<rz.length:=(av.mp hej).1;have hez:e.1∈rz.map (·.1):=ag.mpr ⟨e,hem,rfl⟩;have htl:(rz.take j).length=j:=by rw[cw];lia
  obtain⟨e0,e1,e2,e3,e4,⟨ddn,q1,q2,q3,e5⟩⟩:=hh19.ob;tm_at"a";refine v4 hh19 (by lia) λH20 hh20=> ?_;obtain⟨e0,e1,e2,e3,e4,⟨ddn,q1,q2,q3,e5⟩⟩:=hh20.ob;obtain⟨hdx,hqs,hqp,hqd,hnk,hkvs,ho20,_⟩:=hh20.hc'.at'.ex;rw[hxh]at ho20;have ha20:=hh20.hc'.at';rw[hxh]at ha20;tm_at"a";refine aCT (z:=e.1) ha20 nr hez λH21 S21=> ?_;have hh21:=hh20.same S21;tm_at"a";refine EW (s:=0) (t:=1+j) hh21 (by lia) (by lia) (hc.ps0 e.1) (by rw[gO];lia) λH22 hh22=> ?_;obtain⟨e0,e1,e2,e3,e4,⟨ddn,q1,q2,q3,e5⟩⟩:=hh22.ob;tm_at"a";rename_i r23 H23 n23 S23 f23;have hh23:=hh22.same S23;refine xO [.inr e.1,.inl f] (S23 _ _ e3) f23 (by rw[sizeLine_eq,xK];lia) λH24 B24 f24=> ?_;have eK:cB (dS f (rz.take j) 1) [.inr e.1,.inl f] (.int ((1+j:Nat):Int))=dS f (rz.take (j+1)) 1:=by
   have hnw:=UL (pk:=[]) (u:=f) (a:=1) (λ_=>λz=>nomatch z) nr hej;rw[eF _ (show aW (dS f (rz.take j) 1) [.inr e.1,.inl f]=none from hnw),aU hej,yY,htl]
  rw[eK]at f24;have hh24:=hh23.pkp B24 f24;refine⟨⟨sp'++[dA ps e.1,0],?_,λv=> ?_⟩,_,_,rfl⟩
  .rw[aU hej,gR,htl,←aU hej];exact hh24
  .rw[aU hej,gR,htl];exact(hh21.exc _ _ _ v).trans (ex19 v)
 .rintro _ H19 hq_;obtain⟨⟨sp',hh19,ex19⟩,y1,y2,rfl⟩:=hq_;have hl:((rz.map (·.1)).map V.str).length=rz.length:=by rw[ae,ae]
  rw[hl,cp]at hh19 ex19;tm_at"a";refine k x [.ref ai] sp' H19 ?_ rfl ex19 hxh;have hb:=hh19.back s18 (by rw[hxh];exact hc);have en:nb rz.length 0+rz.length=1+rz.length:=by unfold nb;lia
  rw[en];exact hb
theorem KB(m:M K mg):Kc P w K mg base "HouseNet" m.aQ 4 [] (xD K m.aV m.aM (aP P w K mg base (some 4))):=⟨_,_,_,_,m.UD,m.PZ,.nil,m.iM.b,xX m⟩
structure FOk(rz ps:List (Str×Int))(ds:List aF)(f l:Int)(outs sp:List Int):Prop where
 len:(outs.length:Int)=l - f
 nn:∀y∈outs,0<=y
 best:BstAll rz ps ds f l (aZ rz ps) outs
 fl:∀(j:Nat) (y:Int),outs[j]? =some y->flS sp (ds.filter exO).length (LK rz ps ds f l (aZ rz ps) j).length=y
 sp0:∀m,0<=at0 sp m
theorem ZK(h:∀z,0<=dA ps z):0<=aZ rz ps:=by
 unfold aZ
 induction rz with
 | nil=>exact gc _
 | cons e l ih =>
  rw[bo,dh];have:=h e.1
  lia
theorem aFh{D:bE}{E:XK}{h:Addr}{ds:List aF}(dc:DCls K CH)(hc:HC CHo D H h f l rz ps ds)(k:∀p x cv sp H',HNS CN CH CHo D H H' p x f l rz ps ds f (aZ rz ps) [] cv (pkK rz f 0) [] (LK rz ps ds f l (aZ rz ps) 0) sp (nb rz.length 0+rz.length)->cv.length=1->(∀v,cH (LK rz ps ds f l (aZ rz ps) 0) sp v=0)->x.h=h->Q (.ref p) H'):lX CH (xD K CN CHo D) [] E Q [.ref h] H:=by
 intro x dx nx nd0 ne;have s0:Same H (upd (upd H dx (.own x)) x (.ins CH dx [])):=λb o e=>by
  rw[aI (bA e nx),aI (bA e nd0)];exact e
 exact⟨x,CH,dx,h,f,l,rz,ps,ds,H,rfl,dc,aR,s0,nx,hc,λy cv sp H' hh hl he hx=>⟨rfl,k x y cv sp H' hh hl he hx⟩⟩
inductive uG(CN CH CHo:Addr)(D:bE)(vs:List V)(H:Hp)(Q:VK)(E:XK):Prop
 | mk (h:Addr) (f l:Int) (rz ps:List (Str×Int)) (ds:List aF) (_:vs=[.ref h]) (_:HC CHo D H h f l rz ps ds) (_:∀hn x outs cv sp L N H',HNS CN CH CHo D H H' hn x f l rz ps ds l (aZ rz ps) outs cv (pkK rz f outs.length) (dkK rz ps ds f l (aZ rz ps) outs.length) L sp N->(LK rz ps ds f l (aZ rz ps) outs.length).length<=L.length->FOk rz ps ds f l outs sp->Q (.ref hn) H'):uG CN CH CHo D vs H Q E
theorem DO{D:bE}{E:XK}{h:Addr}{ds:List aF}(hc:HC CHo D H h f l rz ps ds)(k:∀hn x outs cv sp L N H',HNS CN CH CHo D H H' hn x f l rz ps ds l (aZ rz ps) outs cv (pkK rz f outs.length) (dkK rz ps ds f l (aZ rz ps) outs.length) L sp N->(LK rz ps ds f l (aZ rz ps) outs.length).length<=L.length->FOk rz ps ds f l outs sp->Q (.ref hn) H'):uG CN CH CHo D [.ref h] H Q E:=⟨_,_,_,_,_,_,rfl,hc,k⟩
theorem ZD{R k:Nat}(hR:R<=4)(hk:k<=8):nb R k+R<200:=by
 unfold nb;have:=ml hk (show 2 * R+1<=9 by lia)
 lia
theorem ZI{ds:List aF}(hR:rz.length<=4)(hD:ds.length<=7){k:Nat}(hk:k<=8):(LK rz ps ds f l pl k).length<200:=by
 rw[FN];have:=ml hk (show ds.length+2 * rz.length<=15 by lia)
 lia
theorem JU(m:M K mg):FnOk P w K mg base CX0 11 m.sW m.mR.d ["house"] (uG m.aV m.aQ m.aM (aP P w K mg base (some 4))):=by
 refine m.mR.F.ok aH9 ?_ ?_;tm_at"h";tm_at"g";rcases h with⟨h,f,l,rz,ps,ds,rfl,hc,k⟩;tm_at"f";have nd:=aH9.nd;tm_at"d";have aIL:= @KB P w K mg base m;have aHb:=m.bM;have aHc:=m.cJ;have aHa:=m.bJ;refine⟨_,(aB (aO (i:=1) nd rfl (by tm_at"b") (uI aIL hr (aA (pv 0) aC)))
  (aB (sV cn (bB kF (aH (pv 1) rfl) (aH (pv 0) rfl) (bG _)) (aE (aY (cA 10 hr (pv 1)))))
  (aB (aY (cA 3 hr (pv 1)))
  (aE (aS (pv 1)))))),?_⟩
 refine aJ (σ:=[some (.ref h),none]) rfl ?_;tm_at"e";have M1:= @CB P w K mg base m;have M2:= @tW P w K mg base m;have nr:=hc.nr;have hrl:=hc.lr;have hdl:=hc.ld;have hfl:=hc.fl;have hf7:=hc.fl7;have hpl0:=ZK (rz:=rz) hc.ps0;tm_at"a";refine aFh m.bM hc λhn x cv sp H1 hh1 hcl ex1 hxh=> ?_;tm_at"a";refine w9 (λmm σ' H'=>∃(outs:List Int) (cv:List V) (sp:List Int),(mm:Int)+(outs.length:Int)=l - f/\HNS m.aV m.aQ m.aM (aP P w K mg base (some 4)) H H' hn x f l rz ps ds (f+(outs.length:Int)) (aZ rz ps) outs cv (pkK rz f outs.length) (dkK rz ps ds f l (aZ rz ps) outs.length) (LK rz ps ds f l (aZ rz ps) outs.length) sp (nb rz.length outs.length+rz.length)/\cv.length=outs.length+1/\(∀y∈outs,0<=y)/\excOk rz.length (LK rz ps ds f l (aZ rz ps) outs.length) sp outs/\BstAll rz ps ds f l (aZ rz ps) outs/\σ'=[some (.ref h),some (.ref hn)]) (l - f).toNat ⟨[],cv,sp,?_,?_,hcl,(λ_ z=>nomatch z),λv=> ?_,λj hj=>absurd hj (jf _),rfl⟩ ?_
 .show _+(0:Int)=_
  lia
 .have e:f+(([]:List Int).length:Int)=f:=ja f;rw[e];exact hh1
 .refine(ex1 v).trans ?_;show (0:Int)=0 - if (0:Int)=v then 0 else 0
  split<;>rfl
 rintro mm _ H2 hq_;obtain⟨outs,cv2,sp2,hmm,hh2,hcl2,hnn,hex,hbst,rfl⟩:=hq_;obtain⟨e0,e1,e2,e3,e4,⟨ddn,q1,q2,q3,e5⟩⟩:=hh2.ob;obtain⟨hdx,hqs,hqp,hqd,hnk,hkvs,ho2,_⟩:=hh2.hc'.at'.ex;rw[hxh]at ho2;have hol:outs.length<=7:=by lia
 have hN:=ZD (R:=rz.length) hrl (show outs.length<=8 by lia);have hLs:=ZI (rz:=rz) (ps:=ps) (ds:=ds) (f:=f) (l:=l) (pl:=aZ rz ps) hrl hdl (show outs.length<=8 by lia);have hN0:0<nb rz.length outs.length+rz.length:=by unfold nb;lia
 have hpn:∀e∈rz,aW (pkK rz f outs.length) [.inr e.1,.inl (f+(outs.length:Int))]=some (.int (pnK rz outs.length e.1:Int))/\pnK rz outs.length e.1<nb rz.length outs.length+rz.length:=λe he=>by
  have hz:e.1∈rz.map (·.1):=ag.mpr ⟨e,he,rfl⟩;exact⟨aCo nr f hz _,(rQ hz _).2⟩
 tm_at"a";refine bR (λhlt=> ?_) (λhlt=> ?_)
 .refine E5 ?_;tm_at"a";have hpk64:(pkK rz f outs.length).length<64:=by
   rw[QV];have:=ml (show outs.length+1<=8 by lia) hrl
   lia
  have hdk64:(dkK rz ps ds f l (aZ rz ps) outs.length).length<5000:=by
   rw[BP];have:=ml hol hdl
   lia
  refine⟨hn,x,pnK rz outs.length,f,l,rz,ps,ds,H,f+(outs.length:Int),aZ rz ps,outs,cv2,_,_,_,sp2,_,rfl,hh2,by lia,hlt,hpl0,hpn,λn z=> ?_,λe he=>JQ he,λz hz=> ?_,hpk64,by lia,by lia,hN0,by lia,by lia,hdk64,λy cv3 sp3 rs sp4 H3 hcv cap3 nn3 ex3 shut hh3 y0 ex4=> ?_⟩
  .obtain⟨d,_,j,hj,e⟩:=A6 z;have:=(gU e).1
   lia
  .obtain⟨e,_,j,hj,e'⟩:=GE hz;have:=(N1 e').2
   lia
  .tm_at"a";have hl1:(outs++[y]).length=outs.length+1:=by rw[ao];rfl
   have e1:f+((outs++[y]).length:Int)=f+(outs.length:Int)+1:=by rw[hl1];lia
   refine⟨mm - 1,by lia,outs++[y],cv3,sp4,?_,?_,?_,?_,?_,?_,rfl⟩
   .rw[hl1];lia
   .rw[e1,hl1,rJ];exact hh3
   .rw[hcv,hl1];lia
   .intro z hz;rcases bh.mp hz with h|h
    .exact hnn z h
    .rw[bz.mp h];exact y0
   .rw[hl1];exact excOk.more hex ex4
   .exact hbst.more ⟨sp3,rs,cap3,nn3,excOk.more hex ex3,shut⟩
 .have hK:(outs.length:Int)=l - f:=by lia
  tm_at"a";refine⟨hn,x,pnK rz outs.length,f,l,rz,ps,ds,H,f+(outs.length:Int),aZ rz ps,outs,cv2,_,_,_,sp2,_,rfl,hh2,hpl0,hpn,hN0,by lia,by lia,λsp5 H5 hh5 ex5=> ?_⟩;tm_at"a";rw[show f+(outs.length:Int)=l by lia]at hh5;refine k hn x outs cv2 sp5 _ _ H5 hh5 (by rw[ao];lia) ⟨hK,hnn,hbst,λj y hj=> ?_,?_⟩
  .have hjl:j<outs.length:=(av.mp hj).1;have h1:=aEc rz.length j;have h2:=wO rz.length hjl;have e5:=ex5 (oN rz.length j:Int) (by lia) (by lia);rw[hex (oN rz.length j:Int),if_neg (by lia)]at e5;have h3:=aBt rz.length outs 0 j y hj;rw[si]at h3;rw[h3,aEZ,kR,WL hc.din sp5 j outs.length,if_pos hjl]at e5;have h4:gZ sp5 (oN rz.length j) (kpL rz (pnK rz outs.length) (nb rz.length outs.length+rz.length) (aZ rz ps)) (0+(LK rz ps ds f l (aZ rz ps) outs.length).length)=0:=iU _ _ _ _ λa ha=>by
    unfold kpL at ha;rcases ag.mp ha with⟨e,he,rfl⟩;have h6:=rQ (ag.mpr ⟨e,he,rfl⟩:e.1∈rz.map (·.1)) outs.length;exact⟨by show nb rz.length outs.length+rz.length≠_;lia,by show pnK rz outs.length e.1≠_;lia⟩
   rw[h4]at e5
   lia
  .rcases hh5.ns with⟨as,ns⟩;exact ns.nn
theorem pM(m:M K mg):Fc P w K mg base "filled_net" 11 ["house"] (uG m.aV m.aQ m.aM (aP P w K mg base (some 4))):=⟨_,_,m.OR,m.mR.F.kp,m.mR.b,JU m⟩
inductive DU(CHo:Addr)(D:bE)(vs:List V)(H:Hp)(Q:VK)(E:XK):Prop
 | mk (h:Addr) (f l:Int) (rz ps:List (Str×Int)) (ds:List aF) (_:vs=[.ref h]) (_:HC CHo D H h f l rz ps ds) (_:∀p ws xs outs sp H',Same H H'->H' p=some (.lst ws)->cV H' ws xs->xs.map fP=lV (fE ((dkK rz ps ds f l (aZ rz ps) outs.length).map (cS sp)))->FOk rz ps ds f l outs sp->Q (.ref p) H'):DU CHo D vs H Q E
theorem L8(m:M K mg):FnOk P w K mg base CX0 12 m.vC m.oX.d ["house"] (DU m.aM (aP P w K mg base (some 4))):=by
 refine m.oX.F.ok aIp ?_ ?_;tm_at"h";tm_at"g";rcases h with⟨h,f,l,rz,ps,ds,rfl,hc,k⟩;tm_at"f";have nd:=aIp.nd;tm_at"d";have aHk:= @pM P w K mg base m;have aHb:=m.bM;have aHc:=m.cJ;have aHa:=m.bJ;refine⟨_,(aE (aS (cA 3 hr (bI aHk hr (aA (pv 0) aC))))),?_⟩;refine aJ (σ:=[some (.ref h)]) rfl ?_;tm_at"e";have M1:= @D6 P w K mg base m;have hrl:=hc.lr;have hdl:=hc.ld;have hf7:=hc.fl7;tm_at"a";refine DO hc λhn x outs cv sp L N H1 hh hL fo=> ?_;obtain⟨e0,e1,e2,e3,e4,⟨ddn,q1,q2,q3,e5⟩⟩:=hh.ob;have hol:outs.length<=7:=by have:=fo.len;lia
 rcases hh.ns with⟨as,ns⟩;have hsl:=ns.splen;have hdk64:(dkK rz ps ds f l (aZ rz ps) outs.length).length<64:=by
  rw[BP];have:=ml hol hdl
  lia
 tm_at"a";refine⟨hn,x,f,l,rz,ps,ds,H,l,aZ rz ps,outs,cv,_,_,L,sp,N,rfl,hh,λe he=> ?_,hdk64,λp ws xs H' s f1 hp hx=> ?_⟩
 .obtain⟨t,n,b,e1,hb⟩:=o6 he;exact⟨t,n,2 * b,e1,by lia⟩
 .exact k p ws xs outs sp H' s f1 hp hx fo
theorem NT(m:M K mg):Fc P w K mg base "first_out" 12 ["house"] (DU m.aM (aP P w K mg base (some 4))):=⟨_,_,m.P4,m.oX.F.kp,m.oX.b,L8 m⟩
theorem QD(ns:List Int)(i:Nat):ME ns none (some (i:Int))=ns.take i:=by
 unfold ME;rw[HT.sIx_nat,HT.sIx_none,Nat.sub_zero,List.drop_zero]
 by_cases h:i<=ns.length
 .rw[rl h]
 .rw[qj (by lia),cp,iq (by lia)]
inductive zH(CHo:Addr)(D:bE)(vs:List V)(H:Hp)(Q:VK)(E:XK):Prop
 | mk (h:Addr) (i:Nat) (f l:Int) (rz ps:List (Str×Int)) (ds:List aF) (_:vs=[.ref h,.int (f+(i:Int))]) (_:HC CHo D H h f l rz ps ds) (_:∀outs sp H',Same H H'->FOk rz ps ds f l outs sp->Q (.int (outs.take i).sum) H'):zH CHo D vs H Q E
theorem R7(m:M K mg):FnOk P w K mg base CX0 12 m.AS m.uR.d ["house","turn"] (zH m.aM (aP P w K mg base (some 4))):=by
 refine m.uR.F.ok aIA ?_ ?_;tm_at"h";tm_at"g";rcases h with⟨h,i,f,l,rz,ps,ds,rfl,hc,k⟩;tm_at"f";have nd:=aIA.nd;tm_at"d";have aHk:= @pM P w K mg base m;have aHb:=m.bM;have aHc:=m.cJ;have aHa:=m.bJ;refine⟨_,(aE (aS (bL (uA rfl) rfl m.F1 yS (aA (MB Q3 (aH (bI aHk hr (aA (pv 0) aC)) rfl) rG (A1 (aK hV (pv 1) (aH (pv 0) rfl)))) aC)))),?_⟩;refine aJ (σ:=[some (.ref h),some (.int (f+(i:Int)))]) rfl ?_;tm_at"e";tm_at"a";refine DO hc λhn x outs cv sp L N H1 hh hL fo=> ?_;obtain⟨e0,e1,e2,e3,e4,⟨ddn,q1,q2,q3,e5⟩⟩:=hh.ob;have s1:=hh.sm;obtain⟨hdx,hqs,hqp,hqd,hnk,hkvs,ho1,_⟩:=(hc.same s1).at'.ex;tm_at"a";rename_i p2 H2 n2 S2 f2;rw[show f+(i:Int) - f=(i:Int) by lia,QD]at f2;refine E7 (SqL.of f2) ?_;exact k outs sp H2 (s1.trans S2) fo
theorem TM(m:M K mg):Fc P w K mg base "most_by" 12 ["house","turn"] (zH m.aM (aP P w K mg base (some 4))):=⟨_,_,m.X7,m.uR.F.kp,m.uR.b,R7 m⟩
def Y7(outs:List Int)(f T:Int)(v:V):Prop:=(∃i,i<=outs.length/\v= .int (f+(i:Int))/\(outs.take i).sum=T/\∀j,j<i->(outs.take j).sum≠T)∨(v= .non/\∀j,j<=outs.length->(outs.take j).sum≠T)
inductive AH(CHo:Addr)(D:bE)(vs:List V)(H:Hp)(Q:VK)(E:XK):Prop
 | mk (h:Addr) (f l:Int) (rz ps:List (Str×Int)) (ds:List aF) (_:vs=[.ref h]) (_:HC CHo D H h f l rz ps ds) (_:∀v outs sp H',Same H H'->FOk rz ps ds f l outs sp->Y7 outs f (aZ rz ps) v->Q v H'):AH CHo D vs H Q E
theorem SR(m:M K mg):FnOk P w K mg base CX0 12 m.AR m.uU.d ["house"] (AH m.aM (aP P w K mg base (some 4))):=by
 refine m.uU.F.ok aID ?_ ?_;tm_at"h";tm_at"g";rcases h with⟨h,f,l,rz,ps,ds,rfl,hc,k⟩;tm_at"f";have nd:=aID.nd;tm_at"d";have aHk:= @pM P w K mg base m;have aHb:=m.bM;have aHc:=m.cJ;have aHa:=m.bJ;refine⟨_,(aB (aO (i:=1) nd rfl (by tm_at"b") (aH (bI aHk hr (aA (pv 0) aC)) rfl))
  (aB (cO cn rfl (JD rfl m.gL (aA (aH (pv 0) rfl) (aA (aK bX (aH (pv 0) rfl) aD) aC))) (aL (i:=2) nd rfl (by tm_at"b")) (aE (b8 (bB fG (bL (uA rfl) rfl m.F1 yS (aA (MB Q3 (pv 1) rG (A1 (aK hV (pv 2) (aH (pv 0) rfl)))) aC)) (cA 1 hr (pv 0)) (bG _)) (aE (aS (pv 2))) bK)))
  (aE (aS pB)))),?_⟩
 refine aJ (σ:=[some (.ref h),none,none]) rfl ?_;tm_at"e";have M1:= @nO P w K mg base m;have nr:=hc.nr;have hfl:=hc.fl;have hf7:=hc.fl7;have hl1:=hc.l1;have hf0:=hc.f0;tm_at"a";refine DO hc λhn x outs cv sp L N H1 hh hL fo=> ?_;obtain⟨e0,e1,e2,e3,e4,⟨ddn,q1,q2,q3,e5⟩⟩:=hh.ob;have s1:=hh.sm;have hol:=fo.len;obtain⟨hdx,hqs,hqp,hqd,hnk,hkvs,ho1,_⟩:=(hc.same s1).at'.ex;tm_at"a";let Pv1:Nat->St->Hp->Prop:=λi σ' H'=>Same H1 H'/\(∀j,j<i->(outs.take j).sum≠aZ rz ps)/\∃y,σ'=[some (.ref h),some (.ref x.a1),y];refine vQ Pv1 ⟨Same.refl _,λj hj=>absurd hj (jf _),_,rfl⟩ ?_ ?_
 .rintro i _ H2 hi hq_;obtain⟨s2,hne,y,rfl⟩:=hq_;have s02:=s1.trans s2;obtain⟨hdx,hqs,hqp,hqd,hnk,hkvs,ho2,_⟩:=(hc.same s02).at'.ex;have e12:=s2 _ _ e1;tm_at"a";rename_i p3 H3 n3 S3 f3;rw[show f+(i:Int) - f=(i:Int) by lia,QD]at f3;refine E7 (SqL.of f3) ?_;have ho3:=S3 _ _ ho2;tm_at"a";refine GO (hc.same (s02.trans S3)).at' nr λH4 S4=> ?_;tm_at"a";refine bR (λhx=> ?_) (λhx=> ?_)
  .tm_at"a";exact k _ outs sp H4 (s02.trans (S3.trans S4)) fo (.inl ⟨i,by lia,rfl,hx,hne⟩)
  .tm_at"a";refine⟨s2.trans (S3.trans S4),λj hj=> ?_,_,rfl⟩
   by_cases hji:j=i
   .rw[hji];exact hx
   .exact hne j (by lia)
 .rintro _ H2 hq_;obtain⟨s2,hne,y,rfl⟩:=hq_;tm_at"a";exact k _ outs sp H2 (s1.trans s2) fo (.inr ⟨rfl,λj hj=>hne j (by lia)⟩)
theorem RU(m:M K mg):Fc P w K mg base "all_out" 12 ["house"] (AH m.aM (aP P w K mg base (some 4))):=⟨_,_,m.YB,m.uU.F.kp,m.uU.b,SR m⟩
def fH(rz:List (Str×Int))(f l:Int)(M:Str->Bool)(d:aF)(u:Int):Bool:=decide (cU f l d u≠0)&&(decide (d.2.2.1= .non)||rz.any λe=>decide (d.2.2.1= .str e.1)&&decide (0<e.2)&&M e.1)
def mkF(rz:List (Str×Int))(ds:List aF)(f l:Int):Nat->Str->Bool
 | 0,_=>false
 | k+1,z=>mkF rz ds f l k z||ds.any λd=>decide (d.2.1=z)&&fH rz f l (mkF rz ds f l k) d (l - 1 - (k:Int))
def jA(rz:List (Str×Int))(ds:List aF)(f l:Int):List Str:=(rz.map (·.1)).filter λz=> !mkF rz ds f l (l - f).toNat z
def G8(kvs:List (Key×V))(M:Str->Bool):Prop:=∀z,(aW kvs (.inr z)).isSome=M z
theorem RQ(s:Same H H')(n:H' p=none):H p=none:=by
 cases h:H p with
 | none=>rfl
 | some o=>rw[s _ _ h]at n;cases n
theorem aEo{M:Str->Bool}(h:G8 kvs M)(z:Str)(v:V):G8 (cB kvs (.inr z) v) (λy=>M y||decide (z=y)):=λy=>by
 show _=(M y||decide (z=y));rw[xS]
 by_cases e:z=y
 .rw[if_pos (by rw[e]),decide_eq_true e,Bool.or_true];rfl
 .rw[if_neg (λq=>e (ir q).symm),decide_eq_false e,ql];exact h y
theorem Z6{k:Key}:(cB kvs k v).length<=kvs.length+1:=by
 unfold cB
 split
 .rw[ae];lia
 .rw[ao];exact aq _
theorem aEe{M:Str->Bool}(nr:(rz.map (·.1)).Nodup){e:Str×Int}(h:e∈rz):(rz.any λx=>decide (V.str e.1= .str x.1)&&decide (0<x.2)&&M x.1)=(decide (0<e.2)&&M e.1):=by
 rw[kz,wc]
 constructor
 .rintro ⟨x,hx,h1⟩;rw[dz,dz]at h1;have e1:e.1=x.1:=V.str.inj (of_decide_eq_true h1.1.1);rcases fg.mp h with⟨i,hi⟩;rcases fg.mp hx with⟨j,hj⟩;have hij:i=j:=by rw[←zW nr hi,←zW nr hj,e1]
  rw[hij,hj]at hi;cases hi;rw[dz];exact⟨h1.1.2,h1.2⟩
 .intro h1;rw[dz]at h1;refine⟨e,h,?_⟩;rw[dz,dz];exact⟨⟨decide_eq_true rfl,h1.1⟩,h1.2⟩
inductive xV(CHo:Addr)(D:bE)(vs:List V)(H:Hp)(Q:VK)(E:XK):Prop
 | mk (h q:Addr) (dv:V) (d:aF) (u f l:Int) (rz ps:List (Str×Int)) (ds:List aF) (kvs:List (Key×V)) (M:Str->Bool) (_:vs=[.ref h,dv,.int u,.ref q]) (_:HC CHo D H h f l rz ps ds) (_:d∈ds) (_:D.at' H dv d) (_:f<=u) (_:u<l) (_:H q=some (.dK kvs)) (_:G8 kvs M) (_:∀H',Same H H'->Q (.bl (fH rz f l M d u)) H'):xV CHo D vs H Q E
theorem aCl{D:bE}{E:XK}{h:Addr}{d:aF}{u:Int}{ds:List aF}{M:Str->Bool}(hc:HC CHo D H h f l rz ps ds)(hd:d∈ds)(hdv:D.at' H dv d)(h0:f<=u)(h1:u<l)(eq:H q=some (.dK kvs))(sv:G8 kvs M)(k:∀H',Same H H'->Q (.bl (fH rz f l M d u)) H'):xV CHo D [.ref h,dv,.int u,.ref q] H Q E:=⟨_,_,_,_,_,_,_,_,_,_,_,_,rfl,hc,hd,hdv,h0,h1,eq,sv,k⟩
theorem PR(m:M K mg):FnOk P w K mg base CX0 7 m.yL m.rA.d ["house","door","turn","saved"] (xV m.aM (aP P w K mg base (some 4))):=by
 refine m.rA.F.ok aIy ?_ ?_;tm_at"h";tm_at"g";rcases h with⟨h,q,dv,d,u,f,l,rz,ps,ds,kvs,M',rfl,hc,hd,hdv,hu0',hu1',eq,sv,k⟩;tm_at"f";have nd:=aIy.nd;tm_at"d";have aHa:=m.bJ;refine⟨_,(aB (b8 (bB fG (cQ 6 hr (pv 0) (aA (aH (pv 1) rfl) (aA (pv 2) aC))) aD (bG _)) (aE (aS A8)) bK)
  (aE (aS (aGH (cA 1 hr (pv 1)) (ES (NH (vZ xF (cQ 3 hr (pv 0) (aA (aH (pv 1) rfl) aC)) aD (bG _)) (ES (aD5 (FI hu1 (aH (pv 1) rfl) (pv 3)) (by with_unfolding_all rfl))))))))),?_⟩
 refine aJ (σ:=[some (.ref h),some (dv),some (.int u),some (.ref q)]) rfl ?_;tm_at"e";obtain⟨dn,dst,de,dlt⟩:=d;obtain⟨q9,C9,dx',fs,fp,rfl,hq9,dcC,l1,l2,l3,l4,l5,mcE,hfp,hlt⟩:=DoorAt.ex hdv;have M1:= @yQ P w K mg base m;have M2:= @vT P w K mg base m;obtain⟨hdx,hqs,hqp,hqd,hnk,hkvs,ho1,_⟩:=hc.at'.ex;tm_at"a";refine Q8 (d:=(dn,dst,de,dlt)) hc.at' hc.nd hd hc.f0 λH1 S1=> ?_;have gq:=S1 _ _ hq9;have eq1:=S1 _ _ eq;have hc1:=hc.same S1;have ho2:=S1 _ _ ho1;tm_at"a";refine bR (λh0=> ?_) (λh0=> ?_)
 .tm_at"a";have e:fH rz f l M' (dn,dst,de,dlt) u=false:=by
   unfold fH;rw[decide_eq_false (λz=>z h0)];rfl
  rw[e]at k;exact k H1 S1
 have e:fH rz f l M' (dn,dst,de,dlt) u=(decide (de= .non)||rz.any λe=>decide (de= .str e.1)&&decide (0<e.2)&&M' e.1):=by
  unfold fH;rw[decide_eq_true h0,lu]
 rw[e]at k;clear e;tm_at"a";refine⟨q9,C9,dx',fs,de,rfl,dcC,gq,l3,?_⟩;rcases (hc.din _ hd).2 with he|⟨z,he,hz⟩
 .have he:de= .non:=he;subst he;rw[decide_eq_true rfl,Bool.true_or]at k;rw[decide_eq_true rfl];tm_at"a";exact k H1 S1
 .have he:de= .str z:=he;subst he;rcases ag.mp hz with⟨e,hem,rfl⟩;rw[aEe hc.nr hem,decide_eq_false (λz=>by cases z),Bool.false_or]at k;rw[decide_eq_false (λz=>by cases z)];tm_at"a";refine RI (z:=e.1) (i:=e.2) hc1.at' hc.nr hem λH2 S2=> ?_;have gq2:=S2 _ _ gq;have eq2:=S2 _ _ eq1;tm_at"a"
  by_cases h2:0<e.2
  .rw[decide_eq_true h2,lu]at k;rw[decide_eq_true h2,if_pos rfl];tm_at"a";refine Q7 (.inl eq2) ?_;rw[sv];exact k H2 (S1.trans S2)
  .rw[decide_eq_false h2,kf]at k;rw[decide_eq_false h2,if_neg bg];exact k H2 (S1.trans S2)
theorem O3(m:M K mg):Fc P w K mg base "leads_on" 7 ["house","door","turn","saved"] (xV m.aM (aP P w K mg base (some 4))):=⟨_,_,m.UI,m.rA.F.kp,m.rA.b,PR m⟩
inductive BC(CHo:Addr)(D:bE)(vs:List V)(H:Hp)(Q:VK)(E:XK):Prop
 | mk (h:Addr) (f l:Int) (rz ps:List (Str×Int)) (ds:List aF) (_:vs=[.ref h]) (_:HC CHo D H h f l rz ps ds) (_:∀p H',H p=none->Same H H'->H' p=some (.lst ((eX (jA rz ds f l)).map V.str))->Q (.ref p) H'):BC CHo D vs H Q E
theorem WW{D:bE}{E:XK}{h:Addr}{ds:List aF}(hc:HC CHo D H h f l rz ps ds)(k:∀p H',H p=none->Same H H'->H' p=some (.lst ((eX (jA rz ds f l)).map V.str))->Q (.ref p) H'):BC CHo D [.ref h] H Q E:=⟨_,_,_,_,_,_,rfl,hc,k⟩
local macro_rules| `(tactic| tm_at"l")=> `(tactic| first|(with_reducible refine YN ?_)|((with_reducible refine' WN ?s ?r ?t ?u ?_);(case s=>tm_at"j");(case r=>tm_at"j");(case t=>tm_at"j");(case u=>tm_at"j")))
theorem aDp(m:M K mg):FnOk P w K mg base CX0 8 m.OS m.F0.d ["house"] (BC m.aM (aP P w K mg base (some 4))):=by
 refine m.F0.F.ok aIR ?_ ?_;tm_at"h";tm_at"g";rcases h with⟨h,f,l,rz,ps,ds,rfl,hc,k⟩;tm_at"f";have nd:=aIR.nd;tm_at"d";have aIV:= @O3 P w K mg base m;have aHa:=m.bJ;refine⟨_,(aB (eG (i:=1) nd rfl (by tm_at"b") (N:=["name","house"]) (nl:=1) (ci:=[0]) rfl (blk (s.heap.objs.size+1) rfl rfl rfl (by kernel_rfl)) (bN (cA 1 hr (pv 0))) (λ_ _ _ _=>(aL (i:=0) (show (["name","house"]:List Str).Nodup by decide +kernel) rfl (by tm_at"b"))) (λ_ _ _ _=>dI) (λ_ _ _ _=>(MT (P:=P) (w:=w) (K:=K) (mg:=mg) (base:=base) 1 hr (pv 1) (aA (pv 0) aC))))
  (aB (aO (i:=2) nd rfl (by tm_at"b") m6)
  (aB (cO cn rfl (XR rfl m.gL (aA (aK hV (aH (pv 0) rfl) aD) (aA (aK hV (aH (pv 0) rfl) aD) (aA (SZ MR aD) aC)))) (aL (i:=3) nd rfl (by tm_at"b")) (aB (eG (i:=4) nd rfl (by tm_at"b") (N:=["door","house","turn","saved"]) (nl:=1) (ci:=[0,3,2]) rfl (blk (s.heap.objs.size+1) rfl rfl rfl (by kernel_rfl)) (bN (pv 1)) (λ_ _ _ _=>(aL (i:=0) (show (["door","house","turn","saved"]:List Str).Nodup by decide +kernel) rfl (by tm_at"b"))) (λ_ _ _ _=>(r9 (kA (bI aIV hr (aA (pv 1) (aA (pv 0) (aA (pv 2) (aA (pv 3) aC)))))))) (λ_ _ _ _=>(rE (K:=K) (pv 0) rfl)))
  (aE (cO cn rfl (bN (pv 4)) (aL (i:=5) nd rfl (by tm_at"b")) (aE (gB hu1 (pv 2) (pv 5) A8 rfl))))))
  (aE (aS (bL z9 rfl m.yK uE (aA (dG (N:=["room","saved"]) (nl:=1) (ci:=[2]) rfl (blk (s.heap.objs.size+1) rfl rfl rfl (by kernel_rfl)) (bN (cA 1 hr (pv 0))) (λ_ _ _ _=>(aL (i:=0) (show (["room","saved"]:List Str).Nodup by decide +kernel) rfl (by tm_at"b"))) (λ_ _ _ _=>(r9 (sM (uO hu1 (pv 0) (pv 1)) (by with_unfolding_all rfl)))) (λ_ _ _ _=>(pv 0))) aC))))))),?_⟩
 refine aJ (σ:=[some (.ref h),none,none,none,none,none]) rfl ?_;tm_at"e";have M1:= @i8 P w K mg base m;have M2:= @iB P w K mg base m;have M3:= @gD P w K mg base m;obtain⟨hdx,hqs,hqp,hqd,hnk,hkvs,ho1,_⟩:=hc.at'.ex;tm_at"a";have hdl:=hc.ld;have hrl:=hc.lr;have hf0:=hc.f0;have hfl:=hc.fl;have hf7:=hc.fl7;have hl1:=hc.l1;have flip:∀{ys:List V}{G:Hp}{es:List aF},bu (λd y=>(aP P w K mg base (some 4)).at' G y d) es ys->bu ((aP P w K mg base (some 4)).at' G) ys es:=λh=>by
  induction h with
  | nil=>exact .nil
  | cons a t ih=>exact .cons a ih
 refine i9 hc.at' λp1 H1 n1 S1 f1=> ?_;tm_at"a";refine iF (α:=aF) (xs:=ds) (vs:=(ds.map (·.1)).map V.str) (λv d=>v= .str d.1) (λ_=>true) (λd y H=>(aP P w K mg base (some 4)).at' H y d) (λ_ _ _ _ h s=>ET h s.t) (by rw[sizeLine_eq];lia) (rest:=[some (.ref h)]) (by rfl) (SqL.of f1) ?_ (λv x H1 _ hx s1 R hR=>hR _ (Same.refl _)) ?_ ?_
 .have pm:∀es:List aF,bu (λ(v:V) (d:aF)=>v= .str d.1) ((es.map (·.1)).map V.str) es:=λes=>by
   induction es with
   | nil=>exact .nil
   | cons a t ih=>exact .cons rfl ih
  exact pm ds
 .rintro _ d H2 rfl hm - s2 R hR;have hc2:=hc.same (S1.trans s2);have ho2:=(S1.trans s2) _ _ ho1;tm_at"a";refine zX hc2.at' hc.nd hm λv hv=> ?_;exact hR _ _ hv (Same.refl _)
 intro ys H2 s2 hys;rw[dM]at hys;have ho2:=(S1.trans s2) _ _ ho1;tm_at"a";rename_i pD H3 n3 S3 e3 pS H4 n4 S4 e4;have s04:Same H H4:=(S1.trans s2).trans (S3.trans S4);have nS:H pS=none:=RQ ((S1.trans s2).trans S3) n4;have hDS:pD≠pS:=λz=>by rw[←z,e3]at n4;cases n4
 have hys4:bu ((aP P w K mg base (some 4)).at' H4) ys ds:=Paired.imp' (λv d h=>ET h (S3.trans S4).t) (flip hys);have hyl:ys.length=ds.length:=bx hys4;let Pv1:Nat->St->Hp->Prop:=λi σ' G=>SameBut pS H4 G/\(∃kvs,G pS=some (.dK kvs)/\G8 kvs (mkF rz ds f l i)/\kvs.length<=16 * i)/\∃x y z,σ'=[some (.ref h),some (.ref pD),some (.ref pS),x,y,z];refine aDh Pv1 ⟨SameBut.refl,⟨[],e4,λz=>rfl,aq _⟩,_,_,_,rfl⟩ ?_ ?_
 .rintro i _ G hi hq_;obtain⟨sb,⟨kvs,eS,sv,hkl⟩,x1,x2,x3,rfl⟩:=hq_;have sG:Same H G:=SameBut.same nS s04 sb;have hcG:=hc.same sG;have eD:G pD=some (.lst ys):=sb _ _ (S4 _ _ e3) hDS;have hysG:bu ((aP P w K mg base (some 4)).at' G) ys ds:=Paired.imp' (λv d h=>(aP P w K mg base (some 4)).but h e4 trivial sb) hys4;tm_at"a";refine iF (α:=aF) (xs:=ds) (vs:=ys) ((aP P w K mg base (some 4)).at' G) (λd=>fH rz f l (mkF rz ds f l i) d (l - 1 - (i:Int))) (λd y _=>y= .str d.2.1) (λ_ _ _ _ h _=>h) (by rw[sizeLine_eq];lia) (rest:=[some (.ref h),some (.int (l - 1 - (i:Int))),some (.ref pS)]) (by rfl) (SqL.of eD) hysG ?_ ?_ ?_
  .intro v d H5 hv hm s5 R hR;tm_at"a";refine aCl (hcG.same s5) hm ((aP P w K mg base (some 4)).same hv s5) (by lia) (by lia) (s5 _ _ eS) sv λH6 S6=> ?_;tm_at"a";exact hR _ S6
  .intro v d H5 hv hm _ s5 R hR;obtain⟨dn,dst,de,dlt⟩:=d;obtain⟨q9,C9,dx',fs,fp,rfl,hq9,dcC,l1,l2,l3,l4,l5,mcE,hfp,hlt⟩:=DoorAt.ex ((aP P w K mg base (some 4)).same hv s5);tm_at"a";exact hR _ _ rfl (Same.refl _)
  intro zs H5 s5 hzs;have hze:zs=((ds.filter λd=>fH rz f l (mkF rz ds f l i) d (l - 1 - (i:Int))).map (·.2.1)).map V.str:=by
   have:∀{es:List aF}{ys:List V},bu (λ(d:aF) y=>y= .str d.2.1) es ys->ys=(es.map (·.2.1)).map V.str:=λh=>by
    induction h with
    | nil=>rfl
    | cons h t ih=>rw[bo,bo,←ih,h]
   exact this hzs
  have hfl':(ds.filter λd=>fH rz f l (mkF rz ds f l i) d (l - 1 - (i:Int))).length<=ds.length:=du _ _;have hmk:∀z,mkF rz ds f l (i+1) z=(mkF rz ds f l i z||((ds.filter λd=>fH rz f l (mkF rz ds f l i) d (l - 1 - (i:Int))).map (·.2.1)).any λy=>decide (y=z)):=λz=>by
   show (_||_)=_;rw[se,List.any_filter]
   congr 2
   funext d
   exact Bool.and_comm _ _
  generalize (ds.filter λd=>fH rz f l (mkF rz ds f l i) d (l - 1 - (i:Int))).map (·.2.1)=ns at hze hmk;have hnl:ns.length<=16:=by
   have:=congrArg oq hze;rw[ae]at this;have:=bx hzs
   lia
  tm_at"a";rename_i p6 H6 n6 S6 e6;rw[hze]at e6;have e6S:H6 pS=some (.dK kvs):=S6 _ _ (s5 _ _ eS);have h6S:p6≠pS:=λz=>by rw[z,s5 _ _ eS]at n6;cases n6
  have sb6:SameBut pS H4 H6:=sb.trans (s5.trans S6).but;let Pv2:Nat->St->Hp->Prop:=λj σ' G'=>SameBut pS H6 G'/\(∃kvs',G' pS=some (.dK kvs')/\G8 kvs' (λz=>mkF rz ds f l i z||(ns.take j).any λy=>decide (y=z))/\kvs'.length<=16 * i+j)/\∃z,σ'=[some (.ref h),some (.ref pD),some (.ref pS),some (.int (l - 1 - (i:Int))),some (.ref p6),z];refine c6 (ns.map V.str) Pv2 ⟨SameBut.refl,⟨kvs,e6S,λz=> ?_,hkl⟩,_,rfl⟩ (λj σ' G' _ q=>SqL.of (q.1 _ _ e6 h6S)) ?_ ?_
  .show _=(mkF rz ds f l i z||(ns.take 0).any λy=>decide (y=z));rw[List.take_zero,List.any_nil,ql];exact sv z
  .rintro j x _ G' hx hq_;obtain⟨sb',⟨kvs',eS',sv',hkl'⟩,z1,rfl⟩:=hq_;rw[bq]at hx;rcases cj.mp hx with⟨z,hz,rfl⟩;have hj:j<ns.length:=(av.mp hz).1;tm_at"a";refine nZ eS' (by rw[sizeLine_eq];lia) λG2 B2 h2=> ?_;have hpl:=Z6 (kvs:=kvs') (k:= .inr z) (v:= .bl true);refine⟨sb'.trans B2,⟨_,h2,λy=> ?_,by lia⟩,_,rfl⟩;show _=(mkF rz ds f l i y||(ns.take (j+1)).any λy'=>decide (y'=y));rw[aEo sv' z (.bl true) y,aU hz,List.any_append,fz,List.any_nil,ql];exact Bool.or_assoc _ _ _
  .rintro _ G' hq_;obtain⟨sb',⟨kvs',eS',sv',hkl'⟩,z1,rfl⟩:=hq_;rw[ae,cp]at sv';rw[ae]at hkl';refine⟨sb6.trans sb',⟨kvs',eS',λz=> ?_,by lia⟩,_,_,_,rfl⟩;rw[hmk];exact sv' z
 .rintro _ G hq_;obtain⟨sb,⟨kvs,eS,sv,hkl⟩,x1,x2,x3,rfl⟩:=hq_;have sG:Same H G:=SameBut.same nS s04 sb;have hoG:=sG _ _ ho1;have hcG:=hc.same sG;rw[show (l - 1 - (f - 1)).toNat=(l - f).toNat by lia]at sv;tm_at"a";refine i9 hcG.at' λp5 H5 n5 S5 e5=> ?_;tm_at"a";refine iF (α:=Str) (xs:=rz.map (·.1)) (vs:=(rz.map (·.1)).map V.str) (λv z=>v= .str z) (λz=> !mkF rz ds f l (l - f).toNat z) (λz y _=>y= .str z) (λ_ _ _ _ h _=>h) (by rw[ae,sizeLine_eq];lia) (rest:=[some (.ref pS)]) (by rfl) (SqL.of e5) ?_ ?_ ?_ ?_
  .have pm:∀es:List Str,bu (λ(v:V) (z:Str)=>v= .str z) (es.map V.str) es:=λes=>by
    induction es with
    | nil=>exact .nil
    | cons a t ih=>exact .cons rfl ih
   exact pm _
  .rintro _ z H6 rfl hm s6 R hR;tm_at"a";refine wY (.inl (s6 _ _ (S5 _ _ eS))) ?_;rw[sv];tm_at"a";exact hR _ (Same.refl _)
  .rintro _ z H6 rfl hm - s6 R hR;tm_at"a";exact hR _ _ rfl (Same.refl _)
  intro zs H6 s6 hzs;have hze:zs=(jA rz ds f l).map V.str:=by
   have:∀{es:List Str}{ys:List V},bu (λ(z:Str) y=>y= .str z) es ys->ys=es.map V.str:=λh=>by
    induction h with
    | nil=>rfl
    | cons h t ih=>rw[bo,←ih,h]
   exact this hzs
  tm_at"a";rename_i p7 H7 n7 S7 e7;rw[hze]at e7;refine MD (SqL.of e7) (uc (du _ _) (by rw[ae];lia)) λp8 H8 n8 S8 e8=> ?_;have s07:=sG.trans (S5.trans (s6.trans S7));exact k p8 H8 (RQ s07 n8) (s07.trans S8) e8
theorem aCj(m:M K mg):Fc P w K mg base "lost" 8 ["house"] (BC m.aM (aP P w K mg base (some 4))):=⟨_,_,m.aFT,m.F0.F.kp,m.F0.b,aDp m⟩
def sgE(σ:Str->Str):V->V
 | .str z=> .str (σ z)
 | e=>e
theorem GK{σ:Str->Str}{e:V}:decide (sgE σ e= .non)=decide (e= .non):=by
 cases e<;>first|rfl|exact(decide_eq_false (λz=>nomatch z)).trans (decide_eq_false (λz=>nomatch z)).symm
def crS(rs:List Int)(L:List Arc):Int:=(L.map (gI rs)).sum
theorem aAl{rs:List Int}{A B:List Arc}(h:A.Perm B):crS rs A=crS rs B:=DN (h.map _)
theorem BJ:∀{l:List (Str×Int)}{z:Str},z∈l.map (·.1)->∃e,l[ixR l z]? =some e/\e.1=z
 | [],_,h=>nomatch h
 | e::l,z,h=>by
  unfold ixR
  by_cases he:e.1=z
  .rw[if_pos he];exact⟨e,rfl,he⟩
  .rw[if_neg he];exact BJ (l:=l) ((az.mp h).resolve_left λx=>he x.symm)
theorem K8{R i r v:Nat}(h:v=nb R i+r)(hr:r<2 * R+1):(v - 1)/(2 * R+1)=i/\(v - 1)%(2 * R+1)=r:=by
 have e:v - 1=r+i * (2 * R+1):=by rw[h];unfold nb;lia
 rw[e];exact⟨by rw[Nat.add_mul_div_right _ _ (by lia),Nat.div_eq_of_lt hr,si],by rw[Nat.add_mul_mod_self_right,Nat.mod_eq_of_lt hr]⟩
def plR(rz rz':List (Str×Int))(σ:Str->Str)(r:Nat):Nat:=match rz[r]? with
 | some e=>ixR rz' (σ e.1)
 | none=>0
def mvN(rz rz':List (Str×Int))(σ:Str->Str)(v:Nat):Nat :=
 if v=0 then 0 else if (v - 1)%(2 * rz.length+1)<rz.length then nb rz.length ((v - 1)/(2 * rz.length+1))+plR rz rz' σ ((v - 1)%(2 * rz.length+1)) else if (v - 1)%(2 * rz.length+1)=rz.length then v else oN rz.length ((v - 1)/(2 * rz.length+1))+1+plR rz rz' σ ((v - 1)%(2 * rz.length+1) - rz.length - 1)
def mvA(rz rz':List (Str×Int))(σ:Str->Str)(a:Arc):Arc:=(mvN rz rz' σ a.1,mvN rz rz' σ a.2.1,a.2.2)
abbrev uQ:=Str×V×(Int->Int)
def tri(d:aF):uQ:=(d.2.1,d.2.2.1,d.2.2.2)
def GB(σ:Str->Str)(d:aF):uQ:=(σ d.2.1,sgE σ d.2.2.1,d.2.2.2)
def ZJ(f l:Int)(t:uQ)(u:Int):Int:=if f<=u/\u<l then t.2.2 u else 0
structure Ren(σ:Str->Str)(rz rz' ps ps':List (Str×Int))(ds ds':List aF):Prop where
 pz:(rz.map λe=>(σ e.1,e.2)).Perm rz'
 pp:∀z∈rz.map (·.1),dA ps z=dA ps' (σ z)
 pd:(ds.map (GB σ)).Perm (ds'.map tri)
theorem LL{s:Str->Nat}{c:Str×Int->Int}{g:Str->Nat}:∀(l:List (Str×Int)) (a:Nat),(∀(j:Nat) (e:Str×Int),l[j]? =some e->a+j=g e.1)->bZ s c l a=l.map λe=>(s e.1,g e.1,c e)
 | [],_,_=>rfl
 | e::l,a,h=>by
  have h0:=h 0 e rfl;have ih:=LL (s:=s) (c:=c) (g:=g) l (a+1) λj e' h'=>by have:=h (j+1) e' h';lia
  show (s e.1,a,c e)::bZ s c l (a+1)=(s e.1,g e.1,c e)::l.map λe=>(s e.1,g e.1,c e)
  rw[ih,←h0];rfl
section
variable {rz' ps':List (Str×Int)}{ds ds':List aF}{σ τ:Str->Str}
theorem JA(nr:(rz.map (·.1)).Nodup)(s:Str->Nat)(c:Str×Int->Int)(n:Nat):bZ s c rz n=rz.map λe=>(s e.1,n+ixR rz e.1,c e):=LL (g:=λz=>n+ixR rz z) rz n λj e h=>by
 show n+j=n+ixR rz e.1;rw[zW nr h]
theorem XT(hz:z∈rz.map (·.1)):plR rz rz' σ (ixR rz z)=ixR rz' (σ z):=by
 rcases BJ hz with⟨e,he,rfl⟩;unfold plR;rw[he]
theorem vM(hR:rz.length=rz'.length){i:Nat}(hz:z∈rz.map (·.1)):mvN rz rz' σ (pnK rz i z)=pnK rz' i (σ z):=by
 have hl:=gE hz;obtain⟨h1,h2⟩:=K8 (R:=rz.length) (i:=i) (r:=ixR rz z) (v:=pnK rz i z) rfl (by lia);unfold mvN;rw[h1,h2,if_neg (by unfold pnK nb;lia),if_pos hl,XT hz,hR];rfl
theorem NK{i:Nat}(hz:z∈rz.map (·.1)):mvN rz rz' σ (oN rz.length i+1+ixR rz z)=oN rz.length i+1+ixR rz' (σ z):=by
 have hl:=gE hz;obtain⟨h1,h2⟩:=K8 (R:=rz.length) (i:=i) (r:=rz.length+1+ixR rz z) (v:=oN rz.length i+1+ixR rz z) (by unfold oN;lia) (by lia);unfold mvN;rw[h1,h2,if_neg (by lia),if_neg (by lia),if_neg (by lia),show rz.length+1+ixR rz z - rz.length - 1=ixR rz z by lia,XT hz]
theorem XI{i:Nat}:mvN rz rz' σ (oN rz.length i)=oN rz.length i:=by
 obtain⟨h1,h2⟩:=K8 (R:=rz.length) (i:=i) (r:=rz.length) (v:=oN rz.length i) rfl (by lia);unfold mvN;rw[h1,h2,if_neg (by unfold oN nb;lia),if_neg (by lia),if_pos rfl]
theorem RM:mvN rz rz' σ 0=0:=by unfold mvN;rw[if_pos rfl]
theorem nU(x:Ren σ rz rz' ps ps' ds ds'):rz.length=rz'.length:=by rw[←x.pz.length_eq,ae]
theorem D5(x:Ren σ rz rz' ps ps' ds ds')(nr:(rz.map (·.1)).Nodup)(nr':(rz'.map (·.1)).Nodup){s s':Str->Nat}{c c':Str×Int->Int}{n':Nat}(hs:∀z∈rz.map (·.1),mvN rz rz' σ (s z)=s' (σ z))(hn:∀z∈rz.map (·.1),mvN rz rz' σ (n+ixR rz z)=n'+ixR rz' (σ z))(hc:∀e∈rz,c e=c' (σ e.1,e.2)):((bZ s c rz n).map (mvA rz rz' σ)).Perm (bZ s' c' rz' n'):=by
 rw[JA nr,JA nr',bw];have e:(rz.map (mvA rz rz' σ∘λe=>(s e.1,n+ixR rz e.1,c e)))=(rz.map λe=>(σ e.1,e.2)).map λe=>(s' e.1,n'+ixR rz' e.1,c' e):=by
  rw[bw];refine dw λe he=> ?_;have hz:e.1∈rz.map (·.1):=ag.mpr ⟨e,he,rfl⟩;show (mvN rz rz' σ (s e.1),mvN rz rz' σ (n+ixR rz e.1),c e)=(s' (σ e.1),n'+ixR rz' (σ e.1),c' (σ e.1,e.2));rw[hs _ hz,hn _ hz,hc e he]
 rw[e];exact x.pz.map _
theorem JM(x:Ren σ rz rz' ps ps' ds ds'){p:aF->Bool}{pT:uQ->Bool}(hp:∀d,pT (tri d)=p d)(hpS:∀d,pT (GB σ d)=p d){F F':aF->Arc}(G:uQ->Arc)(hF:∀d∈ds,p d=true->mvA rz rz' σ (F d)=G (GB σ d))(hF':∀d,F' d=G (tri d)):(((ds.filter p).map F).map (mvA rz rz' σ)).Perm ((ds'.filter p).map F'):=by
 have e1:((ds.filter p).map F).map (mvA rz rz' σ)=((ds.map (GB σ)).filter pT).map G:=by
  rw[rj,bw,bw,show pT∘GB σ=p from funext hpS];exact dw λd hd=>hF d (cg.mp hd).1 (cg.mp hd).2
 have e2:(ds'.filter p).map F'=((ds'.map tri).filter pT).map G:=by
  rw[rj,bw,show pT∘tri=p from funext hp];exact dw λd _=>hF' d
 rw[e1,e2];exact(x.pd.filter _).map _
def exT(t:uQ):Bool:=decide (t.2.1= .non)
theorem WM(x:Ren σ rz rz' ps ps' ds ds')(din:∀d∈ds,b7 (rz.map (·.1)) d)(i:Nat)(u:Int):((exL ds (pnK rz i) f l u (oN rz.length i)).map (mvA rz rz' σ)).Perm (exL ds' (pnK rz' i) f l u (oN rz'.length i)):=by
 unfold exL;refine JM x (p:=exO) (pT:=exT) (λd=>rfl) (λd=>GK) (λt=>(pnK rz' i t.1,oN rz'.length i,ZJ f l t u)) (λd hd _=> ?_) λd=>rfl;show (mvN rz rz' σ (pnK rz i d.2.1),mvN rz rz' σ (oN rz.length i),cU f l d u)=_;rw[vM (nU x) (din d hd).1,XI,nU x];rfl
theorem aEj(x:Ren σ rz rz' ps ps' ds ds')(din:∀d∈ds,b7 (rz.map (·.1)) d)(i:Nat)(u:Int):((doL rz ds (pnK rz i) f l u (oN rz.length i)).map (mvA rz rz' σ)).Perm (doL rz' ds' (pnK rz' i) f l u (oN rz'.length i)):=by
 unfold doL;refine JM x (p:=inD) (pT:=λt=> !exT t) (λd=>rfl) (λd=>congrArg (λb=> !b) GK) (λt=>(pnK rz' i t.1,oN rz'.length i+1+ixR rz' (GL t.2.1),ZJ f l t u)) (λd hd hp=> ?_) λd=>rfl;rcases (din d hd).2 with he|⟨z,he,hz⟩
 .unfold inD exO at hp;rw[decide_eq_true he]at hp;exact absurd hp (by decide)
 .show (mvN rz rz' σ (pnK rz i d.2.1),mvN rz rz' σ (oN rz.length i+1+ixR rz (GL d.2.2.1)),cU f l d u)=(pnK rz' i (σ d.2.1),oN rz'.length i+1+ixR rz' (GL (sgE σ d.2.2.1)),cU f l d u);rw[he];show (mvN rz rz' σ (pnK rz i d.2.1),mvN rz rz' σ (oN rz.length i+1+ixR rz z),cU f l d u)=(pnK rz' i (σ d.2.1),oN rz'.length i+1+ixR rz' (σ z),cU f l d u);rw[vM (nU x) (din d hd).1,NK hz,nU x]
theorem aCw(x:Ren σ rz rz' ps ps' ds ds')(nr:(rz.map (·.1)).Nodup)(nr':(rz'.map (·.1)).Nodup)(din:∀d∈ds,b7 (rz.map (·.1)) d)(pl:Int)(i:Nat)(u:Int):((iS rz ds (pnK rz i) f l pl u (oN rz.length i)).map (mvA rz rz' σ)).Perm (iS rz' ds' (pnK rz' i) f l pl u (oN rz'.length i)):=by
 have hR:=nU x;unfold iS;rw[aw,aw,aw];refine(WM x din i u).append ((D5 x nr nr' (s:=pnK rz i) (s':=pnK rz' i) (c:=λ_=>pl) (c':=λ_=>pl) (n:=oN rz.length i+1) (n':=oN rz'.length i+1) (λz hz=>vM hR hz) (λz hz=> ?_) λ_ _=>rfl).append ((aEj x din i u).append (D5 x nr nr' (s:=λz=>oN rz.length i+1+ixR rz z) (s':=λz=>oN rz'.length i+1+ixR rz' z) (c:=λe=>e.2) (c':=λe=>e.2) (n:=oN rz.length i+1+rz.length) (n':=oN rz'.length i+1+rz'.length) (λz hz=> ?_) (λz hz=> ?_) λ_ _=>rfl)))
 .rw[←hR];exact NK hz
 .rw[←hR];exact NK hz
 .have h:=vM (σ:=σ) hR (i:=i+1) hz;unfold pnK at h;have h1:=rJ rz.length i;have h2:=rJ rz'.length i;rw[show oN rz.length i+1+rz.length+ixR rz z=nb rz.length (i+1)+ixR rz z by unfold oN;lia,show oN rz'.length i+1+rz'.length+ixR rz' (σ z)=nb rz'.length (i+1)+ixR rz' (σ z) by unfold oN;lia];exact h
theorem W0(x:Ren σ rz rz' ps ps' ds ds')(nr:(rz.map (·.1)).Nodup)(nr':(rz'.map (·.1)).Nodup)(din:∀d∈ds,b7 (rz.map (·.1)) d)(pl:Int):∀k,((LK rz ps ds f l pl k).map (mvA rz rz' σ)).Perm (LK rz' ps' ds' f l pl k)
 | 0=>by
  refine D5 x nr nr' (λz _=>RM) (λz hz=> ?_) λe he=>x.pp _ (ag.mpr ⟨e,he,rfl⟩);have h:=vM (σ:=σ) (nU x) (i:=0) hz;unfold pnK nb at h;rw[wx,wx]at h;exact h
 | k+1=>by
  show ((LK rz ps ds f l pl k++iS rz ds (pnK rz k) f l pl (f+(k:Int)) (oN rz.length k)).map (mvA rz rz' σ)).Perm (LK rz' ps' ds' f l pl k++iS rz' ds' (pnK rz' k) f l pl (f+(k:Int)) (oN rz'.length k));rw[aw];exact(W0 x nr nr' din pl k).append (aCw x nr nr' din pl k _)
theorem aEI(x:Ren σ rz rz' ps ps' ds ds')(nr:(rz.map (·.1)).Nodup)(nr':(rz'.map (·.1)).Nodup)(din:∀d∈ds,b7 (rz.map (·.1)) d)(pl:Int)(k:Nat):((LX rz ps ds f l pl k).map (mvA rz rz' σ)).Perm (LX rz' ps' ds' f l pl k):=by
 unfold LX;rw[aw];exact(W0 x nr nr' din pl k).append (WM x din k _)
theorem IQ(x:Ren σ rz rz' ps ps' ds ds'):aZ rz ps=aZ rz' ps':=by
 unfold aZ;rw[←DN (x.pz.map λe=>dA ps' e.1),bw];exact congrArg List.sum (dw λe he=>x.pp _ (ag.mpr ⟨e,he,rfl⟩))
theorem CU(x:Ren σ rz rz' ps ps' ds ds')(nr:(rz.map (·.1)).Nodup)(nr':(rz'.map (·.1)).Nodup)(f1:FOk rz ps ds f l o1 s1)(f2:FOk rz' ps' ds' f l o2 s2)(din1:∀d∈ds,b7 (rz.map (·.1)) d)(din2:∀d∈ds',b7 (rz'.map (·.1)) d)(i:Nat)(hi:i<=o1.length):(o1.take i).sum<=(o2.take i).sum:=by
 have hl1:=f1.len;have hl2:=f2.len;cases i with
 | zero=>exact gc _
 | succ j =>
  obtain⟨rs,cz,co,cc⟩:=aDg din2 f2.best j (by lia);obtain⟨sp,_,cap,nn,ex,_⟩:=f1.best j (by lia);have hR:=nU x;generalize hL:(HJ (oN rz.length j)).filter (λv=>decide ((mvN rz rz' σ v.toNat:Int)∈rs))=L;have nd:L.Nodup:=by rw[←hL];exact yl.nodup (P8 _)
  have hm:∀n:Nat,n<=oN rz.length j->((n:Int)∈L↔(mvN rz rz' σ n:Int)∈rs):=λn hn=>by
   rw[←hL,cg];exact⟨λh=>of_decide_eq_true h.2,λh=>⟨LR hn,decide_eq_true h⟩⟩
  have h1:=MA nd nn (LX rz ps ds f l (aZ rz ps) j).length (ts:=cG (LX rz ps ds f l (aZ rz ps) j));rw[uJ cap _ (aq _),cp,G1 nd ex,A7 _ 0 (λi h0 hi'=>by
   have hin:i<=j:=by
    rw[cw]at hi'
    lia
   have hle:oN rz.length i<=oN rz.length j:=by
    rcases Nat.lt_or_ge i j with h|h
    .exact mq (nL _ h)
    .rw[show i=j by lia];exact aq _
   rw[hm _ hle,XI,hR];exact co i hin),if_pos (show (0:Int)∈_ from(hm 0 (et _)).mpr (by rw[RM];exact cz))]at h1
  have h2:((LX rz ps ds f l (aZ rz ps) j).map (gI L)).sum=crS rs ((LX rz ps ds f l (aZ rz ps) j).map (mvA rz rz' σ)):=by
   unfold crS;rw[bw];refine congrArg List.sum (dw λa ha=> ?_);rcases KR din1 j ha with⟨b1,b2⟩;show gI L a=gI rs (mvA rz rz' σ a);unfold gI mvA;simp only[hm _ b1,hm _ b2]
  have h4:crS rs (LX rz' ps' ds' f l (aZ rz' ps') j)=(o2.take (j+1)).sum:=cc;rw[←IQ x]at h4;rw[h2,aAl (aEI x nr nr' din1 _ j)]at h1
  lia
def trT(τ:Str->Str)(t:uQ):uQ:=(τ t.1,sgE τ t.2.1,t.2.2)
theorem Ren.symm(x:Ren σ rz rz' ps ps' ds ds')(din:∀d∈ds,b7 (rz.map (·.1)) d)(h:∀z∈rz.map (·.1),τ (σ z)=z):Ren τ rz' rz ps' ps ds' ds:=by
 refine⟨?_,λz hz=> ?_,?_⟩
 .have:=x.pz.symm.map λe:Str×Int=>(τ e.1,e.2)
  refine this.trans (xi ?_);rw[bw];refine(dw λe he=> ?_).trans (List.map_id _);show (τ (σ e.1),e.2)=e;rw[h _ (ag.mpr ⟨e,he,rfl⟩)]
 .rcases ag.mp hz with⟨e,he,rfl⟩;rcases ag.mp (x.pz.mem_iff.mpr he) with⟨e0,he0,rfl⟩;have hz0:e0.1∈rz.map (·.1):=ag.mpr ⟨e0,he0,rfl⟩;show dA ps' (σ e0.1)=dA ps (τ (σ e0.1));rw[h _ hz0,x.pp _ hz0]
 .have:=x.pd.symm.map (trT τ);rw[bw,bw]at this;refine this.trans (xi (dw λd hd=> ?_));show (τ (σ d.2.1),sgE τ (sgE σ d.2.2.1),d.2.2.2)=(d.2.1,d.2.2.1,d.2.2.2);rw[h _ (din d hd).1];rcases (din d hd).2 with he|⟨z,he,hz⟩
  .rw[he];rfl
  .rw[he];show (d.2.1,V.str (τ (σ z)),d.2.2.2)=_;rw[h z hz]
theorem ZB(x:Ren σ rz rz' ps ps' ds ds')(h:∀z∈rz.map (·.1),τ (σ z)=z)(nr:(rz.map (·.1)).Nodup)(nr':(rz'.map (·.1)).Nodup)(f1:FOk rz ps ds f l o1 s1)(f2:FOk rz' ps' ds' f l o2 s2)(din1:∀d∈ds,b7 (rz.map (·.1)) d)(din2:∀d∈ds',b7 (rz'.map (·.1)) d)(i:Nat)(hi:i<=o1.length):(o1.take i).sum=(o2.take i).sum :=
 Int.le_antisymm (CU x nr nr' f1 f2 din1 din2 i hi) (CU (x.symm din1 h) nr' nr f2 f1 din2 din1 i (by have h1:=f1.len;have h2:=f2.len;lia))
theorem zB{p q:α->Bool}:∀{l:List α},(∀x∈l,p x=q x)->l.any p=l.any q
 | [],_=>rfl
 | a::l,h=>by rw[fz,fz,h a (.head _),zB λx hx=>h x (ab _ hx)]
theorem LE{α:Type}{p:α->Bool}{a b:List α}(h:a.Perm b):a.any p=b.any p:=by
 induction h with
 | nil=>rfl
 | cons x _ ih=>rw[fz,fz,ih]
 | swap x y l=>rw[fz,fz,fz,fz,Bool.or_left_comm]
 | trans _ _ i1 i2=>rw[i1,i2]
theorem L0(x:Ren σ rz rz' ps ps' ds ds')(inj:∀y∈rz.map (·.1),∀z∈rz.map (·.1),σ y=σ z->y=z)(din:∀d∈ds,b7 (rz.map (·.1)) d):∀(k:Nat) (z:Str),z∈rz.map (·.1)->mkF rz' ds' f l k (σ z)=mkF rz ds f l k z
 | 0,_,_=>rfl
 | k+1,z,hz=>by
  show (mkF rz' ds' f l k (σ z)||ds'.any λd=>decide (d.2.1=σ z)&&fH rz' f l (mkF rz' ds' f l k) d (l - 1 - (k:Int)))=(mkF rz ds f l k z||ds.any λd=>decide (d.2.1=z)&&fH rz f l (mkF rz ds f l k) d (l - 1 - (k:Int)));rw[L0 x inj din k z hz]
  congr 1
  have e:(ds'.any λd=>decide (d.2.1=σ z)&&fH rz' f l (mkF rz' ds' f l k) d (l - 1 - (k:Int)))=(ds'.map tri).any λt=>decide (t.1=σ z)&&(decide (ZJ f l t (l - 1 - (k:Int))≠0)&&(decide (t.2.1= .non)||rz'.any λe=>decide (t.2.1= .str e.1)&&decide (0<e.2)&&mkF rz' ds' f l k e.1)):=by rw[se];rfl
  rw[e,←LE x.pd,se];refine zB λd hd=> ?_;have e1:decide (σ d.2.1=σ z)=decide (d.2.1=z):=by
   by_cases h:d.2.1=z
   .rw[decide_eq_true h,h,decide_eq_true rfl]
   .rw[decide_eq_false h,decide_eq_false λw=>h (inj _ (din d hd).1 _ hz w)]
  show (decide (σ d.2.1=σ z)&&(decide (cU f l d (l - 1 - (k:Int))≠0)&&(decide (sgE σ d.2.2.1= .non)||rz'.any λe=>decide (sgE σ d.2.2.1= .str e.1)&&decide (0<e.2)&&mkF rz' ds' f l k e.1)))=(decide (d.2.1=z)&&fH rz f l (mkF rz ds f l k) d (l - 1 - (k:Int)));unfold fH;rw[e1,GK,←LE x.pz,se]
  congr 3
  refine zB λe he=> ?_;have hez:e.1∈rz.map (·.1):=ag.mpr ⟨e,he,rfl⟩;show (decide (sgE σ d.2.2.1= .str (σ e.1))&&decide (0<e.2)&&mkF rz' ds' f l k (σ e.1))=_;rw[L0 x inj din k _ hez]
  congr 2
  rcases (din d hd).2 with h|⟨y,h,hy⟩
  .rw[h];exact(decide_eq_false (λw=>nomatch w)).trans (decide_eq_false (λw=>nomatch w)).symm
  .rw[h]
   by_cases hc:y=e.1
   .rw[hc,decide_eq_true rfl];exact decide_eq_true rfl
   .rw[decide_eq_false λw=>hc (V.str.inj w)];exact decide_eq_false λw=>hc (inj _ hy _ hez (V.str.inj w))
theorem aAG(x:Ren σ rz rz' ps ps' ds ds')(inj:∀y∈rz.map (·.1),∀z∈rz.map (·.1),σ y=σ z->y=z)(din:∀d∈ds,b7 (rz.map (·.1)) d):((jA rz ds f l).map σ).Perm (jA rz' ds' f l):=by
 unfold jA;have h:=(x.pz.map (·.1)).filter λz=> !mkF rz' ds' f l (l - f).toNat z;rw[bw]at h;refine List.Perm.trans (xi ?_) h;have e:(rz.map ((·.1)∘λe:Str×Int=>(σ e.1,e.2)))=(rz.map (·.1)).map σ:=by rw[bw];rfl
 rw[e,rj (f:=σ) (l:=rz.map (·.1))];refine congrArg (List.map σ) (List.filter_congr λz hz=> ?_);show _= !mkF rz' ds' f l (l - f).toNat (σ z);rw[L0 x inj din _ z hz]
end
def sgm(c:Int)(rs:List bY)(z:Str):Str:=wnF c (40 - (ixR (cI rs) z:Int))
def YK(c:Int)(σ:Str->Str)(k:Nat)(s:bS):bS:=⟨wnF c (60 - (k:Int)),σ s.st,sgE σ s.e,s.kd,s.wd,s.fi,s.mo⟩
def gA(c:Int)(σ:Str->Str):Nat->List bS->List bS
 | _,[]=>[]
 | k,s::l=>YK c σ k s::gA c σ (k+1) l
def jL(σ:Str->Str)(r:bY):bY:=(σ r.1,r.2.1,r.2.2)
def nmK(σ:Str->Str)(rs:List bY):List (Key×V):=rs.map λr=>(.inr r.1,.str (σ r.1))
theorem A9{σ:Str->Str}{rs:List bY}(nd:(rs.map (·.1)).Nodup)(h:z∈rs.map (·.1)):aW (nmK σ rs) (.inr z)=some (.str (σ z)):=by
 rcases ag.mp h with⟨r,hr,rfl⟩;refine eZ ?_ (ag.mpr ⟨r,hr,rfl⟩);rw[bw,kx,gk];rw[kx,gk]at nd;exact nd.imp λh z=>h (ir z)
theorem LG(c:Int)(σ:Str->Str)(b:List bS):∀(a:List bS) (k:Nat),gA c σ k (a++b)=gA c σ k a++gA c σ (k+a.length) b
 | [],_=>rfl
 | s::a,k=>by
  show _::gA c σ (k+1) (a++b)=_::(gA c σ (k+1) a++_);rw[LG c σ b a (k+1),bb,show k+1+a.length=k+(a.length+1) by lia]
theorem wC(c:Int)(σ:Str->Str):∀(a:List bS) (k:Nat),(gA c σ k a).length=a.length
 | [],_=>rfl
 | s::a,k=>by show (gA c σ (k+1) a).length+1=_;rw[wC c σ a (k+1)];rfl
theorem G6{c:Int}{σ:Str->Str}:∀{a:List bS}{k:Nat}{s:bS},s∈gA c σ k a->∃s0 j,s0∈a/\j<a.length/\s=YK c σ (k+j) s0
 | s1::a,k,s,h=>by
  rcases az.mp h with rfl|h
  .exact⟨s1,0,.head _,by rw[bb];lia,rfl⟩
  .obtain⟨s0,j,h1,h2,h3⟩:=G6 h;exact⟨s0,j+1,ab _ h1,by rw[bb];lia,by rw[h3,show k+1+j=k+(j+1) by lia]⟩
theorem QR{c:Int}{σ:Str->Str}:∀(a:List bS) (k:Nat),k+a.length<=20->((gA c σ k a).map (·.n)).Nodup
 | [],_,_=>oy
 | s::a,k,h=>by
  rw[bb]at h;refine cm.mpr ⟨λz=> ?_,QR a (k+1) (by lia)⟩;rcases ag.mp z with⟨x,hx,e⟩;obtain⟨s0,j,_,hj,rfl⟩:=G6 hx;have:=vY (by lia) (by lia) (by lia) (by lia) (show wnF c (60 - ((k+1+j:Nat):Int))=wnF c (60 - (k:Int)) from e)
  lia
theorem QG{c:Int}{rs:List bY}(l4:rs.length<=4)(hy:y∈rs.map (·.1))(hz:z∈rs.map (·.1))(h:sgm c rs y=sgm c rs z):y=z:=by
 have e:(cI rs).map (·.1)=rs.map (·.1):=fQ rs;rw[←e]at hy hz;have h1:=gE hy;have h2:=gE hz;have hl:(cI rs).length=rs.length:=by unfold cI;rw[ae]
 have:=vY (by lia) (by lia) (by lia) (by lia) h;rcases BJ hy with⟨e1,g1,rfl⟩;rcases BJ hz with⟨e2,g2,rfl⟩;have hij:ixR (cI rs) e1.1=ixR (cI rs) e2.1:=by lia
 rw[hij,g2]at g1;cases g1;rfl
theorem E3{α:Type}{F:α->β->Prop}{l:List α}{m:List β}(h:bu F l m):bu F l.reverse m.reverse:=by
 induction h with
 | nil=>exact .nil
 | cons h t ih=>rw[vb,vb];exact L2.Paired.snoc ih h
theorem yZ{F:α->β->Prop}:∀{l:List α}{m:List β},bu F l m->∀{i:Nat}{b:β},m[i]? =some b->∃a,l[i]? =some a/\F a b
 | a::_,b0::_,.cons r _,0,b,h=>by
  have h:b0=b:=by simpa using h
  subst h;exact⟨a,rfl,r⟩
 | _,_,.cons _ t,i+1,b,h=>by
  obtain⟨a,h1,h2⟩:=yZ t (i:=i) (b:=b) (by simpa using h);exact⟨a,by simpa using h1,h2⟩
theorem VD{α:Type}{l:List α}(h:l.Nodup):l.reverse.Nodup:=List.pairwise_reverse.mpr (h.imp λh z=>h z.symm)
theorem aCb{c:Int}{p4 p5:Addr}{us' ws':List V}{rs:List bY}{ss:List bS}(x:DrB H p1 p2 p3 us ws rs ss f l)(e4:H' p4=some (.lst us'.reverse))(e5:H' p5=some (.lst ws'.reverse))(e3:H' p3=some (.tup [.int f,.int l]))(hr:bu (dC H') us' (rs.map (jL (sgm c rs))))(hw:bu (dH H') ws' (gA c (sgm c rs) 0 ss)):DrB H' p4 p5 p3 us'.reverse ws'.reverse (rs.map (jL (sgm c rs))).reverse (gA c (sgm c rs) 0 ss).reverse f l:=by
 have ro:=x.ro;have h4:=ro.l1;have h0:=ro.l0;have h7:=x.l7;have hlz:(cI rs).length=rs.length:=by unfold cI;rw[ae]
 have hsg:∀z∈rs.map (·.1),bD (sgm c rs z)=true/\∃c' k:Int,0<=k/\k<61/\sgm c rs z=wnF c' k:=λz hz=>by
  have:=gE (l:=cI rs) (z:=z) (by rw[fQ];exact hz);exact⟨vS (by lia) (by lia),c,_,by lia,by lia,rfl⟩
 have hnm:((rs.map (jL (sgm c rs))).reverse).map (·.1)=((rs.map (·.1)).map (sgm c rs)).reverse:=by rw[ng,bw,bw];rfl
 have hin:∀z∈rs.map (·.1),sgm c rs z∈((rs.map (jL (sgm c rs))).reverse).map (·.1):=λz hz=>by
  rw[hnm,kj];exact ag.mpr ⟨z,hz,rfl⟩
 refine⟨e4,e5,e3,E3 hr,E3 hw,⟨?_,λr hr=> ?_,λr hr=> ?_,by rw[sd,ae];exact h0,by rw[sd,ae];exact h4,λr hr=> ?_⟩,λs hs=> ?_,?_,by rw[sd,wC];exact h7,x.f0,x.f1,x.fl,x.fl7⟩
 .rw[hnm];refine VD ?_;rw[kx,gk];exact ro.nd.imp_of_mem λhy hz h e=>h (QG h4 hy hz e)
 .rcases ag.mp (kj.mp hr) with⟨r0,hr0,rfl⟩;exact(hsg _ (ag.mpr ⟨r0,hr0,rfl⟩)).1
 .rcases ag.mp (kj.mp hr) with⟨r0,hr0,rfl⟩;exact ro.ok r0 hr0
 .rcases ag.mp (kj.mp hr) with⟨r0,hr0,rfl⟩;exact(hsg _ (ag.mpr ⟨r0,hr0,rfl⟩)).2
 .obtain⟨s0,j,hs0,hj,rfl⟩:=G6 (kj.mp hs);have so:=x.so s0 hs0;refine⟨vS (by lia) (by lia),(hsg _ so.sin).1,hin _ so.sin,?_,?_,so.k0,so.k1,so.w0,so.f0,so.m0,so.m1,so.w1⟩
  .rcases so.ein with h|⟨z,h,hz⟩
   .exact .inl (by show sgE _ s0.e=_;rw[h];rfl)
   .exact .inr ⟨sgm c rs z,by show sgE _ s0.e=_;rw[h];rfl,(hsg _ hz).1⟩
  .rcases so.ein with h|⟨z,h,hz⟩
   .exact .inl (by show sgE _ s0.e=_;rw[h];rfl)
   .exact .inr ⟨sgm c rs z,by show sgE _ s0.e=_;rw[h];rfl,hin _ hz⟩
 .rw[ng];exact VD<|QR ss 0 (by lia)
inductive BF(K:W.Frag)(vs:List V)(H:Hp)(Q:VK)(E:XK):Prop
 | mk (c:Int) (p1 p2 p3:Addr) (us ws:List V) (rs:List bY) (ss:List bS) (f l:Int) (_:vs=[.int c,.ref p1,.ref p2]) (_:DrB H p1 p2 p3 us ws rs ss f l) (_:∀q pn p4 p5 us' ws' H',Same H H'->H' q=some (.tup [.ref pn,.ref p4,.ref p5])->H' pn=some (.dK (nmK (sgm c rs) rs))->DrB H' p4 p5 p3 us' ws' (rs.map (jL (sgm c rs))).reverse (gA c (sgm c rs) 0 ss).reverse f l->Q (.ref q) H'):BF K vs H Q E
theorem aEi{E:XK}{c:Int}{rs:List bY}{ss:List bS}(x:DrB H p1 p2 p3 us ws rs ss f l)(k:∀q pn p4 p5 us' ws' H',Same H H'->H' q=some (.tup [.ref pn,.ref p4,.ref p5])->H' pn=some (.dK (nmK (sgm c rs) rs))->DrB H' p4 p5 p3 us' ws' (rs.map (jL (sgm c rs))).reverse (gA c (sgm c rs) 0 ss).reverse f l->Q (.ref q) H'):BF K [.int c,.ref p1,.ref p2] H Q E:=⟨_,_,_,_,_,_,_,_,_,_,rfl,x,k⟩
theorem EO(m:M K mg):FnOk P w K mg base CX0 3 m.oM m.jG.d ["_law_cell","_law_rooms_here","_law_specs"] (BF K):=by
 refine m.jG.F.ok aHQ ?_ ?_;tm_at"h";tm_at"g";rcases h with⟨c,p1,p2,p3,us,ws,rs,ss,f,l,rfl,dr,k⟩;tm_at"f";have nd:=aHQ.nd;tm_at"d";have aHe:= @iV P w K mg base m;refine⟨_,(aB (aO (i:=3) nd rfl (by tm_at"b") m6)
  (aB (cO cn rfl (gM rfl m.gL (aA (bL dU rfl m.kK hZ (aA (pv 1) aC)) aC)) (aL (i:=4) nd rfl (by tm_at"b")) (aE (gB hu1 (pv 3) (aT c4 (aT bF (pv 1) (pv 4) (λ_ _=>rfl)) aD (λ_ _=>rfl)) (bI aHe hr (aA (pv 0) (aA (aK hV aD (pv 4)) aC))) rfl)))
  (aB (eG (i:=5) nd rfl (by tm_at"b") (N:=["_law_room","_law_names"]) (nl:=1) (ci:=[3]) rfl (blk (s.heap.objs.size+1) rfl rfl rfl (by kernel_rfl)) (bN (pv 1)) (λ_ _ _ _=>(aL (i:=0) (show (["_law_room","_law_names"]:List Str).Nodup by decide +kernel) rfl (by tm_at"b"))) (λ_ _ _ _=>dI) (λ_ _ _ _=>(cZ (aA (dL hu1 (pv 1) (aT (d0 (K:=K)) (pv 0) aD (λ_ _=>rfl)) (λ_ _=>rfl)) (aA (aT (d0 (K:=K)) (pv 0) aD (λ_ _=>rfl)) (aA (aT (d0 (K:=K)) (pv 0) aD (λ_ _=>rfl)) aC))))))
  (aB (aO (i:=6) nd rfl (by tm_at"b") (cP aC))
  (aB (cO cn rfl (gM rfl m.gL (aA (bL dU rfl m.kK hZ (aA (pv 2) aC)) aC)) (aL (i:=4) nd rfl (by tm_at"b")) (aB (aO (i:=7) nd rfl (by tm_at"b") (dL hu1 (pv 3) (aT c4 (aT bF (pv 2) (pv 4) (λ_ _=>rfl)) aD (λ_ _=>rfl)) (λ_ _=>rfl)))
  (aB (aO (i:=8) nd rfl (by tm_at"b") (aT c4 (aT bF (pv 2) (pv 4) (λ_ _=>rfl)) aD (λ_ _=>rfl)))
  (aB (b8 (bB G7 (pv 8) pB (bG _)) (aE (aO (i:=8) nd rfl (by tm_at"b") (dL hu1 (pv 3) (pv 8) (λ_ _=>rfl)))) bK)
  (aE (aY (gS df dm dq cY (pv 6) (aA (cZ (aA (bI aHe hr (aA (pv 0) (aA (aK hV aD (pv 4)) aC))) (aA (pv 7) (aA (pv 8) (aA (aT c4 (aT bF (pv 2) (pv 4) (λ_ _=>rfl)) aD (λ_ _=>rfl)) (aA (aT c4 (aT bF (pv 2) (pv 4) (λ_ _=>rfl)) aD (λ_ _=>rfl)) (aA (aT c4 (aT bF (pv 2) (pv 4) (λ_ _=>rfl)) aD (λ_ _=>rfl)) (aA (aT c4 (aT bF (pv 2) (pv 4) (λ_ _=>rfl)) aD (λ_ _=>rfl)) aC)))))))) aC))))))))
  (aE (aS (cZ (aA (pv 3) (aA (N6 (pv 5) rG rG (A1 (SZ MR aD))) (aA (N6 (pv 6) rG rG (A1 (SZ MR aD))) aC))))))))))),?_⟩
 refine aJ (σ:=[some (.int c),some (.ref p1),some (.ref p2),none,none,none,none,none,none]) rfl ?_;tm_at"e";have ro:=dr.ro;have hrl:rs.length<=4:=ro.l1;have hl7:=dr.l7;have e1:=dr.e1;have e2:=dr.e2;have hul:us.length=rs.length:=bx dr.ru;have hwl:ws.length=ss.length:=bx dr.sw;tm_at"a";rename_i pn H1 n1 S1 e3;have ixs:∀(i:Nat) (r:bY),rs[i]? =some r->sgm c rs r.1=wnF c (40 - (i:Int)):=λi r h=>by
  unfold sgm;rw[show ixR (cI rs) r.1=i from zW (l:=cI rs) (e:=(r.1,r.2.1)) (by rw[fQ];exact ro.nd) (by unfold cI;rw[bq,h];rfl)]
 let Pv1:Nat->St->Hp->Prop:=λi σ' H'=>SameBut pn H1 H'/\H' pn=some (.dK (nmK (sgm c rs) (rs.take i)))/\∃x,σ'=[some (.int c),some (.ref p1),some (.ref p2),some (.ref pn),x,none,none,none,none];refine vQ Pv1 ⟨SameBut.refl,e3,_,rfl⟩ ?_ ?_
 .rintro i _ H2 hi hq_;obtain⟨sb,e4,x,rfl⟩:=hq_;have s2:=SameBut.same n1 S1 sb;obtain⟨r,hr⟩:∃r,rs[i]? =some r:=⟨_,ah (by lia)⟩
  obtain⟨v,hv,qv,rfl,hq⟩:=yZ (gG dr.ru s2) hr;have e12:=s2 _ _ e1;have hnk:aW (nmK (sgm c rs) (rs.take i)) (.inr r.1)=none:=rB λz=>by
   unfold nmK at z;rw[bw]at z;rcases ag.mp z with⟨r2,h2,e⟩;have e:r2.1=r.1:=ir e;rcases fg.mp h2 with⟨j,hj⟩;have hji:j<i:=by
    have:=(av.mp hj).1;rw[cw]at this;lia
   rw[vd hji]at hj;have a1:=ixs j r2 hj;have a2:=ixs i r hr;rw[e,a2]at a1;have:=vY (by lia) (by lia) (by lia) (by lia) a1
   lia
  tm_at"a";rw[gp];refine j7 (SqL.of e12) hv ?_;tm_at"a";refine⟨qv,_,0,_,rfl,rfl,SqT.of hq,rfl,?_⟩;refine nZ e4 (by rw[sizeLine_eq];unfold nmK;rw[ae,cw];lia) λH3 B3 e5=> ?_;refine⟨sb.trans B3,?_,_,rfl⟩;rw[e5,eF _ hnk,aU hr,←ixs i r hr];unfold nmK;rw[aw];rfl
 rintro _ H2 hq_;obtain⟨sb,e4,x,rfl⟩:=hq_;have s2:=SameBut.same n1 S1 sb;rw[iq (by lia)]at e4;have e12:=s2 _ _ e1;have ru2:=gG dr.ru s2;clear sb e3 S1 n1;tm_at"a";refine iF (α:=bY) (xs:=rs) (vs:=us) (dC H2) (λ_=>true) (λr y H=>dC H y (jL (sgm c rs) r)) (λ_ _ _ _ ⟨q,h1,h2⟩ s=>⟨q,h1,s _ _ h2⟩) (by rw[sizeLine_eq];lia) (rest:=[some (.ref pn)]) (by rfl) (SqL.of e12) ru2 (λv x H1 _ hx s1 R hR=>hR _ (Same.refl _)) ?_ ?_
 .rintro v ⟨z,i,j⟩ H7 ⟨q2,rfl,hq2⟩ hm - s7 R hR;have hq2:H7 q2=some (.tup [.str z,.int i,.int j]):=s7 _ _ hq2;have e47:=s7 _ _ e4;tm_at"a";refine⟨q2,_,0,_,rfl,rfl,SqT.of hq2,rfl,?_⟩;refine d9 (.inl e47) (A9 ro.nd (ag.mpr ⟨_,hm,rfl⟩)) ?_;tm_at"a";refine⟨q2,_,1,_,rfl,rfl,SqT.of hq2,rfl,?_⟩;tm_at"a";refine⟨q2,_,2,_,rfl,rfl,SqT.of hq2,rfl,?_⟩;tm_at"a";rename_i q3 H3 n3 S3 e3';exact hR _ _ ⟨q3,rfl,e3'⟩ S3
 intro ys H3 s3 hys;rw[dM]at hys;have hyr:=rT (F:=dC H3) (jL (sgm c rs)) hys;tm_at"a";rename_i p6 H4 n4 S4 e6 pf H5 n5 S5 e7;have s25:Same H2 H5:=s3.trans (S4.trans S5);have s45:Same H4 H5:=S5;let Pv2:Nat->St->Hp->Prop:=λi σ' H'=>SameBut pf H5 H'/\(∃ws',H' pf=some (.lst ws')/\bu (dH H') ws' (gA c (sgm c rs) 0 (ss.take i)))/\∃x y z,σ'=[some (.int c),some (.ref p1),some (.ref p2),some (.ref pn),x,some (.ref p6),some (.ref pf),y,z];refine vQ Pv2 ⟨SameBut.refl,⟨[],e7,.nil⟩,_,_,_,rfl⟩ ?_ ?_
 .rintro i _ H6 hi hq_;obtain⟨sb,⟨ws',e8,hw⟩,x1,x2,x3,rfl⟩:=hq_;have s26:Same H4 H6:=SameBut.same n5 S5 sb;have s06:Same H H6:=s2.trans (s3.trans (S4.trans s26));obtain⟨s,hs⟩:∃s,ss[i]? =some s:=⟨_,ah (by lia)⟩
  have so:=dr.so s (ay hs);obtain⟨v,hv,qv,rfl,hq⟩:=yZ (BH dr.sw s06) hs;have e26:=s06 _ _ e2;have e46:=(s3.trans (S4.trans s26)) _ _ e4;have hst:=A9 (σ:=sgm c rs) ro.nd so.sin;have hein:=so.ein;have htk:=aU hs;have hwl':ws'.length<=10:=by rw[bx hw,wC,cw];lia
  tm_at"n";rw[gp];refine j7 (SqL.of e26) hv ?_;tm_at"n";refine⟨qv,_,1,_,rfl,rfl,SqT.of hq,rfl,?_⟩;refine d9 (.inl e46) hst ?_;tm_at"n";refine j7 (SqL.of e26) hv ?_;tm_at"n";refine⟨qv,_,2,_,rfl,rfl,SqT.of hq,rfl,?_⟩;tm_at"n";refine lE (λσ' G=>H6=G/\σ'=[some (.int c),some (.ref p1),some (.ref p2),some (.ref pn),some (.int (i:Int)),some (.ref p6),some (.ref pf),some (.str (sgm c rs s.st)),some (sgE (sgm c rs) s.e)]) ?_ ?_
  rotate_left
  .intro nx' hnx;generalize s.e=e at hein hnx ⊢;rcases hein with rfl|⟨z,rfl,hz⟩
   .tm_at"a";exact hnx _ _ ⟨rfl,rfl⟩
   .tm_at"a";refine d9 (.inl e46) (A9 (σ:=sgm c rs) ro.nd hz) ?_;tm_at"a";exact hnx _ _ ⟨rfl,rfl⟩
  rintro _ G ⟨rfl,rfl⟩;tm_at"a";refine j7 (SqL.of e26) hv ?_;tm_at"a";refine⟨qv,_,3,_,rfl,rfl,SqT.of hq,rfl,?_⟩;tm_at"a";refine j7 (SqL.of e26) hv ?_;tm_at"a";refine⟨qv,_,4,_,rfl,rfl,SqT.of hq,rfl,?_⟩;tm_at"a";refine j7 (SqL.of e26) hv ?_;tm_at"a";refine⟨qv,_,5,_,rfl,rfl,SqT.of hq,rfl,?_⟩;tm_at"a";refine j7 (SqL.of e26) hv ?_;tm_at"a";refine⟨qv,_,6,_,rfl,rfl,SqT.of hq,rfl,?_⟩;tm_at"a";rename_i q9 H7 n7 S7 e9;have h97:q9≠pf:=λz=>by rw[z,e8]at n7;cases n7
  refine cX (S7 _ _ e8) (by rw[sizeLine_eq];lia) λH8 B8 e10=> ?_;refine⟨(sb.trans S7.but).trans B8,⟨_,e10,?_⟩,_,_,_,rfl⟩;rw[htk,LG];refine L2.Paired.snoc (Paired.imp' (λv d ⟨q,e,h⟩=>⟨q,e,B8 _ _ (S7 _ _ h) λz=>by rw[z,e8]at h;cases h⟩) hw) ⟨q9,rfl,?_⟩;rw[show 0+(ss.take i).length=i by rw[cw];lia];exact B8 _ _ e9 h97
 .rintro _ H6 hq_;obtain⟨sb,⟨ws',e8,hw⟩,x1,x2,x3,rfl⟩:=hq_;rw[iq (by lia)]at hw;have s46:Same H4 H6:=SameBut.same n5 S5 sb;have e66:=s46 _ _ e6;have hyl:ys.length=rs.length:=by rw[bx hyr,ae]
  have hwl':ws'.length=ss.length:=by rw[bx hw,wC]
  tm_at"a";refine aBC ?_;tm_at"a";refine UM (lo:=none) (hi:=none) (st:=some (-1)) (SqL.of e66) (by decide) (by rw[JE,sizeLine_eq];lia) λp7 H7 n7 S7 e9=> ?_;rw[IS]at e9;tm_at"a";refine aBC ?_;tm_at"a";refine UM (lo:=none) (hi:=none) (st:=some (-1)) (SqL.of (S7 _ _ e8)) (by decide) (by rw[JE,sizeLine_eq];lia) λp8 H8 n8 S8 e10=> ?_;rw[IS]at e10;tm_at"a";rename_i q9 H9 n9 S9 e11;have s36:Same H3 H9:=S4.trans (s46.trans (S7.trans (S8.trans S9)));have s69:Same H6 H9:=S7.trans (S8.trans S9);have s09:Same H H9:=s2.trans (s3.trans s36);exact k q9 pn p7 p8 _ _ H9 s09 e11 (s36 _ _ (s3 _ _ e4)) (aCb dr (S9 _ _ (S8 _ _ e9)) (S9 _ _ e10) (s09 _ _ dr.e3) (gG hyr s36) (BH hw s69))
theorem EV(m:M K mg):Fc P w K mg base "_law_renamed" 3 ["_law_cell","_law_rooms_here","_law_specs"] (BF K):=⟨_,_,m.ID,m.jG.F.kp,m.jG.b,EO m⟩
theorem aCg{s:bS}(h:0<=s.wd)(t:Int):0<=lW s t:=by
 unfold lW
 split
 .exact gc _
 .split
  .exact gc _
  .split
   .exact gc _
   .exact h
theorem aC1{t:Int}{d:aF}(h:∀t,0<=d.2.2.2 t):0<=cU f l d t:=by
 unfold cU
 split
 .exact h t
 .exact gc _
theorem aBU{rs:List bY}(ro:j8 rs)(z:Str):0<=dA (dN rs) z:=by
 by_cases h:z∈rs.map (·.1)
 .rcases ag.mp h with⟨r,hr,rfl⟩;rw[vU ro.nd (λx hx=>(ro.ok x hx).1) hr];exact(ro.ok r hr).1
 .rw[JH h];exact gc _
theorem HC.ofb{D:bE}{h:Addr}{rs:List bY}{ss:List bS}(hh:bO CHo D H h f l (cI rs) (dN rs) (ss.map dE))(dr:DrB H' p1 p2 p3 us ws rs ss f l):HC CHo D H h f l (cI rs) (dN rs) (ss.map dE):=by
 have ro:=dr.ro;have h1:=ro.l1;have h2:=dr.l7;have h3:=dr.f1;have h4:=dr.fl7;refine⟨hh,by rw[fQ];exact ro.nd,by rw[MF];exact dr.nd,λd hd=> ?_,by unfold cI;rw[ae];exact h1,by rw[ae];exact h2,dr.f0,dr.fl,by lia,by lia,λd hd u _=> ?_,λe he=> ?_,λz=>aBU ro z⟩
 .rcases ag.mp hd with⟨s,hs,rfl⟩;rw[fQ];exact⟨(dr.so s hs).sin,(dr.so s hs).ein⟩
 .rcases ag.mp hd with⟨s,hs,rfl⟩;exact aC1 λt=>aCg (dr.so s hs).w0 t
 .unfold cI at he;rcases ag.mp he with⟨r,hr,rfl⟩;have:=ro.ok r hr;show 0<=r.2.1
  lia
theorem aDu{h:Addr}{ds:List aF}(x:bO C (aP P w K mg base (some 4)) H h f l rz ps ds)(T:SameT H H'):bO C (aP P w K mg base (some 4)) H' h f l rz ps ds:=by
 obtain⟨dx,qs,qp,qd,nk,kvs,e1,e2,e3,e4,e5,e6,e7⟩:=x.ex;exact⟨dx,qs,qp,qd,nk,kvs,T _ _ e1 (λps z=>by cases z),T _ _ e2 (λps z=>by cases z),T _ _ e3 (λps z=>by cases z),e4,e5,T _ _ e6 (λps z=>by cases z),Paired.imp' (λe d h=>⟨h.1,ET h.2 T⟩) e7⟩
theorem aGX{h:Addr}{ds:List aF}(x:HC C (aP P w K mg base (some 4)) H h f l rz ps ds)(T:SameT H H'):HC C (aP P w K mg base (some 4)) H' h f l rz ps ds:=⟨aDu x.at' T,x.nr,x.nd,x.din,x.lr,x.ld,x.f0,x.fl,x.fl7,x.l1,x.let0,x.rz0,x.ps0⟩
theorem LM{c:Int}{σ:Str->Str}:∀(a:List bS) (k:Nat),((gA c σ k a).map dE).map tri=(a.map dE).map (GB σ)
 | [],_=>rfl
 | s::a,k=>by
  show tri (dE (YK c σ k s))::((gA c σ (k+1) a).map dE).map tri=_::_;rw[LM a (k+1)];rfl
theorem aFS{c:Int}{rs:List bY}{ss:List bS}(ro:j8 rs)(ro':j8 (rs.map (jL (sgm c rs))).reverse):Ren (sgm c rs) (cI rs) (cI (rs.map (jL (sgm c rs))).reverse) (dN rs) (dN (rs.map (jL (sgm c rs))).reverse) (ss.map dE) ((gA c (sgm c rs) 0 ss).reverse.map dE):=by
 refine⟨?_,λz hz=> ?_,?_⟩
 .unfold cI;rw[ng,bw,bw];exact(List.reverse_perm _).symm
 .rw[fQ]at hz;rcases ag.mp hz with⟨r,hr,rfl⟩;rw[vU ro.nd (λx hx=>(ro.ok x hx).1) hr];exact(vU (r:=jL (sgm c rs) r) ro'.nd (λx hx=>(ro'.ok x hx).1) (kj.mpr (ag.mpr ⟨r,hr,rfl⟩))).symm
 .rw[ng,ng,LM];exact(List.reverse_perm _).symm
theorem aDY{ns:List Str}{σ:Str->Str}(inj:∀y∈ns,∀z∈ns,σ y=σ z->y=z):∃τ:Str->Str,∀z∈ns,τ (σ z)=z:=⟨λy=>(ns.find? λz=>decide (σ z=y)).getD y,λz hz=>by
 show (ns.find? λx=>decide (σ x=σ z)).getD (σ z)=z;cases h:ns.find? λx=>decide (σ x=σ z) with
 | none =>
  have:=ug.mp h z hz;exact absurd (decide_eq_true rfl) this
 | some x =>
  exact inj x (ju h) z hz (of_decide_eq_true (xf (p:=λx=>decide (σ x=σ z)) h))⟩
theorem OC{ds:List aF}{sp:List Int}{xs:List bQ}(ndd:(ds.map (·.1)).Nodup)(hdl:ds.length<=7)(hf7:l - f<=7)(fo:FOk rz ps ds f l outs sp)(hxs:xs.map fP=lV (fE ((dkK rz ps ds f l (aZ rz ps) outs.length).map (cS sp)))):xs.length<=200/\vV rz ps ds f l xs=((el (l - f).toNat).map λi:Nat=>aZ rz ps - (outs.take i).sum).sum:=by
 have hol:=fo.len;have knd:(((dkK rz ps ds f l (aZ rz ps) outs.length).map (cS sp)).map λr=>bV r.1 r.2.1).Nodup:=by rw[W3];exact VS ndd _
 have hxr:∀r∈xs,r.2.1∈ds.map (·.1)/\f<=r.1/\r.1<l:=λr hr=>by
  rcases ag.mp (YG hxs knd hr) with⟨e,he,rfl⟩;obtain⟨d,hd,j,hj,hk⟩:=A6 (ag.mpr ⟨e,he,rfl⟩);obtain⟨t,n,b,rfl,_⟩:=o6 he;rcases gU hk with⟨h1,h2⟩;rw[zT,h1,h2];exact⟨ag.mpr ⟨d,hd,rfl⟩,by show f<=f+(j:Int);lia,by show f+(j:Int)<l;lia⟩
 constructor
 .have h1:xs.length=(fE ((dkK rz ps ds f l (aZ rz ps) outs.length).map (cS sp))).length:=by rw[←ae (f:=fP),hxs,(qN _).length_eq]
  rw[GN knd,ae]at h1;have h2:=du (λr:bQ=>decide (0<r.2.2)) ((dkK rz ps ds f l (aZ rz ps) outs.length).map (cS sp));rw[ae,BP]at h2;have h3:=ml (show outs.length<=7 by lia) hdl
  lia
 .unfold vV;refine congrArg List.sum (dw λi hi=> ?_);have hi:=gr.mp hi;rw[aAx ndd hxr,O9 hxs knd (λr hr=> ?_),QK ndd fo.fl i outs.length (aq _),qj (by lia)];rcases ag.mp hr with⟨e,he,rfl⟩;obtain⟨t,n,b,rfl,_⟩:=o6 he;rw[zT];exact fo.sp0 _
theorem U2{T:Int}{v1 v2:V}(hl:o1.length=o2.length)(h:∀i,i<=o1.length->(o1.take i).sum=(o2.take i).sum)(a:Y7 o1 f T v1)(b:Y7 o2 f T v2):v1=v2:=by
 rcases a with⟨i,hi,rfl,h1,h2⟩|⟨rfl,h2⟩
 .rcases b with⟨j,hj,rfl,g1,g2⟩|⟨rfl,g2⟩
  .rcases uz i j with hij|hij|hij
   .exact absurd ((h i hi).symm.trans h1) (g2 i hij)
   .rw[hij]
   .exact absurd ((h j (by lia)).trans g1) (h2 j hij)
  .exact absurd ((h i hi).symm.trans h1) (g2 i (by lia))
 .rcases b with⟨j,hj,rfl,g1,g2⟩|⟨rfl,g2⟩
  .exact absurd ((h j (by lia)).trans g1) (h2 j (by lia))
  .rfl
theorem YL{a b:List Str}(h:a.Perm b)(nd:a.Nodup):eX a=eX b:=QQ (lt:=ltS) (λx _=>QL x) (λ_ _ _ _ _ _ a b=>V2 a b) (((mE a).trans h).trans (mE b).symm) (OF nd) (OF (h.nodup_iff.mp nd))
theorem WG(ss:List Str):(ss.map V.str).all A3=true:=by
 rw[jk];intro v hv;rcases ag.mp hv with⟨z,_,rfl⟩;rfl
theorem IM:∀ss:List Str,bu (λ(v:V) (z:Str)=>v= .str z) (ss.map V.str) ss
 | []=> .nil
 | _::ss=> .cons rfl (IM ss)
theorem aCO(h:aAd v v=true)(k:Q (.bl false) H):rNe v v H Q:=⟨h,by rw[decide_eq_true rfl];exact k⟩
inductive z8(K:W.Frag)(PL:Addr)(vs:List V)(H:Hp)(Q:VK)(E:XK):Prop
 | mk (a:Addr) (ns:List Int) (_:vs=[.ref a]) (_:SqL K H a (ns.map V.int)) (_:ns.length<=63) (_:H PL=some (.tbl #[])) (_:∀H',Q (.bl true) H'):z8 K PL vs H Q E
theorem aD0(m:M K mg)(hcL:m.eO.code= .ref cL)(hCL:W.CodeHd base cL PL)(hBL:base.BuiltinsAt mg PL):FnOk P w K mg base CX0 20 m.UG m.UE ["_law_script"] (z8 K PL):=by
 refine m.aGK.ok aIY ?_ ?_;tm_at"h";tm_at"g";rcases h with⟨a,ns,rfl,hS,hlen,hPL,k⟩;tm_at"f";have nd:=aIY.nd;tm_at"d";have aHg:= @lQ P w K mg base m;have aIJ:= @JX P w K mg base m;have aIj:=KH (P:=P) (w:=w) (base:=base) m hcL hCL hBL;have aIF:= @EV P w K mg base m;have aIG:= @RU P w K mg base m;have aIv:= @NT P w K mg base m;have aIW:= @aCj P w K mg base m;have aII:= @TM P w K mg base m;have aIQ:= @ZE P w K mg base m;have aHa:=m.bJ;refine⟨_,(aB (zI (bI aIJ hr (aA (pv 0) aC)) (v7 (n:=3) rfl (aX (aL (i:=1) nd rfl (by tm_at"b")) (aX (aL (i:=2) nd rfl (by tm_at"b")) (aX (aL (i:=3) nd rfl (by tm_at"b")) dY)))))
  (aB (aO (i:=4) nd rfl (by tm_at"b") (bI aIj hr (aA (pv 1) (aA (pv 2) (aA (pv 3) aC)))))
  (aB (zI (bI aIF hr (aA (aK cK (bI aHg hr (aA (pv 0) (aA aD aC))) aD) (aA (pv 1) (aA (pv 2) aC)))) (v7 (n:=3) rfl (aX (aL (i:=5) nd rfl (by tm_at"b")) (aX (aL (i:=6) nd rfl (by tm_at"b")) (aX (aL (i:=7) nd rfl (by tm_at"b")) dY)))))
  (aB (aO (i:=8) nd rfl (by tm_at"b") (bI aIj hr (aA (pv 6) (aA (pv 7) (aA (pv 3) aC)))))
  (aB (aO (i:=9) nd rfl (by tm_at"b") (aK bX (aT c4 (pv 3) aD (λ_ _=>rfl)) (aK bP (bI aHg hr (aA (pv 0) (aA aD aC))) (aK hV (aK bX (aT c4 (pv 3) aD (λ_ _=>rfl)) aD) (aT c4 (pv 3) aD (λ_ _=>rfl))))))
  (aB (cO cn rfl (bN (cP (aA (pv 9) (aA (aK cK (aK bX (pv 9) (aT c4 (pv 3) aD (λ_ _=>rfl))) aD) (aA (aT c4 (pv 3) aD (λ_ _=>rfl)) aC))))) (aL (i:=10) nd rfl (by tm_at"b")) (aE (b8 (bB aBu (bI aII hr (aA (pv 8) (aA (pv 10) aC))) (bI aII hr (aA (pv 4) (aA (pv 10) aC))) (bG _)) (aE (aS A8)) bK)))
  (aB (b8 (PW.pt (KW (bB aBu (bI aIG hr (aA (pv 8) aC)) (bI aIG hr (aA (pv 4) aC)) (bG _)) (EN (bB (aEN hu9) (bI aIW hr (aA (pv 8) aC)) (bL z9 rfl m.yK uE (aA (dG (N:=["_law_room","_law_names"]) (nl:=1) (ci:=[5]) rfl (blk (s.heap.objs.size+1) rfl rfl rfl (by kernel_rfl)) (bN (bI aIW hr (aA (pv 4) aC))) (λ_ _ _ _=>(aL (i:=0) (show (["_law_room","_law_names"]:List Str).Nodup by decide +kernel) rfl (by tm_at"b"))) (λ_ _ _ _=>dI) (λ_ _ _ _=>(dL hu1 (pv 1) (pv 0) (λ_ _=>rfl)))) aC)) (bG _))))) (aE (aS A8)) bK)
  (aE (aS (vZ fG (bI aIQ hr (aA (pv 8) (aA (bI aIv hr (aA (pv 8) aC)) aC))) (bI aIQ hr (aA (pv 4) (aA (bI aIv hr (aA (pv 4) aC)) aC))) (bG _))))))))))),?_⟩
 refine aJ (σ:=[some (.ref a),none,none,none,none,none,none,none,none,none,none]) rfl ?_;tm_at"e";tm_at"a";refine NF hS hlen λq p1 p2 p3 us ws rs ss f l H1 S1 dr=> ?_;have eq:=dr.eq;tm_at"a";refine MG dr.b (.inl (S1 _ _ hPL)) λh H2 T2 hT2 hh=> ?_;have dr2:=(aCP dr T2).b;have hS2:=T2.seq (S1.seq hS);have ro:=dr.ro;have f0:=dr.f0;have f1:=dr.f1;have fl:=dr.fl;have fl7:=dr.fl7;have hc2:=HC.ofb hh dr2;tm_at"a";refine aEi dr2 λq2 pn p4 p5 us' ws' H3 S3 eq2 en dr3=> ?_;tm_at"a";refine MG dr3 (hT2.same S3) λo H4 T4 hT4 ho=> ?_;have hco:=HC.ofb ho dr3;have hc4:=aGX hc2 ((S3.t).trans T4);have hS4:=T4.seq (S3.seq hS2);have e34:=T4.tup dr3.e3;have en4:H4 pn=some (.dK (nmK (sgm (fC ns 0/5) rs) rs)):=T4 _ _ en (λps z=>by cases z);have x:=aFS (c:=fC ns 0/5) (ss:=ss) ro dr3.ro;generalize hcc:fC ns 0/5=cc at *;have hns:(cI rs).map (·.1)=rs.map (·.1):=fQ rs;have inj:∀y∈(cI rs).map (·.1),∀z∈(cI rs).map (·.1),sgm cc rs y=sgm cc rs z->y=z:=by
  rw[hns];exact λy hy z hz=>QG ro.l1 hy hz
 have key:∀{o1 s1 o2 s2:List Int},FOk (cI rs) (dN rs) (ss.map dE) f l o1 s1->FOk (cI (rs.map (jL (sgm cc rs))).reverse) (dN (rs.map (jL (sgm cc rs))).reverse) ((gA cc (sgm cc rs) 0 ss).reverse.map dE) f l o2 s2->o1.length=o2.length/\∀i,i<=o1.length->(o1.take i).sum=(o2.take i).sum:=λa b=>by
  rcases aDY inj with⟨τ,hτ⟩;exact⟨by have:=a.len;have:=b.len;lia,λi hi=>ZB x hτ hc2.nr hco.nr a b hc2.din hco.din i hi⟩
 have hT:=IQ x;have hlost:=aAG (f:=f) (l:=l) x inj hc2.din;have hval:∀z∈(cI rs).map (·.1),aW (nmK (sgm cc rs) rs) (.inr z)=some (.str (sgm cc rs z)):=by
  rw[hns];exact λz hz=>A9 ro.nd hz
 clear x dr3 ho inj hns hc2 hh dr2 ro dr hcc;generalize cI (rs.map (jL (sgm cc rs))).reverse=rz' at *;generalize dN (rs.map (jL (sgm cc rs))).reverse=ps' at *;generalize (gA cc (sgm cc rs) 0 ss).reverse.map dE=ds' at *;generalize nmK (sgm cc rs) rs=kvs at *;generalize sgm cc rs=σ at *;generalize cI rs=rz at *;generalize dN rs=ps at *;generalize ss.map dE=ds at *;tm_at"a";refine⟨p3,_,0,_,rfl,rfl,SqT.of e34,rfl,?_⟩;tm_at"a";refine⟨p3,_,1,_,rfl,rfl,SqT.of e34,rfl,?_⟩;tm_at"a";refine⟨p3,_,0,_,rfl,rfl,SqT.of e34,rfl,?_⟩;tm_at"a";rename_i hm0 hm1;generalize fC ns 1%(l+1 - f)=at0' at *;refine⟨p3,_,1,_,rfl,rfl,SqT.of e34,rfl,?_⟩;tm_at"a";refine⟨p3,_,1,_,rfl,rfl,SqT.of e34,rfl,?_⟩;tm_at"a";rename_i pl H5 n5 S5 e5;let Pv1:Nat->St->Hp->Prop:=λj σ' H'=>Same H5 H'/\∃x,σ'=[some (.ref a),some (.ref p1),some (.ref p2),some (.ref p3),some (.ref h),some (.ref pn),some (.ref p4),some (.ref p5),some (.ref o),some (.int (f+at0')),x];refine c6 [.int (f+at0'),.int ((f+at0'+l)/2),.int l] Pv1 ⟨Same.refl _,_,rfl⟩ (λj σ' H' _ g=>SqL.of (g.1 _ _ e5)) ?_ ?_
 .rintro j y _ H7 hy ⟨s7,x1,rfl⟩;obtain⟨t,h0,h1,rfl⟩:∃t,f<=t/\t<=l/\y= .int t:=by
   have:=ay hy;simp only[az,gi,or_false]at this;rcases this with rfl|rfl|rfl
   .exact⟨_,by lia,by lia,rfl⟩
   .exact⟨_,by lia,by lia,rfl⟩
   .exact⟨_,by lia,by lia,rfl⟩
  have ht:f+((t - f).toNat:Int)=t:=by lia
  have s47:=S5.trans s7;tm_at"a";refine⟨o,(t - f).toNat,f,l,rz',ps',ds',by rw[ht],hco.same s47,λo2 sp2 H8 S8 fo2=> ?_⟩;tm_at"a";refine⟨h,(t - f).toNat,f,l,rz,ps,ds,by rw[ht],hc4.same (s47.trans S8),λo1 sp1 H9 S9 fo1=> ?_⟩;rw[←(key fo1 fo2).2 _ (by have:=fo1.len;lia)];tm_at"a";exact⟨s7.trans (S8.trans S9),_,rfl⟩
 .rintro _ H7 ⟨s7,x1,rfl⟩;have s47:=S5.trans s7;tm_at"a";refine⟨o,f,l,rz',ps',ds',rfl,hco.same s47,λv2 o2 sp2 H8 S8 fo2 av2=> ?_⟩;tm_at"a";refine⟨h,f,l,rz,ps,ds,rfl,hc4.same (s47.trans S8),λv1 o1 sp1 H9 S9 fo1 av1=> ?_⟩;rcases key fo1 fo2 with⟨hl12,h12⟩;rw[←hT]at av2;obtain rfl:=U2 hl12 h12 av1 av2;have s49:=s47.trans (S8.trans S9);have en9:=s49 _ _ en4;refine aCO (by rcases av1 with⟨i,_,h,_⟩|⟨h,_⟩<;>rw[h]<;>rfl) ?_;tm_at"a";refine WW (hco.same s49) λpa HA nA SA eA=> ?_;tm_at"a";refine WW (hc4.same (s49.trans SA)) λpb HB nB SB eB=> ?_;have enB:=SB _ _ (SA _ _ en9);have hlm:∀z∈eX (jA rz ds f l),z∈rz.map (·.1):=λz hz=>(cg.mp ((mE _).mem_iff.mp hz)).1;have hl64:(eX (jA rz ds f l)).length<=4:=by
   rw[(mE _).length_eq];refine dy (du _ _) ?_;rw[ae];exact hc4.lr
  have hse:eX ((eX (jA rz ds f l)).map σ)=eX (jA rz' ds' f l):=(YL (((mE _).map σ).trans hlost).symm (yl.nodup hco.nr)).symm;tm_at"a";refine iF (α:=Str) (xs:=eX (jA rz ds f l)) (vs:=(eX (jA rz ds f l)).map V.str) (λv z=>v= .str z) (λ_=>true) (λz y _=>y= .str (σ z)) (λ_ _ _ _ h _=>h) (by rw[sizeLine_eq];lia) (rest:=[some (.ref pn)]) (by rfl) (SqL.of eB) (IM _) (λv x H1 _ hx s1 R hR=>hR _ (Same.refl _)) ?_ ?_
  .rintro v z HC rfl hm - sC R hR;tm_at"a";refine d9 (.inl (sC _ _ enB)) (hval z (hlm z hm)) ?_;exact hR _ _ rfl (Same.refl _)
  intro ys HC sC hys;rw[dM]at hys;have ey:ys=((eX (jA rz ds f l)).map σ).map V.str:=by rw[lJ hys,bw];rfl
  subst ey;tm_at"a";rename_i pc HD nD SD eD;refine MD (SqL.of eD) (by rw[ae];lia) λpe HE nE SE eE=> ?_;rw[hse]at eE;have sAE:=SB.trans (sC.trans (SD.trans SE));refine YJ (SqL.of (sAE _ _ eA)) (SqL.of eE) (E1 (WG _)) ?_;have s4E:=s49.trans (SA.trans sAE);tm_at"a";refine⟨o,f,l,rz',ps',ds',rfl,hco.same s4E,λpp wp xs o3 sp3 HF sF ep hpl hxs fo3=> ?_⟩;rcases OC hco.nd hco.ld hco.fl7 fo3 hxs with⟨k1,k2⟩;have hl1:=hco.l1;have hf7:=hco.fl7;tm_at"a";refine Q0 (hco.same (s4E.trans sF)).at' hco.nr hco.nd hco.din (SqL.of ep) hpl k1 (by lia) hco.f0 (by lia) hco.fl λHG SG=> ?_;tm_at"a";have s4G:=s4E.trans (sF.trans SG);refine⟨h,f,l,rz,ps,ds,rfl,hc4.same s4G,λpp2 wp2 xs2 o4 sp4 HH sH ep2 hpl2 hxs2 fo4=> ?_⟩;rcases OC hc4.nd hc4.ld hc4.fl7 fo4 hxs2 with⟨k3,k4⟩;tm_at"a";refine Q0 (hc4.same (s4G.trans sH)).at' hc4.nr hc4.nd hc4.din (SqL.of ep2) hpl2 k3 (by lia) hc4.f0 (by lia) hc4.fl λHI SI=> ?_;tm_at"a";have hsp:vV rz' ps' ds' f l xs=vV rz ps ds f l xs2:=by
   rw[k2,k4];refine congrArg List.sum (dw λi hi=> ?_);have hi:=gr.mp hi;have:=fo4.len;rw[hT,(key fo4 fo3).2 i (by lia)]
  rw[decide_eq_true hsp];exact k _
end
theorem all_mk{l:W.OpenLaw}{h:Heap}{fa:Addr}(X:K.In h)(G:h.Ns bf mg)(hfa:mg "law" =some (.ref fa))
  {f0:Addr}
  {f1:Addr}
  {f2:Addr}
  {f3:Addr}
  {f4:Addr}
  {f5:Addr}
  {f6:Addr}
  {f7:Addr}
  {f8:Addr}
  {f9:Addr}
  {f10:Addr}
  {f11:Addr}
  {f12:Addr}
  {f13:Addr}
  {f14:Addr}
  {f15:Addr}
  {f16:Addr}
  {f17:Addr}
  {f18:Addr}
  {f19:Addr}
  {f20:Addr}
  {f21:Addr}
  {f22:Addr}
  {f23:Addr}
  {f24:Addr}
  {f25:Addr}
  {f26:Addr}
  {f27:Addr}
  {f28:Addr}
  {f29:Addr}
  {f30:Addr}
  {f31:Addr}
  {f32:Addr}
  {f33:Addr}
  {f34:Addr}
  {C35:Addr}
  {C36:Addr}
  {C37:Addr}
  {C38:Addr}
  {C39:Addr}
  {C40:Addr}
  {C41:Addr}
  {C42:Addr}
  {C43:Addr}
  {f44:Addr}
  {f45:Addr}
  {f46:Addr}
  {f47:Addr}
  {f48:Addr}
  {f49:Addr}
  {f50:Addr}
  {f51:Addr}
  {f52:Addr}
  {f53:Addr}
  {f54:Addr}
  {f55:Addr}
  {f56:Addr}
  {f57:Addr}
  {f58:Addr}
  {f59:Addr}
  {f60:Addr}
  {f61:Addr}
  {f62:Addr}
  {f63:Addr}
  {f64:Addr}
  {f65:Addr}
  {f66:Addr}
  {f67:Addr}
  {f68:Addr}
  {f69:Addr}
  {f70:Addr}
  {f71:Addr}
  {f72:Addr}
  {f73:Addr}
  {f74:Addr}
  {f75:Addr}
  {f76:Addr}
  {f77:Addr}
  {f78:Addr}
  {f79:Addr}
  {f80:Addr}
  {f81:Addr}
  {f82:Addr}
  {zaa zab:Option Addr}{zac:Array (Option ak)}{zad zae zaf zag zah zai:ak}
  {zaj zak:Option Addr}{zal:Array (Option ak)}{zam zan zao zap zaq zar:ak}
  {zas zat:Option Addr}{zau:Array (Option ak)}{zav zaw zax zay zaz zba:ak}
  {zbb:Addr}
  {zbc:Tok}
  {zbd:ak}{zbe:Option Addr}{zbf:Nat}{zbg:Array (Option ak)}
  {zbh zbi:Option Addr}{zbj:Array (Option ak)}{zbk zbl zbm zbn zbo zbp:ak}
  {zbq:Addr}
  {zbr:Tok}
  {zbs:ak}{zbt:Option Addr}{zbu:Nat}{zbv:Array (Option ak)}
  {zbw zbx:Option Addr}{zby:Array (Option ak)}{zbz zca zcb zcc zcd zce:ak}
  {zcf:Addr}
  {zcg:Tok}
  {zch:ak}{zci:Option Addr}{zcj:Nat}{zck:Array (Option ak)}
  {zcl:Tok}
  (y0:W.nsIn K bf "added_up" =some (some (.ref f0)))
  (y1:W.nsIn K bf "as_told" =some (some (.ref f1)))
  (y2:W.nsIn K bf "rows_that_count" =some (some (.ref f2)))
  (y3:W.nsIn K bf "out_by" =some (some (.ref f3)))
  (y4:W.nsIn K bf "spent" =some (some (.ref f4)))
  (y5:W.nsIn K bf "filled_net" =some (some (.ref f5)))
  (y6:W.nsIn K bf "first_out" =some (some (.ref f6)))
  (y7:W.nsIn K bf "most_by" =some (some (.ref f7)))
  (y8:W.nsIn K bf "all_out" =some (some (.ref f8)))
  (y9:W.nsIn K bf "leads_on" =some (some (.ref f9)))
  (y10:W.nsIn K bf "lost" =some (some (.ref f10)))
  (y11:W.nsIn K bf "is_whole" =some (some (.ref f11)))
  (y12:W.nsIn K bf "is_name" =some (some (.ref f12)))
  (y13:W.nsIn K bf "need_name" =some (some (.ref f13)))
  (y14:W.nsIn K bf "need_whole" =some (some (.ref f14)))
  (y15:W.nsIn K bf "need_turns" =some (some (.ref f15)))
  (y16:W.nsIn K bf "need_each_once" =some (some (.ref f16)))
  (y17:W.nsIn K bf "rooms_spoken_of" =some (some (.ref f17)))
  (y18:W.nsIn K bf "need_rooms" =some (some (.ref f18)))
  (y19:W.nsIn K bf "added_people" =some (some (.ref f19)))
  (y20:W.nsIn K bf "need_space" =some (some (.ref f20)))
  (y21:W.nsIn K bf "_law_cell_at" =some (some (.ref f21)))
  (y22:W.nsIn K bf "_law_mixed" =some (some (.ref f22)))
  (y23:W.nsIn K bf "_law_name" =some (some (.ref f23)))
  (y24:W.nsIn K bf "_law_rooms" =some (some (.ref f24)))
  (y25:W.nsIn K bf "_law_spec" =some (some (.ref f25)))
  (y26:W.nsIn K bf "_law_door" =some (some (.ref f26)))
  (y27:W.nsIn K bf "_law_digits" =some (some (.ref f27)))
  (y28:W.nsIn K bf "_law_rooms_told" =some (some (.ref f28)))
  (y29:W.nsIn K bf "_law_spec_told" =some (some (.ref f29)))
  (y30:W.nsIn K bf "_law_drawn_told" =some (some (.ref f30)))
  (y31:W.nsIn K bf "_law_drawn" =some (some (.ref f31)))
  (y32:W.nsIn K bf "_law_house" =some (some (.ref f32)))
  (y33:W.nsIn K bf "_law_renamed" =some (some (.ref f33)))
  (y34:W.nsIn K bf "law" =some (some (.ref f34)))
  (y35:W.nsIn K bf "Net" =some (some (.ref C35)))
  (y36:W.nsIn K bf "HouseNet" =some (some (.ref C36)))
  (y37:W.nsIn K bf "Door" =some (some (.ref C37)))
  (y38:W.nsIn K bf "Since" =some (some (.ref C38)))
  (y39:W.nsIn K bf "Until" =some (some (.ref C39)))
  (y40:W.nsIn K bf "Beat" =some (some (.ref C40)))
  (y41:W.nsIn K bf "Marked" =some (some (.ref C41)))
  (y42:W.nsIn K bf "Told" =some (some (.ref C42)))
  (y43:W.nsIn K bf "House" =some (some (.ref C43)))
  (y44:Mk K C35 f44)
  (y45:Mk K C36 f52)
  (y46:Mk K C37 f61)
  (y47:Mk K C38 f64)
  (y48:Mk K C39 f66)
  (y49:Mk K C40 f68)
  (y50:Mk K C41 f70)
  (y51:Mk K C42 f72)
  (y52:Mk K C43 f74)
  (y53:Meth K C35 "new_node" f45)
  (y54:Meth K C35 "new_arc" f46)
  (y55:Meth K C35 "sent" f47)
  (y56:Meth K C35 "ways_from" f48)
  (y57:Meth K C35 "path_to" f49)
  (y58:Meth K C35 "send_along" f50)
  (y59:Meth K C35 "send_all" f51)
  (y60:Meth K C36 "now_in" f53)
  (y61:Meth K C36 "add_door" f54)
  (y62:Meth K C36 "send_out" f55)
  (y63:Meth K C36 "reached_pairs" f56)
  (y64:Meth K C36 "new_entries" f57)
  (y65:Meth K C36 "go_on" f58)
  (y66:Meth K C36 "keep_others" f59)
  (y67:Meth K C36 "rows" f60)
  (y68:Meth K C37 "lets" f62)
  (y69:Meth K C37 "is_exit" f63)
  (y70:Meth K C38 "lets" f65)
  (y71:Meth K C38 "is_exit" f63)
  (y72:Meth K C39 "lets" f67)
  (y73:Meth K C39 "is_exit" f63)
  (y74:Meth K C40 "lets" f69)
  (y75:Meth K C40 "is_exit" f63)
  (y76:Meth K C41 "lets" f71)
  (y77:Meth K C41 "is_exit" f63)
  (y78:Meth K C42 "lets" f73)
  (y79:Meth K C42 "is_exit" f63)
  (y80:Meth K C43 "rooms" f75)
  (y81:Meth K C43 "doors" f76)
  (y82:Meth K C43 "need_room" f77)
  (y83:Meth K C43 "holds" f78)
  (y84:Meth K C43 "found" f79)
  (y85:Meth K C43 "door" f80)
  (y86:Meth K C43 "lets" f81)
  (y87:Meth K C43 "total" f82)
  (y88:FnL K "added_up" "added_up" x8 f0)
  (y89:FnL K "as_told" "as_told" AJ f1)
  (y90:FnL K "rows_that_count" "rows_that_count" jM f2)
  (y91:FnL K "out_by" "out_by" DE f3)
  (y92:FnL K "spent" "spent" F6 f4)
  (y93:FnL K "filled_net" "filled_net" rS f5)
  (y94:FnL K "first_out" "first_out" u3 f6)
  (y95:FnL K "most_by" "most_by" zU f7)
  (y96:FnL K "all_out" "all_out" zF f8)
  (y97:FnL K "leads_on" "leads_on" wT f9)
  (y98:FnL K "lost" "lost" N2 f10)
  (y99:FnL K "is_whole" "is_whole" xP f11)
  (zcm:FnL K "is_name" "is_name" z6 f12)
  (zcn:FnL K "need_name" "need_name" u4 f13)
  (zco:FnL K "need_whole" "need_whole" sU f14)
  (zcp:FnL K "need_turns" "need_turns" rR f15)
  (zcq:FnL K "need_each_once" "need_each_once" kN f16)
  (zcr:FnL K "rooms_spoken_of" "rooms_spoken_of" jK f17)
  (zcs:FnL K "need_rooms" "need_rooms" sQ f18)
  (zct:FnL K "added_people" "added_people" m3 f19)
  (zcu:FnL K "need_space" "need_space" sN f20)
  (zcv:FnL K "_law_cell_at" "_law_cell_at" nY f21)
  (zcw:FnL K "_law_mixed" "_law_mixed" sI f22)
  (zcx:FnL K "_law_name" "_law_name" uY f23)
  (zcy:FnL K "_law_rooms" "_law_rooms" rZ f24)
  (zcz:FnL K "_law_spec" "_law_spec" uW f25)
  (zda:K.lookup f26=some ⟨zad,zaa,.func (W.fnOf "_law_door" "_law_door" (d8 eM) (dF eM) (aG eM) .none zae zaf zag zab zah zai),zac⟩)
  (zdb:W.codeIn K zah "_law_door" =true)
  (zdc:W.keepIn K (.ref f26)=true)
  (zdd:FnL K "_law_digits" "_law_digits" pN f27)
  (zde:FnL K "_law_rooms_told" "_law_rooms_told" jN f28)
  (zdf:FnL K "_law_spec_told" "_law_spec_told" kT f29)
  (zdg:FnL K "_law_drawn_told" "_law_drawn_told" jO f30)
  (zdh:FnL K "_law_drawn" "_law_drawn" sL f31)
  (zdi:FnL K "_law_house" "_law_house" rL f32)
  (zdj:FnL K "_law_renamed" "_law_renamed" nN f33)
  (zdk:K.lookup f34=some ⟨zam,zaj,.func (W.fnOf "law" "law" (d8 uF) (dF uF) (aG uF) .none zan zao zap zak zaq zar),zal⟩)
  (zdl:W.codeIn K zaq "law" =true)
  (zdm:W.keepIn K (.ref f34)=true)
  (zdn:FnL K "__init__" "Net.__init__" nK f44)
  (zdo:FnL K "new_node" "Net.new_node" nI f45)
  (zdp:FnL K "new_arc" "Net.new_arc" pU f46)
  (zdq:FnL K "sent" "Net.sent" xC f47)
  (zdr:FnL K "ways_from" "Net.ways_from" mB f48)
  (zds:FnL K "path_to" "Net.path_to" pI f49)
  (zdt:FnL K "send_along" "Net.send_along" kP f50)
  (zdu:FnL K "send_all" "Net.send_all" nW f51)
  (zdv:FnL K "__init__" "HouseNet.__init__" iI f52)
  (zdw:FnL K "now_in" "HouseNet.now_in" jH f53)
  (zdx:FnL K "add_door" "HouseNet.add_door" iJ f54)
  (zdy:FnL K "send_out" "HouseNet.send_out" iG f55)
  (zdz:FnL K "reached_pairs" "HouseNet.reached_pairs" eR f56)
  (zea:FnL K "new_entries" "HouseNet.new_entries" fO f57)
  (zeb:FnL K "go_on" "HouseNet.go_on" kU f58)
  (zec:FnL K "keep_others" "HouseNet.keep_others" fN f59)
  (zed:FnL K "rows" "HouseNet.rows" lU f60)
  (zee:K.lookup f61=some ⟨zav,zas,.func (W.fnOf "__init__" "Door.__init__" (d8 fJ) (dF fJ) (aG fJ) (.ref zbb) zaw zax zay zat zaz zba),zau⟩)
  (zef:W.codeIn K zaz "Door.__init__" =true)
  (zeg:W.keepIn K (.ref f61)=true)
  (zeh:K.lookup zbb=some ⟨zbd,zbe,.seq #[.none,.int 1 zbc] zbf,zbg⟩)
  (zei:FnL K "lets" "Door.lets" u5 f62)
  (zej:FnL K "is_exit" "Door.is_exit" nH f63)
  (zek:FnL K "__init__" "Since.__init__" kM f64)
  (zel:FnL K "lets" "Since.lets" rW f65)
  (zem:FnL K "__init__" "Until.__init__" kQ f66)
  (zen:FnL K "lets" "Until.lets" rO f67)
  (zeo:K.lookup f68=some ⟨zbk,zbh,.func (W.fnOf "__init__" "Beat.__init__" (d8 fF) (dF fF) (aG fF) (.ref zbq) zbl zbm zbn zbi zbo zbp),zbj⟩)
  (zep:W.codeIn K zbo "Beat.__init__" =true)
  (zeq:W.keepIn K (.ref f68)=true)
  (zer:K.lookup zbq=some ⟨zbs,zbt,.seq #[.int 0 zbr] zbu,zbv⟩)
  (zes:FnL K "lets" "Beat.lets" uX f69)
  (zet:FnL K "__init__" "Marked.__init__" jQ f70)
  (zeu:FnL K "lets" "Marked.lets" pR f71)
  (zev:FnL K "__init__" "Told.__init__" lN f72)
  (zew:FnL K "lets" "Told.lets" u6 f73)
  (zex:K.lookup f74=some ⟨zbz,zbw,.func (W.fnOf "__init__" "House.__init__" (d8 eU) (dF eU) (aG eU) (.ref zcf) zca zcb zcc zbx zcd zce),zby⟩)
  (zey:W.codeIn K zcd "House.__init__" =true)
  (zez:W.keepIn K (.ref f74)=true)
  (zfa:K.lookup zcf=some ⟨zch,zci,.seq #[.int 0 zcg] zcj,zck⟩)
  (zfb:FnL K "rooms" "House.rooms" pG f75)
  (zfc:FnL K "doors" "House.doors" pK f76)
  (zfd:FnL K "need_room" "House.need_room" jP f77)
  (zfe:FnL K "holds" "House.holds" pO f78)
  (zff:FnL K "found" "House.found" pJ f79)
  (zfg:FnL K "door" "House.door" rV f80)
  (zfh:FnL K "lets" "House.lets" rX f81)
  (zfi:FnL K "total" "House.total" pF f82)
  (zfj:DCls K C35)
  (zfk:DCls K C36)
  (zfl:DCls K C37)
  (zfm:DCls K C38)
  (zfn:DCls K C39)
  (zfo:DCls K C40)
  (zfp:DCls K C41)
  (zfq:DCls K C42)
  (zfr:DCls K C43)
  (zfs:W.specialIn K (.ref C37) "__getattribute__" =some (some (.builtin "type.__getattribute__")))
  (zft:W.readsIn K C37 (.type "type")=true)
  (zfu:W.findCls K (.ref C37) (.type "type") "__init__" =some (.val (.ref f61)))
  (zfv:W.nsIn K bf "sorted" =some none)
  (zfw:W.nsIn K bf "sum" =some none)
  (zfx:W.nsIn K bf "range" =some none)
  (zfy:W.nsIn K bf "any" =some none)
  (zfz:W.nsIn K bf "len" =some none)
  (zga:W.nsIn K bf "min" =some none)
  (zgb:W.nsIn K bf "isinstance" =some none)
  (zgc:W.nsIn K bf "int" =some none)
  (zgd:W.nsIn K bf "str" =some none)
  (zge:W.nsIn K bf "all" =some none)
  (zgf:W.nsIn K bf "dict" =some none)
  (zgg:W.nsIn K bf "list" =some none)
  (zgh:W.nsIn K bf "bool" =some none)
  (zgi:W.nsIn K bf "LONGEST_NAME" =some (some (.int 8 zcl))) :
  ∃(fd:gy) (f2:Addr) (fd2:gy),mg "_law_door" =some (.ref f2)/\(∃oc od osl,K.lookup f2=some ⟨oc,od,.func fd2,osl⟩)/\(∀(s:ba) (v:ak),BindsTo s fd ⟨[v],[]⟩ [("_law_script",v)])/\∀(zgj:Heap) (cL PL:Addr),fd2.code= .ref cL->W.CodeHd zgj cL PL->zgj.BuiltinsAt mg PL->FnOk l.prog w K mg zgj CX0 20 fa fd ["_law_script"] (z8 K PL):=by
 have e:=hfa.symm.trans (W.mg_of X G y34);cases e;exact⟨(W.fnOf "law" "law" (d8 uF) (dF uF) (aG uF) .none zan zao zap zak zaq zar),f26,(W.fnOf "_law_door" "_law_door" (d8 eM) (dF eM) (aG eM) .none zae zaf zag zab zah zai),W.mg_of X G y26,⟨_,_,_,zda⟩,λs v=> .of_eq rfl,λzgj cL PL h1 h2 h3=>aD0 ⟨f0,y88.x1 λ_ _ _ _ _ _ _=>rfl,
  f1,y89.x1 λ_ _ _ _ _ _ _=>rfl,
  f2,y90.x2 λ_ _ _ _ _ _ _ _=>rfl,
  f3,y91.x3 λ_ _ _ _ _ _ _ _ _=>rfl,
  f4,y92.x2 λ_ _ _ _ _ _ _ _=>rfl,
  f5,y93.x1 λ_ _ _ _ _ _ _=>rfl,
  f6,y94.x1 λ_ _ _ _ _ _ _=>rfl,
  f7,y95.x2 λ_ _ _ _ _ _ _ _=>rfl,
  f8,y96.x1 λ_ _ _ _ _ _ _=>rfl,
  f9,y97.x4 λ_ _ _ _ _ _ _ _ _ _=>rfl,
  f10,y98.x1 λ_ _ _ _ _ _ _=>rfl,
  f11,y99.x1 λ_ _ _ _ _ _ _=>rfl,
  f12,zcm.x1 λ_ _ _ _ _ _ _=>rfl,
  f13,zcn.x2 λ_ _ _ _ _ _ _ _=>rfl,
  f14,zco.x3 λ_ _ _ _ _ _ _ _ _=>rfl,
  f15,zcp.x2 λ_ _ _ _ _ _ _ _=>rfl,
  f16,zcq.x1 λ_ _ _ _ _ _ _=>rfl,
  f17,zcr.x2 λ_ _ _ _ _ _ _ _=>rfl,
  f18,zcs.x2 λ_ _ _ _ _ _ _ _=>rfl,
  f19,zct.x2 λ_ _ _ _ _ _ _ _=>rfl,
  f20,zcu.x2 λ_ _ _ _ _ _ _ _=>rfl,
  f21,zcv.x2 λ_ _ _ _ _ _ _ _=>rfl,
  f22,zcw.x2 λ_ _ _ _ _ _ _ _=>rfl,
  f23,zcx.x2 λ_ _ _ _ _ _ _ _=>rfl,
  f24,zcy.x1 λ_ _ _ _ _ _ _=>rfl,
  f25,zcz.x4 λ_ _ _ _ _ _ _ _ _ _=>rfl,
  f26,_,rH zda zdb zdc,(.all (by rintro us h;obtain _|⟨_,_|⟨_,us⟩⟩:=us<;>first|(cases h;done)|rfl)),
  f27,zdd.x2 λ_ _ _ _ _ _ _ _=>rfl,
  f28,zde.x1 λ_ _ _ _ _ _ _=>rfl,
  f29,zdf.x4 λ_ _ _ _ _ _ _ _ _ _=>rfl,
  f30,zdg.x1 λ_ _ _ _ _ _ _=>rfl,
  f31,zdh.x1 λ_ _ _ _ _ _ _=>rfl,
  f32,zdi.x3 λ_ _ _ _ _ _ _ _ _=>rfl,
  f33,zdj.x3 λ_ _ _ _ _ _ _ _ _=>rfl,
  fa,_,rH zdk zdl zdm,(.all (by rintro us h;obtain _|⟨_,_|⟨_,us⟩⟩:=us<;>first|(cases h;done)|rfl)),
  f44,zdn.x1 λ_ _ _ _ _ _ _=>rfl,
  f45,zdo.x1 λ_ _ _ _ _ _ _=>rfl,
  f46,zdp.x4 λ_ _ _ _ _ _ _ _ _ _=>rfl,
  f47,zdq.x2 λ_ _ _ _ _ _ _ _=>rfl,
  f48,zdr.x2 λ_ _ _ _ _ _ _ _=>rfl,
  f49,zds.x3 λ_ _ _ _ _ _ _ _ _=>rfl,
  f50,zdt.x2 λ_ _ _ _ _ _ _ _=>rfl,
  f51,zdu.x3 λ_ _ _ _ _ _ _ _ _=>rfl,
  f52,zdv.x2 λ_ _ _ _ _ _ _ _=>rfl,
  f53,zdw.x2 λ_ _ _ _ _ _ _ _=>rfl,
  f54,zdx.x3 λ_ _ _ _ _ _ _ _ _=>rfl,
  f55,zdy.x1 λ_ _ _ _ _ _ _=>rfl,
  f56,zdz.x1 λ_ _ _ _ _ _ _=>rfl,
  f57,zea.x1 λ_ _ _ _ _ _ _=>rfl,
  f58,zeb.x1 λ_ _ _ _ _ _ _=>rfl,
  f59,zec.x1 λ_ _ _ _ _ _ _=>rfl,
  f60,zed.x1 λ_ _ _ _ _ _ _=>rfl,
  f61,_,rH zee zef zeg,(nQ (ds:=[]) 5 zeh (by rintro us h;obtain _|⟨_,_|⟨_,_|⟨_,_|⟨_,_|⟨_,_|⟨_,us⟩⟩⟩⟩⟩⟩:=us<;>first|(cases h;done)|exact⟨_,rfl,rfl⟩)),
  f62,zei.x2 λ_ _ _ _ _ _ _ _=>rfl,
  f63,zej.x1 λ_ _ _ _ _ _ _=>rfl,
  f64,zek.x6 λ_ _ _ _ _ _ _ _ _ _ _ _=>rfl,
  f65,zel.x2 λ_ _ _ _ _ _ _ _=>rfl,
  f66,zem.x6 λ_ _ _ _ _ _ _ _ _ _ _ _=>rfl,
  f67,zen.x2 λ_ _ _ _ _ _ _ _=>rfl,
  f68,_,rH zeo zep zeq,(nQ (ds:=[]) 7 zer (by rintro us h;obtain _|⟨_,_|⟨_,_|⟨_,_|⟨_,_|⟨_,_|⟨_,_|⟨_,_|⟨_,us⟩⟩⟩⟩⟩⟩⟩⟩:=us<;>first|(cases h;done)|exact⟨_,rfl,rfl⟩)),
  f69,zes.x2 λ_ _ _ _ _ _ _ _=>rfl,
  f70,zet.x6 λ_ _ _ _ _ _ _ _ _ _ _ _=>rfl,
  f71,zeu.x2 λ_ _ _ _ _ _ _ _=>rfl,
  f72,zev.x5 λ_ _ _ _ _ _ _ _ _ _ _=>rfl,
  f73,zew.x2 λ_ _ _ _ _ _ _ _=>rfl,
  f74,_,rH zex zey zez,(nQ (ds:=[]) 6 zfa (by rintro us h;obtain _|⟨_,_|⟨_,_|⟨_,_|⟨_,_|⟨_,_|⟨_,_|⟨_,us⟩⟩⟩⟩⟩⟩⟩:=us<;>first|(cases h;done)|exact⟨_,rfl,rfl⟩)),
  f75,zfb.x1 λ_ _ _ _ _ _ _=>rfl,
  f76,zfc.x1 λ_ _ _ _ _ _ _=>rfl,
  f77,zfd.x2 λ_ _ _ _ _ _ _ _=>rfl,
  f78,zfe.x2 λ_ _ _ _ _ _ _ _=>rfl,
  f79,zff.x2 λ_ _ _ _ _ _ _ _=>rfl,
  f80,zfg.x2 λ_ _ _ _ _ _ _ _=>rfl,
  f81,zfh.x3 λ_ _ _ _ _ _ _ _ _=>rfl,
  f82,zfi.x1 λ_ _ _ _ _ _ _=>rfl,
  W.mg_of X G y0,
  W.mg_of X G y1,
  W.mg_of X G y2,
  W.mg_of X G y3,
  W.mg_of X G y4,
  W.mg_of X G y5,
  W.mg_of X G y6,
  W.mg_of X G y7,
  W.mg_of X G y8,
  W.mg_of X G y9,
  W.mg_of X G y10,
  W.mg_of X G y11,
  W.mg_of X G y12,
  W.mg_of X G y13,
  W.mg_of X G y14,
  W.mg_of X G y15,
  W.mg_of X G y16,
  W.mg_of X G y17,
  W.mg_of X G y18,
  W.mg_of X G y19,
  W.mg_of X G y20,
  W.mg_of X G y21,
  W.mg_of X G y22,
  W.mg_of X G y23,
  W.mg_of X G y24,
  W.mg_of X G y25,
  W.mg_of X G y26,
  W.mg_of X G y27,
  W.mg_of X G y28,
  W.mg_of X G y29,
  W.mg_of X G y30,
  W.mg_of X G y31,
  W.mg_of X G y32,
  W.mg_of X G y33,
  W.mg_of X G y34,
  ⟨[.int 1 zbc],.cons ⟨_,rfl⟩ (.nil),nQ 4 zeh (by rintro us h;obtain _|⟨_,_|⟨_,_|⟨_,_|⟨_,_|⟨_,us⟩⟩⟩⟩⟩:=us<;>first|(cases h;done)|exact⟨_,rfl,rfl⟩)⟩,
  ⟨[.none,.int 1 zbc],.cons rfl (.cons ⟨_,rfl⟩ (.nil)),nQ 3 zeh (by rintro us h;obtain _|⟨_,_|⟨_,_|⟨_,_|⟨_,us⟩⟩⟩⟩:=us<;>first|(cases h;done)|exact⟨_,rfl,rfl⟩)⟩,
  ⟨[.int 0 zbr],.cons ⟨_,rfl⟩ (.nil),nQ 6 zer (by rintro us h;obtain _|⟨_,_|⟨_,_|⟨_,_|⟨_,_|⟨_,_|⟨_,_|⟨_,us⟩⟩⟩⟩⟩⟩⟩:=us<;>first|(cases h;done)|exact⟨_,rfl,rfl⟩)⟩,
  ⟨[.int 0 zcg],.cons ⟨_,rfl⟩ (.nil),nQ 5 zfa (by rintro us h;obtain _|⟨_,_|⟨_,_|⟨_,_|⟨_,_|⟨_,_|⟨_,us⟩⟩⟩⟩⟩⟩:=us<;>first|(cases h;done)|exact⟨_,rfl,rfl⟩)⟩,
  C35,W.mg_of X G y35,
  C36,W.mg_of X G y36,
  C37,W.mg_of X G y37,
  C38,W.mg_of X G y38,
  C39,W.mg_of X G y39,
  C40,W.mg_of X G y40,
  C41,W.mg_of X G y41,
  C42,W.mg_of X G y42,
  C43,W.mg_of X G y43,
  zfj,
  y44,
  y53,
  y54,
  y55,
  y56,
  y57,
  y58,
  y59,
  zfk,
  y45,
  y60,
  y61,
  y62,
  y63,
  y64,
  y65,
  y66,
  y67,
  zfl,
  y46,
  y68,
  y69,
  zfm,
  y47,
  y70,
  y71,
  zfn,
  y48,
  y72,
  y73,
  zfo,
  y49,
  y74,
  y75,
  zfp,
  y50,
  y76,
  y77,
  zfq,
  y51,
  y78,
  y79,
  zfr,
  y52,
  y80,
  y81,
  y82,
  y83,
  y84,
  y85,
  y86,
  y87,
  ⟨zfs,zft,zfu⟩,
  W.mg_none_of X G zfv,
  W.mg_none_of X G zfw,
  W.mg_none_of X G zfx,
  W.mg_none_of X G zfy,
  W.mg_none_of X G zfz,
  W.mg_none_of X G zga,
  W.mg_none_of X G zgb,
  W.mg_none_of X G zgc,
  W.mg_none_of X G zgd,
  W.mg_none_of X G zge,
  W.mg_none_of X G zgf,
  W.mg_none_of X G zgg,
  W.mg_none_of X G zgh,
  ⟨zcl,W.mg_of X G zgi⟩⟩ h1 h2 h3⟩
theorem walk{l:W.OpenLaw}{q:gd}{loose:List Str}{XP:(Str->Option ak)->Heap->Prop}{YP:gx->Heap->Prop}{d d2:DefRec}{K:Params->W.Frag}(hn:l.most=some 63)(hdf:d.params.defaults=[])(hrec:d2∈PyProof.Rows.recsOf q)(hd2:d2.name= "_law_door")(hnt:∀w:gx,W.noTabs (K w.params)=true)
  (hY:∀(w:gx) (h:Heap),YP w h->(K w.params).In h)
  (F:∀(w:gx) (mg:Str->Option ak) (fa:Addr) (h:Heap),(K w.params).In h->h.Ns bf mg->mg d.name=some (.ref fa) →
   ∃(fd:gy) (f2:Addr) (fd2:gy),mg "_law_door" =some (.ref f2)/\(∃oc od osl,(K w.params).lookup f2=some ⟨oc,od,.func fd2,osl⟩)/\(∀(s:ba) (u:ak),BindsTo s fd ⟨[u],[]⟩ [("_law_script",u)])/\∀(zgj:Heap) (cL PL:Addr),fd2.code= .ref cL->W.CodeHd zgj cL PL->zgj.BuiltinsAt mg PL->FnOk l.prog w (K w.params) mg zgj CX0 20 fa fd ["_law_script"] (z8 (K w.params) PL)) :
  W.WalkO q loose XP YP l.row.toRowW d [] (λf vs=>PySem.call f vs) :=
 L2.walk_ofT2 (d2:=d2) (n:=63) (k:=20) (x:= "_law_script") (CX:=λ_=>CX0) (sp:=λw PL=>z8 (K w.params) PL) hn (by decide) hdf ⟨rfl,by decide,by decide⟩ hrec hnt hY (λw mg fa h a b c=>by rw[hd2];exact F w mg fa h a b c) (λ_ _ _ a ns hl hS hP=>⟨a,ns,rfl,hS,hl,hP,λ_=>rfl⟩) λ_ _ _ _ _ z=>z
end Prf
open PySem.W PyProof.Rows
set_option maxRecDepth 100000 in
set_option maxHeartbeats 0 in
theorem PySem.Challenge.cw_firstout_k84_whole_names_and_order_holds : PySem.Challenge.rw_firstout_k84_whole_names_and_order.Holds := by
 refine Hd ?_
 k_fill
 refine Prf.walk (l:=PySem.Challenge.rw_firstout_k84_whole_names_and_order) rfl rfl (ju (p:=λe=>e.name==("_law_door" :Str)) rfl) rfl (λw=>by kernel_rfl) (λw h Y=>W.km_in_of Y) ?F
 case F =>
  intro w mg fa h KX G hmg;refine' Prf.all_mk KX G hmg ?_ ?_ ?_ ?_ ?_ ?_ ?_ ?_ ?_ ?_ ?_ ?_ ?_ ?_ ?_ ?_ ?_ ?_ ?_ ?_ ?_ ?_ ?_ ?_ ?_ ?_ ?_ ?_ ?_ ?_ ?_ ?_ ?_ ?_ ?_ ?_ ?_ ?_ ?_ ?_ ?_ ?_ ?_ ?_ ?_ ?_ ?_ ?_ ?_ ?_ ?_ ?_ ?_ ?_ ?_ ?_ ?_ ?_ ?_ ?_ ?_ ?_ ?_ ?_ ?_ ?_ ?_ ?_ ?_ ?_ ?_ ?_ ?_ ?_ ?_ ?_ ?_ ?_ ?_ ?_ ?_ ?_ ?_ ?_ ?_ ?_ ?_ ?_ ?_ ?_ ?_ ?_ ?_ ?_ ?_ ?_ ?_ ?_ ?_ ?_ ?_ ?_ ?_ ?_ ?_ ?_ ?_ ?_ ?_ ?_ ?_ ?_ ?_ ?_ ?_ ?_ ?_ ?_ ?_ ?_ ?_ ?_ ?_ ?_ ?_ ?_ ?_ ?_ ?_ ?_ ?_ ?_ ?_ ?_ ?_ ?_ ?_ ?_ ?_ ?_ ?_ ?_ ?_ ?_ ?_ ?_ ?_ ?_ ?_ ?_ ?_ ?_ ?_ ?_ ?_ ?_ ?_ ?_ ?_ ?_ ?_ ?_ ?_ ?_ ?_ ?_ ?_ ?_ ?_ ?_ ?_ ?_ ?_ ?_ ?_ ?_ ?_ ?_ ?_ ?_ ?_ ?_ ?_ ?_ ?_ ?_ ?_ ?_ ?_ ?_ ?_ ?_ ?_ ?_ ?_ ?_ ?_ ?_ ?_ ?_ ?_
  any_goals first|k_is|(apply L2.FnL.mk<;>k_is)|exact L2.FnL.mk (by k_is) (by k_is) (by k_is)|(apply L2.Meth.mk<;>k_is)|(apply L2.Mk.mk<;>k_is)|(refine' Prf.DCls.mk (L2.ICls.mk (L2.Cls.mk ?_ ?_ ?_ ?_) ?_ ?_ ?_ ?_) ?_<;>first|k_is|kernel_rfl)|fail
