import PyProof.Rows.All
import Wide.All
import OpenK.AllK
import Wide.FinOn
import Lean
import PyProof.EqAt
import PyProof.EqKinds
import PyProof.TupleCall
import KE.KSortTup
import PyProof.Rows.DictUnroll
import PyProof.DictItems
import KE.LcSums
import PyProof.IsiH_list
import KE.KDictOf
import PyProof.DictWalks
import PyProof.ListRange
import PyProof.EnumStmt
import PyProof.EnumMake
import KE.KDictSum
import PyProof.StrOps2
import PySem.Challenge.RW_firstout_k82_whole_more_never_hurts
open List renaming mem_cons_of_mem->ab,length_map->af,mem_map->ag,length_append->ak,getElem?_eq_getElem->ao,map_append->aq,mem_cons->aw,getElem?_eq_some_iff->ax,map_cons->ay,length_cons->az,mem_of_getElem?->ba,mem_append_right->be,mem_append->bf,getD_eq_getElem?_getD->bj,size_toArray->bp,mem_singleton->bq,getElem?_map->bu,filter_cons_of_neg->ck,sum_cons->cm,nodup_cons->cn,take_length->cp,filter_cons_of_pos->cq,mem_filter->cu,append_assoc->cw,append_nil->df,length_take->dh,map_map->du,filter_append->dy,mem_append_left->dz,length_range->el,lookup_cons->et,length_filter_le->fb,range->fc,getElem?_append_right->fg,getElem?_append_left->fq,mem_cons_self->fu,not_mem_nil->fz,mem_iff_getElem?->gi,nodup_append->gk,mem_range->gm,sum_append->gr,map_congr_left->gy,cons_append->ig,pairwise_map->iq,lookup->iy,take_append_of_le_length->ja,take_append_drop->jj,all_eq_true->jt,take_of_length_le->jz,filter_eq_nil_iff->kf,length_set->kh,find?_cons->kj,any_cons->kq,length->lh,all_cons->ma,range_succ->mj,length_nil->ml,getElem?_drop->mr,range_succ_eq_map->ng,nodup_nil->nh,take_succ->nj,length_replicate->nv,Nodup->oq,nodup_range->ot,getElem?_set_ne->ph,of_mem_zip->qe,filterMap_cons->qj,replicate->rk,drop_eq_getElem_cons->sd,mem_of_find?_eq_some->se,foldl_append->tm,getElem?_replicate->ui,getElem_mem->uq,getElem?_set_self->ux,getElem?_eq_none->vk,getElem?_modify->wa,mem_iff_getElem->wc,getElem_of_mem->wq,map_take->wt
open PySem renaming wpAny_bind->ae,Value->ah,wpAny_pure->av,Shared->bb,mainGlobals->bh,Paired->bo,wpAny->bz,model->cg,starEach->dg,Program->fh,bootBuiltins->fj,wpAny_mono->fm,wpAny_holding->gb,World->gh,wpAny_newObj_type->gj,compareOp->gu,FuncData->gv,mem_of_lookup->gx,sysModules->ib,wpAny_call_entry->ij,wpAny_truthy_bool->ip,wpAny_typeNameOfWhole_itemiter->ix,wpAny_typeNameOfWhole_keyiter->iz,assignEach->jb,wpAny_Call_Name_kw->jg,wpAny_fieldsOf->ji,backTo->jk,rawInt->jl,wpAny_typeNameOf_itemiter->jm,wpAny_passesOwn->jn,wpAny_dictEntries->jo,attributeBase->jq,wpAny_typeNameOf_keyiter->jr,wpAny_callSpecial?_slot->ju,wpAny_isInstance->jv,Around->jy,tupleKind_room_in1->ka,wpAny_isOneOf_itemiter->kb,wpAny_setField_rec->ke,binaryOp->kg,wpAny_dictEpoch->km,wpAny_pyIter_list->ky,firstArgMember->lj,codeAny->lu,DictEntry->lz,IsItemIter->mq,sliceBounds->mw,wpAny_Call_method0_late->mx,keywordEach->my,NameKind->mz,wpAny_notOrdered_dict->nz,wpAny_isOneOf_keyiter->oe,builtinLookup_eq_fast->og,wpAny_execs_cons->oh,pyNext->oj,behindInMarks->ow,unsetMember->pq,wpAny_execs_nil->qa,wpAny_AugAssign_SubscriptAny->qb,letOwnedTupleGo->qc,Scope->qi,evalArgs_none->ql,wpAny_typeOf->qm,getMethod->qu,cellsFrom->qx,Arguments->qy,cLine->rg,wpAny_newFunctionEnv_cells->rl,typeLookup->rm,foldedSetIterable->sg,Builtin->sy,wpAny_pyIter_slot->tj,wpAny_standAt->tp,wpAny_comprehension_free->tu,wpAny_attempt->tz,plainId_quiet->uc,tupleKind->uh,backToKw->uj,builtinsNs->uw,assign->uy,codeAny_mono->uz,wpAny_specialOf->vf,typeLookup_type->vg,wpAny_ite_split->vh,wpAny_updateSeq->vi,subscripted->vt,wpAny_setField->vw,wpAny_throw->vx,wpAny_field->vz,standAt->wg,swapsWith->wj,getItem->wk,callerA->wm,valueAt->wo,Within->xc
open PySem.Heap renaming get?_push_of_some->aj,lt_size->bc,get?_push_size->bg,get?_update_other->gc,SameBut->ik,get?_update_self->iu,ExtBut->su,size_push->vp
open Nat renaming le_refl->au,lt_of_lt_of_le->bt,ne_of_lt->cf,le_trans->ee,lt_irrefl->eg,zero_le->fk,not_lt_zero->ko,mul_le_mul->ll,le_of_lt->ls,lt_succ_self->lx,min_eq_right->ou,add_mul->pz,strongRecOn->qg,min_eq_left->qh,add_zero->qq,lt_or_eq_of_le->rq,le_succ->si,lt_succ_of_lt->sk,zero_add->ve,mul_le_mul_right->we,ne_of_gt->xf,le_of_eq->xg,lt_trans->xj,sub_self->xl
open Bool renaming false_ne_true->bw,false_eq_true->fw,and_eq_true->ie,eq_iff_iff->mi,false_and->vn
open PySem.Paired renaming length->bx
open Option renaming map_eq_some_iff->cj,map_some->qf,isSome_map->sv,isSome_iff_exists->tq,getD_some->uk
open PySem.PassesOwn renaming never->cx
open PySem.Value renaming ref->cy,none->ft,int->lq,type->mn,str->qt,bool->qz,float->xm
open PySem.F renaming plainAttrs_list->da,slot_list_append->dj,type_list_append->dm,slot_dict_get->ny,slot_list_extend->uf,type_list_extend->ug,args_dict_get_3->um,entry_dict_get->vb
open Option.some renaming inj->dq
open Int renaming toNat_natCast->dw,le_refl->fe,zero_add->gd,emod_nonneg->gp,add_zero->ia,emod_lt_of_pos->jh,fdiv_eq_ediv_of_nonneg->lg
open Ne renaming symm->eh
open PySem.Builtin renaming bitNot->gf,bitXor->vo,bitAnd->wb
open PySem.NameKind renaming free->gg,cell->oy
open False renaming elim->gw
open PySem.Builtin.Dict_items renaming ownsTuple->gz,ownedTupleIsFree->me,ownedTupleFields->mf,pairFromOwner->ni
open Array renaming length_toList->ir,mem_toList_iff->pj,getElem?_eq_none->vc,empty_append->wy,append_empty->wz
open PySem.Obj renaming mapSeq->iw,data_mapFields->rp,isFreed_of_fields->vj
open PySem.Builtin.Int renaming intBits->jc
open PySem.Calls renaming callWith_builtin->jd,Name_function_global->rf,spliced_cons->rh,evalArgs_plain->vv
open PySem.Builtin.List renaming listExtendWith->je,listTooLong->md,listLengthHint->qo,listSameRef->ud,listUpdate->uo,listItems->vd
open True renaming intro->jf
open PySem.Heap.SameBut renaming update->js
open Sum.inr renaming inj->jw
open Sum renaming inr->jx,inl->mh
open ForInStep renaming yield->ki
open PyProof.Rows renaming seqObj->ku,callWith_type1->kz,AllBare->sf,envOfC->va
open PySem.Builtin.Dict renaming showsAll->kx,updateFrom->ur
open PySem.Str renaming ofString->ly
open Sum.inl renaming inj->oz
open List.cons renaming inj->tw
open List.Pairwise renaming imp_of_mem->ue,imp->xk
open Or renaming inr->uu,inl->vm
open PySem.Around renaming frames_deeper->vq,under_plainId->vy,under->xh
open PySem.SeqAt.EqAt renaming int_str->wu,str_int->wx
open PySem.Code renaming isFrame->xi
open PySem.Heap.DictOf renaming new->xo
namespace PySem.W.Fast
def tw10695127950601626368:=()
def tw6437691676825114914:=()
def tw9684229200445578852:=()
def tw5237330593340931716:=()
def tw5716436272824618341:=()
def tw10584732609454844198:=()
def tw15087664604967924166:=()
def tw369615588016229062:=()
def tw16023981816407033543:=()
def tw9577221689991544876:=()
def tw9730923131409196812:=()
def tw12419678999571464140:=()
def tw16316683100144136493:=()
def tw15846370928972142674:=()
def tw13269196376279044690:=()
def tw10656244751535497972:=()
def tw17372915627576573109:=()
def tw8987594881667113206:=()
def tw11520910281838518646:=()
def tw15616714722162860534:=()
def tw16462722387233099832:=()
def tw1543650179763487480:=()
def tw17691496436422776217:=()
def tw17860160762934296954:=()
def tw17498763954022839996:=()
def tw18230131248384265116:=()
def tw1815689385324497223:=()
def tw7585926547777564139:=()
def tw6884838597283775839:=()
def tw8970398779018627635:=()
def tw10823544553856487857:=()
def tw9060469448897883859:=()
def tw598661973551443485:=()
def tw7045546902636889938:=()
def tw2389249197683966600:=()
def tw15403833352618156845:=()
def tw2408218000694263649:=()
def tw9410660153478916591:=()
def tw15207972003649497583:=()
def tw5053257444733535496:=()
def tw9140985235889873483:=()
def tw15358829067467656970:=()
def tw7910817411635712373:=()
def tw8444490570383370945:=()
def tw12755355310959645596:=()
def tw18117273650384932763:=()
def tw9303425213630375671:=()
def tw932839701382126404:=()
def tw13204502685143906251:=()
def tw14821598298454304875:=()
def tw13753573752491760855:=()
def tw12237165301827050023:=()
def tw9316509731000240621:=()
def tw6117092108582614317:=()
def tw5552146100710929737:=()
def tw9905467191254301608:=()
def tw18414048522324812586:=()
def tw6716827059380134239:=()
def tw15657173843962752352:=()
def tw15146090830453311553:=()
def tw9846734049877027368:=()
def tw16134231026191644769:=()
def tw4328604284000811915:=()
def tw10728401808887245761:=()
def tw6558051738620214026:=()
def tw3217085164784795209:=()
def tw12755269033228781528:=()
def tw7050491941707330707:=()
def tw15539099915316522146:=()
def tw5289957669054539693:=()
def tw2666536584640529693:=()
def tw4516895220635394197:=()
def tw6933144110660749622:=()
def tw16862254861477619431:=()
def tw12393642965991253485:=()
def tw13585280389756002151:=()
def tw11264855024838167151:=()
def tw14350380886560843096:=()
def tw11592443234617683067:=()
def tw16190052199096179734:=()
def tw2757926471388395657:=()
def tw12531326997232260501:=()
def tw12633471412635356182:=()
def tw6921728472837385862:=()
def tw17244562069666033548:=()
def tw8157588042613284802:=()
def tw7896209779356437410:=()
def tw9734811559919569190:=()
def tw9947901338402844434:=()
def tw9767042296483896485:=()
def tw17438898341694343243:=()
def tw1582835368904187997:=()
def tw7362425208916961624:=()
def tw10743125988654314363:=()
def tw1201430047610551906:=()
def tw1894528058471957576:=()
def tw2401553014128245674:=()
def tw10398100380535675962:=()
def tw4024043872289381092:=()
def tw12411673673404620368:=()
def tw6597287137698805439:=()
def tw17133608913367462611:=()
def tw16962739889057916402:=()
def tw12074782096863972505:=()
def tw16549124193259852402:=()
def tw3488608651205013979:=()
def tw13483597036242069648:=()
def tw9891206192917179352:=()
def tw8662492762478255639:=()
def tw14264480405793837941:=()
def tw6939442713815153382:=()
def tw10850829741554343184:=()
def tw12731962622191309719:=()
def tw2596850037033944101:=()
def tw15235655123969866874:=()
def tw12602169454555143105:=()
def tw14167882572857403061:=()
def tw13819374817730862785:=()
def tw5115847678937250926:=()
def tw13741132782280658785:=()
def tw2534248383107648255:=()
def tw10522195122677914828:=()
def tw16189010006891003263:=()
def tw5479290112047985776:=()
def tw11266247336314728139:=()
def tw13746568292052755740:=()
def tw7299675752289941820:=()
def tw10657829419773630248:=()
def tw6820601719976514796:=()
def tw8431078314488616540:=()
def tw17145433238507112789:=()
def tw17601838486531137468:=()
def tw8208533629273963090:=()
def tw9416957380503421603:=()
def tw16982236198045723295:=()
def tw2798535705490237597:=()
def tw11440906876440260394:=()
def tw752309493573505999:=()
def tw14081025824743294989:=()
def tw7819538736054978252:=()
def tw13481354607445603633:=()
def tw3974595047480211390:=()
def tw12041747878809886891:=()
def tw17698873334845665219:=()
def tw4615753865455560553:=()
def tw8289436342779204946:=()
def tw16787840100696843357:=()
def tw436176747147074496:=()
def tw16484993374210014619:=()
def tw1418681536455208558:=()
def tw16394066235193972287:=()
def tw387439790479957101:=()
def tw13419441094197480568:=()
def tw12452475169183555992:=()
def tw14922882792299429112:=()
def tw3025924177216630634:=()
def tw9996752279911235038:=()
def tw2116002689477479486:=()
def tw5242141373946115960:=()
def tw11145126312707671238:=()
def tw3116936312027708160:=()
def tw14943894555023276035:=()
def tw633429788054339590:=()
def tw8363103941168633889:=()
def tw12560576568223723876:=()
def tw2827280203015393591:=()
def tw4680309345016626486:=()
def tw14025773146718535969:=()
def tw1717779917079929942:=()
def tw413203333782021484:=()
def tw6934383589323676923:=()
def tw8847936176840503950:=()
def tw4276042797286649023:=()
def tw16966334789537043336:=()
def tw17496880589675500598:=()
def tw9579137180748737768:=()
def tw18409915274878720077:=()
def tw5897891582020807401:=()
def tw8488148530782752315:=()
def tw14500407802481584704:=()
def tw18129893695998557817:=()
def tw2299301318049454381:=()
def tw17616915975482423178:=()
def tw6481436816878484961:=()
def tw14269847300175007183:=()
def tw7926372637969574213:=()
def tw13447600216285546616:=()
def tw14412372014505850440:=()
def tw11178815834820077671:=()
def tw174895468759145135:=()
def tw12361212498645193051:=()
def tw10602247990006231027:=()
def tw4301039691594357847:=()
def tw4260195127326698062:=()
def tw3400380410820284079:=()
def tw4338364056520345201:=()
def tw10843411590185753596:=()
def tw962717552067784302:=()
def tw11076378079541744240:=()
def tw8822569870374370628:=()
def tw9732396351374196405:=()
def tw4608994015003698838:=()
def tw4480567476229075767:=()
def tw53823427883231860:=()
def tw17030420487834012178:=()
def tw1827874412402892913:=()
def tw16996851390377713645:=()
def tw13656043819184500746:=()
def tw10483840861423138476:=()
def tw7662048354138755969:=()
def tw5035899835224408958:=()
def tw2813507996445089836:=()
def tw11305703666621393968:=()
def tw12570237992138145054:=()
def tw11894211215547005320:=()
def tw14856743732311362393:=()
def tw12597764625083080330:=()
def tw16263224433632188499:=()
def tw179404740847820643:=()
def tw16154702721688449646:=()
def tw16467823371472868662:=()
def tw14027222096437546460:=()
def tw14134830969710889782:=()
def tw14994006178905365161:=()
def tw10469879719237114114:=()
def tw9573328766986146455:=()
def tw11418061333565009302:=()
def tw2394800884946272557:=()
def tw8735758432567830548:=()
def tw10372511404951826049:=()
def tw10976602773075292189:=()
def tw1921180039826580147:=()
def tw4185759437262646694:=()
def tw12258470586837883403:=()
def tw12697758696560842367:=()
def tw16222329480378171736:=()
def tw12845764376067009816:=()
def tw2564521389371575686:=()
def tw16861111019670244083:=()
def tw5849609134416156695:=()
def tw11502241478075677930:=()
def tw18304769826906812260:=()
def tw6798498000300797170:=()
def tw4483577720650464813:=()
def tw2972002477450386755:=()
def tw9011467391326826158:=()
def tw16674246683459375559:=()
def tw3090363404294228027:=()
def tw4499022334669169164:=()
def tw11933063714283801468:=()
def tw14380137693309614991:=()
def tw10050008047732148457:=()
def tw12159527277905154181:=()
def tw7548487873600486090:=()
def tw17271021401627083086:=()
def tw2618059702453038435:=()
def tw18196032833863160249:=()
def tw17117589501742870588:=()
def tw16536017045538591096:=()
def tw1506663611300258975:=()
def tw3101032518931716791:=()
def tw13238481782982842285:=()
def tw6281153458629126766:=()
def tw822938527831982799:=()
def tw8517970326289272403:=()
def tw161285257070770827:=()
def tw16427389157946516622:=()
def tw4988212250003943572:=()
def tw8007861524918308788:=()
def tw7774462224071278778:=()
def tw2536315187666357657:=()
def tw1660815840564049178:=()
def tw17444369763018492121:=()
def tw8144204651780425232:=()
def tw11692649008490373595:=()
def tw10253282081875693468:=()
def tw5798787248602388757:=()
def tw11830081932497243833:=()
def tw3661490512906069077:=()
def tw44567407439670047:=()
def tw11409441635852293465:=()
def tw4853467393153327163:=()
def tw9035399963758710295:=()
def tw9088802332512995922:=()
def tw14303847283885934698:=()
def tw13550545202544898753:=()
def tw9991992866258336747:=()
def tw8650764374466739366:=()
def tw2256668944193205198:=()
def tw2288885268674156425:=()
def tw5091702855330853889:=()
def tw15927323956809449473:=()
def tw18436537713278896727:=()
def tw3636036462712873249:=()
def tw242736342980121601:=()
def tw10020786513543227715:=()
def tw8115346194408436741:=()
def tw13089500736524491784:=()
def tw13163468990317058519:=()
def tw15922975489311874535:=()
def tw14404628179803075899:=()
def tw16607937313447559981:=()
def tw2417617836042304465:=()
def tw3819307514419629126:=()
def tw7320064062248316121:=()
def tw17366081572034362014:=()
def tw17891381051841512927:=()
def tw7949401025140812638:=()
def tw14602528877414782322:=()
def tw1686794462927878195:=()
def tw14927506641377356734:=()
def tw12820741816688725726:=()
def tw14743115667731089466:=()
def tw7302058939289180959:=()
def tw1218708482056955425:=()
def tw18283231390084992770:=()
def tw10584315027700573367:=()
def tw4035619461985715772:=()
def tw2691606573646822184:=()
def tw2316407685331305324:=()
def tw3541561934532063126:=()
def tw10421853276714153646:=()
def tw17181798777585861775:=()
def tw15066510578105179651:=()
def tw8274568172465114700:=()
def tw11867988977725472116:=()
def tw10219209696623726113:=()
def tw12791588267028220501:=()
def tw13148154343287371966:=()
def tw7074946990432606378:=()
def tw13736572735992011083:=()
def tw11783750626622958540:=()
def tw4592665034013366733:=()
def tw2956069916294620094:=()
def tw13943572682135299791:=()
def tw6439609989242942510:=()
def tw7164306888096571825:=()
def tw14126971762588083040:=()
def tw1302449797485494369:=()
def tw9769961897887550150:=()
def tw3781971765165401199:=()
def tw5682751217758179932:=()
def tw17364456046994762420:=()
def tw16728060912264887519:=()
def tw11017241818284387558:=()
def tw12142309692379209883:=()
def tw10386372580961398103:=()
def tw7491619120407481297:=()
def tw16302203261253659545:=()
def tw5476992756312607017:=()
def tw12096985291327604412:=()
def tw8856760702553292006:=()
def tw1446538950286119303:=()
def tw17938600627143783711:=()
def tw5368601222343222831:=()
def tw4318674777713123378:=()
def tw2407804650245558537:=()
def tw18426437451390927768:=()
def tw18125701200684808362:=()
def tw11382554707268970497:=()
def tw11655767496102649406:=()
def tw9508359074205828454:=()
def tw1289520783276581484:=()
def tw2803616208054376919:=()
def tw11072708920351736181:=()
def tw1370626132557121772:=()
def tw10680609313142807183:=()
def tw11048884603877451276:=()
def tw14222734339553258880:=()
def tw659448587806890800:=()
def tw3020261612358082797:=()
def tw17481429144433516654:=()
def tw4628725971898943230:=()
def tw12534137795752356689:=()
def tw17777724605904197531:=()
def tw13088388763394543810:=()
def tw7225284870949117894:=()
def tw10225033076191750725:=()
def tw4659377097700059490:=()
def tw18351925355446072004:=()
def tw11595938716627236421:=()
def tw9179429284236123705:=()
def tw3456693538970727508:=()
def tw8784884788544486365:=()
def tw8416311520165953153:=()
def tw8443185131039811177:=()
def tw9211985756885452798:=()
def tw4721872887636232422:=()
def tw9587907173871592588:=()
def tw15191905895295539682:=()
def tw2245957560843894860:=()
def tw269076661083138488:=()
def tw11429058838594792183:=()
def tw14274139137338781680:=()
def tw14463454803420552819:=()
def tw4805216264957107074:=()
def tw16503557387967140698:=()
def tw2656946763309378385:=()
def tw13253406620447108243:=()
def tw11568174807163450825:=()
def tw1051634970609131634:=()
def tw433449533723322577:=()
def tw11960404429413110732:=()
def tw12728889815390252998:=()
def tw6670494376639640517:=()
def tw17790771188282726281:=()
def tw6772775837302815043:=()
def tw10960071324468994664:=()
def tw13823123396154914327:=()
def tw10897325222458863785:=()
def tw16550108034561887441:=()
def tw276236428408223388:=()
def tw12354876776164004547:=()
def tw16576634211995721269:=()
def tw12245547521023358913:=()
def tw3203472241161590158:=()
def tw9471884775123117156:=()
def tw5407061566399082698:=()
end PySem.W.Fast
set_option compiler.extract_closed false
local macro_rules| `(tactic| tm_at"b")=> `(tactic| first|exact vm rfl|exact uu rfl)
set_option Elab.async false
set_option maxRecDepth 100000 in
set_option maxHeartbeats 0 in
open PySem PySem.W PyProof.Rows in
open_top Hd for PySem.Challenge.rw_firstout_k82_whole_more_never_hurts
set_option linter.all false
set_option maxRecDepth 100000
namespace L2
open PySem PySem.Spec PyProof.Rows
abbrev Key:=Sum Int Str
def BX:Key->ah->Bool
 | .inl k,v=>ah.isInt k v
 | .inr x,v=>ah.isStrOf x v
def aGy(w:gh):Key->Int
 | .inl k=>hashInt k
 | .inr x=>hashStr w x
theorem dC:∀{k:Key}{v:ah},BX k v=true->(∃i t,k=mh i/\v=lq i t)∨(∃x t,k=jx x/\v=qt x t)
 | .inl i,v,h=>by
  obtain⟨t,e⟩:=ah.isInt_shape (k:=i) (v:=v) h;exact .inl ⟨i,t,rfl,e⟩
 | .inr x,v,h=>by
  obtain⟨t,e⟩:=ah.isStrOf_shape (x:=x) (v:=v) h;exact .inr ⟨x,t,rfl,e⟩
theorem V4(i:Int)(t:Tok):BX (.inl i) (.int i t)=true:=by simp[BX,ah.isInt]
theorem XF(x:Str)(t:Tok):BX (.inr x) (.str x t)=true:=by simp[BX,ah.isStrOf]
theorem aEh(a b:Int):decide ((mh a:Key)=mh b)=(a==b):=by
 by_cases e:a=b
 .subst e;simp
 .have h:¬(mh a:Key)=mh b:=λq=>e (oz q);rw[decide_eq_false h];exact(beq_eq_false_iff_ne.mpr e).symm
theorem aEa(a b:Str):decide ((jx a:Key)=jx b)=decide (a=b):=by
 by_cases e:a=b
 .subst e;simp
 .have h:¬(jx a:Key)=jx b:=λq=>e (jw q);rw[decide_eq_false h,decide_eq_false e]
theorem aEB(a:Int)(b:Str):decide ((mh a:Key)=jx b)=false:=decide_eq_false (λq=>nomatch q)
theorem aEI(a:Str)(b:Int):decide ((jx a:Key)=mh b)=false:=decide_eq_false (λq=>nomatch q)
def bZ(prog:fh)(w:gh):PySem.KeyKind prog w Key where
 is:=BX
 hash:=aGy w
 inj:=λv a b ha hb=>by
  rcases dC ha with⟨i,t,rfl,rfl⟩|⟨x,t,rfl,rfl⟩
  .rcases dC hb with⟨j,u,rfl,e⟩|⟨y,u,rfl,e⟩
   .injection e with e1 _;rw[e1]
   .exact nomatch e
  .rcases dC hb with⟨j,u,rfl,e⟩|⟨y,u,rfl,e⟩
   .exact nomatch e
   .injection e with e1 _;rw[e1]
 byValue:=λk v h=>by
  rcases dC h with⟨i,t,rfl,rfl⟩|⟨x,t,rfl,rfl⟩<;>rfl
 pyHash:=λhv h=>by
  rcases dC hv with⟨i,t,rfl,rfl⟩|⟨x,t,rfl,rfl⟩
  .exact wpAny_pyHash_int h
  .exact wpAny_pyHash_str h
 eqBool:=λhu hv h=>by
  rcases dC hu with⟨i,t,rfl,rfl⟩|⟨x,t,rfl,rfl⟩
  .rcases dC hv with⟨j,u,rfl,rfl⟩|⟨y,u,rfl,rfl⟩
   .rw[aEh]at h;exact wpAny_eqBool_int h
   .rw[aEB]at h;exact wu i t y u _ _ _ _ h
  .rcases dC hv with⟨j,u,rfl,rfl⟩|⟨y,u,rfl,rfl⟩
   .rw[aEI]at h;exact wx x t j u _ _ _ _ h
   .rw[aEa]at h;exact wpAny_eqBool_str h
 «strs»:=λk x t v h=>by
  rcases dC h with⟨i,u,rfl,e⟩|⟨y,u,rfl,e⟩
  .exact nomatch e
  .injection e with e1 _;subst e1;cases v<;>rfl
theorem PQ(prog:fh)(w:gh)(i:Int)(t:Tok):(bZ prog w).is (.inl i) (.int i t)=true:=V4 i t
theorem PM(prog:fh)(w:gh)(x:Str)(t:Tok):(bZ prog w).is (.inr x) (.str x t)=true:=XF x t
inductive V where
 | non|bl (b:Bool)|int (i:Int)|str (x:Str)|byt (b:Array UInt8)|flt (b:UInt64)|ref (a:Addr)|ty (n:String)
 deriving DecidableEq
def RelV:V->ah->Prop
 | .non,u=>u=ft
 | .bl b,u=>u=qz b
 | .int i,u=>∃t,u=lq i t
 | .str x,u=>∃t,u=qt x t
 | .byt b,u=>∃t,u=ah.bytes b t
 | .flt b,u=>∃t,u=xm b t
 | .ref a,u=>u=cy a
 | .ty n,u=>u=mn n
abbrev Vals:List V->List ah->Prop:=bo RelV
variable {vs xs:List V}
theorem Vals.length{us:List ah}(r:Vals xs us):xs.length=us.length:=bx r
theorem Vals.get:∀{xs:List V}{us:List ah}{i:Nat}{x:V},Vals xs us->xs[i]? =some x->∃u,us[i]? =some u/\RelV x u
 | _,_,_,_,.nil,e=>by simp at e
 | _,_,0,_,.cons r _,e=>by simp at e;subst e;exact⟨_,rfl,r⟩
 | _,_,i+1,x,.cons _ t,e=>by
  obtain⟨u,h1,h2⟩:=Vals.get (i:=i) (x:=x) t (by simpa using e);exact⟨u,by simpa using h1,h2⟩
variable {u:ah}{v y:V}
theorem Vals.set{x:V}(r:RelV x u):∀{xs:List V}{us:List ah} (i:Nat),Vals xs us->Vals (xs.set i x) (us.set i u)
 | _,_,_,.nil=> .nil
 | _,_,0,.cons _ t=> .cons r t
 | _,_,i+1,.cons q t=> .cons q (Vals.set r i t)
theorem Vals.append:∀{xs ys:List V}{us ws:List ah},Vals xs us->Vals ys ws->Vals (xs++ys) (us++ws)
 | _,_,_,_,.nil,s=>s
 | _,_,_,_,.cons r t,s=> .cons r (Vals.append t s)
theorem Vals.take:∀{xs:List V}{us:List ah} (n:Nat),Vals xs us->Vals (xs.take n) (us.take n)
 | _,_,0,_=> .nil
 | _,_,_+1,.nil=> .nil
 | _,_,n+1,.cons r t=> .cons r (Vals.take n t)
theorem Vals.drop:∀{xs:List V}{us:List ah} (n:Nat),Vals xs us->Vals (xs.drop n) (us.drop n)
 | _,_,0,r=>r
 | _,_,_+1,.nil=> .nil
 | _,_,n+1,.cons _ t=>Vals.drop n t
def RelO:Option V->Option ah->Prop
 | some v,some u=>RelV v u
 | none,none=>True
 | _,_=>False
variable {α β:Type}
def KV{κ:Type}:List (κ×V)->List (κ×ah)->Prop:=bo λ(p:κ×V) (q:κ×ah)=>p.1=q.1/\RelV p.2 q.2
def kV:Key->V
 | .inl i=> .int i
 | .inr x=> .str x
inductive HO where
  | lst (xs:List V)
  | tup (xs:List V)
  | dK (kvs:List (Key×V))|dT (kvs:List (List Key×V))
  | set (S:Int->Bool) (n:Nat)
  | ins (C dx:Addr) (fs:List (Str×V))
  | own (x:Addr)
  | xd (fs:List (Str×V))
  | met (f x:Addr)
  | rng (lo hi:Int)
  | frz (o:Obj) (u:HO)
  | tbl (ps:Array ah)
  | ext (φ:Heap->Prop)
abbrev Hp:=Addr->Option HO
def upd(H:Hp)(a:Addr)(o:HO):Hp:=λb=>if b=a then some o else H b
variable {H H':Hp}{C a b dx it:Addr}
theorem aR{o:HO}:upd H a o a=some o:=by unfold upd;rw[if_pos rfl]
theorem aK{o:HO}(h:b≠a):upd H a o b=H b:=by unfold upd;rw[if_neg h]
theorem aBP{o u:HO}:upd (upd H a o) a u=upd H a u:=by
 funext b;unfold upd;split<;>rfl
theorem aF1{o u:HO}(h:H a=some o)(h':H b=some u)(d:o≠u):a≠b:=by
 intro e;subst e;rw[h]at h';exact d (dq h')
theorem bB{o:HO}(h:H a=some o)(h':H b=none):a≠b:=by
 intro e;subst e;rw[h]at h';cases h'
section
variable (P:fh)(w:gh)
def ObjOk(H:Hp)(h:Heap)(a:Addr):HO->Prop
 | .lst xs=>xs.length<=sizeLine/\∃(its:List ah) (n:Nat),Vals xs its/\h.get? a=some { cls:= .type "list",data:= .seq its.toArray n }
 | .tup xs=>xs.length<=sizeLine/\∃its:List ah,Vals xs its/\IsTup h a its.toArray
 | .dK kvs=>kvs.length<=sizeLine/\(a==ib)=false/\∃vs,KV kvs vs/\h.DictOf (bZ P w) a vs
 | .dT kvs=>kvs.length<=sizeLine/\(a==ib)=false/\∃xs:List (List Key×Addr×ah),
   bo (λ(p:List Key×V) (q:List Key×Addr×ah)=>p.1=q.1/\H q.2.1=some (.tup (p.1.map kV))/\RelV p.2 q.2.2) kvs xs ∧
   ∃o es ep,h.get? a=some o/\o.ExactDict/\o.data= .dict es ep/\es.toList=xs.map (entryOfKey (uh (bZ P w)))/\(xs.map (·.1)).Nodup
 | .set S n=>h.SetOf (intKind P w) a S n
 | .ins C dx fs=>H dx=some (.own a)/\fs.length<=1000/\dx≠a/\h.get? a=some (W.instObj C dx) ∧
   ∃mA,h.Ns1 dx mA/\(∀f,RelO (fs.lookup f) (mA f))/\xc mA (fs.map (·.1))
 | .own _=>∃o,h.get? a=some o
 | .xd fs=>∃mA,h.Ns1 a mA/\∀f,RelO (fs.lookup f) (mA f)
 | .rng lo hi=>∃t u v,h.get? a=some { cls:= .type "range",data:= .fields #[.int lo t,.int hi u,.int 1 v] }
 | .frz o u=>h.get? a=some o/\ObjOk H h a u
 | .tbl ps=>h.get? a=some { cls:= .none,data:= .fields ps }
 | .met f x=>h.get? a=some (W.methodObj (.ref f) (.ref x))
 | .ext φ=>φ h/\(∃o,h.get? a=some o)/\∀h1 h2:Heap,φ h1->(∀o,h1.get? a=some o->h2.get? a=some o)->φ h2
def HOk(H:Hp)(h:Heap):Prop:=∀a o,H a=some o->ObjOk P w H h a o
end
variable {P prog:fh}{w:gh}{base h h':Heap}
section
variable {o:HO}
theorem ObjOk.lt(x:ObjOk P w H h a o):a<h.objs.size:=by
 cases o with
 | lst xs=>obtain⟨_,_,_,_,e⟩:=x;exact bc e
 | tup xs=>obtain⟨_,_,_,p⟩:=x;exact p.lt
 | dK kvs=>obtain⟨_,_,_,_,o,_,_,e,_⟩:=x;exact bc e
 | dT kvs=>obtain⟨_,_,_,_,o,_,_,e,_⟩:=x;exact bc e
 | set S n=>obtain⟨o,_,_,_,e,_⟩:=x;exact bc e
 | ins C dx fs=>obtain⟨_,_,_,e,_⟩:=x;exact bc e
 | own y=>obtain⟨_,e⟩:=x;exact bc e
 | xd fs=>obtain⟨_,⟨_,_,_,e,_⟩,_⟩:=x;exact bc e
 | rng lo hi=>obtain⟨_,_,_,e⟩:=x;exact bc e
 | frz ob u=>obtain⟨e,_⟩:=x;exact bc e
 | tbl ps=>exact bc (show h.get? a=some _ from x)
 | met f y=>exact bc (show h.get? a=some _ from x)
 | ext φ=>obtain⟨_,⟨_,e⟩,_⟩:=x;exact bc e
theorem Paired.mapP{F G:α->β->Prop}:∀{l₁:List α}{l₂:List β},bo F l₁ l₂->(∀a b,F a b->G a b)->bo G l₁ l₂
 | _,_,.nil,_=> .nil
 | _,_,.cons r t,f=> .cons (f _ _ r) (Paired.mapP t f)
theorem Paired.imp'{α:Type}{F G:α->β->Prop}(f:∀a b,F a b->G a b){l₁:List α}{l₂:List β}(r:bo F l₁ l₂):bo G l₁ l₂:=Paired.mapP r f
theorem ObjOk.stay(x:ObjOk P w H h a o)(k:∀b u,(b=a∨H b=some (.own a))->h.get? b=some u->h'.get? b=some u)
  (ho:∀b,H b=some (.own a)->H' b=some (.own a))(ht:∀b xs,H b=some (.tup xs)->H' b=some (.tup xs)):ObjOk P w H' h' a o:=by
 induction o with
 | lst xs=>obtain⟨z,its,n,r,e⟩:=x;exact⟨z,its,n,r,k _ _ (.inl rfl) e⟩
 | tup xs=>obtain⟨z,its,r,ob,e,c⟩:=x;exact⟨z,its,r,ob,k _ _ (.inl rfl) e,c⟩
 | dK kvs=>obtain⟨z,y,vs,r,ob,es,ep,e,c⟩:=x;exact⟨z,y,vs,r,ob,es,ep,k _ _ (.inl rfl) e,c⟩
 | dT kvs =>
  obtain⟨z,y,xs,r,ob,es,ep,e,c⟩:=x;exact⟨z,y,xs,Paired.mapP r λp q z=>⟨z.1,ht _ _ z.2.1,z.2.2⟩,ob,es,ep,k _ _ (.inl rfl) e,c⟩
 | set S n=>obtain⟨ob,es,ep,t,e,c⟩:=x;exact⟨ob,es,ep,t,k _ _ (.inl rfl) e,c⟩
 | ins C dx fs =>
  obtain⟨d,z,ne,e,mA,⟨od,es,ep,e2,c⟩,r⟩:=x;exact⟨ho _ d,z,ne,k _ _ (.inl rfl) e,mA,⟨od,es,ep,k _ _ (.inr d) e2,c⟩,r⟩
 | own y=>obtain⟨ob,e⟩:=x;exact⟨ob,k _ _ (.inl rfl) e⟩
 | xd fs=>obtain⟨mA,⟨od,es,ep,e,c⟩,r⟩:=x;exact⟨mA,⟨od,es,ep,k _ _ (.inl rfl) e,c⟩,r⟩
 | rng lo hi=>obtain⟨t,u,v,e⟩:=x;exact⟨t,u,v,k _ _ (.inl rfl) e⟩
 | frz ob u ih=>obtain⟨e,q⟩:=x;exact⟨k _ _ (.inl rfl) e,ih q⟩
 | tbl ps =>
  have e:h.get? a=some { cls:= .none,data:= .fields ps }:=x;show h'.get? a=some { cls:= .none,data:= .fields ps };exact k a _ (.inl rfl) e
 | met f y =>
  have e:h.get? a=some (W.methodObj (.ref f) (.ref y)):=x;show h'.get? a=some (W.methodObj (.ref f) (.ref y));exact k a _ (.inl rfl) e
 | ext φ=>obtain⟨p,⟨o,e⟩,st⟩:=x;exact⟨st _ _ p λo q=>k _ _ (.inl rfl) q,⟨o,k _ _ (.inl rfl) e⟩,st⟩
theorem HOk.lt(x:HOk P w H h)(e:H a=some o):a<h.objs.size:=(x a o e).lt
theorem HOk.fresh(x:HOk P w H h)(e:h.objs.size<=a):H a=none:=by
 cases q:H a with
 | none=>rfl
 | some u=>exact absurd (bt (x.lt q) e) (eg _)
theorem HOk.kept(x:HOk P w H h)(k:∀b u,h.get? b=some u->h'.get? b=some u):HOk P w H h':=λa o e =>
 (x a o e).stay (λb u _ q=>k b u q) (λ_ q=>q) λ_ _ q=>q
theorem HOk.laid(x:HOk P w H h)(k:∀b u,h.get? b=some u->h'.get? b=some u)(hp:h.objs.size<=a)(new:ObjOk P w (upd H a o) h' a o):HOk P w (upd H a o) h':=λb u e=>by
 have hn:=x.fresh hp
 by_cases hb:b=a
 .subst hb;rw[aR]at e;cases e;exact new
 .rw[aK hb]at e;exact(x b u e).stay (λc v _ q=>k c v q) (λc q=>by rw[aK (bB q hn)];exact q) λc xs q=>by rw[aK (bB q hn)];exact q
end
def Rd(H:Hp)(a:Addr)(u:HO):Prop:=H a=some u∨∃o,H a=some (.frz o u)
theorem Rd.ok{u:HO}(r:Rd H a u)(x:HOk P w H h):ObjOk P w H h a u:=by
 rcases r with r|⟨o,r⟩
 .exact x a u r
 .obtain⟨_,q⟩:=x a _ r;exact q
def Mut:Option HO->Prop
 | some (.lst _)=>True
 | some (.dK _)=>True
 | some (.dT _)=>True
 | some (.set _ _)=>True
 | some (.ins _ _ _)=>True
 | some (.ext _)=>True
 | _=>False
section
variable {x e:Addr}{o':HO}
theorem HOk.write(ok:HOk P w H h)(mu:Mut (H x))(he:e=x∨H e=some (.own x))(k:∀b u,b≠e->h.get? b=some u->h'.get? b=some u)(heo:∃u,h'.get? e=some u)
  (new:ObjOk P w (upd H x o') h' x o'):HOk P w (upd H x o') h':=λb u q=>by
 have nown:∀c y,H c=some (.own y)->c≠x:=λc y r z=>by subst z;rw[r]at mu;exact mu
 have ntup:∀c xs,H c=some (.tup xs)->c≠x:=λc xs r z=>by subst z;rw[r]at mu;exact mu
 by_cases hb:b=x
 .subst hb;rw[aR]at q;cases q;exact new
 .rw[aK hb]at q
  by_cases hbe:b=e
  .have q':H b=some (.own x):=by
    rcases he with z|z
    .exact absurd (hbe.trans z) hb
    .rw[hbe];exact z
   rw[q]at q';cases q';obtain⟨v,hv⟩:=heo;exact⟨v,by rw[hbe];exact hv⟩
  .refine(ok b u q).stay (λc v hc r=>k c v ?_ r) (λc r=>by rw[aK (nown c b r)];exact r) λc xs r=>by rw[aK (ntup c xs r)];exact r
   rcases hc with rfl|hc
   .exact hbe
   .rintro rfl;rcases he with z|z
    .exact nown c b hc z
    .rw[hc]at z;cases z;exact hb rfl
end
structure Un(fs ex:List Addr)(H H':Hp)(h h':Heap):Prop where
 keep:∀b o,h.get? b=some o->H b=none->b∉fs->b∉ex->h'.get? b=some o
 slot:∀b o,h.get? b=some o->H b=none->b∈fs->b∉ex->∃sl,h'.get? b=some { o with slots:=sl }
 free:∀b o,h.get? b=some o->H b=none->b∉ex->H' b=none
 there:∀b o,h.get? b=some o->b∉ex->∃o',h'.get? b=some o'
 tups:∀b xs,H b=some (.tup xs)->H' b=some (.tup xs)
 frzs:∀b o u,H b=some (.frz o u)->H' b=some (.frz o u)
 tbls:∀b ps,H b=some (.tbl ps)->∃more,H' b=some (.tbl (ps++more))
variable {o:Obj}{ch:List Addr}
section
variable {fs fs' ex ex':List Addr}{H1 H2:Hp}{h1 h2:Heap}{x e:Addr}{o:HO}
theorem Un.any(u:Un fs ex H H1 h h1){ob:Obj}(q:h.get? b=some ob)(n:H b=none)(hx:b∉ex):∃sl,h1.get? b=some { ob with slots:=sl }:=by
 by_cases hb:b∈fs
 .exact u.slot b ob q n hb hx
 .exact⟨ob.slots,u.keep b ob q n hb hx⟩
theorem Un.kept(k:∀b u,h.get? b=some u->h'.get? b=some u):Un fs ex H H h h' :=
 ⟨λb ob q _ _ _=>k b ob q,λb ob q _ _ _=>⟨ob.slots,k b ob q⟩,λ_ _ _ n _=>n,λb ob q _=>⟨ob,k b ob q⟩,λ_ _ q=>q,λ_ _ _ q=>q,λ_ ps q=>⟨#[],by rw[q];simp⟩⟩
theorem Un.refl:Un fs ex H H h h:=Un.kept λ_ _ q=>q
theorem Un.laid(k:∀b u,h.get? b=some u->h'.get? b=some u)(hp:h.objs.size<=a)(hn:H a=none):Un fs ex H (upd H a o) h h' where
 keep:=λb u q _ _ _=>k b u q
 slot:=λb u q _ _ _=>⟨u.slots,k b u q⟩
 free:=λb u q n _=>by rw[aK (cf (bt (bc q) hp))];exact n
 there:=λb u q _=>⟨u,k b u q⟩
 tups:=λb xs q=>by rw[aK (bB q hn)];exact q
 frzs:=λb u xs q=>by rw[aK (bB q hn)];exact q
 tbls:=λb ps q=>⟨#[],by rw[aK (bB q hn),q];simp⟩
theorem Un.write(mu:Mut (H x))(he:e=x∨H e=some (.own x))(k:∀b u,b≠e->h.get? b=some u->h'.get? b=some u)(heo:∃u,h'.get? e=some u):Un fs ex H (upd H x o) h h':=by
 have hx:∀b,H b=none->b≠x:=λb n z=>by subst z;rw[n]at mu;exact mu
 have hb:∀b,H b=none->b≠e:=λb n z=>by
  subst z;rcases he with r|r
  .exact hx b n r
  .rw[n]at r;cases r
 have hm:∀b u,H b=some u->¬Mut (some u)->b≠x:=λb u q nm z=>by subst z;rw[q]at mu;exact nm mu
 refine⟨λb u q n _ _=>k b u (hb b n) q,λb u q n _ _=>⟨u.slots,k b u (hb b n) q⟩,λb u q n _=>by rw[aK (hx b n)];exact n,λb u q _=> ?_,
  λb xs q=>by rw[aK (hm b _ q λz=>z)];exact q,λb u xs q=>by rw[aK (hm b _ q λz=>z)];exact q,λb ps q=>⟨#[],by rw[aK (hm b _ q λz=>z),q];simp⟩⟩
 by_cases hbe:b=e
 .subst hbe;exact heo
 .exact⟨u,k b u hbe q⟩
end
def trk(h:Heap)(H:Hp):List Addr:=(fc h.objs.size).filter λa=>(H a).isSome
def tL(h:Heap)(H:Hp):Heap:=W.hideAll h (trk h H)
theorem XS(h:Heap)(H:Hp):(tL h H).objs.size=h.objs.size:=W.hideAll_size _ _
theorem aAn(e:h.get? b=some o)(n:H b=none):(tL h H).get? b=some o :=
 W.hideAll_get _ e λhm=>by
  have q:(H b).isSome=true:=(cu.mp hm).2;rw[n]at q;simp at q
theorem aBO(e:(tL h H).get? b=some o):h.get? b=some o/\H b=none:=by
 have e':h.get? b=some o:=W.of_hideAll (trk h H) e;refine⟨e',?_⟩;cases q:H b with
 | none=>rfl
 | some x =>
  have hm:b∈trk h H:=cu.mpr ⟨gm.mpr (bc e'),by simp[q]⟩;have z:(tL h H).get? b=none:=W.hideAll_none (trk h H) hm;rw[z]at e;cases e
structure Mod(K:W.Frag)(mg:Str->Option ah)(base:Heap):Prop where
 kin:K.In base
 glob:base.Ns bh mg
 blt:∃mb,base.Ns uw mb/\∀x:Str,x≠ "__name__" ->mb x=fj x
 nolimit:base.NoLimit
structure Cx where
 prog:fh
 w:gh
 K:W.Frag
 mg:Str->Option ah
 base:Heap
 A:jy
 N:List Str
 s₀:bb
 H₀:Hp
 env:Env
 outer:List Env
 stack:List Env
 ex:List Addr
 fn:Str->Bool
 calm:Bool
 pn:List (Addr×Obj)
 xe:ah->bb->Prop
def frs(l:List Env):List Addr:=l.filterMap (·.frame)
abbrev Cx.fs(X:Cx):List Addr:=frs X.outer
def Vis(sc:qi)(x:Str):Prop:=sc.names.lookup x=some .local∨sc.names.lookup x=some .cell∨sc.names.lookup x=some .free
def Loc(sc:qi)(x:Str):Prop:=sc.names.lookup x=some .local∨sc.names.lookup x=some .cell
def aGu(env:Env)(h:Heap)(m:Str->Option ah)(x:Str)(u:ah):Prop :=
 (env.kindOf x=some .local/\m x=some u)∨((env.kindOf x=some .cell∨env.kindOf x=some .free)/\∃c,env.cells.lookup x=some c/\h.IsCell c (some u))
structure Cx.Ok(X:Cx):Prop where
 mod:Mod X.K X.mg X.base
 kind:X.env.scope.kind= .function
 glob:X.env.globals=bh
 blt:X.env.builtins=uw
 above:X.s₀.heap.objs.size<=X.env.locals
 inj:∀x y c,X.env.cells.lookup x=some c->X.env.cells.lookup y=some c->x=y
 has:∀x,(X.env.kindOf x=some .cell∨X.env.kindOf x=some .free)->∃c,X.env.cells.lookup x=some c
 cab:∀x c,X.fn x=true->X.env.cells.lookup x=some c->X.s₀.heap.objs.size<=c
 hd:X.calm=true->X.A.handled=none
 frames:X.A.frames=some X.stack
 stk:X.stack=X.outer∨(X.stack=X.env::X.outer/\X.env.frame=some X.env.locals)
 exf:∀b∈X.ex,b≠X.env.locals/\∀x c,X.env.cells.lookup x=some c->c≠b
 bs:∀b o,X.base.get? b=some o->X.s₀.heap.get? b=some o/\X.H₀ b=none
 bsz:X.base.objs.size<=X.s₀.heap.objs.size
 noex:∀b o,X.base.get? b=some o->b∉X.ex
 exfs:∀b∈X.ex,b∉X.fs
 funs:X.s₀.heap.FunFrames X.base X.outer
 frf:∀b∈X.fs,X.H₀ b=none
structure Inv(X:Cx)(pins:List (Addr×Obj))(σ:List (Option V))(H:Hp)(s:bb):Prop where
 ok:X.Ok
 os:s.os=X.s₀.os
 bare:sf s.gens
 base:Un X.fs X.ex X.H₀ H X.s₀.heap s.heap
 loc:∃m,s.heap.Ns X.env.locals m/\∀(i:Nat) (x:Str) (v:V),X.N[i]? =some x->σ[i]? =some (some v)->Vis X.env.scope x->∃u,RelV v u/\aGu X.env s.heap m x u
 cell:∀x c,X.env.cells.lookup x=some c->∃v,s.heap.IsCell c v
 free:H X.env.locals=none
 freeC:∀x c,X.env.cells.lookup x=some c->H c=none
 pin:∀p∈X.pn++pins,s.heap.get? p.1=some p.2/\H p.1=none/\p.1≠X.env.locals/\p.1∉X.fs/\∀v,p.2.data≠ .cell v
 hok:HOk X.prog X.w H s.heap
 len:σ.length=X.N.length
variable {g':Array GenState}{j n t':Nat}{d':Drawn}{N:List Str}{m name qual x:Str}{A:jy}{E:ah->bb->Prop}{s s':bb}{X:Cx}{pins:List (Addr×Obj)}
section
variable {σ:List (Option V)}
theorem Cx.Ok.nofr(ok:X.Ok)(e:X.base.get? b=some o):b∉X.fs:=λhb=>by
 have:=(ok.funs.mem hb).1;rw[e]at this;cases this
theorem Inv.bs(I:Inv X pins σ H s):∀b o,X.base.get? b=some o->s.heap.get? b=some o/\H b=none:=λb o e =>
 ⟨I.base.keep b o (I.ok.bs b o e).1 (I.ok.bs b o e).2 (I.ok.nofr e) (I.ok.noex b o e),I.base.free b o (I.ok.bs b o e).1 (I.ok.bs b o e).2 (I.ok.noex b o e)⟩
theorem Inv.bk(I:Inv X pins σ H s):∀b o,X.base.get? b=some o->s.heap.get? b=some o:=λb o e=>(I.bs b o e).1
theorem Inv.mod(I:Inv X pins σ H s):Mod X.K X.mg X.base:=I.ok.mod
theorem Inv.kIn(I:Inv X pins σ H s):X.K.In s.heap:=I.ok.mod.kin.keeps I.bk
theorem Inv.lt(I:Inv X pins σ H s):X.env.locals<s.heap.objs.size:=let ⟨_,hn,_⟩:=I.loc;hn.lt
theorem Inv.sz(I:Inv X pins σ H s):X.s₀.heap.objs.size<=s.heap.objs.size:=ee I.ok.above (ls I.lt)
theorem Inv.nofs(I:Inv X pins σ H s)(h:s.heap.objs.size<=a):a∉X.fs:=λhb=>by
 obtain⟨_,o,ho,_⟩:=I.ok.funs.mem hb;exact absurd (bt (bc ho) (ee I.sz h)) (eg _)
theorem Inv.cne(I:Inv X pins σ H s):∀x c,X.env.cells.lookup x=some c->c≠X.env.locals:=λx c e z=>by
 obtain⟨v,o,ho,hd⟩:=I.cell x c e;obtain⟨m,⟨o',es,ep,ho',hd',_⟩,_⟩:=I.loc;rw[z,ho']at ho;cases ho;rw[hd']at hd;cases hd
theorem Inv.funs(I:Inv X pins σ H s):s.heap.FunFrames X.base X.outer:=by
 have all:∀(l:List Env),(∀b∈frs l,b∈X.fs)->X.s₀.heap.FunFrames X.base l->s.heap.FunFrames X.base l:=by
  intro l
  induction l with
  | nil=>intro _ _;trivial
  | cons env r ih =>
   intro hs hl;obtain⟨hk,⟨L,o,hf,hn,ho,hd⟩,hr⟩:=hl;have hL:L∈X.fs:=hs L (by unfold frs;rw[qj,hf];exact fu);obtain⟨sl,e⟩:=I.base.slot L o ho (I.ok.frf L hL) hL λz=>I.ok.exfs L z hL;exact⟨hk,⟨L,_,hf,hn,e,hd⟩,ih (λb hb=>hs b (by unfold frs;rw[qj,hf];exact ab _ hb)) hr⟩
 exact all X.outer (λ_ hb=>hb) I.ok.funs
theorem Inv.stack(I:Inv X pins σ H s):s.heap.FunFrames X.base X.stack:=by
 rcases I.ok.stk with e|⟨e,hf⟩
 .rw[e];exact I.funs
 .rw[e];obtain⟨m,hn,_⟩:=I.loc;refine .cons (by rw[I.ok.kind];decide) hf hn ?_ I.funs;exact Heap.get?_none_of_le (ee I.ok.bsz I.ok.above)
theorem Inv.stkSub(I:Inv X pins σ H s):∀b∈frs X.stack,b∈X.env.locals::X.fs:=λb hb=>by
 rcases I.ok.stk with e|⟨e,hf⟩
 .rw[e]at hb;exact ab _ hb
 .rw[e]at hb;unfold frs at hb;rw[qj,hf]at hb;exact hb
theorem Inv.stkFree(I:Inv X pins σ H s):∀b∈frs X.stack,H b=none:=λb hb=>by
 rcases aw.mp (I.stkSub b hb) with e|hb
 .rw[e];exact I.free
 .obtain⟨_,o,ho,_⟩:=I.ok.funs.mem hb;exact I.base.free b o ho (I.ok.frf b hb) λz=>I.ok.exfs b z hb
theorem Inv.step(I:Inv X pins σ H s)
  (hch:∀b∈ch,(b∈X.ex∨X.s₀.heap.objs.size<=b)/\b≠X.env.locals/\(∀x c,X.env.cells.lookup x=some c->c≠b)/\∀p∈X.pn++pins,p.1≠b)
  (keep:∀b o,b≠X.env.locals->b∉X.fs->b∉ch->s.heap.get? b=some o->H b=none->h'.get? b=some o)
  (slot:∀b o,b≠X.env.locals->b∈X.fs->b∉ch->s.heap.get? b=some o->H b=none->∃sl,h'.get? b=some { o with slots:=sl })(free:∀b o,b∉ch->s.heap.get? b=some o->H b=none->H' b=none)
  (there:∀b o,b∉ch->s.heap.get? b=some o->∃o',h'.get? b=some o')
  (tups:∀b xs,H b=some (.tup xs)->H' b=some (.tup xs))(frzs:∀b o u,H b=some (.frz o u)->H' b=some (.frz o u))(tbls:∀b ps,H b=some (.tbl ps)->∃more,H' b=some (.tbl (ps++more)))
  (ns:∀m,s.heap.Ns X.env.locals m->h'.Ns X.env.locals m)(hok:HOk X.prog X.w H' h')(hg:sf g') :
  Inv X pins σ H' { s with heap:=h',gens:=g',drawn:=d',toks:=t' }:=by
 have neL:∀b o,X.s₀.heap.get? b=some o->b≠X.env.locals:=λb o e=>cf (bt (bc e) I.ok.above);have neC:∀b o,X.s₀.heap.get? b=some o->b∉X.ex->b∉ch:=λb o e hx hb=>by
  rcases (hch b hb).1 with z|z
  .exact hx z
  .exact absurd (bt (bc e) z) (eg _)
 have cellK:∀x c,X.env.cells.lookup x=some c->∀v,s.heap.IsCell c v->h'.IsCell c v:=λx c e v ⟨o,ho,hd⟩=>by
  have nch:c∉ch:=λz=>(hch c z).2.2.1 x c e rfl
  by_cases hc:c∈X.fs
  .obtain⟨sl,q⟩:=slot c o (I.cne x c e) hc nch ho (I.freeC x c e);exact⟨_,q,hd⟩
  .exact⟨o,keep c o (I.cne x c e) hc nch ho (I.freeC x c e),hd⟩
 refine⟨I.ok,I.os,hg,⟨λb o e n hb hx=> ?_,λb o e n hb hx=> ?_,λb o e n hx=> ?_,λb o e hx=> ?_,λb xs e=>tups b xs (I.base.tups b xs e),λb o xs e=>frzs b o xs (I.base.frzs b o xs e),λb ps e=> ?_⟩,?_,λx c e=> ?_,?_,λx c e=> ?_,λp hp=> ?_,hok,I.len⟩
 .exact keep b o (neL b o e) hb (neC b o e hx) (I.base.keep b o e n hb hx) (I.base.free b o e n hx)
 .obtain⟨sl,e1⟩:=I.base.slot b o e n hb hx;obtain⟨sl',e2⟩:=slot b _ (neL b o e) hb (neC b o e hx) e1 (I.base.free b o e n hx);exact⟨sl',e2⟩
 .obtain⟨o',e1⟩:=I.base.there b o e hx;exact free b o' (neC b o e hx) e1 (I.base.free b o e n hx)
 .obtain⟨o',e1⟩:=I.base.there b o e hx;exact there b o' (neC b o e hx) e1
 .obtain⟨m1,e1⟩:=I.base.tbls b ps e;obtain⟨m2,e2⟩:=tbls b _ e1;exact⟨m1++m2,by rw[e2,Array.append_assoc]⟩
 .obtain⟨m,hn,hl⟩:=I.loc;refine⟨m,ns m hn,λi x v e1 e2 e3=> ?_⟩;obtain⟨u,r,l⟩:=hl i x v e1 e2 e3;refine⟨u,r,?_⟩;rcases l with l|⟨k,c,e,z⟩
  .exact .inl l
  .exact .inr ⟨k,c,e,cellK x c e _ z⟩
 .obtain⟨v,z⟩:=I.cell x c e;exact⟨v,cellK x c e v z⟩
 .obtain⟨m,⟨o,_,_,ho,_⟩,_⟩:=I.loc;exact free _ o (λz=>(hch _ z).2.1 rfl) ho I.free
 .obtain⟨v,o,ho,hd⟩:=I.cell x c e;exact free c o (λz=>(hch c z).2.2.1 x c e rfl) ho (I.freeC x c e)
 .obtain⟨e,n,ne,nf,d⟩:=I.pin p hp;have nch:p.1∉ch:=λz=>(hch p.1 z).2.2.2 p hp rfl;exact⟨keep p.1 p.2 ne nf nch e n,free p.1 p.2 nch e n,ne,nf,d⟩
theorem Inv.un(I:Inv X pins σ H s)(u:Un X.fs [] H H' s.heap h')(hok:HOk X.prog X.w H' h'):Inv X pins σ H' { s with heap:=h',toks:=t' }:=by
 obtain⟨m,⟨o,es,ep,ho,r⟩,_⟩:=id I.loc;obtain⟨sl,hL⟩:=u.any ho I.free (by simp);exact I.step (g':=s.gens) (d':=s.drawn) (ch:=[]) (λ_ z=>nomatch z) (λb o _ hb _ e n=>u.keep b o e n hb (by simp)) (λb o _ hb _ e n=>u.slot b o e n hb (by simp)) (λb o _ e n=>u.free b o e n (by simp)) (λb o _ e=>u.there b o e (by simp)) u.tups u.frzs u.tbls (λm' hm=>by
  obtain⟨o',es',ep',ho',r'⟩:=hm;rw[ho]at ho';cases ho';exact⟨_,es',ep',hL,r'⟩) hok I.bare
theorem Inv.call(I:Inv X pins σ H s)(u:Un (frs X.stack) ch H H' s.heap h')(hok:HOk X.prog X.w H' h')(hg:sf g')
  (hch:∀b∈ch,(b∈X.ex∨X.s₀.heap.objs.size<=b)/\b≠X.env.locals/\(∀x c,X.env.cells.lookup x=some c->c≠b)/\∀p∈X.pn++pins,p.1≠b) :
  Inv X pins σ H' { s with heap:=h',gens:=g',drawn:=d',toks:=t' }:=by
 obtain⟨m,⟨o,es,ep,ho,r⟩,_⟩:=id I.loc;obtain⟨sl,hL⟩:=u.any ho I.free λz=>(hch _ z).2.1 rfl;exact I.step (ch:=ch) hch (λb o hL hb hc e n=>u.keep b o e n (λz=>(aw.mp (I.stkSub b z)).elim hL hb) hc) (λb o _ _ hc e n=>u.any e n hc) (λb o hc e n=>u.free b o e n hc) (λb o hc e=>u.there b o e hc) u.tups u.frzs u.tbls (λm' hm=>by
  obtain⟨o',es',ep',ho',r'⟩:=hm;rw[ho]at ho';cases ho';exact⟨_,es',ep',hL,r'⟩) hok hg
theorem Inv.turned(I:Inv X pins σ H s)(k:∀b o,b≠it->s.heap.get? b=some o->h'.get? b=some o)(hn:H it=none)(hL:it≠X.env.locals)
  (h1:it∈X.ex∨X.s₀.heap.objs.size<=it)(h2:∀x c,X.env.cells.lookup x=some c->c≠it)(h3:∀p∈X.pn++pins,p.1≠it):Inv X pins σ H { s with heap:=h',toks:=t' }:=by
 have nit:∀b u,H b=some u->b≠it:=λb u e z=>by rw[z,hn]at e;cases e
 refine I.step (g':=s.gens) (d':=s.drawn) (ch:=[it]) (λb hb=> ?_) (λb o _ _ hc e _=>k b o (λz=>hc (by simp[z])) e) (λb o _ _ hc e _=>⟨o.slots,k b o (λz=>hc (by simp[z])) e⟩) (λ_ _ _ _ n=>n)
  (λb o hc e=>⟨o,k b o (λz=>hc (by simp[z])) e⟩) (λ_ _ e=>e) (λ_ _ _ e=>e) (λb ps e=>⟨#[],by rw[e];simp⟩) (λm hm=> ?_) (λb u e=> ?_) I.bare
 .have e:b=it:=by simpa using hb
  subst e;exact⟨h1,hL,h2,h3⟩
 .obtain⟨o,es,ep,ho,r⟩:=hm;exact⟨o,es,ep,k _ o (eh hL) ho,r⟩
 .refine(I.hok b u e).stay (λc v hc q=>k c v ?_ q) (λ_ q=>q) λ_ _ q=>q;rcases hc with z|z
  .rw[z];exact nit b u e
  .exact nit c _ z
theorem Inv.tok(I:Inv X pins σ H s)(t:Nat):Inv X pins σ H { s with toks:=t }:=I.un (h':=s.heap) (t':=t) Un.refl I.hok
theorem Inv.kept(I:Inv X pins σ H s)(k:∀b u,s.heap.get? b=some u->h'.get? b=some u):Inv X pins σ H { s with heap:=h',toks:=t' }:=I.un (Un.kept k) (I.hok.kept k)
theorem Inv.laid{o:HO}(I:Inv X pins σ H s)(k:∀b u,s.heap.get? b=some u->h'.get? b=some u)(hp:s.heap.objs.size<=a)(new:ObjOk X.prog X.w (upd H a o) h' a o):
  Inv X pins σ (upd H a o) { s with heap:=h',toks:=t' }:=I.un (Un.laid k hp (I.hok.fresh hp)) (I.hok.laid k hp new)
theorem Inv.write{x e:Addr}{o:HO}(I:Inv X pins σ H s)(mu:Mut (H x))(he:e=x∨H e=some (.own x))(k:∀b u,b≠e->s.heap.get? b=some u->h'.get? b=some u)(heo:∃u,h'.get? e=some u)
  (new:ObjOk X.prog X.w (upd H x o) h' x o):Inv X pins σ (upd H x o) { s with heap:=h',toks:=t' }:=I.un (Un.write mu he k heo) (I.hok.write mu he k heo new)
theorem Inv.weak{σ':List (Option V)}(I:Inv X pins σ H s)(hl:σ'.length=σ.length)(w:∀(i:Nat) v,σ'[i]? =some (some v)->σ[i]? =some (some v)):Inv X pins σ' H s :=
 ⟨I.ok,I.os,I.bare,I.base,let ⟨m,hn,hl'⟩:=I.loc;⟨m,hn,λi x v e1 e2 e3=>hl' i x v e1 (w i v e2) e3⟩,I.cell,I.free,I.freeC,I.pin,I.hok,hl.trans I.len⟩
theorem Inv.pins_of{pins':List (Addr×Obj)}(I:Inv X pins σ H s)(h:∀p∈pins',s.heap.get? p.1=some p.2/\H p.1=none/\p.1≠X.env.locals/\p.1∉X.fs/\∀v,p.2.data≠ .cell v):Inv X pins' σ H s :=
 ⟨I.ok,I.os,I.bare,I.base,I.loc,I.cell,I.free,I.freeC,λp hp=>(bf.mp hp).elim (λz=>I.pin p (dz _ z)) (h p),I.hok,I.len⟩
theorem NW(hN:N.Nodup){i:Nat}(a:N[i]? =some x)(b:N[j]? =some x):i=j:=by
 obtain⟨h1,e1⟩:=ax.mp a;obtain⟨h2,e2⟩:=ax.mp b;exact(List.getElem_inj hN).mp (e1.trans e2.symm)
theorem V3{M:Model}{i:Nat}{Q:Unit->bb->Prop}(I:Inv X pins σ H s)(hN:X.N.Nodup)(hi:X.N[i]? =some x)(hx:Loc X.env.scope x)(r:RelV v u)
  (h:∀s',Inv X pins (σ.set i (some v)) H s'->(∃a,ik a s.heap s'.heap/\(a=X.env.locals∨X.env.cells.lookup x=some a))->Q () s')(hf:X.fn x=true∨X.env.scope.names.lookup x=some .local:=by first|exact .inl rfl|exact .inr rfl|assumption):bz M A (storeName X.env x u) Q E s:=by
 obtain⟨m,hn,hl⟩:=id I.loc;have hcls:(X.env.scope.kind== .class||(X.env.scope.kind== .module&&X.env.locals !=X.env.globals))=false:=by rw[I.ok.kind];rfl
 have hiσ:i<σ.length:=by rw[I.len];exact(ax.mp hi).1
 have cne:=I.cne;have tracked:∀{a:Addr}{h':Heap},(∃o,s.heap.get? a=some o/\H a=none)->ik a s.heap h'->HOk X.prog X.w H h':=λ{a h'} ha hs b ob e=>by
  obtain⟨_,_,hfree⟩:=ha;refine(I.hok b ob e).stay (λc w' hc q=>(hs.2 c ?_).trans q) (λ_ q=>q) λ_ _ q=>q;rintro rfl;rcases hc with rfl|hc
  .rw[hfree]at e;cases e
  .rw[hfree]at hc;cases hc
 rcases hx with hk|hk
 .refine wpAny_storeName_local hk hn (λh' hn' hs=> ?_) hcls;obtain⟨oL,_,_,hoL,_⟩:=id hn;refine h _ ⟨I.ok,I.os,I.bare,⟨λb o e n hb hx=> ?_,λb o e n hb hx=> ?_,I.base.free,λb o e hx=> ?_,I.base.tups,I.base.frzs,I.base.tbls⟩,⟨_,hn',λj y v' e1 e2 e3=> ?_⟩,λy c e=> ?_,I.free,I.freeC,λp hp=> ?_,tracked ⟨oL,hoL,I.free⟩ hs,by simpa using I.len⟩ ⟨_,hs,.inl rfl⟩
  .exact(hs.2 b (cf (bt (bc e) I.ok.above))).trans (I.base.keep b o e n hb hx)
  .obtain⟨sl,e1⟩:=I.base.slot b o e n hb hx;exact⟨sl,(hs.2 b (cf (bt (bc e) I.ok.above))).trans e1⟩
  .obtain⟨o',e1⟩:=I.base.there b o e hx;exact⟨o',(hs.2 b (cf (bt (bc e) I.ok.above))).trans e1⟩
  .by_cases hj:j=i
   .subst hj;rw[hi]at e1;cases e1;rw[ux hiσ]at e2;cases e2;exact⟨u,r,.inl ⟨hk,by simp⟩⟩
   .rw[ph (eh hj)]at e2;obtain⟨u',r',q⟩:=hl j y v' e1 e2 e3;refine⟨u',r',?_⟩;rcases q with⟨k,e⟩|⟨k,c,e,z⟩
    .refine .inl ⟨k,?_⟩;have:y≠x:=λe=>hj (NW hN e1 (e▸hi));simp[this,e]
    .exact .inr ⟨k,c,e,z.sameBut hs (cne y c e)⟩
  .obtain⟨w',z⟩:=I.cell y c e;exact⟨w',z.sameBut hs (cne y c e)⟩
  .obtain⟨e,n,ne,nf,d⟩:=I.pin p hp;exact⟨(hs.2 p.1 ne).trans e,n,ne,nf,d⟩
 .have hfn:X.fn x=true:=by
   rcases hf with z|z
   .exact z
   .rw[z]at hk;cases hk
  obtain⟨c,hc⟩:=I.ok.has x (.inl hk);obtain⟨w',z⟩:=I.cell x c hc;refine wpAny_storeName_cell I.ok.kind hk hc z (λh' hc' hs=> ?_);obtain⟨oc,hoc,hocd⟩:=id z;refine h { s with heap:=h' } ⟨I.ok,I.os,I.bare,⟨λb o e n hb hx=> ?_,λb o e n hb hx=> ?_,I.base.free,λb o e hx=> ?_,I.base.tups,I.base.frzs,I.base.tbls⟩,⟨m,hn.sameBut hs (eh (cne x c hc)),λj y v' e1 e2 e3=> ?_⟩,λy c' e=> ?_,I.free,I.freeC,λp hp=> ?_,tracked ⟨oc,hoc,I.freeC x c hc⟩ hs,by simpa using I.len⟩ ⟨c,hs,.inr hc⟩
  .exact(hs.2 b (cf (bt (bc e) (I.ok.cab x c hfn hc)))).trans (I.base.keep b o e n hb hx)
  .obtain⟨sl,e1⟩:=I.base.slot b o e n hb hx;exact⟨sl,(hs.2 b (cf (bt (bc e) (I.ok.cab x c hfn hc)))).trans e1⟩
  .obtain⟨o',e1⟩:=I.base.there b o e hx;exact⟨o',(hs.2 b (cf (bt (bc e) (I.ok.cab x c hfn hc)))).trans e1⟩
  .by_cases hj:j=i
   .subst hj;rw[hi]at e1;cases e1;rw[ux hiσ]at e2;cases e2;exact⟨u,r,.inr ⟨.inl hk,c,hc,hc'⟩⟩
   .rw[ph (eh hj)]at e2;obtain⟨u',r',q⟩:=hl j y v' e1 e2 e3;refine⟨u',r',?_⟩;rcases q with q|⟨k,c',e,z'⟩
    .exact .inl q
    .refine .inr ⟨k,c',e,z'.sameBut hs ?_⟩;rintro rfl;exact hj (NW hN e1 (I.ok.inj _ _ _ e hc▸hi))
  .by_cases hcc:c'=c
   .subst hcc;exact⟨_,hc'⟩
   .obtain⟨w2,z2⟩:=I.cell y c' e;exact⟨w2,z2.sameBut hs hcc⟩
  .obtain⟨e,n,ne,nf,d⟩:=I.pin p hp;refine⟨(hs.2 p.1 ?_).trans e,n,ne,nf,d⟩;intro q;rw[q,hoc]at e;have q':oc=p.2:=dq e;exact d w' (by rw[←q'];exact hocd)
theorem DZ{M:Model}{i:Nat}{Q:Unit->bb->Prop}(I:Inv X pins σ H s)(hN:X.N.Nodup)(hi:X.N[i]? =some x)(hx:Loc X.env.scope x)(r:RelV v u)
  (h:∀s',Inv X pins (σ.set i (some v)) H s'->Q () s')(hf:X.fn x=true∨X.env.scope.names.lookup x=some .local:=by first|exact .inl rfl|exact .inr rfl|assumption):bz M A (storeName X.env x u) Q E s :=
 V3 I hN hi hx r (λs' I' _=>h s' I') hf
theorem Inv.call'(I:Inv X pins σ H s)(ho:s'.os=s.os)(u:Un (frs X.stack) ch H H' s.heap s'.heap)(hok:HOk X.prog X.w H' s'.heap)(hg:sf s'.gens)
  (hch:∀b∈ch,(b∈X.ex∨X.s₀.heap.objs.size<=b)/\b≠X.env.locals/\(∀x c,X.env.cells.lookup x=some c->c≠b)/\∀p∈X.pn++pins,p.1≠b):Inv X pins σ H' s':=by
 obtain⟨h',g',d',t',o'⟩:=s';have e:o'=s.os:=ho;subst e;exact I.call (g':=g') (t':=t') (d':=d') u hok hg hch
end
abbrev XK:=ah->Option Addr->Hp->Prop
abbrev St:=List (Option V)
abbrev VK:=V->Hp->Prop
abbrev TE:=St->Hp->VK->Prop
abbrev TT:=St->Hp->(Bool->Hp->Prop)->Prop
abbrev TA:=St->Hp->(List V->Hp->Prop)->Prop
structure gY where
 nx:St->Hp->Prop
 rt:VK
 bk:St->Hp->Prop:=λ_ _=>False
 ct:St->Hp->Prop:=λ_ _=>False
abbrev TS:=gY->St->Hp->Prop
def EP(X:Cx)(pins:List (Addr×Obj))(σ:St)(Q:VK)(u:ah)(s':bb):Prop:=∃v H',Inv X pins σ H' s'/\RelV v u/\Q v H'
def TP(X:Cx)(pins:List (Addr×Obj))(σ:St)(Q:Bool->Hp->Prop)(b:Bool)(s':bb):Prop:=∃H',Inv X pins σ H' s'/\Q b H'
def AP(X:Cx)(pins:List (Addr×Obj))(σ:St)(Q:List V->Hp->Prop)(us:List ah)(s':bb):Prop:=∃vs H',Inv X pins σ H' s'/\Vals vs us/\Q vs H'
def SP(X:Cx)(pins:List (Addr×Obj))(D:gY)(f:Flow)(s':bb):Prop :=
 match f with
 | .next=>∃σ' H',Inv X pins σ' H' s'/\D.nx σ' H'
 | .brk=>∃σ' H',Inv X pins σ' H' s'/\D.bk σ' H'
 | .cont=>∃σ' H',Inv X pins σ' H' s'/\D.ct σ' H'
 | .ret u=>∃v σ' H',Inv X pins σ' H' s'/\RelV v u/\D.rt v H'
def PE(X:Cx)(e:Expr)(t:TE):Prop :=
 ∀(pins:List (Addr×Obj)) (s:bb) (σ:St) (H:Hp) (Q:VK),Inv X pins σ H s->t σ H Q->bz (cg X.prog X.w) X.A (eval e X.env) (EP X pins σ Q) X.xe s
def PT(X:Cx)(e:Expr)(t:TT):Prop :=
 ∀(pins:List (Addr×Obj)) (s:bb) (σ:St) (H:Hp) (Q:Bool->Hp->Prop),Inv X pins σ H s->t σ H Q->bz (cg X.prog X.w) X.A (isTrue e X.env (eval e X.env)) (TP X pins σ Q) X.xe s
def PW(X:Cx)(e:Expr)(t:TT):Prop :=
 ∀(whole:Sem ah) (pins:List (Addr×Obj)) (s:bb) (σ:St) (H:Hp) (Q:Bool->Hp->Prop),Inv X pins σ H s->t σ H Q->bz (cg X.prog X.w) X.A (isTrue e X.env whole) (TP X pins σ Q) X.xe s
variable {e tg:Expr}
theorem PW.pt{t:TT}(h:PW X e t):PT X e t:=h _
def PA(X:Cx)(es:List Expr)(t:TA):Prop :=
 ∀(pos:Pos) (pins:List (Addr×Obj)) (s:bb) (σ:St) (H:Hp) (Q:List V->Hp->Prop),Inv X pins σ H s->t σ H Q->bz (cg X.prog X.w) X.A (spliced (jk pos (dg es X.env))) (AP X pins σ Q) X.xe s
def PS(X:Cx)(st:Stmt)(t:TS):Prop :=
 ∀(pins:List (Addr×Obj)) (s:bb) (σ:St) (H:Hp) (D:gY),Inv X pins σ H s->t D σ H->bz (cg X.prog X.w) X.A (exec st X.env) (SP X pins D) X.xe s
def PSs(X:Cx)(st:List Stmt)(t:TS):Prop :=
 ∀(pins:List (Addr×Obj)) (s:bb) (σ:St) (H:Hp) (D:gY),Inv X pins σ H s->t D σ H->bz (cg X.prog X.w) X.A (execs st X.env) (SP X pins D) X.xe s
theorem thn{α:Type}{t:Sem α}{Q Q':α->bb->Prop}{M:Model}(h:bz M A t Q E s)(hQ:∀a s,Q a s->Q' a s):bz M A t Q' E s:=fm h hQ λ_ _ x=>x
variable {apos pos pos' tpos:Pos}{σ:St}{es:List Expr}{ta te to:TE}
section
def jU(i:Nat):TE:=λσ H Q=>∃v,σ[i]? =some (some v)/\Q v H
def tC(v:V):TE:=λ_ H Q=>Q v H
theorem U6{i:Nat}(hN:X.N[i]? =some x)(hv:Vis X.env.scope x)(hd:(x==("__debug__" :Str))=false:=by decide)(hcd:(x==("__classdict__" :Str))=false:=by decide):PE X (.Name x pos) (jU i):=by
 intro pins s σ H Q I h;obtain⟨v,e,h⟩:=h;obtain⟨m,hn,hl⟩:=I.loc;obtain⟨u,r,l⟩:=hl i x v hN e hv;have fin:EP X pins σ Q u s:=⟨v,H,I,r,h⟩
 rcases l with⟨hk,hm⟩|⟨hk,c,hc,hcell⟩
 .exact wpAny_Name (wpAny_loadName_local I.ok.kind hk hn hm fin) hd
 .rcases hk with hk|hk
  .exact wpAny_Name (wpAny_loadName_cell I.ok.kind hk hc hcell fin) hd
  .exact wpAny_Name (wpAny_loadName_free I.ok.kind hk hc hcell fin hcd) hd
theorem aD{i j pos}:PE X (.Constant (.int i) j pos) (tC (.int i)):=λ_ _ _ H _ I h=>wpAny_Constant_int ⟨.int i,H,I.tok _,⟨_,rfl⟩,h⟩
theorem K7{b j pos}:PE X (.Constant (.bool b) j pos) (tC (.bl b)):=λ_ _ _ H _ I h=>Constant_bool ⟨.bl b,H,I,rfl,h⟩
theorem tJ{j pos}:PE X (.Constant .none j pos) (tC .non):=λ_ _ _ H _ I h=>Constant_none ⟨.non,H,I,rfl,h⟩
theorem dS{x j pos}:PE X (.Constant (.str x) j pos) (tC (.str x)):=λ_ _ _ H _ I h=>Calls.Constant_str ⟨.str x,H,I.tok _,⟨_,rfl⟩,h⟩
def Gl(X:Cx)(x:Str):Prop:=X.env.kindOf x=some .globalImplicit
theorem rY{Q:ah->bb->Prop}(I:Inv X pins σ H s)(hg:Gl X x)(hm:X.mg x=some u)(h:Q u s)
  (hd:(x==("__debug__" :Str))=false:=by decide):bz (cg X.prog X.w) X.A (eval (.Name x pos) X.env) Q E s :=
 rf I.ok.kind hg (Calls.loadGlobal_global (by rw[I.ok.glob];exact I.mod.glob.keeps I.bk) hm h) hd
theorem zM{Q:ah->bb->Prop}(I:Inv X pins σ H s)(hg:Gl X x)(hm:X.mg x=none)(hv:fj x=some u)(h:Q u s)
  (hn:x≠ "__name__" :=by decide)(hd:(x==("__debug__" :Str))=false:=by decide):bz (cg X.prog X.w) X.A (eval (.Name x pos) X.env) Q E s:=by
 obtain⟨mb,h1,h2⟩:=I.mod.blt;exact rf I.ok.kind hg (Calls.loadGlobal_builtin (by rw[I.ok.glob];exact I.mod.glob.keeps I.bk) hm (by rw[I.ok.blt];exact h1.keeps I.bk) ((h2 x hn).trans hv) h) hd
theorem aC3(hg:Gl X x)(hm:X.mg x=some u)(r:RelV v u)(hd:(x==("__debug__" :Str))=false:=by decide):PE X (.Name x pos) (tC v) :=
 λ_ _ _ H _ I h=>rY I hg hm ⟨v,H,I,r,h⟩ hd
theorem aBH(hg:Gl X x)(hm:X.mg x=none)(hv:fj x=some u)(r:RelV v u)(hn:x≠ "__name__" :=by decide)(hd:(x==("__debug__" :Str))=false:=by decide):PE X (.Name x pos) (tC v) :=
 λ_ _ _ H _ I h=>zM I hg hm hv ⟨v,H,I,r,h⟩ hn hd
variable {a b:Expr}{tb:TE}
def PC(X:Cx)(op:CmpOp)(a b:Expr)(t:TE):Prop :=
 ∀(pins:List (Addr×Obj)) (s:bb) (σ:St) (H:Hp) (Q:VK),Inv X pins σ H s->t σ H Q →
  bz (cg X.prog X.w) X.A (eval a X.env) (λv s₁=>bz (cg X.prog X.w) X.A (eval b X.env) (λu s₂=>bz (cg X.prog X.w) X.A (gu op v u) (EP X pins σ Q) X.xe s₂) X.xe s₁) X.xe s
def tB(t:TE):TT:=λσ H Q=>t σ H λx H1=>∃c,x= .bl c/\Q c H1
theorem wF{op:CmpOp}{t:TE}(h:PC X op a b t)(h1:ow op b=false:=by first|exact nobehind _ (by decide) (by decide)|rfl):PT X (.Compare a [op] [b] pos) (tB t):=by
 intro pins s σ H Q I hw;refine wpAny_isTrue_Compare1 (thn (h pins s σ H _ I hw) λv s1 h1=>thn h1 λu s2 h2=>thn h2 ?_) h1;rintro c s3 ⟨x,H1,I1,r1,q1⟩;obtain⟨d,rfl,q⟩:=q1;cases r1;exact ip ⟨H1,I1,q⟩
theorem pS{t:TE}(h:PE X e t)(he:∀whole,isTrue e X.env whole=(do let v ←whole;wg e.pos;holding [v] (truthy v)):=by intro _;rfl):PT X e (tB t):=by
 intro pins s σ H Q I hw;refine isTrue_plain (thn (h pins s σ H _ I hw) ?_) (he _);rintro v s1 ⟨x,H1,I1,r1,q1⟩;obtain⟨d,rfl,q⟩:=q1;cases r1;exact ip ⟨H1,I1,q⟩
variable {tA tB':TT}{rest:List Expr}
def aD7(t u:TT):TT:=λσ H Q=>t σ H λc H1=>if c=true then u σ H1 Q else Q false H1
def tOr(t u:TT):TT:=λσ H Q=>t σ H λc H1=>if c=true then Q true H1 else u σ H1 Q
def aEl(t:TT):TT:=λσ H Q=>t σ H λc H1=>Q (!c) H1
theorem A1(ha:PT X a tA):PW X (.BoolOp .And [a] pos) tA:=by
 intro wh pins s σ H Q I h;refine isTrue_and (thn (ha pins s σ H Q I h) λc s1 e=> ?_);cases c with
 | true=>exact isTrue_and_nil e
 | false=>exact e
theorem MN(ha:PT X a tA):PW X (.BoolOp .Or [a] pos) tA:=by
 intro wh pins s σ H Q I h;refine isTrue_or (thn (ha pins s σ H Q I h) λc s1 e=> ?_);cases c with
 | false=>exact isTrue_or_nil e
 | true=>exact e
theorem EQ(ha:PT X a tA)(hb:PW X (.BoolOp .And (b::rest) pos) tB'):PW X (.BoolOp .And (a::b::rest) pos) (aD7 tA tB'):=by
 intro wh pins s σ H Q I h;refine isTrue_and (thn (ha pins s σ H _ I h) ?_);rintro c s1 ⟨H1,I1,q1⟩;cases c with
 | true=>exact hb wh pins s1 σ H1 Q I1 q1
 | false=>exact⟨H1,I1,q1⟩
theorem SF(ha:PT X a tA)(hb:PW X (.BoolOp .Or (b::rest) pos) tB'):PW X (.BoolOp .Or (a::b::rest) pos) (tOr tA tB'):=by
 intro wh pins s σ H Q I h;refine isTrue_or (thn (ha pins s σ H _ I h) ?_);rintro c s1 ⟨H1,I1,q1⟩;cases c with
 | true=>exact⟨H1,I1,q1⟩
 | false=>exact hb wh pins s1 σ H1 Q I1 q1
theorem z7(ha:PT X a tA):PT X (.UnaryOp .Not a pos) (aEl tA):=by
 intro pins s σ H Q I h;exact isTrue_not (ha pins s σ H (λc H1=>Q (!c) H1) I h)
def aAT(ta tb:TE):TE:=λσ H Q=>ta σ H λx H1=>∃c,x= .bl c/\if c=true then tb σ H1 Q else Q (.bl false) H1
def aFX(ta:TE):TE:=λσ H Q=>ta σ H λx H1=>∃c,x= .bl c/\Q (.bl (!c)) H1
theorem NO{op}{t:TE}(h:PE X a t):PE X (.BoolOp op [a] pos) t:=λpins s σ H Q I hw=>BoolOp_one (h pins s σ H Q I hw)
theorem OG(ha:PE X a ta)(hb:PE X (.BoolOp .And (b::rest) pos) tb):PE X (.BoolOp .And (a::b::rest) pos) (aAT ta tb):=by
 intro pins s σ H Q I h;refine BoolOp_and (thn (ha pins s σ H _ I h) ?_);rintro v s1 ⟨x,H1,I1,r1,q1⟩;obtain⟨c,rfl,q1⟩:=q1;cases r1;refine ip ?_;cases c with
 | true=>exact hb pins s1 σ H1 Q I1 q1
 | false=>exact⟨.bl false,H1,I1,rfl,q1⟩
theorem aE0(ha:PE X a ta):PE X (.UnaryOp .Not a pos) (aFX ta):=by
 intro pins s σ H Q I h;refine UnaryOp_ (thn (ha pins s σ H _ I h) ?_);rintro v s1 ⟨x,H1,I1,r1,q1⟩;obtain⟨c,rfl,q1⟩:=q1;cases r1;exact not_of (ip ⟨.bl (!c),H1,I1,rfl,q1⟩)
def tIf(t:TT)(ta tb:TE):TE:=λσ H Q=>t σ H λc H1=>if c=true then ta σ H1 Q else tb σ H1 Q
theorem oA{c:Expr}(hc:PT X c tA)(ha:PE X a ta)(hb:PE X b tb):PE X (.IfExp c a b pos) (tIf tA ta tb):=by
 intro pins s σ H Q I h;refine wpAny_IfExp (thn (hc pins s σ H _ I h) ?_);rintro d s1 ⟨H1,I1,q1⟩;cases d with
 | true=>exact ha pins s1 σ H1 Q I1 q1
 | false=>exact hb pins s1 σ H1 Q I1 q1
end
def SqL(K:W.Frag)(H:Hp)(a:Addr)(xs:List V):Prop :=
 Rd H a (.lst xs) ∨
  ∃(o:Obj) (its:Array ah) (n:Nat),K.lookup a=some o/\o.cls= .type "list" /\o.dict=none/\o.data= .seq its n/\its.size<=sizeLine/\Vals xs its.toList
def SqT(K:W.Frag)(H:Hp)(a:Addr)(xs:List V):Prop :=
 Rd H a (.tup xs) ∨
  ∃(o:Obj) (its:Array ah) (n:Nat),K.lookup a=some o/\o.cls= .type "tuple" /\o.data= .seq its n/\its.size<=sizeLine/\Vals xs its.toList
def aGr:ah->Option V
 | .none=>some .non
 | .bool b=>some (.bl b)
 | .int i _=>some (.int i)
 | .str x _=>some (.str x)
 | .bytes b _=>some (.byt b)
 | .float b _=>some (.flt b)
 | .ref a=>some (.ref a)
 | .type n=>some (.ty n)
 | _=>none
theorem RelV.abs{x:V}(r:RelV x u):aGr u=some x:=by
 cases x with
 | non=>cases r;rfl
 | bl _=>cases r;rfl
 | int _=>obtain⟨t,rfl⟩:=r;rfl
 | str _=>obtain⟨t,rfl⟩:=r;rfl
 | byt _=>obtain⟨t,rfl⟩:=r;rfl
 | flt _=>obtain⟨t,rfl⟩:=r;rfl
 | ref _=>cases r;rfl
 | ty _=>cases r;rfl
theorem RelV.inj{x:V}(r:RelV x u)(q:RelV y u):x=y:=dq (r.abs.symm.trans q.abs)
theorem Vals.inj:∀{xs ys:List V}{us:List ah},Vals xs us->Vals ys us->xs=ys
 | _,_,_,.nil,.nil=>rfl
 | _,_,_,.cons r t,.cons r' t'=>by rw[r.inj r',Vals.inj t t']
variable {K:W.Frag}
section
variable {ys:List V}
theorem SqL.of(h:H a=some (.lst xs)):SqL K H a xs:= .inl (.inl h)
theorem SqT.of(h:H a=some (.tup xs)):SqT K H a xs:= .inl (.inl h)
theorem Inv.list(I:Inv X pins σ H s)(h:SqL X.K H a xs):∃its:List ah,Vals xs its/\PlainL s.heap a its.toArray/\xs.length<=sizeLine:=by
 rcases h with h|⟨o,its,n,hk,hc,hd,hs,hz,r⟩
 .obtain⟨z,its,n,r,e⟩:=h.ok I.hok;exact⟨its,r,⟨_,n,e,rfl,rfl,rfl⟩,z⟩
 .refine⟨its.toList,r,⟨o,n,I.kIn a o hk,hc,hd,by simpa using hs⟩,?_⟩;have e:=r.length;simp only[ir]at e
  lia
theorem Inv.tuple(I:Inv X pins σ H s)(h:SqT X.K H a xs):∃its:List ah,Vals xs its/\IsTup s.heap a its.toArray/\xs.length<=sizeLine:=by
 rcases h with h|⟨o,its,n,hk,hc,hs,hz,r⟩
 .obtain⟨z,its,r,p⟩:=h.ok I.hok;exact⟨its,r,p,z⟩
 .refine⟨its.toList,r,⟨o,I.kIn a o hk,hc,n,by simpa using hs⟩,?_⟩;have e:=r.length;simp only[ir]at e
  lia
theorem Inv.list_inj(I:Inv X pins σ H s)(h:SqL X.K H a xs)(h':SqL X.K H a ys):xs=ys:=by
 obtain⟨its,r,⟨o,n,e,_,_,d⟩,_⟩:=I.list h;obtain⟨its',r',⟨o',n',e',_,_,d'⟩,_⟩:=I.list h';rw[e]at e';cases e';rw[d]at d';injection d' with d1 _;have:its=its':=by simpa using congrArg Array.toList d1
 subst this;exact r.inj r'
end
abbrev Cx.wish(X:Cx)(E:ah->bb->Prop):Cx:={ X with xe:=E }
abbrev Cx.nox(X:Cx):Cx:=X.wish λ_ _=>False
theorem Cx.Ok.wish(ok:X.Ok)(E:ah->bb->Prop):(X.wish E).Ok :=
 ⟨ok.mod,ok.kind,ok.glob,ok.blt,ok.above,ok.inj,ok.has,ok.cab,ok.hd,ok.frames,ok.stk,ok.exf,ok.bs,ok.bsz,ok.noex,ok.exfs,ok.funs,ok.frf⟩
theorem Cx.Ok.unwish(ok:(X.wish E).Ok):X.Ok :=
 ⟨ok.mod,ok.kind,ok.glob,ok.blt,ok.above,ok.inj,ok.has,ok.cab,ok.hd,ok.frames,ok.stk,ok.exf,ok.bs,ok.bsz,ok.noex,ok.exfs,ok.funs,ok.frf⟩
variable {tb:TS}
theorem Inv.wish(I:Inv X pins σ H s)(E:ah->bb->Prop):Inv (X.wish E) pins σ H s:=⟨I.ok.wish E,I.os,I.bare,I.base,I.loc,I.cell,I.free,I.freeC,I.pin,I.hok,I.len⟩
theorem Inv.unwish(I:Inv (X.wish E) pins σ H s):Inv X pins σ H s:=⟨I.ok.unwish,I.os,I.bare,I.base,I.loc,I.cell,I.free,I.freeC,I.pin,I.hok,I.len⟩
theorem SP.unwish{D:gY}{f:Flow}(h:SP (X.wish E) pins D f s'):SP X pins D f s':=by
 cases f with
 | next=>obtain⟨σ',H',I,q⟩:=h;exact⟨σ',H',I.unwish,q⟩
 | brk=>obtain⟨σ',H',I,q⟩:=h;exact⟨σ',H',I.unwish,q⟩
 | cont=>obtain⟨σ',H',I,q⟩:=h;exact⟨σ',H',I.unwish,q⟩
 | ret u=>obtain⟨v,σ',H',I,r,q⟩:=h;exact⟨v,σ',H',I.unwish,r,q⟩
theorem PE.nox{t:TE}(h:PE X.nox e t):PE X e t:=λpins s σ H Q I hw =>
 fm (h pins s σ H Q (I.wish _) hw) (λ_ _ ⟨v,H',I',r,q⟩=>⟨v,H',I'.unwish,r,q⟩) λ_ _ z=>gw z
theorem PSs.nox{st:List Stmt}{t:TS}(h:PSs X.nox st t):PSs X st t:=λpins s σ H D I hw =>
 fm (h pins s σ H D (I.wish _) hw) (λ_ _ q=>q.unwish) λ_ _ z=>gw z
section
variable {st:Stmt}{rest:List Stmt}{t u:TS}
def aAC:TS:=λD σ H=>D.nx σ H
def MU(t u:TS):TS:=λD σ H=>t { D with nx:=u D } σ H
theorem bM:PSs X [] aAC:=λ_ _ σ H _ I h=>qa ⟨σ,H,I,h⟩
theorem aB(h1:PS X st t)(h2:PSs X rest u):PSs X (st::rest) (MU t u):=by
 intro pins s σ H D I h;refine oh (thn (h1 pins s σ H { D with nx:=u D } I h) λf s1 q=> ?_);cases f with
 | next =>
  obtain⟨σ',H',I',q⟩:=q;exact h2 pins s1 σ' H' D I' q
 | ret v=>exact q
 | brk=>exact q
 | cont=>exact q
theorem aE(h1:PS X st t):PSs X [st] t:=by
 intro pins s σ H D I h;refine oh (thn (h1 pins s σ H D I h) λf s1 q=> ?_);cases f with
 | next=>exact qa q
 | ret v=>exact q
 | brk=>exact q
 | cont=>exact q
theorem Inv.quiet(I:Inv X pins σ H s):interactive X.env=false:=by simp[interactive,I.ok.kind]
def aAR(te:TE):TS:=λD σ H=>te σ H λ_ H1=>D.nx σ H1
theorem aU(he:PE X e te)(hs:wj e none pos.line X.env=pure false:=by rfl):PS X (.Expr e pos) (aAR te):=by
 intro pins s σ H D I h;refine wpAny_Expr_any (thn (he pins s σ H _ I h) ?_) I.quiet hs;rintro v s1 ⟨x,H1,I1,r1,q1⟩;exact⟨σ,H1,I1,q1⟩
def aEd(te:TE):TS:=λD σ H=>te σ H D.rt
theorem aT(he:PE X e te):PS X (.Return (some e) pos) (aEd te):=by
 intro pins s σ H D I h;refine wpAny_Return_some (thn (he pins s σ H _ I h) ?_);rintro v s1 ⟨x,H1,I1,r1,q1⟩;exact⟨x,σ,H1,I1,r1,q1⟩
def T5(c:TT)(t u:TS):TS:=λD σ H=>c σ H λb H1=>if b=true then t D σ H1 else u D σ H1
theorem b8{c:Expr}{a b:List Stmt}{tc:TT}(hc:PT X c tc)(ha:PSs X a t)(hb:PSs X b u):PS X (.If c a b pos) (T5 tc t u):=by
 intro pins s σ H D I h;refine wpAny_If (thn (hc pins s σ H _ I h) ?_);rintro d s1 ⟨H1,I1,q1⟩;cases d with
 | true=>exact ha pins s1 σ H1 D I1 q1
 | false=>exact hb pins s1 σ H1 D I1 q1
def aEY:TS:=λ_ _ _=>False
theorem gW:PS X st aEY:=λ_ _ _ _ _ _ h=>h.elim
end
abbrev TG:=V->St->Hp->(St->Hp->Prop)->Prop
abbrev TGs:=List V->St->Hp->(St->Hp->Prop)->Prop
def PG(X:Cx)(target:Expr)(t:TG):Prop :=
 ∀(pins:List (Addr×Obj)) (s:bb) (σ:St) (H:Hp) (v:V) (u:ah) (Q:St->Hp->Prop),Inv X pins σ H s->RelV v u->t v σ H Q →
  bz (cg X.prog X.w) X.A (uy target X.env u) (λ_ s'=>∃σ' H',Inv X pins σ' H' s'/\Q σ' H') X.xe s
def PGs(X:Cx)(ts:List Expr)(t:TGs):Prop :=
 ∀(pins:List (Addr×Obj)) (s:bb) (σ:St) (H:Hp) (vs:List V) (us:List ah) (Q:St->Hp->Prop),Inv X pins σ H s->Vals vs us->t vs σ H Q →
  bz (cg X.prog X.w) X.A (assignInOrder ((jb ts X.env).map (·.2)) us) (λ_ s'=>∃σ' H',Inv X pins σ' H' s'/\Q σ' H') X.xe s
abbrev DF:=V->V->V->Hp->(Hp->Prop)->Prop
def Z1(X:Cx)(t:DF):Prop :=
 ∀(pins:List (Addr×Obj)) (s:bb) (σ:St) (H:Hp) (o i v:V) (ov iv u:ah) (Q:Hp->Prop),Inv X pins σ H s->RelV o ov->RelV i iv->RelV v u->t o i v H Q →
  bz (cg X.prog X.w) X.A (setItem ov iv u) (λ_ s'=>∃H',Inv X pins σ H' s'/\Q H') X.xe s
abbrev TIp:=V->V->Hp->VK->Prop
def PIp(X:Cx)(op:Operator)(t:TIp):Prop :=
 ∀(pins:List (Addr×Obj)) (s:bb) (σ:St) (H:Hp) (x y:V) (v u:ah) (Q:VK),Inv X pins σ H s->RelV x v->RelV y u->t x y H Q →
  bz (cg X.prog X.w) X.A (inplaceOp op v u) (EP X pins σ Q) X.xe s
variable {g:TG}{op:Operator}
def cG(i:Nat):TG:=λv σ H Q=>Q (σ.set i (some v)) H
theorem aN{i:Nat}(hN:X.N.Nodup)(hi:X.N[i]? =some x)(hx:Loc X.env.scope x)(hf:X.fn x=true∨X.env.scope.names.lookup x=some .local:=by first|exact .inl rfl|exact .inr rfl|assumption):PG X (.Name x pos) (cG i):=by
 intro pins s σ H v u Q I r h;exact wpAny_assign_Name (DZ I hN hi hx r (λs' I'=>⟨_,H,I',h⟩) hf)
def NH:TGs:=λvs σ H Q=>vs=[]/\Q σ H
def rL(t:TG)(u:TGs):TGs:=λvs σ H Q=>∃v r,vs=v::r/\t v σ H λσ' H'=>u r σ' H' Q
theorem d8:PGs X [] NH:=by
 intro pins s σ H vs us Q I r h;obtain⟨e,h⟩:=h;subst e;cases r;exact assignInOrder_nil ⟨σ,H,I,h⟩
theorem aZ{t:TG}{u:TGs}(h1:PG X e t)(h2:PGs X es u)
  (hs:(jb (e::es) X.env).map (·.2)=uy e X.env::(jb es X.env).map (·.2):=by rfl):PGs X (e::es) (rL t u):=by
 intro pins s σ H vs us Q I r h;obtain⟨v,vr,e1,h⟩:=h;subst e1;cases r with
 | cons r rr =>
  rw[hs];refine assignInOrder_cons (thn (h1 pins s σ H _ _ _ I r h) ?_);rintro _ s1 ⟨σ1,H1,I1,q1⟩;exact h2 pins s1 σ1 H1 _ _ Q I1 rr q1
def GF(K:W.Frag)(n:Nat)(t:TGs):TG:=λv σ H Q=>∃a xs,v= .ref a/\SqT K H a xs/\xs.length=n/\t xs σ H Q
theorem v8{k:Nat}{t:TGs}(hc:X.calm=true)(h:PGs X es t)
  (hn:(jb es X.env).length=n:=by rfl)(hst:(jb es X.env).findIdx? (·.1)=none:=by rfl):PG X (.Tuple es k pos) (GF X.K n t):=by
 intro pins s σ H v u Q I r hw;obtain⟨a,xs,e1,hq,hl,hw⟩:=hw;subst e1;cases r;obtain⟨its,rv,ht,hz⟩:=I.tuple hq;refine assign_Tuple_tuple (I.ok.hd hc) ht (by simp[hn,←hl,rv.length]) hst λh' hx=> ?_;have I1:Inv X pins σ H { s with heap:=h' }:=I.kept (t':=s.toks) λb o e=>hx b o (cf (bc e)) e;exact h pins _ σ H xs _ Q I1 (by simpa using rv) hw
def aEp(to ti:TE)(t:DF):TG:=λv σ H Q=>to σ H λo H1=>ti σ H1 λi H2=>t o i v H2 λH3=>Q σ H3
theorem MR{o i:Expr}{ti:TE}{t:DF}(ho:PE X o to)(hi:PE X i ti)(hs:Z1 X t)
  (ha:∀v,uy (.Subscript o i pos) X.env v=(do
   let ov ←holding [v] (eval o X.env);let iv ←holding [v,ov] (eval i X.env)
   wg pos
   holding [v,ov,iv] (setItem ov iv v)
   release [v,ov,iv] []):=by intro _;rfl):PG X (.Subscript o i pos) (aEp to ti t):=by
 intro pins s σ H v u Q I r h;rw[ha];refine ae (gb (thn (ho pins s σ H _ I h) ?_));rintro ov s1 ⟨x,H1,I1,r1,q1⟩;refine ae (gb (thn (hi pins s1 σ H1 _ I1 q1) ?_));rintro iv s2 ⟨y,H2,I2,r2,q2⟩;refine ae (tp (ae (gb (thn (hs pins s2 σ H2 x y v ov iv u _ I2 r1 r2 r q2) ?_))));rintro _ s3 ⟨H3,I3,q3⟩;exact wpAny_release ⟨σ,H3,I3,q3⟩
def T0(te:TE)(g:TG):TS:=λD σ H=>te σ H λx H1=>g x σ H1 D.nx
theorem pQ(he:PE X e te)(hg:PG X tg g)(hs:swapsWithSole [tg] e pos.line X.env=pure false:=by rfl)(hw:swappedStores [tg] e X.env=pure none:=by rfl)
  (h1:(jb [tg] X.env).map (·.2)=[uy tg X.env]:=by rfl):PS X (.Assign [tg] e pos) (T0 te g):=by
 intro pins s σ H D I h;refine wpAny_Assign_stores (thn (he pins s σ H _ I h) ?_) hs hw;rintro v s1 ⟨x,H1,I1,r1,q1⟩;rw[h1];exact thn (hg pins s1 σ H1 x v _ I1 r1 q1) λ_ s2 q=>q
theorem aQ{i:Nat}(hN:X.N.Nodup)(hi:X.N[i]? =some x)(hx:Loc X.env.scope x)(he:PE X e te)(hs:wj e (some (.Name x pos')) pos.line X.env=pure false:=by rfl)(hf:X.fn x=true∨X.env.scope.names.lookup x=some .local:=by first|exact .inl rfl|exact .inr rfl|assumption):
  PS X (.Assign [.Name x pos'] e pos) (T0 te (cG i)):=by
 intro pins s σ H D I h;refine wpAny_Assign_Name (thn (he pins s σ H _ I h) ?_) hs;rintro v s1 ⟨y,H1,I1,r1,q1⟩;exact DZ I1 hN hi hx r1 (λs2 I2=>⟨_,H1,I2,q1⟩) hf
def aEr(i:Nat)(te:TE)(ti:TIp):TS:=λD σ H=>∃x,σ[i]? =some (some x)/\te σ H λy H1=>ti x y H1 λz H2=>D.nx (σ.set i (some z)) H2
theorem W6{i:Nat}{ti:TIp}{pos':Pos}(hN:X.N.Nodup)(hi:X.N[i]? =some x)(hx:Loc X.env.scope x)(he:PE X e te)(ho:PIp X op ti)(hf:X.fn x=true∨X.env.scope.names.lookup x=some .local:=by first|exact .inl rfl|exact .inr rfl|assumption):
  PS X (.AugAssign (.Name x pos') op e pos) (aEr i te ti):=by
 intro pins s σ H D I h;obtain⟨v,e1,h⟩:=h;obtain⟨m,hn,hl⟩:=I.loc;have vis:Vis X.env.scope x:=by rcases hx with k|k;exact .inl k;exact .inr (.inl k)
 obtain⟨u,r,l⟩:=hl i x v hi e1 vis;refine wpAny_AugAssign_Name ?_;have go:bz (cg X.prog X.w) X.A (eval e X.env) (λw s₂=>bz (cg X.prog X.w) X.A (inplaceOp op u w) (λr s₃=>bz (cg X.prog X.w) X.A (storeName X.env x r) (λ_=>SP X pins D .next) X.xe s₃) X.xe s₂) X.xe s:=by
  refine thn (he pins s σ H _ I h) ?_;rintro w s1 ⟨y,H1,I1,r1,q1⟩;refine thn (ho pins s1 σ H1 v y u w _ I1 r r1 q1) ?_;rintro z s2 ⟨zv,H2,I2,r2,q2⟩;exact DZ I2 hN hi hx r2 (λs3 I3=>⟨_,H2,I3,q2⟩) hf
 rcases l with⟨hk,hm⟩|⟨hk,c,hc,hcell⟩
 .exact wpAny_loadName_local I.ok.kind hk hn hm go
 .rcases hk with hk|hk
  .exact wpAny_loadName_cell I.ok.kind hk hc hcell go
  .rcases hx with k|k
   .have:X.env.scope.names.lookup x=some .free:=hk;rw[k]at this;cases this
   .have:X.env.scope.names.lookup x=some .free:=hk;rw[k]at this;cases this
def aBd(to ti te:TE)(tget:V->V->Hp->VK->Prop)(tip:TIp)(tset:DF):TS:=λD σ H=>to σ H λo H1=>ti σ H1 λi H2=>tget o i H2 λx H3=>te σ H3 λy H4=>tip x y H4 λz H5=>tset o i z H5 λH6=>D.nx σ H6
def aD9(X:Cx)(t:V->V->Hp->VK->Prop):Prop :=
 ∀(pins:List (Addr×Obj)) (s:bb) (σ:St) (H:Hp) (o i:V) (ov iv:ah) (Q:VK),Inv X pins σ H s->RelV o ov->RelV i iv->t o i H Q →
  bz (cg X.prog X.w) X.A (wk ov iv) (EP X pins σ Q) X.xe s
theorem Q6{o i:Expr}{ti:TE}{tget:V->V->Hp->VK->Prop}{tip:TIp}{tset:DF}(ho:PE X o to)(hi:PE X i ti)(hg:aD9 X tget)(he:PE X e te)(hp:PIp X op tip)(hs:Z1 X tset)
  (ha:∀ov iv new,augStore i ov iv new=(do holding [new,ov,iv] (setItem ov iv new);release [new,ov,iv] [];pure .next):=by intros;rfl):PS X (.AugAssign (.Subscript o i tpos) op e pos) (aBd to ti te tget tip tset):=by
 intro pins s σ H D I h;refine qb (thn (ho pins s σ H _ I h) ?_) ha;rintro ov s1 ⟨x1,H1,I1,r1,q1⟩;refine thn (hi pins s1 σ H1 _ I1 q1) ?_;rintro iv s2 ⟨x2,H2,I2,r2,q2⟩;refine thn (hg pins s2 σ H2 x1 x2 ov iv _ I2 r1 r2 q2) ?_;rintro old s3 ⟨x3,H3,I3,r3,q3⟩;refine thn (he pins s3 σ H3 _ I3 q3) ?_;rintro v s4 ⟨x4,H4,I4,r4,q4⟩;refine thn (hp pins s4 σ H4 x3 x4 old v _ I4 r3 r4 q4) ?_;rintro new s5 ⟨x5,H5,I5,r5,q5⟩;refine thn (hs pins s5 σ H5 x1 x2 x5 ov iv new _ I5 r1 r2 r5 q5) ?_;rintro _ s6 ⟨H6,I6,q6⟩;exact⟨σ,H6,I6,q6⟩
def ipI(f:Int->Int->Int):TIp:=λx y H Q=>∃i j,x= .int i/\y= .int j/\Q (.int (f i j)) H
theorem LI:PIp X .Add (ipI λi j=>i+j):=by
 intro pins s σ H x y v u Q I r1 r2 h;obtain⟨i,j,e1,e2,q⟩:=h;subst e1;subst e2;obtain⟨t,rfl⟩:=r1;obtain⟨t',rfl⟩:=r2;exact iadd_int ⟨.int _,H,I.tok _,⟨_,rfl⟩,q⟩
theorem aEE:PIp X .Sub (ipI λi j=>i - j):=by
 intro pins s σ H x y v u Q I r1 r2 h;obtain⟨i,j,e1,e2,q⟩:=h;subst e1;subst e2;obtain⟨t,rfl⟩:=r1;obtain⟨t',rfl⟩:=r2;exact isub_int ⟨.int _,H,I.tok _,⟨_,rfl⟩,q⟩
def V5(c:TT)(tb:TS):TS:=λD σ H=>∃W:Nat->St->Hp->Prop,(∃m,W m σ H)/\∀m σ H,W m σ H →
 c σ H λb H1=>if b=true then ∃N:St->Hp->Prop,(∀σ' H',N σ' H'->∃m',m'<m/\W m' σ' H')/\tb { D with nx:=N,ct:=N,bk:=D.nx } σ H1 else D.nx σ H1
theorem sV{c:Expr}{body:List Stmt}{tc:TT}(hp:PassesOwn (cg X.prog X.w) X.A X.env X.xe)(hc:PT X c tc)(hb:PSs X body tb):PS X (.While c body [] pos) (V5 tc tb):=by
 intro pins s σ H D I h;obtain⟨W,⟨m0,w0⟩,turn⟩:=h;refine wpAny_While (codeAny_whileLoop (λn s'=>∃σ' H',Inv X pins σ' H' s'/\W n σ' H') ?_ m0 ⟨σ,H,I,w0⟩);rintro n s1 ⟨σ1,H1,I1,w1⟩;refine jn hp (thn (hc pins s1 σ1 H1 _ I1 (turn n σ1 H1 w1)) ?_);rintro b s2 ⟨H2,I2,q2⟩;cases b with
 | true =>
  obtain⟨N,hN,q2⟩:=q2;rw[if_pos rfl];refine jn hp (thn (hb pins s2 σ1 H2 _ I2 q2) λf s3 q3=> ?_);cases f with
  | next =>
   obtain⟨σ3,H3,I3,n3⟩:=q3;obtain⟨m',hm,w3⟩:=hN σ3 H3 n3;exact⟨m',hm,σ3,H3,I3,w3⟩
  | cont =>
   obtain⟨σ3,H3,I3,n3⟩:=q3;obtain⟨m',hm,w3⟩:=hN σ3 H3 n3;exact⟨m',hm,σ3,H3,I3,w3⟩
  | brk=>exact q3
  | ret v=>exact q3
 | false =>
  rw[if_neg bw];exact qa ⟨σ1,H2,I2,q2⟩
structure It where
 go:Nat->Hp->Prop
 yld:Nat->Hp->V->Hp->Prop
 stop:Nat->Hp->Prop
def sN(X:Cx)(pins:List (Addr×Obj))(H:Hp)(b:Addr):Prop :=
 H b=none/\b≠X.env.locals/\b∉X.fs/\(b∈X.ex∨X.s₀.heap.objs.size<=b)/\(∀x c,X.env.cells.lookup x=some c->c≠b)/\∀p∈X.pn++pins,p.1≠b
theorem Inv.fpOk(I:Inv X pins σ H s)(hb:s.heap.objs.size<=b)(hn:H' b=none):sN X pins H' b:=by
 refine⟨hn,xf (bt I.lt hb),I.nofs hb,.inr (ee I.sz hb),λx c e z=> ?_,λp hp z=> ?_⟩
 .obtain⟨v,q⟩:=I.cell x c e;exact absurd (bt q.lt (by rw[z];exact hb)) (eg _)
 .exact absurd (bt (bc (I.pin p hp).1) (by rw[z];exact hb)) (eg _)
structure D7(P:fh)(w:gh)(K:W.Frag)(tg:Expr)(J:It)(fp:List Addr)(it:Addr)(tn:Nat->Heap->Prop):Prop where
 mem:it∈fp
 obj:∀i h,tn i h->∀b∈fp,∃o,h.get? b=some o/\∀v,o.data≠ .cell v
 keep:∀i h h',tn i h->(∀b∈fp,∀o,h.get? b=some o->h'.get? b=some o)->tn i h'
 item:∀(X:Cx),X.prog=P->X.w=w->X.K=K->X.calm=true->∀(i:Nat) (pins:List (Addr×Obj)) (s:bb) (σ:St) (H:Hp) (E:ah->bb->Prop),Inv X pins σ H s->(∀b∈fp,sN X pins H b)->tn i s.heap->J.go i H →
  bz (cg P w) X.A (oj (.ref it)) (λr s1=>∃u,r=some u ∧
   bz (cg P w) X.A (qc tg (.ref it) u) (λ_ s2=>∃x H',Inv X pins σ H' s2/\RelV x u/\J.yld i H x H'/\tn (i+1) s2.heap/\∀b∈fp,H' b=none) E s1) E s
 done:∀(X:Cx),X.prog=P->X.w=w->X.K=K->X.calm=true->∀(i:Nat) (pins:List (Addr×Obj)) (s:bb) (σ:St) (H:Hp) (E:ah->bb->Prop),Inv X pins σ H s->(∀b∈fp,sN X pins H b)->tn i s.heap->J.stop i H →
  bz (cg P w) X.A (oj (.ref it)) (λr s1=>r=none/\Inv X pins σ H s1) E s
 self:∀(A:jy) (i:Nat) (s:bb) (Q:ah->bb->Prop) (E:ah->bb->Prop),tn i s.heap->Q (.ref it) s->bz (cg P w) A (pyIter (.ref it)) Q E s
abbrev TI:=St->Hp->(It->Hp->Prop)->Prop
def PIE(X:Cx)(pins:List (Addr×Obj))(σ:St)(tg:Expr)(R:It->Hp->Prop)(itv:ah)(s2:bb):Prop :=
 ∃(it:Addr) (fp:List Addr) (tn:Nat->Heap->Prop) (J:It) (H':Hp),itv= .ref it/\Inv X pins σ H' s2/\D7 X.prog X.w X.K tg J fp it tn/\tn 0 s2.heap/\(∀b∈fp,sN X pins H' b)/\R J H'
def PI(X:Cx)(tg iter:Expr)(wi:TI):Prop :=
 ∀(pins:List (Addr×Obj)) (s:bb) (σ:St) (H:Hp) (R:It->Hp->Prop),Inv X pins σ H s->wi σ H R →
  bz (cg X.prog X.w) X.A (eval iter X.env) (λv s1=>bz (cg X.prog X.w) X.A (pyIter v) (PIE X pins σ tg R) X.xe s1) X.xe s
theorem T7{M:Model}{n:String}{vs:Array ah}{Q:Unit->bb->Prop}(ho:s.heap.get? it=some o)(hc:o.cls= .type n)(hd:o.data= .fields vs)
  (hn:["enumerate","zip","dict_itemiterator","dict_reverseitemiterator","odict_iterator","itertools.zip_longest","itertools.pairwise"].contains n=false)(hQ:Q () s):bz M A (qc tg (.ref it) u) Q E s:=by
 unfold qc;cases tg<;>first
  | exact av hQ
  | (cases u<;>first
    | exact av hQ
    | (refine ae (wpAny_load ho ?_);rw[hc,hd];show bz M A (if (["enumerate","zip","dict_itemiterator","dict_reverseitemiterator","odict_iterator","itertools.zip_longest","itertools.pairwise"].contains n&&vs[0]? ==some (jl _))=true then _ else _) Q E s;rw[if_neg (by intro h;rw[hn,vn]at h;cases h)];exact av hQ))
def Itl(K:W.Frag)(a:Addr):It :=
 ⟨λi H=>∃xs x,SqL K H a xs/\xs[i]? =some x,λi H x H'=>H'=H/\∀xs,SqL K H a xs->xs[i]? =some x,λi H=>∃xs,SqL K H a xs/\xs.length<=i⟩
def Itr(lo:Int)(n:Nat):It:=⟨λi _=>i<n,λi H x H'=>H'=H/\x= .int (lo+i),λi _=>n<=i⟩
theorem UT(a it:Addr):D7 P w K tg (Itl K a) [it] it (λi h=>h.IsListIter it a i) where
 mem:=by simp
 obj:=λi h st b hb=>by
  have e:b=it:=by simpa using hb
  subst e;obtain⟨o,e,c,d⟩:=st;exact⟨o,e,λv z=>by rw[d]at z;cases z⟩
 keep:=λi h h' st k=>st.at λo e=>k it (by simp) o e
 item:=by
  intro X hP hw hK hc i pins s σ H E I hf st hg;subst hP hw hK;obtain⟨xs,x,hq,hx⟩:=hg;obtain⟨its,rv,p,hz⟩:=I.list hq;obtain⟨u,hu,ru⟩:=rv.get hx;obtain⟨f0,f1,f2,f3,f4,f5⟩:=hf it (by simp);refine wpAny_pyNext_list_item st p.isList (x:=u) (by simpa using hu) λh' st' sb=> ?_;have I1:Inv X pins σ H { s with heap:=h' }:=I.turned (t':=s.toks) (λb o hb e=>(sb.2 b hb).trans e) f0 f1 f3 f4 f5;obtain⟨o,e,c,d⟩:=id st';exact⟨u,rfl,T7 (s:={ s with heap:=h' }) e c d (by decide) ⟨x,H,I1,ru,⟨rfl,λys hy=>by rw[I.list_inj hy hq];exact hx⟩,st',λb hb=>(hf b hb).1⟩⟩
 done:=by
  intro X hP hw hK hc i pins s σ H E I hf st hg;subst hP hw hK;obtain⟨xs,hq,hx⟩:=hg;obtain⟨its,rv,p,hz⟩:=I.list hq;obtain⟨f0,f1,f2,f3,f4,f5⟩:=hf it (by simp);have hl:=rv.length;exact wpAny_pyNext_list_end (I.ok.hd hc) st p.isList (by simp;lia) λh' eb=>⟨rfl,I.turned (t':=s.toks) (λb o hb e=>eb b o hb e) f0 f1 f3 f4 f5⟩
 self:=λ_ _ _ _ _ st h=>wpAny_pyIter_listiter st h
theorem RV(it:Addr)(lo:Int)(n:Nat):D7 P w K tg (Itr lo n) [it] it (λi h=>IsRangeIter h it (lo+(i:Nat) * 1) ((n:Int) - (i:Nat)) 1) where
 mem:=by simp
 obj:=λi h st b hb=>by
  have e:b=it:=by simpa using hb
  subst e;exact⟨_,st,λv z=>by
   have z':Data.fields _=Data.cell v:=z;cases z'⟩
 keep:=λi h h' st k=>k it (by simp) _ st
 item:=by
  intro X hP hw hK hc i pins s σ H E I hf st hg;subst hP hw hK;obtain⟨f0,f1,f2,f3,f4,f5⟩:=hf it (by simp);have W:=Walks.range (prog:=X.prog) (w:=X.w) (I.ok.hd hc) it lo 1 n;refine W.item i s _ _ hg st λv h' tk hv st' kk=> ?_;obtain⟨t,rfl⟩:=hv;have I1:Inv X pins σ H { s with heap:=h',toks:=tk }:=I.turned (λb o hb e=>kk b o (by simpa using hb) e) f0 f1 f3 f4 f5;refine⟨_,rfl,T7 (s:={ s with heap:=h',toks:=tk }) (n:= "range_iterator") st' rfl rfl (by decide) ⟨.int (lo+i),H,I1,⟨t,?_⟩,⟨rfl,rfl⟩,st',λb hb=>(hf b hb).1⟩⟩;rw[Int.mul_one]
 done:=by
  intro X hP hw hK hc i pins s σ H E I hf st hg;subst hP hw hK;obtain⟨f0,f1,f2,f3,f4,f5⟩:=hf it (by simp);exact wpAny_pyNext_range_end (I.ok.hd hc) st (by have:n<=i:=hg;lia) λh' eb=>⟨rfl,I.turned (t':=s.toks) (λb o hb e=>eb b o hb e) f0 f1 f3 f4 f5⟩
 self:=λ_ _ _ _ _ st h=>wpAny_pyIter_rangeiter st h
variable {i lo:Int}
def aAU(K:W.Frag)(tl:TE):TI:=λσ H R=>tl σ H λx H1=>∃a,x= .ref a/\(∃xs,SqL K H1 a xs)/\R (Itl K a) H1
theorem bP{l:Expr}{tl:TE}(hl:PE X l tl):PI X tg l (aAU X.K tl):=by
 intro pins s σ H R I h;refine thn (hl pins s σ H _ I h) ?_;rintro v s1 ⟨x,H1,I1,r1,q1⟩;obtain⟨a,e,⟨xs,hq⟩,q⟩:=q1;subst e;cases r1;obtain⟨its,rv,p,hz⟩:=I1.list hq;refine ky p.isList ?_;refine⟨s1.heap.objs.size,[s1.heap.objs.size],_,_,H1,rfl,I1.kept (t':=s1.toks) λb o e=>aj _ e,UT a _,⟨_,bg _ rfl,rfl,rfl⟩,λb hb=> ?_,q⟩;have e:b=s1.heap.objs.size:=by simpa using hb
 subst e;exact I1.fpOk (au _) (I1.hok.fresh (au _))
theorem NT{R:It->Hp->Prop}{hi:Int}{t u v:Tok}{tk:Nat}(I:Inv X pins σ H s)(h1: -(2^62)<=lo)(h2:lo<2^62)(h3: -(2^62)<=hi)(h4:hi<2^62)
  (q:R (Itr lo (hi - lo).toNat) H):bz (cg X.prog X.w) X.A (pyIter (.ref s.heap.objs.size)) (PIE X pins σ tg R) E { s with heap:=s.heap.push { cls:= .type "range",data:= .fields #[.int lo t,.int hi u,.int 1 v] },toks:=tk }:=by
 refine wpAny_pyIter_range (IsRange.new ..) (small_one h1 h2 h3 h4) ?_;have I1:Inv X pins σ H { s with heap:=s.heap.push { cls:= .type "range",data:= .fields #[.int lo t,.int hi u,.int 1 v] },toks:=tk }:=I.kept λb o e=>aj _ e;refine⟨(s.heap.push { cls:= .type "range",data:= .fields #[.int lo t,.int hi u,.int 1 v] }).objs.size,[(s.heap.push { cls:= .type "range",data:= .fields #[.int lo t,.int hi u,.int 1 v] }).objs.size],_,_,H,rfl,
  I1.kept (t':=tk) λb o e=>aj _ e,RV _ lo (hi - lo).toNat,?_,λb hb=> ?_,q⟩
 .have e1:lo+((0:Nat):Int) * 1=lo:=by simp
  have e2:(((hi - lo).toNat:Nat):Int) - ((0:Nat):Int)=sy.Range.rangeSize lo hi 1:=by rw[rangeSize_one];split<;>lia
  show IsRangeIter _ _ (lo+((0:Nat):Int) * 1) ((((hi - lo).toNat:Nat):Int) - ((0:Nat):Int)) 1;rw[e1,e2];exact bg _ rfl
 .have e:b=(s.heap.push { cls:= .type "range",data:= .fields #[.int lo t,.int hi u,.int 1 v] }).objs.size:=by simpa using hb
  subst e;exact I1.fpOk (au _) (I1.hok.fresh (au _))
def aA4(ta:TA):TI:=λσ H R=>ta σ H λvs H1=>∃j:Int,vs=[.int j]/\ -(2^62)<=j/\j<2^62/\R (Itr 0 j.toNat) H1
def aAP(ta:TA):TI:=λσ H R=>ta σ H λvs H1=>∃i j:Int,vs=[.int i,.int j]/\(-(2^62)<=i/\i<2^62/\ -(2^62)<=j/\j<2^62)/\R (Itr i (j - i).toNat) H1
theorem gN{a:Expr}{ta:TA}{p:Pos}(hg:Gl X "range")(hm:X.mg "range" =none)(ha:PA X [a] ta)(hs:dg [a] X.env=[(false,eval a X.env)]:=by rfl):PI X tg (.Call (.Name "range" p) [a] [] pos) (aA4 ta):=by
 intro pins s σ H R I h;refine Call_ (zM I hg hm boot_range (kz (thn (ha pos pins s σ H _ I h) ?_) hs rfl));rintro us s1 ⟨vs,H1,I1,r1,q1⟩;obtain⟨j,e,q1,q2,q⟩:=q1;subst e;cases r1 with
 | cons r rr =>
  cases rr;obtain⟨t,rfl⟩:=r;exact call_range_1 (NT I1 (by lia) (by lia) q1 q2 (by simpa using q))
theorem XE{a b:Expr}{ta:TA}{p pos:Pos}(hg:Gl X "range")(hm:X.mg "range" =none)(ha:PA X [a,b] ta)(hs:dg [a,b] X.env=[(false,eval a X.env),(false,eval b X.env)]:=by rfl)(hs2:dg [b] X.env=[(false,eval b X.env)]:=by rfl):
  PI X tg (.Call (.Name "range" p) [a,b] [] pos) (aAP ta):=by
 intro pins s σ H R I h;refine Call_ (zM I hg hm boot_range (kz (thn (ha pos pins s σ H _ I h) λus s1 ⟨vs,H1,I1,r1,q1⟩=> ?_) (by rw[hs,hs2]) (by rw[hs2];rfl)));obtain⟨i,j,e,⟨q1,q2,q3,q4⟩,q⟩:=q1;subst e;cases r1 with
 | cons r rr =>
  cases rr with
  | cons r' rr =>
   cases rr;obtain⟨t,rfl⟩:=r;obtain⟨t',rfl⟩:=r';exact call_range_2 (NT I1 q1 q2 q3 q4 q)
def aE4(wi:TI)(g:TG)(tb:TS):TS:=λD σ H=>wi σ H λJ H1=>∃W:Nat->Nat->St->Hp->Prop,(∃m,W 0 m σ H1)/\∀i m σ H,W i m σ H →
 (J.stop i H/\D.nx σ H)∨(J.go i H/\∃N:St->Hp->Prop,(∀σ' H',N σ' H'->∃m',m'<m/\W (i+1) m' σ' H')/\∀x H',J.yld i H x H'->g x σ H' λσ2 H2=>tb { D with nx:=N,ct:=N,bk:=D.nx } σ2 H2)
def pT(fp:List Addr)(h:Heap):List (Addr×Obj):=fp.filterMap λb=>(h.get? b).map λo=>(b,o)
theorem lX{fp:List Addr}(hb:b∈fp)(e:h.get? b=some o):(b,o)∈pT fp h:=List.mem_filterMap.mpr ⟨b,hb,by rw[e];rfl⟩
theorem JH{fp:List Addr}{p:Addr×Obj}(hp:p∈pT fp h):p.1∈fp/\h.get? p.1=some p.2:=by
 obtain⟨b,hb,e⟩:=List.mem_filterMap.mp hp;cases q:h.get? b with
 | none=>rw[q]at e;cases e
 | some o =>
  rw[q]at e;have e':(b,o)=p:=dq e;subst e';exact⟨hb,q⟩
theorem Inv.pinned{fp:List Addr}(I:Inv X pins σ H s)(hf:∀b∈fp,sN X pins H b)(ho:∀b∈fp,∃o,s.heap.get? b=some o/\∀v,o.data≠ .cell v):Inv X (pins++pT fp s.heap) σ H s :=
 I.pins_of λp hp=>(bf.mp hp).elim (λz=>I.pin p (be _ z)) λz=>by
  obtain⟨hb,e⟩:=JH z;obtain⟨f0,f1,f2,_⟩:=hf p.1 hb;obtain⟨o,e',d⟩:=ho p.1 hb;rw[e]at e';cases e';exact⟨e,f0,f1,f2,d⟩
theorem Inv.unpinned{pl:List (Addr×Obj)}(I:Inv X (pins++pl) σ H s):Inv X pins σ H s:=I.pins_of λp hp=>I.pin p (be _ (dz _ hp))
theorem c4{iter:Expr}{body:List Stmt}{wi:TI}(hp:PassesOwn (cg X.prog X.w) X.A X.env X.xe)(hc:X.calm=true)(hi:PI X tg iter wi)(hg:PG X tg g)(hb:PSs X body tb)
  (hs:∀x,sg iter X.env x=pure x:=by intro _;rfl):PS X (.For tg iter body [] pos) (aE4 wi g tb):=by
 intro pins s σ H D I h;refine wpAny_For (thn (hi pins s σ H _ I h) λv s1 h1=>thn h1 λitv s2 h2=> ?_) hs;obtain⟨it,fp,tn,J,H2,e,I2,T,st2,f2,W,⟨m0,w0⟩,turn⟩:=h2;subst e;have stat:∀{H':Hp},(∀b∈fp,H' b=none)->∀b∈fp,sN X pins H' b:=λhn b hb=>⟨hn b hb,(f2 b hb).2⟩
 refine codeAny_forLoop_any (λn s'=>∃i σ' H',Inv X pins σ' H' s'/\tn i s'.heap/\(∀b∈fp,H' b=none)/\W i n σ' H') ?_ m0 ⟨0,σ,H2,I2,st2,λb hb=>(f2 b hb).1,w0⟩;rintro n s3 ⟨i,σ3,H3,I3,st3,fr3,w3⟩;rcases turn i n σ3 H3 w3 with⟨stop,qn⟩|⟨go,N,hN,step⟩
 .refine jn hp (thn (T.done X rfl rfl rfl hc i pins s3 σ3 H3 X.xe I3 (stat fr3) st3 stop) ?_);rintro r s4 ⟨hr,I4⟩;subst hr;exact qa ⟨σ3,H3,I4,qn⟩
 .refine jn hp (thn (T.item X rfl rfl rfl hc i pins s3 σ3 H3 X.xe I3 (stat fr3) st3 go) ?_);rintro r s4 ⟨u,hr,h4⟩;subst hr;refine jn hp (thn h4 ?_);rintro _ s5 ⟨x,H5,I5,r5,y5,st5,fr5⟩;have I5':=I5.pinned (stat fr5) (T.obj _ _ st5);refine jn hp (thn (hg _ s5 σ3 H5 x u _ I5' r5 (step x H5 y5)) ?_);rintro _ s6 ⟨σ6,H6,I6,q6⟩;refine jn hp (thn (hb _ s6 σ6 H6 _ I6 q6) λf s7 q7=> ?_);have again:∀{σ7:St}{H7:Hp},Inv X (pins++pT fp s5.heap) σ7 H7 s7->N σ7 H7->∃m,m<n/\∃i σ' H',Inv X pins σ' H' s7/\tn i s7.heap/\(∀b∈fp,H' b=none)/\W i m σ' H':=λ{σ7 H7} I7 n7=>by
   obtain⟨m',hm,w7⟩:=hN σ7 H7 n7;refine⟨m',hm,i+1,σ7,H7,I7.unpinned,T.keep _ _ _ st5 λb hb o e=>(I7.pin (b,o) (be _ (be _ (lX hb e)))).1,λb hb=> ?_,w7⟩;obtain⟨o,e,d⟩:=T.obj _ _ st5 b hb;exact(I7.pin (b,o) (be _ (be _ (lX hb e)))).2.1
  cases f with
  | next=>obtain⟨σ7,H7,I7,n7⟩:=q7;exact again I7 n7
  | cont=>obtain⟨σ7,H7,I7,n7⟩:=q7;exact again I7 n7
  | brk=>obtain⟨σ7,H7,I7,q7⟩:=q7;exact⟨σ7,H7,I7.unpinned,q7⟩
  | ret v=>obtain⟨x7,σ7,H7,I7,r7,q7⟩:=q7;exact⟨x7,σ7,H7,I7.unpinned,r7,q7⟩
theorem ZH{D:gY}(Pv:Nat->St->Hp->Prop)(h0:Pv 0 σ H)(hl:∀i σ H,i<=xs.length->Pv i σ H->SqL K H a xs)
  (hs:∀i x σ H,xs[i]? =some x->Pv i σ H->g x σ H λσ2 H2=>tb { D with nx:=Pv (i+1),ct:=Pv (i+1),bk:=D.nx } σ2 H2)(hd:∀σ H,Pv xs.length σ H->D.nx σ H) :
  ∃W:Nat->Nat->St->Hp->Prop,(∃m,W 0 m σ H)/\∀i m σ H,W i m σ H →
   ((Itl K a).stop i H/\D.nx σ H)∨((Itl K a).go i H/\∃N:St->Hp->Prop,(∀σ' H',N σ' H'->∃m',m'<m/\W (i+1) m' σ' H')/\∀x H',(Itl K a).yld i H x H'->g x σ H' λσ2 H2=>tb { D with nx:=N,ct:=N,bk:=D.nx } σ2 H2):=by
 refine⟨λi m σ H=>m=xs.length - i/\i<=xs.length/\Pv i σ H,⟨xs.length,by simp,fk _,h0⟩,?_⟩;rintro i m σ H ⟨rfl,hi,p⟩;have q:=hl i σ H hi p
 by_cases hlt:i<xs.length
 .refine .inr ⟨⟨xs,xs[i],q,by simp[hlt]⟩,Pv (i+1),λσ' H' p'=>⟨xs.length - (i+1),by lia,rfl,hlt,p'⟩,λx H' y=> ?_⟩;obtain⟨e,y⟩:=y;subst e;exact hs i x σ _ (y xs q) p
 .have e:i=xs.length:=by lia
  subst e;exact .inl ⟨⟨xs,q,au _⟩,hd σ H p⟩
theorem XV{D:gY}(Pv:Nat->St->Hp->Prop)(h0:Pv 0 σ H)
  (hs:∀i σ H,i<n->Pv i σ H->g (.int (lo+i)) σ H λσ2 H2=>tb { D with nx:=Pv (i+1),ct:=Pv (i+1),bk:=D.nx } σ2 H2)(hd:∀σ H,Pv n σ H->D.nx σ H) :
  ∃W:Nat->Nat->St->Hp->Prop,(∃m,W 0 m σ H)/\∀i m σ H,W i m σ H →
   ((Itr lo n).stop i H/\D.nx σ H)∨((Itr lo n).go i H/\∃N:St->Hp->Prop,(∀σ' H',N σ' H'->∃m',m'<m/\W (i+1) m' σ' H')/\∀x H',(Itr lo n).yld i H x H'->g x σ H' λσ2 H2=>tb { D with nx:=N,ct:=N,bk:=D.nx } σ2 H2):=by
 refine⟨λi m σ H=>m=n - i/\i<=n/\Pv i σ H,⟨n,by simp,fk _,h0⟩,?_⟩;rintro i m σ H ⟨rfl,hi,p⟩
 by_cases hlt:i<n
 .refine .inr ⟨hlt,Pv (i+1),λσ' H' p'=>⟨n - (i+1),by lia,rfl,hlt,p'⟩,λx H' y=> ?_⟩;obtain⟨e,y⟩:=y;subst e y;exact hs i σ _ hlt p
 .have e:i=n:=by lia
  subst e;exact .inl ⟨au _,hd σ H p⟩
abbrev R2:=V->V->Hp->VK->Prop
def OpR(X:Cx)(f:ah->ah->Sem ah)(r:R2):Prop :=
 ∀(pins:List (Addr×Obj)) (s:bb) (σ:St) (H:Hp) (x y:V) (v u:ah) (Q:VK),Inv X pins σ H s->RelV x v->RelV y u->r x y H Q →
  bz (cg X.prog X.w) X.A (f v u) (EP X pins σ Q) X.xe s
def UnR(X:Cx)(f:ah->Sem ah)(r:V->Hp->VK->Prop):Prop :=
 ∀(pins:List (Addr×Obj)) (s:bb) (σ:St) (H:Hp) (x:V) (v:ah) (Q:VK),Inv X pins σ H s->RelV x v->r x H Q →
  bz (cg X.prog X.w) X.A (f v) (EP X pins σ Q) X.xe s
def dQ(X:Cx)(f:ah)(r:List V->Hp->VK->Prop):Prop :=
 ∀(pins:List (Addr×Obj)) (s:bb) (σ:St) (H:Hp) (xs:List V) (us:List ah) (Q:VK),Inv X pins σ H s->Vals xs us->r xs H Q →
  bz (cg X.prog X.w) X.A (call f us) (EP X pins σ Q) X.xe s
def tOp(r:R2)(ta tb:TE):TE:=λσ H Q=>ta σ H λx H1=>tb σ H1 λy H2=>r x y H2 Q
def tUn(r:V->Hp->VK->Prop)(ta:TE):TE:=λσ H Q=>ta σ H λx H1=>r x H1 Q
def rI(C:Int->Int->Prop)(g:Int->Int->V):R2:=λx y H Q=>∃i j,x= .int i/\y= .int j/\C i j/\Q (g i j) H
def rI0(g:Int->Int->V):R2:=λx y H Q=>∃i j,x= .int i/\y= .int j/\Q (g i j) H
def rU(g:Int->V):V->Hp->VK->Prop:=λx H Q=>∃i,x= .int i/\Q (g i) H
section
variable {a b c:Expr}{tb tc:TE}
theorem ZF(ha:PE X a ta)(hb:PE X b tb){R:V->V->Hp->Prop}(I:Inv X pins σ H s)
  (h:ta σ H λx H1=>tb σ H1 λy H2=>R x y H2){Q:ah->bb->Prop}{f:ah->ah->Sem ah}
  (hf:∀v u s2 x y H2,Inv X pins σ H2 s2->RelV x v->RelV y u->R x y H2->bz (cg X.prog X.w) X.A (f v u) Q X.xe s2) :
  bz (cg X.prog X.w) X.A (eval a X.env) (λv s₁=>bz (cg X.prog X.w) X.A (eval b X.env) (λu s₂=>bz (cg X.prog X.w) X.A (f v u) Q X.xe s₂) X.xe s₁) X.xe s:=by
 refine thn (ha pins s σ H _ I h) ?_;rintro v s1 ⟨x,H1,I1,r1,q1⟩;refine thn (hb pins s1 σ H1 _ I1 q1) ?_;rintro u s2 ⟨y,H2,I2,r2,q2⟩;exact hf v u s2 x y H2 I2 r1 r2 q2
theorem aI{r:R2}(ho:OpR X (kg op) r)(ha:PE X a ta)(hb:PE X b tb):PE X (.BinOp a op b pos) (tOp r ta tb):=by
 intro pins s σ H Q I h;exact wpAny_BinOp (ZF ha hb I h λv u s2 x y H2 I2 rx ry q=>ho pins s2 σ H2 x y v u Q I2 rx ry q)
theorem aAM{op:UnaryOp}{r:V->Hp->VK->Prop}(ho:UnR X (unaryOp op) r)(ha:PE X a ta):PE X (.UnaryOp op a pos) (tUn r ta):=by
 intro pins s σ H Q I h;refine UnaryOp_ (thn (ha pins s σ H _ I h) ?_);rintro v s1 ⟨x,H1,I1,r1,q1⟩;exact ho pins s1 σ H1 x v Q I1 r1 q1
theorem opI{f:ah->ah->Sem ah}{C:Int->Int->Prop}{g:Int->Int->Int}
  (rule:∀(i j:Int) (t u:Tok) (s:bb) (Q:ah->bb->Prop) (E:ah->bb->Prop),C i j->Q (.int (g i j) s.toks) { s with toks:=s.toks+1 }->bz (cg X.prog X.w) X.A (f (.int i t) (.int j u)) Q E s) :
  OpR X f (rI C λi j=> .int (g i j)):=by
 intro pins s σ H x y v u Q I rx ry h;obtain⟨i,j,rfl,rfl,hc,q⟩:=h;obtain⟨t,rfl⟩:=rx;obtain⟨t',rfl⟩:=ry;exact rule i j t t' s _ _ hc ⟨.int (g i j),H,I.tok _,⟨_,rfl⟩,q⟩
theorem Y5{f:ah->ah->Sem ah}{g:Int->Int->Int}
  (rule:∀(i j:Int) (t u:Tok) (s:bb) (Q:ah->bb->Prop) (E:ah->bb->Prop),Q (.int (g i j) s.toks) { s with toks:=s.toks+1 }->bz (cg X.prog X.w) X.A (f (.int i t) (.int j u)) Q E s) :
  OpR X f (rI0 λi j=> .int (g i j)):=by
 intro pins s σ H x y v u Q I rx ry h;obtain⟨i,j,rfl,rfl,q⟩:=h;obtain⟨t,rfl⟩:=rx;obtain⟨t',rfl⟩:=ry;exact rule i j t t' s _ _ ⟨.int (g i j),H,I.tok _,⟨_,rfl⟩,q⟩
theorem R3{f:ah->ah->Sem ah}{g:Int->Int->Bool}
  (rule:∀(i j:Int) (t u:Tok) (s:bb) (Q:ah->bb->Prop) (E:ah->bb->Prop),Q (.bool (g i j)) s->bz (cg X.prog X.w) X.A (f (.int i t) (.int j u)) Q E s) :
  OpR X f (rI0 λi j=> .bl (g i j)):=by
 intro pins s σ H x y v u Q I rx ry h;obtain⟨i,j,rfl,rfl,q⟩:=h;obtain⟨t,rfl⟩:=rx;obtain⟨t',rfl⟩:=ry;exact rule i j t t' s _ _ ⟨.bl (g i j),H,I,rfl,q⟩
def aDz(i j:Int):Prop:=0<j/\j<1073741824
def aDR(i j:Int):Prop:=0<=j/\j<=1000000/\i.natAbs<2^64
def CMul(i j:Int):Prop:=(-(2^64)<i/\i<2^64)∨(-(2^64)<j/\j<2^64)
theorem CMul.ok{j:Int}(h:CMul i j):IntMulOk i j:=by
 rcases h with⟨h1,h2⟩|⟨h1,h2⟩
 .exact .of_left (intBits_le_64 h1 h2)
 .exact .of_right (intBits_le_64 h1 h2)
theorem RU(k:Nat):(0:Int)<=2^k:=by
 rw[two_pow_cast];exact Int.natCast_nonneg _
theorem bQ:OpR X (kg .Add) (rI0 λi j=> .int (i+j)):=Y5 λ_ _ _ _ _ _ _ q=>add_int q
theorem zY:OpR X (kg .Sub) (rI0 λi j=> .int (i - j)):=Y5 λ_ _ _ _ _ _ _ q=>sub_int q
theorem kJ:OpR X (kg .Mult) (rI CMul λi j=> .int (i * j)):=opI λ_ _ _ _ _ _ _ hc q=>mul_int q hc.ok
theorem b7:OpR X (kg .FloorDiv) (rI aDz λi j=> .int (i/j)):=opI λi j _ _ _ _ _ hc q=>by
 have h1:(0:Int)<j:=hc.1;have h2:j<1073741824:=hc.2;exact floordiv_int (by lia) (by rw[lg i (by lia)];exact q) (.inl (PyProof.noPylong_small (by lia)))
theorem bK:OpR X (kg .Mod) (rI (λ_ j=>0<j) λi j=> .int (i%j)):=opI λi j _ _ _ _ _ hc q=>by
 have h1:(0:Int)<j:=hc;exact mod_int' (by lia) (by rw[Int.fmod_eq_emod_of_nonneg i (by lia)];exact q)
theorem aFe:OpR X (kg .Pow) (rI aDR λi j=> .int (i^j.toNat)):=opI λ_ _ _ _ _ _ _ hc q=>pow_int_small hc.1 hc.2.1 hc.2.2 q
theorem aDT:OpR X (kg .RShift) (rI (λ_ j=>0<=j) λi j=> .int (i/2^j.toNat)):=opI λi j _ _ _ _ _ hc q =>
 rshift_int hc (by rw[lg i (RU _)];exact q)
theorem VE:OpR X (kg .BitXor) (rI0 λi j=> .int (vo i j)):=Y5 λ_ _ _ _ _ _ _ q=>xor_int q
theorem unI{f:ah->Sem ah}{g:Int->Int}
  (rule:∀(i:Int) (t:Tok) (s:bb) (Q:ah->bb->Prop) (E:ah->bb->Prop),Q (.int (g i) s.toks) { s with toks:=s.toks+1 }->bz (cg X.prog X.w) X.A (f (.int i t)) Q E s) :
  UnR X f (rU λi=> .int (g i)):=by
 intro pins s σ H x v Q I rx h;obtain⟨i,rfl,q⟩:=h;obtain⟨t,rfl⟩:=rx;exact rule i t s _ _ ⟨.int (g i),H,I.tok _,⟨_,rfl⟩,q⟩
theorem XQ:UnR X (unaryOp .USub) (rU λi=> .int (-i)):=unI λ_ _ _ _ _ q=>neg_int q
end
def aGw:V->V->Bool
 | .non,.non=>true| .non,.int _=>true| .int _,.non=>true| .non,.bl _=>true| .bl _,.non=>true| .non,.str _=>true| .str _,.non=>true
 | .int _,.int _=>true| .bl _,.bl _=>true| .str _,.str _=>true| .byt _,.byt _=>true
 | .int _,.str _=>true| .str _,.int _=>true| .bl _,.str _=>true| .str _,.bl _=>true
 | _,_=>false
def rEq:R2:=λx y H Q=>aGw x y=true/\Q (.bl (decide (x=y))) H
theorem aBn{j:Int}:decide (V.int i=V.int j)=(i==j):=by
 rw[mi];simp
theorem aE7{i j:Bool}:decide (V.bl i=V.bl j)=(i==j):=by
 rw[mi];simp
theorem aDm{i j:Str}:decide (V.str i=V.str j)=(i==j):=by
 rw[mi];simp
theorem aCq{i j:Array UInt8}:decide (V.byt i=V.byt j)=(i.toList==j.toList):=by
 rw[mi];cases i;cases j;simp
variable {Q:VK}
section
variable {a b c:Expr}{tb tc:TE}
theorem dW{k k':Bool}(I:Inv X pins σ H s)(q:Q (.bl k) H)(e:k=k'):EP X pins σ Q (.bool k') s:=by
 subst e;exact⟨.bl k,H,I,rfl,q⟩
theorem fV:OpR X (gu .Eq) rEq:=by
 intro pins s σ H x y v u Q I rx ry h;obtain⟨hs,q⟩:=h;cases x with
 | non =>
  cases rx;cases y with
  | non=>cases ry;exact PySem.EqNone.eq_none_none (dW I q (by simp))
  | bl j=>cases ry;exact PySem.EqNone.eq_none_bool (dW I q (by simp))
  | int j=>obtain⟨t',rfl⟩:=ry;exact PySem.EqNone.eq_none_int (dW I q (by simp))
  | str j=>obtain⟨t',rfl⟩:=ry;exact PySem.EqNone.eq_none_str (dW I q (by simp))
  | _=>exact absurd (show false=true from hs) bw
 | bl i =>
  cases rx;cases y with
  | non=>cases ry;exact PySem.EqNone.eq_bool_none (dW I q (by simp))
  | bl j=>cases ry;exact eq_bool (dW I q aE7)
  | str j=>obtain⟨t',rfl⟩:=ry;exact PySem.EqMixed.eq_bool_str (dW I q (by simp))
  | _=>exact absurd (show false=true from hs) bw
 | int i =>
  obtain⟨t,rfl⟩:=rx;cases y with
  | non=>cases ry;exact PySem.EqNone.eq_int_none (dW I q (by simp))
  | int j=>obtain⟨t',rfl⟩:=ry;exact eq_int (dW I q aBn)
  | str j=>obtain⟨t',rfl⟩:=ry;exact PySem.EqMixed.eq_int_str (dW I q (by simp))
  | _=>exact absurd (show false=true from hs) bw
 | str i =>
  obtain⟨t,rfl⟩:=rx;cases y with
  | non=>cases ry;exact PySem.EqNone.eq_str_none (dW I q (by simp))
  | bl j=>cases ry;exact PySem.EqMixed.eq_str_bool (dW I q (by simp))
  | int j=>obtain⟨t',rfl⟩:=ry;exact PySem.EqMixed.eq_str_int (dW I q (by simp))
  | str j=>obtain⟨t',rfl⟩:=ry;exact eq_str (dW I q aDm)
  | _=>exact absurd (show false=true from hs) bw
 | byt i =>
  obtain⟨t,rfl⟩:=rx;cases y with
  | byt j=>obtain⟨t',rfl⟩:=ry;exact W.eq_bytes (dW I q aCq)
  | _=>exact absurd (show false=true from hs) bw
 | _=>cases y<;>exact absurd (show false=true from hs) bw
theorem jG:OpR X (gu .Lt) (rI0 λi j=> .bl (decide (i<j))):=R3 λ_ _ _ _ _ _ _ q=>lt_int q
theorem aAy:OpR X (gu .LtE) (rI0 λi j=> .bl (decide (i<=j))):=R3 λ_ _ _ _ _ _ _ q=>le_int q
theorem rO:OpR X (gu .Gt) (rI0 λi j=> .bl (decide (j<i))):=R3 λ_ _ _ _ _ _ _ q=>gt_int q
theorem E6:OpR X (gu .GtE) (rI0 λi j=> .bl (decide (j<=i))):=R3 λ_ _ _ _ _ _ _ q=>ge_int q
theorem aD5:OpR X (gu .Is) (λx y H Q=>y= .non/\Q (.bl (decide (x= .non))) H):=by
 intro pins s σ H x y v u Q I rx ry h;obtain⟨rfl,q⟩:=h;cases ry;refine is_none_gen (dW I q ?_);cases x<;>first
  | (cases rx;rfl)
  | (obtain⟨t,rfl⟩:=rx;rfl)
theorem aBI:OpR X (gu .IsNot) (λx y H Q=>y= .non/\Q (.bl (!decide (x= .non))) H):=by
 intro pins s σ H x y v u Q I rx ry h;obtain⟨rfl,q⟩:=h;cases ry;refine isnot_none_gen (dW I q ?_);cases x<;>first
  | (cases rx;rfl)
  | (obtain⟨t,rfl⟩:=rx;rfl)
theorem bF(b:Expr){op:CmpOp}(h:op≠ .In:=by decide)(h2:op≠ .NotIn:=by decide):ow op b=false:=by
 have e1:(op==CmpOp.In)=false:=by cases op<;>first|rfl|exact absurd rfl h
 have e2:(op==CmpOp.NotIn)=false:=by cases op<;>first|rfl|exact absurd rfl h2
 cases b<;>simp[ow,e1,e2]
theorem wD{op:CmpOp}{r:R2}(ho:OpR X (gu op) r)(ha:PE X a ta)(hb:PE X b tb)(hm:ow op b=false):PE X (.Compare a [op] [b] pos) (tOp r ta tb):=by
 intro pins s σ H Q I h;exact wpAny_Compare1 (ZF ha hb I h λv u s2 x y H2 I2 rx ry q=>ho pins s2 σ H2 x y v u Q I2 rx ry q) hm
def aA8(t:TE):TT:=λσ H Q=>t σ H λx H'=>∃k,x= .bl k/\Q k H'
theorem bC{op:CmpOp}{r:R2}(ho:OpR X (gu op) r)(ha:PE X a ta)(hb:PE X b tb)(hm:ow op b=false):PT X (.Compare a [op] [b] pos) (aA8 (tOp r ta tb)):=by
 intro pins s σ H Q I h;refine wpAny_isTrue_Compare1 (thn (ha pins s σ H _ I h) λv s1 ⟨x,H1,I1,r1,q1⟩=>thn (hb pins s1 σ H1 _ I1 q1) λu s2 ⟨y,H2,I2,r2,q2⟩ =>
  thn (ho pins s2 σ H2 x y v u _ I2 r1 r2 q2) λc s3 ⟨z,H3,I3,r3,k,e,q3⟩=> ?_) hm
 subst e;cases r3;exact ip ⟨H3,I3,q3⟩
def aDZ(r r':R2)(ta tb tc:TE):TE:=λσ H Q=>ta σ H λx H1=>tb σ H1 λy H2=>r x y H2 λz H3=>∃k,z= .bl k ∧
 (if k=true then tc σ H3 λw' H4=>r' y w' H4 Q else Q (.bl false) H3)
theorem OR{op op':CmpOp}{r r':R2}(ho:OpR X (gu op) r)(ho':OpR X (gu op') r')(ha:PE X a ta)(hb:PE X b tb)(hc:PE X c tc)
  (hm:lastMarks [op,op'] [b,c]=false:=by with_unfolding_all rfl):PE X (.Compare a [op,op'] [b,c] pos) (aDZ r r' ta tb tc):=by
 intro pins s σ H Q I h;refine Compare_chain (thn (ha pins s σ H _ I h) λv s1 ⟨x,H1,I1,r1,q1⟩=>chain_link (thn (hb pins s1 σ H1 _ I1 q1) λu s2 ⟨y,H2,I2,r2,q2⟩ =>
  thn (ho pins s2 σ H2 x y v u _ I2 r1 r2 q2) λd s3 ⟨z,H3,I3,r3,k,e,q3⟩=> ?_)) hm
 subst e;cases r3;refine ip ?_;cases k with
 | false=>exact ite_ff ⟨.bl false,H3,I3,rfl,q3⟩
 | true=>exact ite_tt (chain_last (thn (hc pins s3 σ H3 _ I3 q3) λw' s4 ⟨z',H4,I4,r4,q4⟩=>ho' pins s4 σ H4 y z' u w' Q I4 r2 r4 q4))
theorem tE:(sizeLine:Nat)<2^63:=by rw[sizeLine_eq];decide
theorem R9:OpR X (kg .Add) (λx y H Q=>∃i j,x= .str i/\y= .str j/\i.length+j.length<=sizeLine/\Q (.str (i++j)) H):=by
 intro pins s σ H x y v u Q I rx ry h;obtain⟨i,j,rfl,rfl,hz,q⟩:=h;obtain⟨t,rfl⟩:=rx;obtain⟨t',rfl⟩:=ry;exact add_str (λt' tk=>⟨.str (i++j),H,I.tok _,⟨_,rfl⟩,q⟩) hz
theorem mF{x:V}{us:List ah}(r:Vals [x] us):∃u,us=[u]/\RelV x u:=by
 cases r with
 | cons r1 r2=>cases r2;exact⟨_,rfl,r1⟩
theorem aAZ{x:V}{us:List ah}(r:Vals [x,y] us):∃u w',us=[u,w']/\RelV x u/\RelV y w':=by
 cases r with
 | cons r1 r2 =>
  cases r2 with
  | cons r3 r4=>cases r4;exact⟨_,_,rfl,r1,r3⟩
theorem WC(hc:X.calm=true):dQ X (.builtin "min") (λxs H Q=>∃i j,xs=[.int i,.int j]/\Q (.int (if j<i then j else i)) H):=by
 intro pins s σ H xs us Q I r h;obtain⟨i,j,rfl,q⟩:=h;obtain⟨u,w',rfl,⟨t,rfl⟩,⟨t',rfl⟩⟩:=aAZ r;refine min_two_ints (I.ok.hd hc) λh' tk k=>⟨_,H,I.kept k,?_,q⟩
 by_cases hj:j<i
 .rw[if_pos hj,if_pos hj];exact⟨_,rfl⟩
 .rw[if_neg hj,if_neg hj];exact⟨_,rfl⟩
end
structure ObjM(h:Heap)(x dx C:Addr)(mA:Str->Option ah):Prop where
 obj:h.get? x=some (W.instObj C dx)
 ns:h.Ns1 dx mA
 ne:dx≠x
variable {mA mg:Str->Option ah}
theorem WZ(n:h.Ns1 dx mA):∃od,h.get? dx=some od/\∀name,W.lookIn name od=some (mA name):=by
 obtain⟨o,es,ep,ho,hd,hk,_,hm⟩:=n;refine⟨o,ho,λname=> ?_⟩;have e:=hm name;unfold nsFind findBy at e;rw[←Array.find?_toList]at e;unfold W.lookIn;rw[hd]
 dsimp only
 split
 .rename_i y q;rw[q]at e;exact congrArg some e
 .rename_i q;rw[q]at e;have a:es.toList.any (·.refKey)=false:=by
   rw[List.any_eq_false];intro y hy;obtain⟨z,t,hkey⟩:=hk y (pj.mp hy);simp[lz.refKey,hkey]
  have a':¬es.toList.any (·.refKey)=true:=by rw[a];exact bw
  rw[if_neg a'];exact congrArg some e
theorem ObjM.look{x:Addr}(I:ObjM h x dx C mA):∃od,W.InstAt h x (W.instObj C dx) C (some od)/\∀name,W.lookIn name od=some (mA name) :=
 let ⟨od,ho,hl⟩:=WZ I.ns
 ⟨od,⟨I.obj,rfl,rfl,ho⟩,hl⟩
variable {kw:List (Str×ah)}
section
variable {x f:Addr}{v:ah}
theorem aDb{expr:Bool}{Q:ah->bb->Prop}(X:K.In s.heap)(I:ObjM s.heap x dx C mA)(hg:W.plainGet K C name=true)(hh:W.hasDictIn K C=true)
  (ha:W.findIn K (.ref C) name=some none)(hv:mA name=some v)(hv':W.handedIn v=true)(h:Q v { s with toks:=s.toks+1 }) :
  bz (cg prog w) A (getAttr (.ref x) name expr) Q E s:=by
 obtain⟨od,J,hl⟩:=I.look;exact W.get_value X J (W.plainGet_of hg).1 (W.findObj_own hh ha rfl (by rw[hl,hv])) hv' h
theorem Y9{pl:Sem Bool}{Q:ah×List ah->bb->Prop}(X:K.In s.heap)(I:ObjM s.heap x dx C mA)(hg:W.plainGet K C name=true)
  (hf:W.findIn K (.ref C) name=some (some (.ref f)))(ht:W.isFn K (.ref f)=true)(hv:mA name=none)(h:Q (.ref f,[.ref x]) s) :
  bz (cg prog w) A (qu (.ref x) name pl) Q E s:=by
 obtain⟨od,J,hl⟩:=I.look;exact W.method_fn X J (W.plainGet_of hg).1 (W.plainGet_of hg).2 hf (beq_iff_eq.mp ht) (by show (W.lookIn name od).map (·.isSome)=some false;rw[hl,hv];rfl) h
theorem aC4{ns:List Str}{Q:Unit->bb->Prop}(X:K.In s.heap)(I:ObjM s.heap x dx C mA)
  (hs:W.findIn K (.ref C) "__setattr__" =some (some (.builtin "object.__setattr__")))(hp:W.plainOver K C=true)(ht:W.takerIn K C name=some none)(hh:W.hasDictIn K C=true)
  (hw:xc mA ns)(hsz:ns.length<=sizeLine)
  (h:∀h',ObjM h' x dx C (λy=>if y=name then some v else mA y)->ik dx s.heap h'->Q () { s with heap:=h',toks:=s.toks+2 }) :
  bz (cg prog w) A (setAttr (.ref x) name v) Q E s:=by
 obtain⟨od,J,hl⟩:=I.look;refine W.set_plain X J hs (W.osa_open (s:={ s with toks:=s.toks+1 }) (r:=none) X J hp ht λb=> ?_);obtain⟨cd,hc,hd'⟩:=W.any_some hh;have hx:s.heap.get? x=some ⟨.ref C,some dx,.plain,#[]⟩:=I.obj;refine ae (av (ae (ae (wpAny_loadPart hx (ae (W.Looks.here (s:={ s with toks:=s.toks+1 }) (W.looks_clsIn X hc) ?_))))));rw[hd'];refine av (a:=some dx) (ae (av (ae ?_)));refine wpAny_nsSet1 (s:={ s with toks:=s.toks+1 }) I.ns λh' hn2 hs2=> ?_;obtain⟨oD,esD,epD,hoD,hdD,hcD⟩:=hn2.count (xc.cons name v hw);refine ae (wpAny_lookBehind hoD (by rw[hdD];exact pastItsLine_dict (ee hcD (by rw[az];lia))) ?_);exact av (h _ ⟨(hs2.2 _ (eh I.ne)).trans I.obj,hn2,I.ne⟩ hs2)
theorem Z2{R:Result->bb->Prop}{vs:List ah}(X:K.In s.heap)(hm:W.makesIn K C=true)
  (hi:W.findIn K (.ref C) "__init__" =some (some (.ref f)))(hf:W.typeIn K (.ref f)=some (.type "function"))
  (h:lu (cg prog w) (A.under (.builtin "type.__call__" ⟨.ref C::vs,kw⟩)) (.call (.ref f) ⟨.ref (s.heap.objs.size+1)::vs,kw⟩) (W.InitBack (s.heap.objs.size+1) R)
   { s with heap:=(s.heap.push W.emptyDict).push (W.instObj C s.heap.objs.size) }) :
  lu (cg prog w) A (.call (.ref C) ⟨vs,kw⟩) R s:=by
 obtain⟨hh,g,d,t,os⟩:=s;exact W.make_core (W.makes_of X hm) (W.looks_findIn X hi) (λself=>W.bind_fn X self hf) (.inl rfl) h
end
def bO(f:Str)(v:V):List (Str×V)->List (Str×V)
 | []=>[(f,v)]
 | (g,x)::r=>if g=f then (g,v)::r else (g,x)::bO f v r
theorem pC(f g:Str)(v:V):∀fs:List (Str×V),(bO f v fs).lookup g=if g=f then some v else fs.lookup g
 | []=>by
  show iy g [(f,v)]=_
  by_cases h:g=f
  .have hb:(g==f)=true:=beq_iff_eq.mpr h;simp only[iy,hb,if_pos h]
  .have hb:(g==f)=false:=beq_eq_false_iff_ne.mpr h;simp only[iy,hb,if_neg h]
 | (k,x)::r=>by
  have ih:=pC f g v r;rw[show bO f v ((k,x)::r)=(if k=f then (k,v)::r else (k,x)::bO f v r) from rfl]
  by_cases hk:k=f
  .rw[if_pos hk]
   by_cases h:g=k
   .have hb:(g==k)=true:=beq_iff_eq.mpr h;simp only[iy,hb,if_pos (h.trans hk)]
   .have hb:(g==k)=false:=beq_eq_false_iff_ne.mpr h;simp only[iy,hb,if_neg (λe:g=f=>h (e.trans hk.symm))]
  .rw[if_neg hk]
   by_cases h:g=k
   .have hb:(g==k)=true:=beq_iff_eq.mpr h;simp only[iy,hb,if_neg (λe:g=f=>hk (h.symm.trans e))]
   .have hb:(g==k)=false:=beq_eq_false_iff_ne.mpr h;simp only[iy,hb];exact ih
theorem zS(f:Str)(v:V):∀fs:List (Str×V),f∈(bO f v fs).map (·.1)/\∀g,g∈fs.map (·.1)->g∈(bO f v fs).map (·.1)
 | []=>⟨by simp[bO],λg h=>by simp at h⟩
 | (k,x)::r=>by
  obtain⟨i1,i2⟩:=zS f v r;rw[show bO f v ((k,x)::r)=(if k=f then (k,v)::r else (k,x)::bO f v r) from rfl]
  by_cases hk:k=f
  .rw[if_pos hk];subst hk;exact⟨by simp,λg h=>by simpa using h⟩
  .rw[if_neg hk];refine⟨?_,λg h=> ?_⟩
   .rw[ay];exact ab _ i1
   .rw[ay]at h ⊢;rcases aw.mp h with e|e
    .exact aw.mpr (.inl e)
    .exact ab _ (i2 g e)
theorem CV(f:Str)(v:V):∀fs:List (Str×V),(bO f v fs).length<=fs.length+1
 | []=>by simp[bO]
 | (k,x)::r=>by
  have ih:=CV f v r;rw[show bO f v ((k,x)::r)=(if k=f then (k,v)::r else (k,x)::bO f v r) from rfl]
  by_cases hk:k=f
  .rw[if_pos hk,az,az];lia
  .rw[if_neg hk,az,az];lia
theorem RelO.some_of{o:Option ah}(r:RelO (some v) o):∃u,o=some u/\RelV v u:=by
 cases o with
 | none=>exact(show False from r).elim
 | some u=>exact⟨u,rfl,r⟩
theorem RelO.none_of{o:Option ah}(r:RelO none o):o=none:=by
 cases o with
 | none=>rfl
 | some u=>exact(show False from r).elim
theorem zX(r:RelV v u):W.handedIn u=true:=by
 cases v with
 | non=>cases (show u=ft from r);rfl
 | bl b=>cases (show u=qz b from r);rfl
 | int i=>obtain⟨t,e⟩:=(show ∃t,u=lq i t from r);cases e;rfl
 | str x=>obtain⟨t,e⟩:=(show ∃t,u=qt x t from r);cases e;rfl
 | byt b=>obtain⟨t,e⟩:=(show ∃t,u=ah.bytes b t from r);cases e;rfl
 | flt b=>obtain⟨t,e⟩:=(show ∃t,u=xm b t from r);cases e;rfl
 | ref a=>cases (show u=cy a from r);rfl
 | ty n=>cases (show u=mn n from r);rfl
section
variable {fs fs':List (Str×V)}
theorem BF(hok:HOk P w H h)(e:H a=some (.ins C dx fs)):∃mA,ObjM h a dx C mA/\(∀f,RelO (fs.lookup f) (mA f))/\xc mA (fs.map (·.1))/\fs.length<=1000/\H dx=some (.own a):=by
 obtain⟨d,z,ne,ob,mA,n,r,q⟩:=(show ObjOk P w H h a (.ins C dx fs) from hok a _ e)
 exact⟨mA,⟨ob,n,ne⟩,r,q,z,d⟩
end
structure Cls(K:W.Frag)(C:Addr):Prop where
 pg:W.plainGet K C Str.empty=true
 hd:W.hasDictIn K C=true
 po:W.plainOver K C=true
 sa:W.findIn K (.ref C) "__setattr__" =some (some (.builtin "object.__setattr__"))
theorem Cls.get(c:Cls K C)(f:Str):W.plainGet K C f=true:=c.pg
def NoAttr(K:W.Frag)(C:Addr)(f:Str):Prop:=W.findIn K (.ref C) f=some none
theorem NoAttr.taker{f:Str}(n:NoAttr K C f):W.takerIn K C f=some none:=by
 unfold W.takerIn;rw[show W.findIn K (.ref C) f=some none from n];rfl
structure Meth(K:W.Frag)(C:Addr)(m:Str)(f:Addr):Prop where
 at_:W.findIn K (.ref C) m=some (some (.ref f))
 fn:W.isFn K (.ref f)=true
 kp:W.keepIn K (.ref f)=true
section
variable {fs:List (Str×V)}{f:Str}
theorem E4{b:Bool}{Q:ah->bb->Prop}(I:Inv X pins σ H s)(e:H a=some (.ins C dx fs))(c:Cls X.K C)(n:NoAttr X.K C f)(l:fs.lookup f=some v)
  (h:∀u s',Inv X pins σ H s'->RelV v u->Q u s'):bz (cg X.prog X.w) A (getAttr (.ref a) f b) Q E s:=by
 obtain⟨mA,O,r,_,_,_⟩:=BF I.hok e;obtain⟨u,hu,ru⟩:=RelO.some_of (v:=v) (o:=mA f) (by rw[←l];exact r f);exact aDb I.kIn O (c.get f) c.hd n hu (zX ru) (h u _ (I.tok _) ru)
theorem EY{g:Addr}{pl:Sem Bool}{Q:ah×List ah->bb->Prop}(I:Inv X pins σ H s)(e:H a=some (.ins C dx fs))(c:Cls X.K C)(k:Meth X.K C m g)(l:fs.lookup m=none)
  (h:Q (.ref g,[.ref a]) s):bz (cg X.prog X.w) A (qu (.ref a) m pl) Q E s:=by
 obtain⟨mA,O,r,_,_,_⟩:=BF I.hok e;have hn:mA m=none:=RelO.none_of (by rw[←l];exact r m);exact Y9 I.kIn O (c.get m) k.at_ k.fn hn h
theorem FW{Q:Unit->bb->Prop}(I:Inv X pins σ H s)(e:H a=some (.ins C dx fs))(c:Cls X.K C)(n:NoAttr X.K C f)(hl:fs.length<1000)(ry:RelV y u)
  (h:∀s',Inv X pins σ (upd H a (.ins C dx (bO f y fs))) s'->Q () s'):bz (cg X.prog X.w) A (setAttr (.ref a) f u) Q E s:=by
 obtain⟨mA,O,r,wi,_,ho⟩:=BF I.hok e;have hz:(fs.map (·.1)).length<=sizeLine:=by rw[af,sizeLine_eq];lia
 refine aC4 I.kIn O c.sa c.po n.taker c.hd wi hz λh' O' sb=>h _ ?_;have hd:∃o,h'.get? dx=some o:=let ⟨o,_,_,e',_⟩:=O'.ns;⟨o,e'⟩;refine I.write (x:=a) (e:=dx) (by rw[e];exact jf) (.inr ho) (λb q hb z=>(sb.2 b hb).trans z) hd ?_;refine⟨by rw[aK O.ne];exact ho,?_,O.ne,O'.obj,_,O'.ns,λg=> ?_,λg hg=> ?_⟩
 .have:=CV f y fs;lia
 .show RelO ((bO f y fs).lookup g) (if g=f then some u else mA g);rw[pC]
  by_cases q:g=f
  .rw[if_pos q,if_pos q];exact ry
  .rw[if_neg q,if_neg q];exact r g
 .by_cases q:g=f
  .rw[q];exact(zS f y fs).1
  .refine(zS f y fs).2 g (wi g λz=>hg ?_);show (if g=f then some u else mA g)=none;rw[if_neg q];exact z
theorem Inv.made(I:Inv X pins σ H s):Inv X pins σ (upd (upd H s.heap.objs.size (.own (s.heap.objs.size+1))) (s.heap.objs.size+1) (.ins C s.heap.objs.size []))
  { s with heap:=(s.heap.push W.emptyDict).push (W.instObj C s.heap.objs.size) }:=by
 have e1:(s.heap.push W.emptyDict).get? s.heap.objs.size=some W.emptyDict:=bg s.heap rfl;have e2:((s.heap.push W.emptyDict).push (W.instObj C s.heap.objs.size)).get? (s.heap.objs.size+1)=some (W.instObj C s.heap.objs.size):=by
  have:=bg (s.heap.push W.emptyDict) (o:=W.instObj C s.heap.objs.size) rfl
  rwa [vp]at this
 have e3:(s.heap.push W.emptyDict).Ns s.heap.objs.size (λ_=>none):=⟨W.emptyDict,#[],_,e1,rfl,(λe he=>absurd he (by simp)),λ_=>rfl⟩
 have I1:=I.laid (a:=s.heap.objs.size) (o:= .own (s.heap.objs.size+1)) (h':=s.heap.push W.emptyDict) (t':=s.toks) (λb u q=>aj _ q) (au _) ⟨_,e1⟩;refine I1.laid (a:=s.heap.objs.size+1) (o:= .ins C s.heap.objs.size []) (t':=s.toks) (λb u q=>aj _ q) (xg (vp _ _)) ?_;have ne:s.heap.objs.size≠s.heap.objs.size+1:=cf (lx _);refine⟨by rw[aK ne,aR],fk _,ne,e2,λ_=>none,(Heap.Ns1.of_empty e3).at λo q=>aj _ q,λ_=>jf,λy hy=>absurd rfl hy⟩
theorem aB4{env:Env}{f:Str}{Q:ah->bb->Prop}(hb:jq e f env (eval e env)=eval e env)
  (h:bz (cg prog w) A (eval e env) (λo s₁=>bz (cg prog w) A (getAttr o f true) Q E s₁) E s):bz (cg prog w) A (eval (.Attribute e f pos) env) Q E s :=
 Attribute_any_ h (by rw[arm_eval_Attribute,hb])
end
def ZY(K:W.Frag)(ta:TE)(f:Str):TE:=λσ H Q=>ta σ H λx H1=>∃a C dx fs v,x= .ref a/\H1 a=some (.ins C dx fs)/\Cls K C/\NoAttr K C f/\fs.lookup f=some v/\Q v H1
def aEW(K:W.Frag)(ta tv:TE)(f:Str):TS:=λD σ H=>tv σ H λy H1=>ta σ H1 λx H2=>∃a C dx fs,x= .ref a/\H2 a=some (.ins C dx fs)/\Cls K C/\NoAttr K C f/\fs.length<1000 ∧
 D.nx σ (upd H2 a (.ins C dx (bO f y fs)))
def ZI(X:Cx)(op:Operator)(rd:V->V->Hp->VK->Prop):Prop :=
 ∀(pins:List (Addr×Obj)) (s:bb) (σ:St) (H:Hp) (x y:V) (u v:ah) (Q:VK),Inv X pins σ H s->RelV x u->RelV y v->rd x y H Q->bz (cg X.prog X.w) X.A (inplaceOp op u v) (EP X pins σ Q) X.xe s
def Q9(K:W.Frag)(ta tv:TE)(rd:V->V->Hp->VK->Prop)(f:Str):TS:=λD σ H=>ta σ H λx H1=>∃a C dx fs v,x= .ref a/\H1 a=some (.ins C dx fs)/\Cls K C/\NoAttr K C f/\fs.lookup f=some v ∧
 tv σ H1 λy H2=>rd v y H2 λz H3=>∃dx' fs',H3 a=some (.ins C dx' fs')/\fs'.length<1000/\D.nx σ (upd H3 a (.ins C dx' (bO f z fs')))
section
variable {o value:Expr}{f:Str}{tv:TE}
theorem aH(he:PE X e ta)(hb:jq e f X.env (eval e X.env)=eval e X.env):PE X (.Attribute e f pos) (ZY X.K ta f):=by
 intro pins s σ H Q I h;refine aB4 hb (thn (he pins s σ H _ I h) ?_);rintro u s1 ⟨x,H1,I1,rx,a,C,dx,fs,v,ex,ea,c,n,l,q⟩;subst ex;obtain rfl:u=cy a:=rx;exact E4 I1 ea c n l λu' s2 I2 ru=>⟨v,H1,I2,ru,q⟩
theorem bU(ha:PE X o ta)(hv:PE X value tv)(hs:wj value (some (.Attribute o f pos')) pos.line X.env=pure false):PS X (.Assign [.Attribute o f pos'] value pos) (aEW X.K ta tv f):=by
 intro pins s σ H D I h;refine plainObj_wpAny_Assign_Attribute (thn (hv pins s σ H _ I h) ?_) hs;rintro u s1 ⟨y,H1,I1,ry,q⟩;refine thn (ha pins s1 σ H1 _ I1 q) ?_;rintro ov s2 ⟨x,H2,I2,rx,a,C,dx,fs,ex,ea,c,n,l,q2⟩;subst ex;obtain rfl:ov=cy a:=rx;exact FW I2 ea c n l ry λs3 I3=>⟨σ,_,I3,q2⟩
theorem V6{rd:V->V->Hp->VK->Prop}(ha:PE X o ta)(hv:PE X value tv)(hop:ZI X op rd):PS X (.AugAssign (.Attribute o f tpos) op value pos) (Q9 X.K ta tv rd f):=by
 intro pins s σ H D I h;refine wpAny_AugAssign_AttributeAny (thn (ha pins s σ H _ I h) ?_);rintro ov s1 ⟨x,H1,I1,rx,a,C,dx,fs,v,ex,ea,c,n,l,q⟩;subst ex;obtain rfl:ov=cy a:=rx;refine E4 I1 ea c n l λu s2 I2 ru=>thn (hv pins s2 σ H1 _ I2 q) ?_;rintro w3 s3 ⟨y,H2,I3,ry,q3⟩;refine thn (hop pins s3 σ H2 v y u w3 _ I3 ru ry q3) ?_;rintro w4 s4 ⟨z,H3,I4,rz,dx',fs',ea',l',q4⟩;exact FW I4 ea' c n l' rz λs5 I5=>⟨σ,_,I5,q4⟩
def aE3:V->V->Hp->VK->Prop:=λx y H Q=>∃i j,x= .int i/\y= .int j/\Q (.int (i+j)) H
theorem UX:ZI X .Add aE3:=by
 rintro pins s σ H x y u v Q I rx ry ⟨i,j,rfl,rfl,q⟩;obtain⟨t,rfl⟩:=(show ∃t,u=lq i t from rx)
 obtain⟨t',rfl⟩:=(show ∃t',v=lq j t' from ry)
 exact PyProof.Rows.iadd_int ⟨.int (i+j),H,I.tok _,⟨_,rfl⟩,q⟩
end
section
variable {Q:ah->bb->Prop}{c:ah}{b:Bool}
inductive k6(K:W.Frag)(H:Hp):V->ah->Prop where
 | non:k6 K H .non (.type "NoneType")
 | bl (x:Bool):k6 K H (.bl x) (.type "bool")
 | int (i:Int):k6 K H (.int i) (.type "int")
 | str (x:Str):k6 K H (.str x) (.type "str")
 | flt (x:UInt64):k6 K H (.flt x) (.type "float")
 | lst {a:Addr}{xs:List V} (e:H a=some (.lst xs)):k6 K H (.ref a) (.type "list")
 | frz {a:Addr}{o:Obj}{xs:List V} (e:H a=some (.frz o (.lst xs))):k6 K H (.ref a) (.type "list")
 | tup {a:Addr}{xs:List V} (e:H a=some (.tup xs)):k6 K H (.ref a) (.type "tuple")
 | dK {a:Addr}{kvs:List (Key×V)} (e:H a=some (.dK kvs)):k6 K H (.ref a) (.type "dict")
 | dT {a:Addr}{kvs:List (List Key×V)} (e:H a=some (.dT kvs)):k6 K H (.ref a) (.type "dict")
 | ins {a C dx:Addr}{fs:List (Str×V)} (e:H a=some (.ins C dx fs)) (cl:Cls K C) (ha:W.findIn K (.ref C) "__class__" =some (some (.builtin "object.__class__")))
   (hn:W.specialIn K (.builtin "object.__class__") "__get__" =some (some (.builtin "getset_descriptor.__get__")))(htk:W.takesIn K (.builtin "object.__class__")=some true)
   (hm:W.mroIn K C (.type "object")=some true):k6 K H (.ref a) (.ref C)
theorem XY{x:V}{t:ah}(I:Inv X pins σ H s)(rx:RelV x u)(ty:k6 X.K H x t)(e:W.kitOne X.K t c=some b)(h:∀tk,Q (.bool b) { s with toks:=tk }):
  bz (cg X.prog X.w) A (call (.builtin "isinstance") [u,c]) Q E s:=by
 cases ty with
 | non=>cases (show u=ft from rx);exact W.kia_one W.kitx_none I.kIn jf e (λz=>nomatch z) h
 | bl y=>cases (show u=qz y from rx);exact W.kia_one W.kitx_bool I.kIn jf e (λz=>nomatch z) h
 | int i=>obtain⟨t,q⟩:=(show ∃t,u=lq i t from rx);cases q;exact W.kia_one W.kitx_int I.kIn jf e (λz=>nomatch z) h
 | str y=>obtain⟨t,q⟩:=(show ∃t,u=qt y t from rx);cases q;exact W.kia_one W.kitx_str I.kIn jf e (λz=>nomatch z) h
 | flt y=>obtain⟨t,q⟩:=(show ∃t,u=xm y t from rx);cases q;exact W.kia_one W.kitx_float I.kIn jf e (λz=>nomatch z) h
 | @lst a xs ea =>
  cases (show u=cy a from rx);obtain⟨_,_,n,_,h1⟩:=(show ObjOk X.prog X.w H s.heap a (.lst xs) from I.hok a _ ea)
  exact W.kia_one W.kitx_list I.kIn ⟨_,h1,rfl⟩ e (λz=>nomatch z) h
 | @frz a ob xs ea =>
  cases (show u=cy a from rx);obtain⟨_,_,_,n,_,h1⟩:=(show ObjOk X.prog X.w H s.heap a (.frz ob (.lst xs)) from I.hok a _ ea)
  exact W.kia_one W.kitx_list I.kIn ⟨_,h1,rfl⟩ e (λz=>nomatch z) h
 | @tup a xs ea =>
  cases (show u=cy a from rx);obtain⟨_,_,_,p⟩:=(show ObjOk X.prog X.w H s.heap a (.tup xs) from I.hok a _ ea)
  obtain⟨o,h1,h2,_⟩:=p;exact W.kia_one W.kitx_tuple I.kIn ⟨o,h1,h2⟩ e (λz=>nomatch z) h
 | @dK a kvs ea =>
  cases (show u=cy a from rx);obtain⟨_,_,vs,_,p⟩:=(show ObjOk X.prog X.w H s.heap a (.dK kvs) from I.hok a _ ea)
  obtain⟨o,es,ep,h1,h2,_⟩:=p;exact W.kia_one W.kitx_dict I.kIn ⟨o,h1,h2.1⟩ e (λz=>nomatch z) h
 | @dT a kvs ea =>
  cases (show u=cy a from rx);obtain⟨_,_,xs,_,o,es,ep,h1,h2,_⟩:=(show ObjOk X.prog X.w H s.heap a (.dT kvs) from I.hok a _ ea)
  exact W.kia_one W.kitx_dict I.kIn ⟨o,h1,h2.1⟩ e (λz=>nomatch z) h
 | @ins a C dx fs ea cl ha hn htk hm =>
  cases (show u=cy a from rx);obtain⟨mA,O,_⟩:=BF I.hok ea;obtain⟨od,J,_⟩:=O.look;exact W.kia_one (W.kitx_own (cl.get _) cl.hd ha hn htk hm) I.kIn J e (λz=>nomatch z) h
end
structure Room(k:Nat)(A:jy):Prop where
 hd:A.handled=none
 dp:A.depth+3 * k+5<recursionLimit
 un:A.units+16 * k+200<rg
theorem Room.mono{k:Nat}(r:Room k A)(h:j<=k):Room j A:=⟨r.hd,by have:=r.dp;lia,by have:=r.un;lia⟩
theorem Room.deeper{k:Nat}(r:Room (k+1) A)(env:Env):Room k (A.deeper env) :=
 ⟨r.hd,by have:=r.dp;show A.depth+1+3 * k+5<_;lia,by have:=r.un;show A.units+3+16 * k+200<_;lia⟩
theorem RW{us:List ah}:(A.under (.builtin "type.__call__" ⟨.ref C::us,kw⟩)).depth=A.depth+1:=by
 first|rfl|simp[xh,Code.weight,Code.isCreation,Code.isGuard,Code.isCaller,Code.frames,xi,guardIds]
theorem TX{us:List ah}:(A.under (.builtin "type.__call__" ⟨.ref C::us,kw⟩)).units=A.units+1:=by
 first|rfl|simp[xh,Code.cUnits,Code.frames,xi]
theorem Room.make{k:Nat}(r:Room (k+1) A)(C:Addr)(us:List ah)(kw:List (Str×ah)):Room k (A.under (.builtin "type.__call__" ⟨.ref C::us,kw⟩)) :=
 ⟨r.hd,by have:=r.dp;rw[RW];lia,by have:=r.un;rw[TX];lia⟩
theorem Room.depth{k:Nat}(r:Room k A):A.depth<recursionLimit:=by have:=r.dp;lia
theorem Room.units0{k:Nat}(r:Room k A):A.units<rg:=by have:=r.un;lia
def OE:TA:=λ_ H Q=>Q [] H
def aAS(ta:TE)(tr:TA):TA:=λσ H Q=>ta σ H λx H1=>tr σ H1 λxs H2=>Q (x::xs) H2
section
variable {t:TA}
theorem aC:PA X [] OE:=λ_ _ _ _ H Q I h=>Calls.spliced_nil ⟨[],H,I,.nil,h⟩
theorem aA(ha:PE X e te)(hr:PA X es t)(hs:dg (e::es) X.env=(false,eval e X.env)::dg es X.env:=by rfl):PA X (e::es) (aAS te t):=by
 intro pos pins s σ H Q I h;rw[hs];show bz _ _ (spliced ((false,eval e X.env)::jk pos (dg es X.env))) _ _ s;refine rh (thn (ha pins s σ H _ I h) ?_);rintro u s1 ⟨x,H1,I1,r1,q1⟩;refine thn (hr pos pins s1 σ H1 _ I1 q1) ?_;rintro us s2 ⟨xs,H2,I2,r2,q2⟩;exact⟨x::xs,H2,I2,.cons r1 r2,q2⟩
def aEP(t:TA):TE:=λσ H Q=>t σ H λxs H1=>xs.length<=sizeLine/\∀p,H1 p=none->Q (.ref p) (upd H1 p (.tup xs))
def aDE(t:TA):TE:=λσ H Q=>t σ H λxs H1=>xs.length<=sizeLine/\∀p,H1 p=none->Q (.ref p) (upd H1 p (.lst xs))
theorem cY{x1}(h:PA X es t):PE X (.Tuple es x1 pos) (aEP t):=by
 intro pins s σ H Q I hq;refine wpAny_Tuple_spliced (thn (h pos pins s σ H _ I hq) ?_);rintro us s1 ⟨xs,H1,I1,r,z,q⟩;refine⟨by rw[←r.length];exact z,?_⟩;have hf:H1 s1.heap.objs.size=none:=I1.hok.fresh (au _);refine⟨.ref s1.heap.objs.size,upd H1 s1.heap.objs.size (.tup xs),I1.laid (t':=s1.toks) (λb u e=>aj _ e) (au _) ?_,rfl,q _ hf⟩;exact⟨z,us,r,⟨_,bg _ rfl,rfl,_,rfl⟩⟩
theorem cI(h:PA X es t):PE X (.List es pos) (aDE t):=by
 intro pins s σ H Q I hq;refine wpAny_List_spliced (thn (h pos pins s σ H _ I hq) ?_);rintro us s1 ⟨xs,H1,I1,r,z,q⟩;refine⟨by rw[←r.length];exact z,?_⟩;have hf:H1 s1.heap.objs.size=none:=I1.hok.fresh (au _);refine⟨.ref s1.heap.objs.size,upd H1 s1.heap.objs.size (.lst xs),I1.laid (t':=s1.toks) (λb u e=>aj _ e) (au _) ?_,rfl,q _ hf⟩;exact⟨z,us,0,r,bg _ rfl⟩
end
abbrev Sp:=List V->Hp->VK->XK->Prop
abbrev CXT:=List Env->Hp->bb->XK->ah->bb->Prop
structure Env0(P:fh)(w:gh)(K:W.Frag)(mg:Str->Option ah)(base:Heap)(A:jy)(outer:List Env)(s:bb)(H:Hp):Prop where
 frames:A.frames=some outer
 mod:Mod K mg base
 bs:∀b o,base.get? b=some o->s.heap.get? b=some o/\H b=none
 bsz:base.objs.size<=s.heap.objs.size
 funs:s.heap.FunFrames base outer
 frf:∀b∈frs outer,H b=none
 hok:HOk P w H s.heap
 bare:sf s.gens
def CE(outer:List Env)(P:fh)(w:gh)(H:Hp)(s:bb)(Q:VK)(u:ah)(s':bb):Prop :=
 ∃v H',s'.os=s.os/\sf s'.gens/\Un (frs outer) [] H H' s.heap s'.heap/\HOk P w H' s'.heap/\RelV v u/\Q v H'
def CR(CX:CXT)(outer:List Env)(P:fh)(w:gh)(H:Hp)(s:bb)(Q:VK)(E:XK)(r:Result)(s':bb):Prop :=
 match r with
 | .ok (.ret u)=>CE outer P w H s Q u s'
 | .ok _=>False
 | .error e=>CX outer H s E e s'
structure FnOk(P:fh)(w:gh)(K:W.Frag)(mg:Str->Option ah)(base:Heap)(CX:CXT)(k:Nat)(f:Addr)(fd:gv)(ps:List Str)(sp:Sp):Prop where
 len:∀vs H Q E,sp vs H Q E->vs.length=ps.length
 run:∀(A:jy) (outer:List Env) (s:bb) (H:Hp) (args:Args) (us:List ah) (vs:List V) (Q:VK) (E:XK),Room k A->Env0 P w K mg base A outer s H->BindsTo s fd args (ps.zip us)->Vals vs us->sp vs H Q E →
  lu (cg P w) A (.call (.ref f) args) (CR CX outer P w H s Q E) s
variable {CX:CXT}{fd:gv}
theorem FnOk.mono{k:Nat}{f:Addr}{ps:List Str}{sp:Sp}(F:FnOk P w K mg base CX j f fd ps sp)(h:j<=k):
  FnOk P w K mg base CX k f fd ps sp:=⟨F.len,λA outer s H args us vs Q E hr=>F.run A outer s H args us vs Q E (hr.mono h)⟩
variable {outer:List Env}
theorem Env0.make(e:Env0 P w K mg base A outer s H)(C:Addr)(us:List ah)(kw:List (Str×ah)):
  Env0 P w K mg base (A.under (.builtin "type.__call__" ⟨.ref C::us,kw⟩)) outer s H:=⟨by first|exact e.frames|(simpa [xh,Code.envs,xi,pushEnvs] using e.frames),e.mod,e.bs,e.bsz,e.funs,e.frf,e.hok,e.bare⟩
theorem Inv.env0(I:Inv X pins σ H s):Env0 X.prog X.w X.K X.mg X.base X.A X.stack s H :=
 ⟨I.ok.frames,I.ok.mod,I.bs,ee I.ok.bsz I.sz,I.stack,I.stkFree,I.hok,I.bare⟩
theorem Inv.after(I:Inv X pins σ H s)(h:CE X.stack X.prog X.w H s Q u s'):EP X pins σ Q u s':=by
 obtain⟨v,H',os,bare,un,hok,r,q⟩:=h;obtain⟨hh,g,d,t,os'⟩:=s';obtain rfl:os'=s.os:=os;exact⟨v,H',I.call (h':=hh) (g':=g) (d':=d) (t':=t) (ch:=[]) un hok bare (λb z=>absurd z (by simp)),r,q⟩
def wU(sp:Sp)(dvs:List V)(E:XK)(t:TA):TE:=λσ H Q=>t σ H λvs H1=>sp (vs++dvs) H1 Q E
def FY(C:Addr)(sp:Sp)(dvs:List V)(E:XK)(t:TA):TE:=λσ H Q=>t σ H λvs H1=>∀x dx,H1 x=none->H1 dx=none->dx≠x →
 sp (.ref x::(vs++dvs)) (upd (upd H1 dx (.own x)) x (.ins C dx [])) (λv H2=>v= .non/\Q (.ref x) H2) E
def Binds(K:W.Frag)(fd:gv)(ps:List Str)(ds:List ah):Prop :=
 ∀(s:bb) (us:List ah),K.In s.heap->(us++ds).length=ps.length->BindsTo s fd ⟨us,[]⟩ (ps.zip (us++ds))
theorem Binds.all{ps:List Str}(h:∀us:List ah,us.length=ps.length->bindArgs fd ⟨us,[]⟩=pure (ps.zip us)):Binds K fd ps []:=λs us _ hl=>by
 rw[df]at hl ⊢;exact .of_eq (h us hl)
def v7(CX:CXT)(X:Cx)(E:XK):Prop:=∀(pins:List (Addr×Obj)) (σ:St) (H:Hp) (s:bb) (e:ah) (s':bb),Inv X pins σ H s->CX X.stack H s E e s'->X.xe e s'
section
variable {k:Nat}{f:Addr}{ps:List Str}{sp:Sp}{dvs:List V}{ds:List ah}{E:XK}{p:Pos}{o:Expr}{t:TA}
theorem wB{us:List ah}(F:FnOk X.prog X.w X.K X.mg X.base CX k f fd ps sp)(hr:Room k X.A)(hb:Binds X.K fd ps ds)(hd:Vals dvs ds)(hx:v7 CX X E)
  (I:Inv X pins σ H s)(r:Vals vs us)(h:sp (vs++dvs) H Q E):bz (cg X.prog X.w) X.A (call (.ref f) us) (EP X pins σ Q) X.xe s:=by
 have r2:Vals (vs++dvs) (us++ds):=r.append hd;have hl:(us++ds).length=ps.length:=by rw[←r2.length];exact F.len _ _ _ _ h
 refine wpAny_call (uz (F.run X.A X.stack s H ⟨us,[]⟩ (us++ds) (vs++dvs) Q E hr I.env0 (hb s us I.kIn hl) r2 h) λr s' hq=> ?_);cases r with
 | error e=>exact hx pins σ H s e s' I hq
 | ok fl =>
  cases fl with
  | ret u=>exact I.after hq
  | next=>exact gw hq
  | brk=>exact gw hq
  | cont=>exact gw hq
theorem aBA(F:FnOk X.prog X.w X.K X.mg X.base CX k f fd ps sp)(hr:Room k X.A)(hg:Gl X x)(hm:X.mg x=some (.ref f))(hk:W.keepIn X.K (.ref f)=true)(hb:Binds X.K fd ps ds)(hd:Vals dvs ds)(hx:v7 CX X E)
  (ha:PA X (e::es) t)(hdb:(x==("__debug__" :Str))=false:=by decide)(he:dg (e::es) X.env=(false,eval e X.env)::dg es X.env:=by rfl)(hpl:(jk pos (dg es X.env)).any (·.1)=false:=by rfl) :
  PE X (.Call (.Name x p) (e::es) [] pos) (wU sp dvs E t):=by
 intro pins s σ H Q I h;refine jg (rY I hg hm ?_ hdb);refine W.callWith_K (h₀:=X.base) I.ok.mod.kin hk (thn (ha pos pins s σ H _ I h) ?_) he hpl;rintro us s1 ⟨vs,H1,I1,r,q⟩;refine⟨I1.kIn,?_⟩;exact wB F hr hb hd hx I1 r q
structure Mk(K:W.Frag)(C f:Addr):Prop where
 makes:W.makesIn K C=true
 init:W.findIn K (.ref C) "__init__" =some (some (.ref f))
 fn:W.isFn K (.ref f)=true
 kp:W.keepIn K (.ref C)=true
theorem OL{us:List ah}(M:Mk X.K C f)(F:FnOk X.prog X.w X.K X.mg X.base CX k f fd ps sp)(hr:Room (k+1) X.A)(hb:Binds X.K fd ps ds)(hd:Vals dvs ds)
  (hx:v7 CX X E)(I:Inv X pins σ H s)(r:Vals vs us)
  (h:∀x dx,H x=none->H dx=none->dx≠x->sp (.ref x::(vs++dvs)) (upd (upd H dx (.own x)) x (.ins C dx [])) (λv H2=>v= .non/\Q (.ref x) H2) E) :
  bz (cg X.prog X.w) X.A (call (.ref C) us) (EP X pins σ Q) X.xe s:=by
 have hq:=h (s.heap.objs.size+1) s.heap.objs.size (I.hok.fresh (si _)) (I.hok.fresh (au _)) (cf (lx _));have I2:=Inv.made (C:=C) I;have r2:Vals (V.ref (s.heap.objs.size+1)::(vs++dvs)) (cy (s.heap.objs.size+1)::(us++ds)):= .cons rfl (r.append hd);have hl:(cy (s.heap.objs.size+1)::us++ds).length=ps.length:=by
  have e:=r2.length;rw[F.len _ _ _ _ hq]at e;exact e.symm
 refine wpAny_call (Z2 (f:=f) I.kIn M.makes M.init (beq_iff_eq.mp M.fn) (uz (F.run _ X.stack _ _ ⟨cy (s.heap.objs.size+1)::us,[]⟩ (cy (s.heap.objs.size+1)::(us++ds)) _ _ E (hr.make C us [])
  (I2.env0.make C us []) (hb _ (cy (s.heap.objs.size+1)::us) I2.kIn hl) r2 hq) λr s' hq'=> ?_))
 cases r with
 | error e=>exact hx pins σ _ _ e s' I2 hq'
 | ok fl =>
  cases fl with
  | ret u =>
   obtain⟨v,H',I3,rv,ev,q3⟩:=I2.after hq';subst ev;exact⟨rv,⟨V.ref (s.heap.objs.size+1),H',I3,rfl,q3⟩⟩
  | next=>exact gw hq'
  | brk=>exact gw hq'
  | cont=>exact gw hq'
theorem aDf(M:Mk X.K C f)(F:FnOk X.prog X.w X.K X.mg X.base CX k f fd ps sp)(hr:Room (k+1) X.A)(hg:Gl X x)(hm:X.mg x=some (.ref C))(hb:Binds X.K fd ps ds)(hd:Vals dvs ds)(hx:v7 CX X E)
  (ha:PA X (e::es) t)(hdb:(x==("__debug__" :Str))=false:=by decide)(he:dg (e::es) X.env=(false,eval e X.env)::dg es X.env:=by rfl)(hpl:(jk pos (dg es X.env)).any (·.1)=false:=by rfl) :
  PE X (.Call (.Name x p) (e::es) [] pos) (FY C sp dvs E t):=by
 intro pins s σ H Q I h;refine jg (rY I hg hm ?_ hdb);refine W.callWith_K (h₀:=X.base) I.ok.mod.kin M.kp (thn (ha pos pins s σ H _ I h) ?_) he hpl;rintro us s1 ⟨vs,H1,I1,r,q⟩;refine⟨I1.kIn,?_⟩;exact OL M F hr hb hd hx I1 r q
theorem YB(M:Mk X.K C f)(F:FnOk X.prog X.w X.K X.mg X.base CX k f fd ps sp)(hr:Room (k+1) X.A)(hg:Gl X x)(hm:X.mg x=some (.ref C))(hb:Binds X.K fd ps ds)(hd:Vals dvs ds)(hx:v7 CX X E)
  (hdb:(x==("__debug__" :Str))=false:=by decide):PE X (.Call (.Name x p) [] [] pos) (FY C sp dvs E OE):=by
 intro pins s σ H Q I h;refine jg (rY I hg hm ?_ hdb);exact W.callWith_K0 I.kIn M.kp (OL (us:=[]) M F hr hb hd hx I .nil h)
end
section
variable {k:Nat}{f:Addr}{ps ks:List Str}{sp:Sp}{E:XK}{p kpos:Pos}{o:Expr}{kws:List Keyword}{t tk:TA}{nm:Option Str}
variable {g:List ah->List ah->List ah}{gV:List V->List V->List V}
end
structure aM(N P:List Str)(sc:qi):Prop where
 kind:sc.kind= .function
 co:sc.isCoroutine=false
 gen:sc.isGenerator=false
 nd:N.Nodup
 pre:N.take P.length=P
 par:∀x∈P,sc.names.lookup x=some .local∨sc.names.lookup x=some .cell
 nofree:∀y∈sc.names,y.2≠ .free
variable {kindOf:Str->Option mz}
theorem JP:∀{binds:List (Str×ah)}{m:Str->Option ah},(∀v,(x,v)∉binds)->bindL kindOf binds m x=m x
 | [],_,_=>rfl
 | (n,v)::r,m,h=>by
  unfold bindL;rw[JP λw hw=>h w (ab _ hw)]
  split
  .have:x≠n:=by rintro rfl;exact h v fu
   simp[this]
  .rfl
theorem JX:∀{binds:List (Str×ah)}{m:Str->Option ah},(∀v,(x,v)∉binds)->bindC kindOf binds m x=m x
 | [],_,_=>rfl
 | (n,v)::r,m,h=>by
  unfold bindC;rw[JX λw hw=>h w (ab _ hw)]
  split
  .rfl
  .have:x≠n:=by rintro rfl;exact h v fu
   simp[this]
theorem JU{v:ah}:∀{P:List Str}{vs:List ah}{i:Nat}{m:Str->Option ah},P.Nodup->P[i]? =some x->vs[i]? =some v->kindOf x=some .local →
  bindL kindOf (P.zip vs) m x=some v
 | [],_,_,_,_,h,_,_=>by simp at h
 | _::_,[],_,_,_,_,h,_=>by simp at h
 | p::P,w::vs,0,m,nd,h1,h2,hk=>by
  simp at h1 h2;subst h1;subst h2;show bindL kindOf ((p,w)::P.zip vs) m p=_;unfold bindL;rw[JP λv hv=>(cn.mp nd).1 (qe hv).1,if_pos hk];simp
 | p::P,w::vs,i+1,m,nd,h1,h2,hk=>by
  show bindL kindOf ((p,w)::P.zip vs) m x=_;unfold bindL;exact JU (i:=i) (cn.mp nd).2 (by simpa using h1) (by simpa using h2) hk
theorem IY{v:ah}:∀{P:List Str}{vs:List ah}{i:Nat}{m:Str->Option ah},P.Nodup->P[i]? =some x->vs[i]? =some v->kindOf x≠some .local →
  bindC kindOf (P.zip vs) m x=some v
 | [],_,_,_,_,h,_,_=>by simp at h
 | _::_,[],_,_,_,_,h,_=>by simp at h
 | p::P,w::vs,0,m,nd,h1,h2,hk=>by
  simp at h1 h2;subst h1;subst h2;show bindC kindOf ((p,w)::P.zip vs) m p=_;unfold bindC;rw[JX λv hv=>(cn.mp nd).1 (qe hv).1,if_neg hk];simp
 | p::P,w::vs,i+1,m,nd,h1,h2,hk=>by
  show bindC kindOf ((p,w)::P.zip vs) m x=_;unfold bindC;exact IY (i:=i) (cn.mp nd).2 (by simpa using h1) (by simpa using h2) hk
def gX(N:List Str)(vs:List V):St:=vs.map some++rk (N.length - vs.length) none
def xA(CX:CXT)(P:fh)(w:gh)(K:W.Frag)(mg:Str->Option ah)(base:Heap)(N:List Str)(qual:Str)(scope:qi)(f:Addr)(cd:ah)(A:jy)(outer:List Env)(s:bb)(H:Hp)(E:XK):Cx where
 prog:=P
 w:=w
 K:=K
 mg:=mg
 base:=base
 A:=A.deeper (va qual scope s.heap.objs.size f cd)
 N:=N
 s₀:=s
 H₀:=H
 env:=va qual scope s.heap.objs.size f cd
 outer:=outer
 stack:=va qual scope s.heap.objs.size f cd::outer
 ex:=[]
 calm:=true
 fn:=λ_=>true
 pn:=[]
 xe:=λe s'=>bz (cg P w) (A.deeper (va qual scope s.heap.objs.size f cd)) (leaving (va qual scope s.heap.objs.size f cd) e) (λ_ s''=>CX outer H s E e s'') (λe' s''=>CX outer H s E e' s'') s'
variable {scope:qi}
theorem xW{sc:qi}(h:sc.names.lookup x=some .cell):∃c,(qx n sc.names []).lookup x=some c:=by
 have q:=W.cellsFrom_some sc.names n [] (.inl h);exact tq.mp q
theorem JE{ps:List Str}{f:Addr}{cd:ah}{s1:bb}{E:XK}{us:List ah}
  (S:aM N ps scope)(hd:A.handled=none)(e0:Env0 P w K mg base A outer s H)(hl:vs.length=ps.length)(r:Vals vs us)
  (x:InCallC s s.heap.objs.size (bindL (va qual scope s.heap.objs.size f cd).kindOf (ps.zip us) λ_=>none) (qx (s.heap.objs.size+1) scope.names []) (bindC (va qual scope s.heap.objs.size f cd).kindOf (ps.zip us) λ_=>none) s1) :
  Inv (xA CX P w K mg base N qual scope f cd A outer s H E) [] (gX N vs) H s1:=by
 have hpl:ps.length<=N.length:=by have:=congrArg lh S.pre;rw[dh]at this;lia
 obtain⟨h1,tk,rfl,hk⟩:=x.done;have noA:∀b:Addr,b∉(xA CX P w K mg base N qual scope f cd A outer s H E).ex:=λb z=>absurd (show b∈([]:List Addr) from z) (by simp);refine⟨⟨e0.mod,S.kind,rfl,rfl,au _,λy z c h1 h2=> ?_,λy hy=> ?_,λy c _ h=> ?_,λ_=>hd,vq e0.frames,.inr ⟨rfl,rfl⟩,λb z=>absurd z (noA b),e0.bs,e0.bsz,λb _ _=>noA b,λb z=>absurd z (noA b),e0.funs,e0.frf⟩,
  rfl,e0.bare,Un.kept hk,⟨_,x.toInCall.ns,λi y v h1 h2 h3=> ?_⟩,λy c h=>⟨_,x.cell y c h⟩,e0.hok.fresh (au _),λy c h=> ?_,λp hp=>absurd (show p∈([]:List (Addr×Obj)) from hp) (by simp),e0.hok.kept hk,?_⟩
 .exact name_of_addr x.apart (gx h1) (gx h2)
 .have hy:scope.names.lookup y=some .cell∨scope.names.lookup y=some .free:=hy;rcases hy with hy|hy
  .exact xW hy
  .exact absurd rfl (S.nofree _ (gx hy))
 .exact ls (x.above y c (gx h))
 .have hi:i<vs.length:=by
   unfold gX at h2
   by_cases hi:i<vs.length
   .exact hi
   .rw[fg (by simpa using hi)]at h2;rw[ui]at h2
    split at h2<;>cases h2
  have ha:vs[i]? =some v:=by
   unfold gX at h2;rw[fq (by simpa using hi),bu]at h2;cases e:vs[i]? with
   | none=>rw[e]at h2;cases h2
   | some a=>rw[e]at h2;cases h2;rfl
  obtain⟨u,hu,rv⟩:=r.get ha;have hp:ps[i]? =some y:=by
   rw[←S.pre,List.getElem?_take_of_lt (by lia)];exact h1
  have ndP:ps.Nodup:=by rw[←S.pre];exact S.nd.sublist (List.take_sublist _ _)
  refine⟨u,rv,?_⟩;rcases S.par y (ba hp) with k|k
  .exact .inl ⟨k,JU ndP hp hu k⟩
  .obtain⟨c,e⟩:=xW (n:=s.heap.objs.size+1) k;refine .inr ⟨.inl k,c,e,?_⟩;have q:=x.cell y c e;rw[IY ndP hp hu (by show scope.names.lookup y≠_;rw[k];decide)]at q;exact q
 .exact e0.hok.fresh (ls (x.above y c (gx h)))
 .unfold gX;show _=N.length;rw[ak,af,nv]
  lia
theorem aFI{k:Nat}{f:Addr}{params:qy}{body:List Stmt}{dV kV doc pm cdv ct oc:ah}{an od:Option Addr}
  {osl:Array (Option ah)}{N ps:List Str}{sp:Sp} (lk:K.lookup f=some ⟨oc,od,.func (W.fnOf name qual params body scope dV kV doc pm an cdv ct),osl⟩) (hcd:W.codeIn K cdv qual=true) (S:aM N ps scope)
  (len:∀vs H Q E,sp vs H Q E->vs.length=ps.length)
  (hbody:∀(A:jy) (outer:List Env) (s:bb) (H:Hp) (vs:List V) (Q:VK) (E:XK),Room k (A.deeper (va qual scope s.heap.objs.size f cdv))->sp vs H Q E →
   ∃t,PSs (xA CX P w K mg base N qual scope f cdv A outer s H E) body t/\t { nx:=λ_ H'=>Q .non H',rt:=Q } (gX N vs) H) :
  FnOk P w K mg base CX (k+1) f (W.fnOf name qual params body scope dV kV doc pm an cdv ct) ps sp:=by
 refine⟨len,λA outer s H args us vs Q E hr e0 hb r hsp=> ?_⟩;have hl:=len _ _ _ _ hsp;have KX:K.In s.heap:=e0.mod.kin.keeps λb o e=>(e0.bs b o e).1;have lim:s.heap.NoLimit:=e0.mod.nolimit.keeps λb o e=>(e0.bs b o e).1;have hkind:∀y∈ps.zip us,scope.names.lookup y.1=some .local∨(scope.names.lookup y.1=some .cell/\((qx (s.heap.objs.size+1) scope.names []).lookup y.1).isSome=true):=λ⟨n,v⟩ hy=>by
  rcases S.par n (qe hy).1 with q|q
  .exact .inl q
  .exact .inr ⟨q,W.cellsFrom_some _ _ _ (.inl q)⟩
 refine codeAny_call_function hr.depth (KX _ _ lk) rfl S.co S.gen rfl (W.codeRec_of KX hcd) (hb _ _ _ _ ?_);refine rl S.kind hkind λenv he s1 x=> ?_;subst he;refine⟨lim.keeps x.toInCall.keep,codeAny_func ?_⟩;obtain⟨t,ht,hq⟩:=hbody A outer s H vs Q E (hr.deeper _) hsp;have I:Inv (xA CX P w K mg base N qual scope f cdv A outer s H E) [] (gX N vs) H s1:=JE S hr.hd e0 hl r x;refine fm (ht [] s1 (gX N vs) H _ I hq) (λfl s' hs=> ?_) λe s' hs=>hs;have fin:∀{σ':St}{H':Hp}{v:V}{u:ah},Inv (xA CX P w K mg base N qual scope f cdv A outer s H E) [] σ' H' s'->RelV v u->Q v H'->CE outer P w H s Q u s' :=
  λ{σ' H' v u} J rv q=>⟨v,H',J.os,J.bare,J.base,J.hok,rv,q⟩
 cases fl with
 | ret u =>
  obtain⟨v,σ',H',J,rv,q⟩:=hs;exact fin J rv q
 | next =>
  obtain⟨σ',H',J,q⟩:=hs;exact fin (v:=V.non) (u:=ft) J rfl q
 | brk =>
  obtain⟨_,_,_,q⟩:=hs;exact gw q
 | cont =>
  obtain⟨_,_,_,q⟩:=hs;exact gw q
section
variable {p:Pos}{t:TA}{id T:String}{r:List V->Hp->VK->Prop}
def tCB(r:List V->Hp->VK->Prop)(t:TA):TE:=λσ H Q=>t σ H λvs H1=>r vs H1 Q
theorem bI(hc:dQ X (.builtin id) r)(hg:Gl X x)(hm:X.mg x=none)(hv:fj x=some (.builtin id))(ha:PA X (e::es) t)(hn:x≠ "__name__" :=by decide)(hdb:(x==("__debug__" :Str))=false:=by decide)
  (he:dg (e::es) X.env=(false,eval e X.env)::dg es X.env:=by rfl)(hpl:(jk pos (dg es X.env)).any (·.1)=false:=by rfl):PE X (.Call (.Name x p) (e::es) [] pos) (tCB r t):=by
 intro pins s σ H Q I h;refine jg (zM I hg hm hv ?_ hn hdb);refine PyProof.Rows.callWith_builtin1 (thn (ha pos pins s σ H _ I h) ?_) he hpl;rintro us s1 ⟨vs,H1,I1,r1,q1⟩;exact hc pins s1 σ H1 vs us Q I1 r1 q1
theorem lU(hc:dQ X (.type T) r)(hg:Gl X x)(hm:X.mg x=none)(hv:fj x=some (.type T))(ha:PA X (e::es) t)(hn:x≠ "__name__" :=by decide)(hdb:(x==("__debug__" :Str))=false:=by decide)
  (he:dg (e::es) X.env=(false,eval e X.env)::dg es X.env:=by rfl)(hpl:(jk pos (dg es X.env)).any (·.1)=false:=by rfl):PE X (.Call (.Name x p) (e::es) [] pos) (tCB r t):=by
 intro pins s σ H Q I h;refine jg (zM I hg hm hv ?_ hn hdb);refine kz (thn (ha pos pins s σ H _ I h) ?_) he hpl;rintro us s1 ⟨vs,H1,I1,r1,q1⟩;exact hc pins s1 σ H1 vs us Q I1 r1 q1
end
end L2
namespace HT
open PySem PyProof.Rows
section
open PySem.SeqAt
open PySem.AutoSeq1 (wpAny_loadPart')
open PySem.MeetsSeq PySem.MeetsSeq2 PySem.MeetsSeq3
end
section
variable {prog:fh}{w:gh}{A:jy}{E:ah->bb->Prop}{s:bb}
def sIx(n d:Nat):Option Int->Nat
 | none=>d
 | some v=>if v<0 then (v+(n:Int)).toNat else min v.toNat n
theorem sIx_none(n d:Nat):sIx n d none=d:=rfl
theorem sIx_nat(n d k:Nat):sIx n d (some (k:Int))=min k n:=by
 show (if (k:Int)<0 then ((k:Int)+(n:Int)).toNat else min (k:Int).toNat n)=min k n;rw[if_neg (by lia),dw]
end
end HT
namespace L2
open PySem PySem.Spec PyProof.Rows
abbrev TO:=St->Hp->(Option Int->Hp->Prop)->Prop
def PO(X:Cx)(e:Option Expr)(t:TO):Prop :=
 ∀(pins:List (Addr×Obj)) (s:bb) (σ:St) (H:Hp) (Q:Option Int->Hp->Prop),Inv X pins σ H s->t σ H Q →
  bz (cg X.prog X.w) X.A (evalPart e X.env) (λu s'=>∃o H',Inv X pins σ H' s'/\IsPart u o/\Q o H') X.xe s
def QT:TO:=λ_ H Q=>Q none H
def aBe(t:TE):TO:=λσ H Q=>t σ H λx H1=>∃i,x= .int i/\Q (some i) H1
variable {X:Cx}{e:Expr}{pos:Pos}
section
variable {te:TE}{lo hi:Option Expr}{tl th:TO}{p2:Pos}
theorem aB3:PO X none QT:=by
 intro pins s σ H Q I h;rw[evalPart_none];exact av ⟨none,H,I,.none,h⟩
theorem aB2(h:PE X e te):PO X (some e) (aBe te):=by
 intro pins s σ H Q I hw;rw[evalPart_some];refine thn (h pins s σ H _ I hw) ?_;rintro u s1 ⟨x,H1,I1,r1,q1⟩;obtain⟨i,rfl,q⟩:=q1;obtain⟨t,rfl⟩:=r1;exact⟨some i,H1,I1,.int i t,q⟩
def SlR(X:Cx)(r:V->Option Int->Option Int->Hp->VK->Prop):Prop :=
 ∀(pins:List (Addr×Obj)) (s:bb) (σ:St) (H:Hp) (x:V) (v vl vu:ah) (lo hi:Option Int) (sl:Addr) (Q:VK),Inv X pins σ H s->RelV x v->s.heap.IsSliceOf sl vl vu .none->IsPart vl lo->IsPart vu hi->r x lo hi H Q →
  ∃T id,rm (.type T) "__getitem__" =pure (some (.builtin id))/\s.TypeIs v T/\bz (cg X.prog X.w) X.A (wk v (.ref sl)) (EP X pins σ Q) X.xe s
def tSl(r:V->Option Int->Option Int->Hp->VK->Prop)(te:TE)(tl th:TO):TE:=λσ H Q=>te σ H λx H1=>tl σ H1 λl H2=>th σ H2 λu H3=>r x l u H3 Q
theorem YL{r:V->Option Int->Option Int->Hp->VK->Prop}(hr:SlR X r)(he:PE X e te)(hl:PO X lo tl)(hu:PO X hi th):PE X (.Subscript e (.Slice lo hi none p2) pos) (tSl r te tl th):=by
 intro pins s σ H Q I h;refine Subscript_ (thn (he pins s σ H _ I h) ?_);rintro v s1 ⟨x,H1,I1,r1,q1⟩;refine wpAny_Slice (thn (hl pins s1 σ H1 _ I1 q1) ?_);rintro vl s2 ⟨l,H2,I2,pl,q2⟩;refine thn (hu pins s2 σ H2 _ I2 q2) ?_;rintro vu s3 ⟨u,H3,I3,pu,q3⟩;rw[evalPart_none];refine av ?_;have I4:Inv X pins σ H3 { s3 with heap:=s3.heap.push { cls:= .type "slice",data:= .fields #[vl,vu,.none] } }:=I3.kept (t':=s3.toks) λb ob q=>aj _ q;obtain⟨T,id,hT,ht,hg⟩:=hr pins { s3 with heap:=s3.heap.push { cls:= .type "slice",data:= .fields #[vl,vu,.none] } } σ H3 x v vl vu l u s3.heap.objs.size Q I4 r1 (Heap.IsSliceOf.new ..) pl pu q3;show bz (cg X.prog X.w) X.A (subscriptTail e (.Slice lo hi none p2) v (.ref s3.heap.objs.size)) (EP X pins σ Q) X.xe { s3 with heap:=s3.heap.push { cls:= .type "slice",data:= .fields #[vl,vu,.none] } };exact tail_any (ops:=[.ref s3.heap.objs.size,v]) ht hT hg (by with_unfolding_all rfl)
def DL(xs:List V)(lo hi:Option Int):List V:=(xs.drop (HT.sIx xs.length 0 lo)).take (HT.sIx xs.length xs.length hi - HT.sIx xs.length 0 lo)
theorem PJ(xs:List V)(lo hi:Option Int):(DL xs lo hi).length<=xs.length:=by
 unfold DL;rw[dh,List.length_drop]
 lia
end
def ixN(n:Nat)(i:Int):Option Nat:=if 0<=i then (if i<n then some i.toNat else none) else if -(n:Int)<=i then some (i+n).toNat else none
variable {α:Type}
def atI(xs:List α)(i:Int):Option α:=(ixN xs.length i).bind λj=>xs[j]?
variable {j n t':Nat}{i:Int}
theorem QX(h:ixN n i=some j):seqIndex? i n=some j/\j<n/\ -(n:Int)<=i/\i<n:=by
 unfold ixN at h
 by_cases h0:0<=i
 .rw[if_pos h0]at h
  by_cases h1:i<n
  .rw[if_pos h1]at h;have e:i.toNat=j:=dq h;exact⟨by rw[seqIndex_of h0 h1,e],by lia,by lia,h1⟩
  .rw[if_neg h1]at h;cases h
 .rw[if_neg h0]at h
  by_cases h1: -(n:Int)<=i
  .rw[if_pos h1]at h;have e:(i+n).toNat=j:=dq h;exact⟨by rw[seqIndex_neg (by lia) h1,e],by lia,h1,by lia⟩
  .rw[if_neg h1]at h;cases h
theorem GW{α:Type}{xs:List α}{v:α}(h:atI xs i=some v):∃j,seqIndex? i xs.length=some j/\xs[j]? =some v/\j<xs.length/\ -(xs.length:Int)<=i/\i<xs.length:=by
 unfold atI at h;cases e:ixN xs.length i with
 | none=>rw[e]at h;cases h
 | some j =>
  rw[e]at h;obtain⟨h1,h2,h3,h4⟩:=QX e;exact⟨j,h1,h,h2,h3,h4⟩
theorem rW{α:Type}{xs:List α}{v:α}(h:xs[j]? =some v):atI xs (j:Int)=some v:=by
 have hj:j<xs.length:=(ax.mp h).1;have e:ixN xs.length (j:Int)=some j:=by
  unfold ixN;rw[if_pos (by lia),if_pos (by lia)];simp
 unfold atI;rw[e];exact h
theorem YJ(xs:List α)(v:α):atI (xs++[v]) (-1)=some v:=by
 have hl:(xs++[v]).length=xs.length+1:=by simp
 have e:ixN (xs++[v]).length (-1)=some xs.length:=by
  unfold ixN;rw[hl,if_neg (by decide),if_pos (by lia)]
  congr 1
  lia
 unfold atI;rw[e];show (xs++[v])[xs.length]? =some v;simp
def aDa(b:Expr):Prop:=∀o i,vt b false o i=operate [o,i] (wk o i)
def IxR(X:Cx)(r:R2):Prop :=
 ∀(value slice:Expr) (pins:List (Addr×Obj)) (s:bb) (σ:St) (H:Hp) (x y:V) (v u:ah) (Q:VK),Inv X pins σ H s->RelV x v->RelV y u->r x y H Q →
  vt slice false v u=operate [v,u] (wk v u)->bz (cg X.prog X.w) X.A (subscriptTail value slice v u) (EP X pins σ Q) X.xe s
def MtR(X:Cx)(id:String)(r:V->List V->Hp->VK->Prop):Prop :=
 ∀(pins:List (Addr×Obj)) (s:bb) (σ:St) (H:Hp) (x:V) (xs:List V) (v:ah) (us:List ah) (Q:VK),Inv X pins σ H s->RelV x v->Vals xs us->r x xs H Q →
  bz (cg X.prog X.w) X.A (call (.builtin id) (v::us)) (EP X pins σ Q) X.xe s
variable {pins:List (Addr×Obj)}{σ:St}{H:Hp}{s:bb}{xs ys:List V}{its':List ah}{A:jy}{y:V}{u:ah}{T:String}
section
variable {X:Cx}{a b:Expr}{ta tb:TE}{pos:Pos}
theorem aS{r:R2}(hr:IxR X r)(ha:PE X a ta)(hb:PE X b tb)(hs:aDa b):PE X (.Subscript a b pos) (tOp r ta tb):=by
 intro pins s σ H Q I h;exact Subscript_ (ZF ha hb I h λv u s2 x y H2 I2 rx ry q=>hr a b pins s2 σ H2 x y v u Q I2 rx ry q (hs _ _))
def AM(K:W.Frag):R2:=λx y H Q=>∃p xs i v,x= .ref p/\y= .int i/\SqL K H p xs/\atI xs i=some v/\Q v H
def aEz(K:W.Frag):R2:=λx y H Q=>∃p xs i v,x= .ref p/\y= .int i/\SqT K H p xs/\atI xs i=some v/\Q v H
def aGj:R2:=λx y H Q=>∃z i c,x= .str z/\y= .int i/\z.length<=sizeLine/\atI z.cps.toList i=some c/\Q (.str ⟨#[c]⟩) H
theorem aW:IxR X (AM X.K):=by
 intro value slice pins s σ H x y v u Q I rx ry h hs;obtain⟨p,xs,i,z,rfl,rfl,hq,he,q⟩:=h;cases rx;obtain⟨t,rfl⟩:=ry;obtain⟨its,r,pl,hz⟩:=I.list hq;obtain⟨j,h1,h2,h3,h4,h5⟩:=GW he;obtain⟨w,ew,rw'⟩:=r.get h2;have hl:=r.length;have hn:=tE;have fin:EP X pins σ Q w s:=⟨z,H,I,rw',q⟩
 by_cases h0:0<=i
 .have hj:i.toNat=j:=by
   rw[seqIndex_of h0 h5]at h1;exact dq h1
  exact item_listR pl.isList h0 (by lia) (by rw[hj];simpa using ew) fin hs
 .have hj:(i+(its.toArray.size:Int)).toNat=j:=by
   rw[seqIndex_neg (by lia) h4]at h1;rw[bp,←hl];exact dq h1
  exact subscriptTail_builtinR (x:=w) pl.isList.typeIs slot_list_getitem.lookup
   (wpAny_getItem_list_neg (Q:=λr s'=>r=w/\EP X pins σ Q r s') pl.isList (by lia) (by rw[bp]<;>lia) (by lia) (by rw[hj];simpa using ew) ⟨rfl,fin⟩) hs
theorem dA:IxR X (aEz X.K):=by
 intro value slice pins s σ H x y v u Q I rx ry h hs;obtain⟨p,xs,i,z,rfl,rfl,hq,he,q⟩:=h;cases rx;obtain⟨t,rfl⟩:=ry;obtain⟨its,r,pl,hz⟩:=I.tuple hq;obtain⟨j,h1,h2,h3,h4,h5⟩:=GW he;obtain⟨w,ew,rw'⟩:=r.get h2;have hl:=r.length;have hn:=tE;have fin:EP X pins σ Q w s:=⟨z,H,I,rw',q⟩
 exact subscriptTail_builtinR (x:=w) pl.typeIs slot_tuple_getitem.lookup
  (getItem_tuple (j:=j) (Q:=λr s'=>r=w/\EP X pins σ Q r s') pl (by lia) (by lia) (by rw[bp,←hl];exact h1) (by simpa using ew) ⟨rfl,fin⟩) hs
theorem aDy:IxR X aGj:=by
 intro value slice pins s σ H x y v u Q I rx ry h hs;obtain⟨z,i,c,rfl,rfl,hz,he,q⟩:=h;obtain⟨t,rfl⟩:=rx;obtain⟨t',rfl⟩:=ry;obtain⟨j,h1,h2,h3,h4,h5⟩:=GW he;have hl:z.cps.toList.length=z.length:=by simp[Str.length]
 rw[hl]at h1 h4 h5;have hn:=tE;exact tail_any (typeIs_str s z t) slot_str_getitem.lookup (getItem_str (c:=c) (by
  have e1:decide (i< -(2^63:Int))=false:=decide_eq_false (by lia);have e2:decide (i≥2^63)=false:=decide_eq_false (by lia);rw[e1,e2,Bool.or_false]) (by rw[h1];simpa using h2) ⟨.str ⟨#[c]⟩,H,I.tok _,⟨_,rfl⟩,q⟩) hs
theorem SX(its:List ah)(n j:Nat)(u:ah):iw (·.setIfInBounds j u) { cls:= .type "list",data:= .seq its.toArray n }={ cls:= .type "list",data:= .seq (its.set j u).toArray n }:=by
 simp[iw]
theorem Inv.lst{pins:List (Addr×Obj)}{σ:St}{H:Hp}{s:bb}{p:Addr}{xs:List V}(I:Inv X pins σ H s)(h:H p=some (.lst xs)) :
  ∃(its:List ah) (n:Nat),Vals xs its/\s.heap.get? p=some { cls:= .type "list",data:= .seq its.toArray n }/\xs.length<=sizeLine:=by
 obtain⟨z,its,n,r,e⟩:=I.hok p _ h;exact⟨its,n,r,e,z⟩
theorem Inv.lstUpd{p:Addr}{its:List ah}{n':Nat}{f:Obj->Obj}(I:Inv X pins σ H s)(h:H p=some (.lst xs))
  (ho:s.heap.get? p=some { cls:= .type "list",data:= .seq its.toArray n })(hf:f { cls:= .type "list",data:= .seq its.toArray n }={ cls:= .type "list",data:= .seq its'.toArray n' })(r:Vals ys its')(hz:ys.length<=sizeLine)(t:Nat) :
  Inv X pins σ (upd H p (.lst ys)) { s with heap:=s.heap.update p f,toks:=t }:=by
 have e:(s.heap.update p f).get? p=some { cls:= .type "list",data:= .seq its'.toArray n' }:=by
  rw[iu f ho (by rw[hf]<;>rfl),hf]
 refine I.write (x:=p) (e:=p) (by rw[h];trivial) (.inl rfl) (λb u hb q=>(gc _ _ (eh hb)).trans q) ⟨_,e⟩ ?_;exact⟨hz,its',n',r,e⟩
def aAB:V->V->V->Hp->(Hp->Prop)->Prop:=λo i v H Q=>∃p xs k j,o= .ref p/\i= .int k/\H p=some (.lst xs)/\ixN xs.length k=some j/\Q (upd H p (.lst (xs.set j v)))
theorem tH:Z1 X aAB:=by
 intro pins s σ H o i v ov iv u Q I ro ri rv h;obtain⟨p,xs,k,j,rfl,rfl,hp,hj,q⟩:=h;cases ro;obtain⟨t,rfl⟩:=ri;obtain⟨its,n,r,ho,hz⟩:=I.lst hp;obtain⟨h1,h2,h3,h4⟩:=QX hj;have hl:=r.length;have hn:=tE;have I':Inv X pins σ (upd H p (.lst (xs.set j v))) { s with heap:=s.heap.update p (iw (·.setIfInBounds j u)) } :=
  I.lstUpd hp ho (SX its n j u) (r.set rv j) (by rw[kh];exact hz) s.toks
 by_cases h0:0<=k
 .have hk:k.toNat=j:=by
   rw[seqIndex_of h0 h4]at h1;exact dq h1
  exact W.ki_setAt ho h0 (by lia) (by rw[bp,←hl];exact h4) (by rw[hk];exact⟨_,I',q⟩)
 .have hk:(k+(its.toArray.size:Int)).toNat=j:=by
   rw[seqIndex_neg (by lia) h3]at h1;rw[bp,←hl];exact dq h1
  exact W.ki_setBack ho (by lia) (by rw[bp,←hl];exact h3) (by lia) (by rw[hk];exact⟨_,I',q⟩)
theorem NG(lo hi:Option Int)(n:Nat):(mw lo hi none n).1=((HT.sIx n 0 lo:Nat):Int)/\(mw lo hi none n).2.1=((HT.sIx n n hi:Nat):Int)/\(mw lo hi none n).2.2=1:=by
 refine⟨?_,?_,rfl⟩
 .cases lo with
  | none=>simp[mw,HT.sIx]
  | some i =>
   simp only[mw,HT.sIx,Option.getD_none,show (1:Int)>0 by decide,if_true]
   by_cases h:i<0
   .simp only[h,if_true]<;>lia
   .simp only[h,if_false]<;>lia
 .cases hi with
  | none=>simp[mw,HT.sIx]
  | some i =>
   simp only[mw,HT.sIx,Option.getD_none,show (1:Int)>0 by decide,if_true]
   by_cases h:i<0
   .simp only[h,if_true]<;>lia
   .simp only[h,if_false]<;>lia
theorem KG(its:List ah)(lo hi:Option Int):slicePick its.toArray lo hi none=((its.drop (HT.sIx its.length 0 lo)).take (HT.sIx its.length its.length hi - HT.sIx its.length 0 lo)).toArray:=by
 obtain⟨h1,h2,h3⟩:=NG lo hi its.toArray.size;unfold slicePick;rw[h1,h2,h3];simp only[sliceRange_one,pick_run,bp]<;>rfl
def ZZ(K:W.Frag):V->Option Int->Option Int->Hp->VK->Prop:=λx lo hi H Q=>∃a xs,x= .ref a/\SqL K H a xs/\∀p,H p=none->Q (.ref p) (upd H p (.lst (DL xs lo hi)))
theorem aCv:SlR X (ZZ X.K):=by
 intro pins s σ H x v vl vu lo hi sl Q I rx hs pl pu h;obtain⟨a,xs,rfl,hx,q⟩:=h;cases rx;obtain⟨its,r,ht,hz⟩:=I.list hx;have hlen:=r.length;refine⟨"list",_,slot_list_getitem.lookup,ht.isList.typeIs,?_⟩;refine wpAny_getItem_list_slice ht.isList hs pl pu .none (by simp) ?_ (by rw[bp]<;>lia);rw[KG,←hlen];refine⟨.ref s.heap.objs.size,_,I.laid (t':=s.toks) (o:= .lst (DL xs lo hi)) (λb ob q=>aj _ q) (au _) ?_,rfl,q _ (I.hok.fresh (au _))⟩;exact⟨ee (PJ xs lo hi) hz,_,0,(r.drop (HT.sIx xs.length 0 lo)).take (HT.sIx xs.length xs.length hi - HT.sIx xs.length 0 lo),bg _ rfl⟩
def uZ:V->Bool
 | .non=>true
 | .bl _=>true
 | .int _=>true
 | .str _=>true
 | _=>false
def eqV:V->V->Bool
 | .non,.non=>true
 | .bl a,.bl b=>a==b
 | .bl a,.int b=>(if a then 1 else 0)==b
 | .int a,.bl b=>a==(if b then 1 else 0)
 | .int a,.int b=>a==b
 | .str a,.str b=>a==b
 | _,_=>false
theorem aEx{x:V}{v:ah}(ry:RelV y u)(rx:RelV x v)(fy:uZ y=true)(fx:uZ x=true):SeqAt.EqAt A s u v (eqV y x):=by
 cases y with
 | non =>
  cases ry;cases x with
  | non=>cases rx;exact SeqAt.EqAt.same _
  | bl b=>cases rx;exact SeqAt.EqAt.none_bool b
  | int b=>obtain⟨t,rfl⟩:=rx;exact SeqAt.EqAt.none_int b t
  | str b=>obtain⟨t,rfl⟩:=rx;exact SeqAt.EqAt.none_str b t
  | _=>exact absurd (show false=true from fx) bw
 | bl a =>
  cases ry;cases x with
  | non=>cases rx;exact SeqAt.EqAt.bool_none a
  | bl b=>cases rx;exact SeqAt.EqAt.bool_bool a b
  | int b=>obtain⟨t,rfl⟩:=rx;exact SeqAt.EqAt.bool_int a b t
  | str b=>obtain⟨t,rfl⟩:=rx;exact SeqAt.EqAt.bool_str a b t
  | _=>exact absurd (show false=true from fx) bw
 | int a =>
  obtain⟨t',rfl⟩:=ry;cases x with
  | non=>cases rx;exact SeqAt.EqAt.int_none a t'
  | bl b=>cases rx;exact SeqAt.EqAt.int_bool a t' b
  | int b=>obtain⟨t,rfl⟩:=rx;exact SeqAt.EqAt.int_int a t' b t
  | str b=>obtain⟨t,rfl⟩:=rx;exact wu a t' b t
  | _=>exact absurd (show false=true from fx) bw
 | str a =>
  obtain⟨t',rfl⟩:=ry;cases x with
  | non=>cases rx;exact SeqAt.EqAt.str_none a t'
  | bl b=>cases rx;exact SeqAt.EqAt.str_bool a t' b
  | int b=>obtain⟨t,rfl⟩:=rx;exact wx a t' b t
  | str b=>obtain⟨t,rfl⟩:=rx;exact SeqAt.EqAt.str_str a t' b t
  | _=>exact absurd (show false=true from fx) bw
 | _=>exact absurd (show false=true from fy) bw
def eqU(x:V)(u:ah):Bool:=match u with
 | .none=>eqV .non x
 | .bool b=>eqV (.bl b) x
 | .int i _=>eqV (.int i) x
 | .str z _=>eqV (.str z) x
 | _=>false
theorem WA{x:V}(r:RelV y u)(f:uZ y=true):eqU x u=eqV y x:=by
 cases y with
 | non=>cases r;rfl
 | bl b=>cases r;rfl
 | int i=>obtain⟨t,rfl⟩:=r;rfl
 | str z=>obtain⟨t,rfl⟩:=r;rfl
 | _=>exact absurd (show false=true from f) bw
theorem IF{x:V}:∀{xs:List V}{us:List ah},Vals xs us->xs.all uZ=true->us.any (eqU x)=xs.any λy=>eqV y x
 | _,_,.nil,_=>rfl
 | y::xs,u::us,.cons r t,f=>by
  rw[ma,ie]at f;rw[kq,kq,WA r f.1,IF t f.2]
theorem DY{x:V}{v:ah}(rx:RelV x v)(fx:uZ x=true):∀{xs:List V}{us:List ah},Vals xs us->xs.all uZ=true->∀u∈us,SeqAt.EqAt A s u v (eqU x u)
 | _,_,.nil,_=>λu hu=>by cases hu
 | y::xs,u::us,.cons r t,f=>λu' hu=>by
  rw[ma,ie]at f;rcases aw.mp hu with rfl|hu
  .rw[WA r f.1];exact aEx r rx f.1 fx
  .exact DY rx fx t f.2 u' hu
def inV(x:V)(xs:List V):Bool:=xs.any λy=>eqV y x
def rIn(K:W.Frag)(neg:Bool):R2:=λx y H Q=>∃p xs,y= .ref p/\(SqL K H p xs∨SqT K H p xs)/\uZ x=true/\xs.all uZ=true/\Q (.bl (if neg then !inV x xs else inV x xs)) H
theorem VS:OpR X (gu .In) (rIn X.K false):=by
 intro pins s σ H x y v u Q I rx ry h;obtain⟨p,xs,rfl,hq,fx,fs,q⟩:=h;cases ry;rcases hq with hq|hq
 .obtain⟨its,r,pl,hz⟩:=I.list hq;refine SeqAt.in_listAt (eqU x) pl.isList (λw hw=>DY rx fx r fs w (by simpa using hw)) ⟨.bl _,H,I,rfl,?_⟩;rw[show its.toArray.any (eqU x)=its.any (eqU x) by simp,IF r fs];exact q
 .obtain⟨its,r,pl,hz⟩:=I.tuple hq;refine SeqAt.in_tupleAt (eqU x) pl (λw hw=>DY rx fx r fs w (by simpa using hw)) ⟨.bl _,H,I,rfl,?_⟩;rw[show its.toArray.any (eqU x)=its.any (eqU x) by simp,IF r fs];exact q
theorem LL:dQ X (.builtin "len") (λxs H Q=>∃p ys,xs=[.ref p]/\(SqL X.K H p ys∨SqT X.K H p ys)/\Q (.int ys.length) H):=by
 intro pins s σ H xs us Q I r h;obtain⟨p,ys,rfl,hq,q⟩:=h;obtain⟨u,rfl,rx⟩:=mF r;cases rx;have hn:=tE;rcases hq with hq|hq
 .obtain⟨its,r',pl,hz⟩:=I.list hq;have hlen:=r'.length;exact Calls.call_len_list pl.isList (by simp only[bp]<;>lia) ⟨.int ys.length,H,I.tok _,⟨s.toks+1,by rw[bp,hlen]⟩,q⟩
 .obtain⟨its,r',pl,hz⟩:=I.tuple hq;have hlen:=r'.length;exact len_tuple pl (by simp only[bp]<;>lia) ⟨.int ys.length,H,I.tok _,⟨s.toks+1,by rw[bp,hlen]⟩,q⟩
theorem OK:dQ X (.builtin "len") (λxs H Q=>∃z,xs=[.str z]/\z.length<=sizeLine/\Q (.int z.length) H):=by
 intro pins s σ H xs us Q I r h;obtain⟨z,rfl,hz,q⟩:=h;obtain⟨u,rfl,t,rfl⟩:=mF r;have hn:=tE;exact len_str (by lia) ⟨.int z.length,H,I.tok _,⟨_,rfl⟩,q⟩
theorem N8:dQ X (.type "list") (λxs H Q=>∃p ys,xs=[.ref p]/\(SqL X.K H p ys∨SqT X.K H p ys)/\∀l,H l=none->Q (.ref l) (upd H l (.lst ys))):=by
 intro pins s σ H xs us Q I r h;obtain⟨p,ys,rfl,hq,q⟩:=h;obtain⟨u,rfl,rx⟩:=mF r;cases rx;have fin:∀(its:List ah),Vals ys its->ys.length<=sizeLine->∀(h':Heap) (c':Nat),(∀b o',s.heap.get? b=some o'->h'.get? b=some o') →
   h'.get? s.heap.objs.size=some { cls:= .type "list",dict:=none,data:= .seq its.toArray c',slots:= #[] }->EP X pins σ Q (.ref s.heap.objs.size) { s with heap:=h' }:=λits r' hz h' c' kp e =>
  ⟨.ref s.heap.objs.size,_,I.laid (t':=s.toks) kp (au _) (show ObjOk X.prog X.w _ h' _ (.lst ys) from⟨hz,its,c',r',e⟩),rfl,q _ (I.hok.fresh (au _))⟩
 rcases hq with hq|hq
 .obtain⟨its,r',pl,hz⟩:=I.list hq;have hlen:=r'.length;obtain⟨o,ho,hc,n,hd⟩:=pl.isList;exact call_list_seq p (.inl rfl) ho hc hd (λh' c' kp e=>fin its r' hz h' c' kp e) (by simp only[bp]<;>lia)
 .obtain⟨its,r',pl,hz⟩:=I.tuple hq;have hlen:=r'.length;obtain⟨o,ho,hc,n,hd⟩:=pl;exact call_list_seq p (.inr rfl) ho hc hd (λh' c' kp e=>fin its r' hz h' c' kp e) (by simp only[bp]<;>lia)
def tyV(K:W.Frag)(T:String)(x:V)(H:Hp):Prop:=match x with
 | .str _=>T= "str"
 | .int _=>T= "int"
 | .ref p=>(T= "list" /\∃xs,SqL K H p xs)∨(T= "tuple" /\∃o,K.lookup p=some o/\o.cls= .type "tuple" /\o.dict=none) ∨
   (T= "dict" /\((∃kvs,H p=some (.dK kvs))∨∃kvs,H p=some (.dT kvs)))∨(T= "set" /\∃S n,H p=some (.set S n))
 | _=>False
theorem XO{x:V}{v:ah}(I:Inv X pins σ H s)(r:RelV x v)(ty:tyV X.K T x H):
  s.TypeIs v T/\∀a,v= .ref a->∃ob,s.heap.get? a=some ob/\ob.dict=none:=by
 cases x with
 | str z =>
  obtain⟨t,rfl⟩:=r;cases (show T= "str" from ty);exact⟨typeIs_str s z t,λ_ e=>nomatch e⟩
 | int i =>
  obtain⟨t,rfl⟩:=r;cases (show T= "int" from ty);exact⟨typeIs_int s i t,λ_ e=>nomatch e⟩
 | ref p =>
  cases r;rcases ty with⟨rfl,xs,hq⟩|⟨rfl,o,hk,hc,hd⟩|⟨rfl,hk⟩|⟨rfl,S,n,hk⟩
  .obtain⟨its,_,pl,_⟩:=I.list hq;refine⟨pl.isList.typeIs,λa e=> ?_⟩;cases e;obtain⟨o,n,e,c,hd,_⟩:=pl;exact⟨o,e,hd⟩
  .refine⟨⟨o,I.kIn p o hk,hc⟩,λa e=> ?_⟩;cases e;exact⟨o,I.kIn _ o hk,hd⟩
  .have z:∃o,s.heap.get? p=some o/\o.ExactDict:=by
    rcases hk with⟨kvs,hk⟩|⟨kvs,hk⟩
    .obtain⟨_,_,_,_,o,_,_,e,ex,_⟩:=I.hok p _ hk;exact⟨o,e,ex⟩
    .obtain⟨_,_,_,_,o,_,_,e,ex,_⟩:=I.hok p _ hk;exact⟨o,e,ex⟩
   obtain⟨o,e,ex⟩:=z;refine⟨⟨o,e,ex.1⟩,λa e2=> ?_⟩;cases e2;exact⟨o,e,ex.2.1⟩
  .obtain⟨o,_,_,_,e,ex,_⟩:=I.hok p _ hk;refine⟨⟨o,e,ex.1⟩,λa e2=> ?_⟩;cases e2;exact⟨o,e,ex.2.1⟩
 | _=>exact gw ty
def aEu(K:W.Frag)(T:String)(r:V->List V->Hp->VK->Prop)(to:TE):TE:=λσ H Q=>to σ H λx H1=>tyV K T x H1/\r x [] H1 Q
def tBM(K:W.Frag)(T:String)(r:V->List V->Hp->VK->Prop)(to:TE)(t:TA):TE:=λσ H Q=>to σ H λx H1=>tyV K T x H1/\t σ H1 λxs H2=>r x xs H2 Q
variable {o e:Expr}{es:List Expr}{to:TE}{t:TA}{name:Str}{apos cpos:Pos}{T id:String}{r:V->List V->Hp->VK->Prop}
theorem aD8(pa:PlainAttrs T)(slot:Slot T name id)(hty:typeOf (.builtin id)=pure (.type "method_descriptor"))(hm:MtR X id r)(ho:PE X o to)
  (hbase:jq o name X.env (eval o X.env)=eval o X.env:=by rfl)(hline:(apos.endLine==cpos.line)=true:=by rfl):PE X (.Call (.Attribute o name apos) [] [] cpos) (aEu X.K T r to):=by
 intro pins s σ H Q I h;refine mx hbase hline (thn (ho pins s σ H _ I h) ?_);rintro v s1 ⟨x,H1,I1,r1,ty,q1⟩;obtain⟨h1,h2⟩:=XO I1 r1 ty;exact⟨T,id,pa,slot,hty,h1,h2,jd rfl (ql (hm pins s1 σ H1 x [] v [] Q I1 r1 .nil q1))⟩
theorem fW(pa:PlainAttrs T)(slot:Slot T name id)(hty:typeOf (.builtin id)=pure (.type "method_descriptor"))(hm:MtR X id r)(ho:PE X o to)(ha:PA X (e::es) t)
  (hbase:jq o name X.env (eval o X.env)=eval o X.env:=by rfl)
  (hfew:((jk cpos (dg (e::es) X.env)).all (λx=> !x.1)&&(uj cpos (my [] X.env)).all (λx=>x.1.isSome)
   && decide ((e::es).length+([]:List Keyword).length+(if ([]:List Keyword).isEmpty then 0 else 1)<30))=true:=by rfl)
  (hline:(apos.endLine==cpos.line)=true:=by rfl)(hs:dg (e::es) X.env=(false,eval e X.env)::dg es X.env:=by rfl)(hplain:(jk cpos (dg es X.env)).any (·.1)=false:=by rfl) :
  PE X (.Call (.Attribute o name apos) (e::es) [] cpos) (tBM X.K T r to t):=by
 intro pins s σ H Q I h;refine wpAny_Call_method_late hbase hfew hline rfl (thn (ho pins s σ H _ I h) ?_);rintro v s1 ⟨x,H1,I1,r1,ty,q1⟩;obtain⟨h1,h2⟩:=XO I1 r1 ty;refine⟨T,id,pa,slot,hty,h1,h2,?_⟩;have hA:=ha cpos pins s1 σ H1 _ I1 q1;rw[hs]at hA ⊢;refine jd (by show (false||(jk cpos (dg es X.env)).any (·.1))=false;rw[hplain]<;>rfl) (vv ?_);refine thn hA ?_;rintro us s2 ⟨vs,H2,I2,r2,q2⟩;exact hm pins s2 σ H2 x vs v us Q I2 r1 r2 q2
end
def MtM(X:Cx)(id:String)(r:V->List V->Hp->VK->Prop):Prop :=
 ∀(pins:List (Addr×Obj)) (s:bb) (σ:St) (H:Hp) (x:V) (xs:List V) (v:ah) (us:List ah) (Q:VK),Inv X pins σ H s->RelV x v->Vals xs us->r x xs H Q →
  bz (cg X.prog X.w) X.A (call (.builtin id) (v::us)) (EP X pins σ Q) X.xe s
theorem Vals.one:∀{x:V}{us:List ah},Vals [x] us->∃u,us=[u]/\RelV x u
 | _,_,.cons r .nil=>⟨_,rfl,r⟩
section
variable {l b:Addr}{zs:List V}
theorem Inv.lset{its:List ah}{f:Array ah->Array ah}(I:Inv X pins σ H s)(hH:H l=some (.lst xs))
  (e:s.heap.get? l=some { cls:= .type "list",data:= .seq its.toArray n })(hf:f its.toArray=its'.toArray)(hv:Vals ys its')(hz:ys.length<=sizeLine) :
  Inv X pins σ (upd H l (.lst ys)) { s with heap:=s.heap.update l (iw f),toks:=t' }:=by
 have q:=PySem.IsL.update e f;rw[hf]at q;refine I.write (x:=l) (e:=l) (by rw[hH];exact trivial) (.inl rfl) (λb' u hb hu=>(gc s.heap (iw f) (eh hb)).trans hu) ⟨_,q⟩ ?_;exact⟨hz,its',_,hv,q⟩
theorem Inv.lnew{its:List ah}(I:Inv X pins σ H s)(hv:Vals ys its)(hz:ys.length<=sizeLine):
  Inv X pins σ (upd H s.heap.objs.size (.lst ys)) { s with heap:=s.heap.push { cls:= .type "list",data:= .seq its.toArray },toks:=t' } :=
 I.laid (λ_ _ q=>aj _ q) (au _) ⟨hz,its,0,hv,bg _ rfl⟩
theorem Inv.fresh(I:Inv X pins σ H s):H s.heap.objs.size=none:=I.hok.fresh (au _)
theorem Inv.lstM(I:Inv X pins σ H s)(hH:H l=some (.lst xs)):xs.length<=sizeLine/\∃(its:List ah) (n:Nat),Vals xs its/\xs.length=its.length/\s.heap.get? l=some { cls:= .type "list",data:= .seq its.toArray n }:=by
 obtain⟨z,its,n,r,e⟩:=I.hok l _ hH;exact⟨z,its,n,r,r.length,e⟩
theorem Z7(h:n<=sizeLine):md n=false:=by
 unfold md;exact decide_eq_false (by lia)
end
def Q3:V->List V->Hp->VK->Prop:=λx vs H Q=>∃l xs y,x= .ref l/\vs=[y]/\H l=some (.lst xs)/\xs.length<sizeLine/\Q .non (upd H l (.lst (xs++[y])))
theorem cV:MtM X "list.append" Q3:=by
 intro pins s σ H x vs v us Q I rx rv h;obtain⟨l,xs,y,rfl,rfl,hH,hz,q⟩:=h;cases rx;obtain⟨u,rfl,ru⟩:=rv.one;obtain⟨z,its,n,r,hl,e⟩:=I.lstM hH;refine call_meets F.slot_list_append ⟨_,e,rfl⟩ F.entry_list_append (F.args_list_append_2 _ _) (PySem.list_append l its.toArray n u (by rw[bp];lia)) ⟨e,?_⟩;refine⟨.non,_,I.lset (its':=its++[u]) hH e (by simp) (r.append (.cons ru .nil)) ?_,rfl,q⟩;rw[ak,List.length_singleton]
 lia
def RB:V->List V->Hp->VK->Prop:=λx vs H Q=>∃l b xs zs,x= .ref l/\vs=[.ref b]/\H l=some (.lst xs)/\H b=some (.lst zs)/\xs.length+zs.length<=sizeLine/\Q .non (upd H l (.lst (xs++zs)))
theorem IU:MtM X "list.extend" RB:=by
 intro pins s σ H x vs v us Q I rx rv h;obtain⟨l,b,xs,zs,rfl,rfl,hH,hB,hz,q⟩:=h;cases rx;obtain⟨u,rfl,ru⟩:=rv.one;cases ru;obtain⟨z,its,n,r,hl,e⟩:=I.lstM hH;obtain⟨z2,its2,n2,r2,hl2,e2⟩:=I.lstM hB;have hsz:its.toArray.size+its2.toArray.size<=sizeLine:=by rw[bp,bp];lia
 have hlong:¬(!its.toArray.isEmpty&&md (its.toArray.size+its2.toArray.size))=true:=by
  rw[Z7 hsz,Bool.and_false];exact bw
 refine call_meets F.slot_list_extend ⟨_,e,rfl⟩ F.entry_list_extend (F.args_list_extend_2 _ _)
  (AutoSeq1.list_extend_list_list_0 l its.toArray n b its2.toArray n2 hlong (by rw[bp];lia) (by lia)) ⟨e,e2,?_⟩
 refine⟨.non,_,I.lset (its':=its++its2) hH e (by simp) (r.append r2) ?_,rfl,q⟩;rw[ak]
 lia
def aEQ:R2:=λx y H Q=>∃l b xs zs,x= .ref l/\y= .ref b/\H l=some (.lst xs)/\H b=some (.lst zs)/\xs.length+zs.length<=sizeLine/\∀p,H p=none->Q (.ref p) (upd H p (.lst (xs++zs)))
theorem aDL:OpR X (kg .Add) aEQ:=by
 intro pins s σ H x y v u Q I rx ry h;obtain⟨l,b,xs,zs,rfl,rfl,hH,hB,hz,q⟩:=h;cases rx;cases ry;obtain⟨z,its,n,r,hl,e⟩:=I.lstM hH;obtain⟨z2,its2,n2,r2,hl2,e2⟩:=I.lstM hB;refine PySem.P.add_list e e2 ?_ (by rw[bp,bp];lia);have ea:its.toArray++its2.toArray=(its++its2).toArray:=by simp
 rw[ea];exact⟨.ref _,_,I.lnew (t':=s.toks) (r.append r2) (by rw[ak];lia),rfl,q _ I.fresh⟩
section
variable {prog:fh}{w:gh}{E:ah->bb->Prop}
set_option maxRecDepth 100000 in
end
end L2
namespace Att
open PySem PySem.W PySem.Calls PyProof.Rows
variable {h:Heap}
theorem E2{P:Params}:∀(ns:List Int) (vs:List ah),WellAll P h vs (ns.map WData.int)->IntsAre vs ns:=by
 intro ns
 induction ns with
 | nil =>
  intro vs w;rw[List.map_nil]at w;cases w;exact .nil
 | cons n ns ih =>
  intro vs w;rw[ay]at w;cases w with
  | cons a b =>
   cases a;exact .cons _ _ (ih _ b)
variable {n:Nat}
theorem VO{l:OpenLaw}(hn:l.most=some n){P:Params}{args:List WData}{vals:List ah}
  (hpre:l.row.toRowW.claim.pre args=true)(hwl:WellAll P h vals args) :
  ∃a vs ns,vals=[cy a]/\args=[WData.list (ns.map WData.int)]/\h.get? a=some { cls:= .type "list",data:= .seq vs.toArray }/\IntsAre vs ns/\ns.length<=n:=by
 have hsh:WShape.hasAll [] args [.list .int]=true:=(pre_splitW hpre).1;have hc:l.pre.holds [] { args:=args }=true:=(pre_splitW hpre).2;obtain⟨d,r,rfl,h1,h2⟩:=hasAllW_cons hsh;obtain rfl:=hasAllW_nil h2;obtain⟨xs,rfl,h3⟩:=hasW_list h1;obtain⟨ns,rfl⟩:=items_int h3;have hlen:ns.length<=n:=by
  unfold OpenLaw.pre at hc;have h4:(WTm.not (.lt (.lit (.int (n:Int))) (.len (.arg 0)))).holds [] { args:=[.list (ns.map .int)] }=true:=by
   have h4:=(holds_andW hc).1;rw[hn]at h4;exact h4
  have h5:=condW_of h4 (w_not (w_lt w_lit (w_len_list (w_arg rfl))));rw[af]at h5;refine Nat.le_of_not_lt λq=> ?_;have q':(n:Int)<((ns.length:Nat):Int):=by lia
  first
   | (rw[decide_eq_true q']at h5;exact absurd h5 (by decide))
   | (simp at h5;lia)
 cases hwl with
 | cons w1 w2 =>
  cases w2;cases w1 with
  | list ho hall=>exact⟨_,_,ns,rfl,rfl,ho,E2 ns _ hall,hlen⟩
theorem U3(l:OpenLaw)(args:List WData):l.row.toRowW.claim.post args (.bool true) args=true :=
 postW_of (r:=l.row.toRowW) (X:=(true==true))
  (show WShape.has [] (.bool true) .bool=true by first|rfl|decide|simp[WShape.has,WShape.arms,WShape.armsAll])
  (show (WTm.eq .res (.lit (.bool true))).value [] { args:=args,res:=some (.bool true),after:=args }=some (.bool (true==true)) from w_eq_bool (w_res rfl) w_lit) rfl
theorem attach_call{l:OpenLaw}{q:fh}{loose:List Str}{XP:(Str->Option ah)->Heap->Prop}{YP:gh->Heap->Prop}{d:DefRec}
  (hn:l.most=some n)(hdf:d.params.defaults=[])
  (call:∀(w:gh) (s₀ s₁:bb) (mg mb:Str->Option ah) (fa:Addr) (o:Obj) (pm cd doc:ah) (a:Addr) (vs:List ah) (ns:List Int),
   Ground q loose [] XP w s₀ mg mb s₁.heap->YP w s₁.heap →
   s₁.heap.get? fa=some o->o.data= .func (docDef d.name d.params d.body d.scope pm cd doc)->s₁.heap.CodeRec cd d.name->mg d.name=some (.ref fa) →
   s₁.heap.get? a=some { cls:= .type "list",data:= .seq vs.toArray }->IntsAre vs ns->ns.length<=n->s₁.gens= #[] →
   lu (cg l.prog w) wm (.call (.ref fa) ⟨[.ref a],[]⟩) (λr s'=>r= .ok (.ret (.bool true))/\OldK s₁.heap s'.heap/\s'.os=s₁.os/\sf s'.gens) s₁) :
  WalkO q loose XP YP l.row.toRowW d [] (λf vs=>PySem.call f vs):=by
 intro w s₀ s₁ mg mb G Y fa o pm cd doc dV kV ho hd hcd hD hmg hg args vals as hpre hlay hrd hwl hlo;obtain rfl:dV= .none:=Dflts.none hD hdf;obtain rfl:kV= .none:=Dflts.noKw hD;obtain⟨a,vs,ns,rfl,rfl,hobj,hints,hlen⟩:=VO hn hpre hwl;refine enter_call (uz (call w s₀ s₁ mg mb fa o pm cd doc a vs ns G Y ho (fd_plain hd) hcd hmg hobj hints hlen hg) λr s' hq=> ?_);obtain⟨rfl,h2,h3,h4⟩:=hq;exact⟨.inl ⟨.bool true,.bool true,[],rfl,λ_=>rfl,.bool true,U3 l _,λ_=>⟨List.Pairwise.nil,λ_ hm=>(nomatch hm)⟩⟩,h2,h3,h4⟩
section
variable {prog:fh}{w:gh}{A:jy}{E:ah->bb->Prop}{s:bb}{K:Frag}
end
end Att
namespace L2
open PySem PySem.Spec PyProof.Rows
theorem JW:∀{vs:List ah}{ns:List Int},IntsAre vs ns->Vals (ns.map V.int) vs
 | _,_,.nil=> .nil
 | _,_,.cons n t h=> .cons ⟨t,rfl⟩ (JW h)
def bD(s:Stmt)(j:Nat):Stmt:=match s with
 | .ClassDef _ _ _ body _ _ _ _ _ _ _=>body.getD j (.Pass ⟨0,0,0,0⟩)
 | _=> .Pass ⟨0,0,0,0⟩
def d6(s:Stmt):qy:=match s with
 | .FunctionDef _ a _ _ _ _ _ _ _ _=>a
 | _=>{ posonlyargs:=[],args:=[],vararg:=none,kwonlyargs:=[],kw_defaults:=[],kwarg:=none,defaults:=[] }
def dG(s:Stmt):List Stmt:=match s with
 | .FunctionDef _ _ b _ _ _ _ _ _ _=>b
 | _=>[]
def aG(s:Stmt):qi:=match s with
 | .FunctionDef _ _ _ _ _ _ sc _ _ _=>sc
 | _=>{ kind:= .function,names:=[],isGenerator:=false,isCoroutine:=false }
abbrev CX0:CXT:=λ_ _ _ _ _ _=>False
abbrev E0:XK:=λ_ _ _=>False
variable {X:Cx}
theorem u3:v7 CX0 X E0:=λ_ _ _ _ _ _ _ h=>h.elim
variable {K:W.Frag}{P prog:fh}{w:gh}{base h h':Heap}{mg:Str->Option ah}
variable {j k' n nl:Nat}
theorem VM(h:n<=1000):n<sizeLine:=Nat.lt_of_le_of_lt h (by decide)
variable {m qual x z:Str}{apos np pos:Pos}
theorem pv(i:Nat){pos:Pos}(hN:X.N[i]? =some x:=by rfl)(hv:Vis X.env.scope x:=by first|exact vm rfl|exact uu (vm rfl)|exact uu (uu rfl))(hd:(x==("__debug__" :Str))=false:=by decide)
  (hcd:(x==("__classdict__" :Str))=false:=by decide):PE X (.Name x pos) (jU i):=U6 hN hv hd hcd
variable {B:Prop}
theorem F9{c A:Prop}[Decidable c](h1:c->A)(h2:¬c->B):if c then A else B:=by
 by_cases h:c
 .rw[if_pos h];exact h1 h
 .rw[if_neg h];exact h2 h
def Same(H H':Hp):Prop:=∀b o,H b=some o->H' b=some o
theorem Same.refl(H:Hp):Same H H:=λ_ _ h=>h
variable {H H' H1 H2:Hp}
theorem Same.trans(a:Same H H1)(b:Same H1 H2):Same H H2:=λc o h=>b c o (a c o h)
variable {C a b dx ea it p:Addr}{dvs vs xs ys:List V}
theorem Same.seq(e:Same H H')(h:SqL K H a xs):SqL K H' a xs:=by
 rcases h with (h|⟨o,h⟩)|h
 .exact .inl (.inl (e _ _ h))
 .exact .inl (.inr ⟨o,e _ _ h⟩)
 .exact .inr h
variable {rest σ σ0:St}{pins:List (Addr×Obj)}{s s2:bb}
section
variable {D:Addr}
theorem HOk.adds{o:HO}(x:HOk P w H h)(hn:H D=none)(new:ObjOk P w (upd H D o) h D o):HOk P w (upd H D o) h:=λb u e=>by
 by_cases hb:b=D
 .subst hb;rw[aR]at e;cases e;exact new
 .rw[aK hb]at e;exact(x b u e).stay (λc v _ q=>q) (λc q=>by rw[aK (bB q hn)];exact q) λc xs q=>by rw[aK (bB q hn)];exact q
theorem HOk.drops(x:HOk P w (upd H D (.lst ys)) h)(hn:H D=none):HOk P w H h:=λb u e=>by
 have hb:b≠D:=bB e hn;refine(x b u (by rw[aK hb];exact e)).stay (λc v _ q=>q) (λc q=> ?_) λc xs q=> ?_
 .by_cases hc:c=D
  .subst hc;rw[aR]at q;cases q
  .rw[aK hc]at q;exact q
 .by_cases hc:c=D
  .subst hc;rw[aR]at q;cases q
  .rw[aK hc]at q;exact q
theorem Inv.track{its:List ah}(I:Inv X pins σ H s)(hn:H D=none)(e:s.heap.get? D=some { cls:= .type "list",data:= .seq its.toArray n })(r:Vals ys its)(hz:ys.length<=sizeLine)
  (h0:X.s₀.heap.objs.size<=D)(h1:D≠X.env.locals)(h2:∀x c,X.env.cells.lookup x=some c->c≠D)(h3:∀p∈X.pn++pins,p.1≠D):Inv X pins σ (upd H D (.lst ys)) s where
 ok:=I.ok
 os:=I.os
 bare:=I.bare
 base:=by
  have lt:∀b o,X.s₀.heap.get? b=some o->b≠D:=λb o q=>cf (bt (bc q) h0);refine⟨I.base.keep,I.base.slot,λb o q n' hx=> ?_,I.base.there,λb xs q=> ?_,λb o u q=> ?_,λb ps q=> ?_⟩
  .rw[aK (lt b o q)];exact I.base.free b o q n' hx
  .have z:=I.base.tups b xs q;rw[aK (bB z hn)];exact z
  .have z:=I.base.frzs b o u q;rw[aK (bB z hn)];exact z
  .obtain⟨more,z⟩:=I.base.tbls b ps q;exact⟨more,by rw[aK (bB z hn)];exact z⟩
 loc:=I.loc
 cell:=I.cell
 free:=by rw[aK (eh h1)];exact I.free
 freeC:=λx c q=>by rw[aK (h2 x c q)];exact I.freeC x c q
 pin:=λp hp=>by
  obtain⟨a,b,c⟩:=I.pin p hp;exact⟨a,by rw[aK (h3 p hp)];exact b,c⟩
 hok:=I.hok.adds hn ⟨hz,its,n,r,e⟩
 len:=I.len
theorem Inv.untrack(I:Inv X pins σ (upd H D (.lst ys)) s)(hn:H D=none):Inv X pins σ H s where
 ok:=I.ok
 os:=I.os
 bare:=I.bare
 base:=by
  have low:∀b u,upd H D (.lst ys) b=some u->(∀xs,u≠ .lst xs)->H b=some u:=λb u q nl=>by
   by_cases hb:b=D
   .subst hb;rw[aR]at q;cases q;exact absurd rfl (nl ys)
   .rw[aK hb]at q;exact q
  refine⟨I.base.keep,I.base.slot,λb o q n' hx=> ?_,I.base.there,λb xs q=> ?_,λb o u q=> ?_,λb ps q=> ?_⟩
  .have z:=I.base.free b o q n' hx
   by_cases hb:b=D
   .subst hb;exact hn
   .rw[aK hb]at z;exact z
  .exact low _ _ (I.base.tups b xs q) (λ_ z=>by cases z)
  .exact low _ _ (I.base.frzs b o u q) (λ_ z=>by cases z)
  .obtain⟨more,z⟩:=I.base.tbls b ps q;exact⟨more,low _ _ z (λ_ z=>by cases z)⟩
 loc:=I.loc
 cell:=I.cell
 free:=by
  have z:=I.free
  by_cases hb:X.env.locals=D
  .rw[hb];exact hn
  .rw[aK hb]at z;exact z
 freeC:=λx c q=>by
  have z:=I.freeC x c q
  by_cases hb:c=D
  .rw[hb];exact hn
  .rw[aK hb]at z;exact z
 pin:=λp hp=>by
  obtain⟨a,b,c⟩:=I.pin p hp;refine⟨a,?_,c⟩
  by_cases hb:p.1=D
  .rw[hb];exact hn
  .rw[aK hb]at b;exact b
 hok:=I.hok.drops hn
 len:=I.len
end
def bT(X:Cx)(scope:qi)(cl:List (Str×Addr))(N:List Str)(C:Addr)(s0:bb)(H0:Hp)(fp:List Addr):Cx where
 prog:=X.prog
 w:=X.w
 K:=X.K
 mg:=X.mg
 base:=X.base
 A:=X.A
 N:=N
 s₀:=s0
 H₀:=H0
 env:=compEnvC scope cl C X.env
 outer:=X.stack
 stack:=X.stack
 ex:=fp
 fn:=λ_=>false
 calm:=X.calm
 pn:=[]
 xe:=λ_ _=>False
structure Blk(X:Cx)(scope:qi)(cl:List (Str×Addr))(N:List Str)(nl:Nat)(ci:List Nat):Prop where
 kind:scope.kind= .function
 names:∀y∈scope.names,y.2= .local->scope.names.lookup y.1=some .local
 nocell:∀y∈scope.names,y.2≠ .cell
 clos:closureFor scope X.env=pure cl
 sub:∀n c,cl.lookup n=some c->X.env.cells.lookup n=some c
 has:∀n,((relabel scope X.env).names.lookup n=some .cell∨(relabel scope X.env).names.lookup n=some .free)->∃c,cl.lookup n=some c
 len:N.length=nl+ci.length
 cap:∀(j i:Nat),ci[j]? =some i->∃n,N[nl+j]? =some n/\X.N[i]? =some n/\(X.env.scope.names.lookup n=some .cell∨X.env.scope.names.lookup n=some .free) ∧
  ((relabel scope X.env).names.lookup n=some .cell∨(relabel scope X.env).names.lookup n=some .free)/\cl.lookup n=X.env.cells.lookup n
def cB(nl:Nat)(ci:List Nat)(σ:St):St:=rk nl none++ci.map λi=>(σ[i]?).join
variable {ci:List Nat}{v:V}
theorem W1{k:Nat}(h:(cB nl ci σ)[k]? =some (some v)):∃j i,k=nl+j/\ci[j]? =some i/\σ[i]? =some (some v):=by
 unfold cB at h
 by_cases hk:k<nl
 .rw[fq (by simpa using hk),ui]at h
  split at h<;>cases h
 .rw[fg (by simpa using hk),nv,bu]at h;cases e:ci[k - nl]? with
  | none=>rw[e]at h;cases h
  | some i =>
   rw[e]at h;have h':(σ[i]?).join=some v:=by simpa using h
   refine⟨k - nl,i,by lia,e,?_⟩;cases q:σ[i]? with
   | none=>rw[q]at h';cases h'
   | some o=>rw[q]at h';simp at h';rw[h']
theorem NA:(cB nl ci σ).length=nl+ci.length:=by unfold cB;simp
variable {scope:qi}{cl cs:List (Str×Addr)}{N:List Str}
section
variable {fp:List Addr}
theorem PP(B:Blk X scope cl N nl ci)(I:Inv X pins σ H2 s2)(f2:∀b∈fp,sN X pins H2 b)(fo:∀b∈fp,∃o,s2.heap.get? b=some o){h4:Heap}{t4:Nat}{m4:Str->Option ah}(hC:s2.heap.objs.size<=C)(hns:h4.Ns C m4)
  (hk:∀b o,s2.heap.get? b=some o->h4.get? b=some o):Inv (bT X scope cl N C s2 H2 fp) [] (cB nl ci σ) H2 { s2 with heap:=h4,toks:=t4 }:=by
 have lt2:∀b∈fp,b<s2.heap.objs.size:=λb hb=>by obtain⟨o,e⟩:=fo b hb;exact bc e
 have ok:(bT X scope cl N C s2 H2 fp).Ok:=by
  refine⟨I.ok.mod,B.kind,I.ok.glob,I.ok.blt,hC,λx y c h1 h2=>I.ok.inj x y c (B.sub x c h1) (B.sub y c h2),λx hx=>B.has x hx,λx c hf _=>(by cases hf),I.ok.hd,I.ok.frames,.inl rfl,λb hb=>⟨?_,?_⟩,I.bs,?_,λb o e hb=> ?_,λb hb z=> ?_,I.stack,I.stkFree⟩
  .exact cf (bt (lt2 b hb) hC)
  .exact λx c h=>(f2 b hb).2.2.2.2.1 x c (B.sub x c h)
  .exact ee I.ok.bsz I.sz
  .rcases (f2 b hb).2.2.2.1 with z|z
   .exact I.ok.noex b o e z
   .exact absurd (bt (bc e) (ee I.ok.bsz z)) (eg _)
  .rcases aw.mp (I.stkSub b z) with q|q
   .exact(f2 b hb).2.1 q
   .exact(f2 b hb).2.2.1 q
 refine⟨ok,rfl,I.bare,Un.kept hk,⟨m4,hns,λk x v e1 e2 e3=> ?_⟩,λx c e=> ?_,I.hok.fresh hC,λx c e=>I.freeC x c (B.sub x c e),λp hp=>(by cases hp),I.hok.kept hk,?_⟩
 .obtain⟨j,i,rfl,hj,hσ⟩:=W1 e2;obtain⟨n,hn1,hn2,hk1,hk2,hl⟩:=B.cap j i hj;have en:x=n:=by
   have e1':N[nl+j]? =some x:=e1;rw[hn1]at e1';exact(dq e1').symm
  subst en;obtain⟨m,hm,hloc⟩:=I.loc;have vis:Vis X.env.scope x:= .inr hk1;obtain⟨u,ru,lk⟩:=hloc i x v hn2 hσ vis;refine⟨u,ru,.inr ⟨hk2,?_⟩⟩;rcases lk with⟨kl,_⟩|⟨_,c,ec,hc⟩
  .have kl':X.env.scope.names.lookup x=some .local:=kl;rcases hk1 with z|z<;>· rw[z]at kl';cases kl'
  .refine⟨c,hl.trans ec,?_⟩;obtain⟨o,ho,hd⟩:=hc;exact⟨o,hk _ _ ho,hd⟩
 .obtain⟨v,o,ho,hd⟩:=I.cell x c (B.sub x c e);exact⟨v,o,hk _ _ ho,hd⟩
 .show (cB nl ci σ).length=N.length;rw[NA,B.len]
theorem WM{σ':St}{s':bb}{pb:List (Addr×Obj)}(I:Inv X pins σ H2 s2)(f2:∀b∈fp,sN X pins H2 b)(J:Inv (bT X scope cl N C s2 H2 fp) pb σ' H' s'):Inv X pins σ H' s' :=
 I.call' J.os J.base J.hok J.bare λb hb=>⟨(f2 b hb).2.2.2.1,(f2 b hb).2.1,(f2 b hb).2.2.2.2.1,(f2 b hb).2.2.2.2.2⟩
end
variable {e elt iter tg:Expr}{es ifs:List Expr}{env:Env}{cdv doc oc pm:ah}{A:jy}
section
variable {R:Result->bb->Prop}
theorem PR{elt target iter:Expr}{ifs:List Expr}{scope:qi}{pos:Pos}{it acc:ah}{env:Env}(I:Nat->bb->Prop)
  (turn:∀n s,I n s->bz (cg prog w) A (oj it) (λr s₁=>match r with
   | none=>R (.ok .next) s₁
   | some v=>bz (cg prog w) A (qc target it v) (λ_ s₁'=>bz (cg prog w) A (uy target env v) (λ_ s₂ =>
     bz (cg prog w) A (forIn ifs true λc r=>if r=true then do let ok ←isTrue c env (eval c env);pure (ki ok) else pure (ki r)) (λok s₃ =>
      if ok=true then bz (cg prog w) A (eval elt env) (λx s₄ =>
       bz (cg prog w) A (call (.builtin "list.append") [acc,x]) (λ_ s₅=>∃m,m<n/\I m s₅) (notedBy (cg prog w) A env λe s'=>R (.error e) s') s₄) (notedBy (cg prog w) A env λe s'=>R (.error e) s') s₃
      else ∃m,m<n/\I m s₃) (notedBy (cg prog w) A env λe s'=>R (.error e) s') s₂) (notedBy (cg prog w) A env λe s'=>R (.error e) s') s₁') (notedBy (cg prog w) A env λe s'=>R (.error e) s') s₁) (notedBy (cg prog w) A env λe s'=>R (.error e) s') s)
  (n:Nat)(h:I n s) :
  lu (cg prog w) A (.compLoop (.ListComp elt [⟨target,iter,ifs,0⟩] scope pos) 0 it acc env) R s:=by
 refine codeAny_loop rfl I (λn s hI=> ?_) n h;show bz _ A ((compTurn (.ListComp elt [⟨target,iter,ifs,0⟩] scope pos) 0 it acc env).onRaise (λx=>do noteFrame x env;theTreesLotGoes x)) _ _ s;refine wpAny_noted ?_;rw[compTurn_list];refine ae (tp (ae (fm (turn n s hI) (λr s₁ h₁=> ?_) λ_ _ h'=>h')));cases r with
 | none=>exact av h₁
 | some v =>
  refine ae (fm h₁ (λ_ s₁' h₁'=> ?_) λ_ _ h'=>h');refine ae (fm h₁' (λ_ s₂ h₂=>ae (fm h₂ (λok s₃ h₃=> ?_) λ_ _ h'=>h')) λ_ _ h'=>h');cases ok with
  | false=>exact av ⟨rfl,h₃⟩
  | true =>
   exact ae (ae (fm h₃ (λx s₄ h₄=>ae (fm h₄ (λ_ s₅ h₅=>av (av ⟨rfl,h₅⟩)) λ_ _ h'=>h')) λ_ _ h'=>h'))
end
def PF(X:Cx)(ifs:List Expr)(t:TT):Prop :=
 ∀(pins:List (Addr×Obj)) (s:bb) (σ:St) (H:Hp) (Q:Bool->Hp->Prop),Inv X pins σ H s->t σ H Q →
  bz (cg X.prog X.w) X.A (forIn ifs true λc r=>if r=true then do let ok ←isTrue c X.env (eval c X.env);pure (ki ok) else pure (ki r)) (TP X pins σ Q) X.xe s
def DR:TT:=λ_ H Q=>Q true H
theorem dI:PF X [] DR:=λ_ _ _ H _ I h=>wpAny_tests_nil ⟨H,I,h⟩
variable {ti:TT}
theorem zJ{c:Expr}{t:TT}(h:PT X c t):PF X [c] t:=λpins s σ H Q I q=>wpAny_tests_one (h pins s σ H Q I q)
def dR(J:It)(g:TG)(ti:TT)(te:TE)(σ0:St)(fin:List V->Hp->Prop)(H1:Hp):Prop :=
 ∃W:Nat->Nat->List V->Hp->Prop,(∃m,W 0 m [] H1)/\∀i m ys H,W i m ys H →
  (J.stop i H/\fin ys H) ∨
  (J.go i H/\∀x H',J.yld i H x H'->g x σ0 H' λσ2 H2=>(σ2.length=σ0.length/\∀(j:Nat) v,σ0[j]? =some (some v)->σ2[j]? =some (some v)) ∧
   ti σ2 H2 λb H3=>if b=true then te σ2 H3 λy H4=>ys.length<sizeLine/\∃m',m'<m/\W (i+1) m' (ys++[y]) H4 else ∃m',m'<m/\W (i+1) m' ys H3)
def R4(wi:TI)(nl:Nat)(ci:List Nat)(g:TG)(ti:TT)(te:TE):TE:=λσ H Q =>
 wi σ H λJ H1=>dR J g ti te (cB nl ci σ) (λys H'=>∀p,H' p=none->Q (.ref p) (upd H' p (.lst ys))) H1
variable {J:It}{E:ah->bb->Prop}{fin:List V->Hp->Prop}{g:TG}{ta te to:TE}{wi:TI}
theorem JI{fp:List Addr}{tn:Nat->Heap->Prop}{RR:ah->Addr->Result->bb->Prop}
  (hc:X.calm=true)(B:Blk X scope cl N nl ci)(hg:∀C s0 H0 fp,PG (bT X scope cl N C s0 H0 fp) tg g)(hi:∀C s0 H0 fp,PF (bT X scope cl N C s0 H0 fp) ifs ti)(he:∀C s0 H0 fp,PE (bT X scope cl N C s0 H0 fp) elt te)
  (I2:Inv X pins σ H2 s2)(T:D7 X.prog X.w X.K tg J fp it tn)(st2:tn 0 s2.heap)(f2:∀b∈fp,sN X pins H2 b)(hW:dR J g ti te (cB nl ci σ) fin H2)
  (hfin:∀(D C:Addr) (s':bb) (H':Hp) (ys:List V) (oC:Obj) (m:Str->Option ah),H' D=none->Inv X (pins++[(C,oC)]) σ (upd H' D (.lst ys)) s'->s'.heap.Ns C m->s2.heap.objs.size<=C->fin ys H'->RR (.ref D) C (.ok .next) s') :
  bz (cg X.prog X.w) X.A (newList []) (λacc s₃=>bz (cg X.prog X.w) X.A (newFunctionEnv scope X.env.globals cl [] X.env.qual none .none (some X.env)) (λcenv s₄ =>
   lu (cg X.prog X.w) X.A (.compStart (.ListComp elt [⟨tg,iter,ifs,0⟩] scope pos) 0 (.ref it) acc { cenv with scope:=relabel scope X.env }) (RR acc cenv.locals) s₄) E s₃) E s2:=by
 obtain⟨W,⟨m0,w0⟩,turn⟩:=hW;refine gj (wpAny_newFunctionEnv B.nocell (by intro y hy;simp at hy) (λh1 hns1 hsb1=> ?_) B.kind)
 dsimp only at hns1 hsb1 ⊢
 generalize hH2:s2.heap.push { cls:= .type "list",dict:=none,data:= .seq ([]:List ah).toArray }=G2 at hns1 hsb1 ⊢;have hCs:G2.objs.size=s2.heap.objs.size+1:=by rw[←hH2,vp]
 generalize hCe:G2.objs.size=C at hns1 hsb1 hCs ⊢;have hDC:s2.heap.objs.size≠C:=by rw[hCs];exact cf (lx _)
 have hCle:s2.heap.objs.size<=C:=by rw[hCs];exact si _
 have old:∀b o,s2.heap.get? b=some o->h1.get? b=some o:=λb o e=>hsb1.extBut b o (by rw[hCs];exact cf (sk (bc e))) (aj _ (hH2▸aj _ e));have hacc:h1.get? s2.heap.objs.size=some { cls:= .type "list",data:= .seq ([]:List ah).toArray 0 }:=hsb1.extBut _ _ hDC (aj _ (hH2▸bg _ rfl));have fo:∀b∈fp,∃o,s2.heap.get? b=some o:=λb hb=>let ⟨o,e,_⟩:=T.obj 0 _ st2 b hb;⟨o,e⟩;have lt2:∀b∈fp,b<s2.heap.objs.size:=λb hb=>let ⟨o,e⟩:=fo b hb;bc e;have hDfp:s2.heap.objs.size∉fp:=λz=>eg _ (lt2 _ z);have hCfp:C∉fp:=λz=>eg _ (bt (lt2 _ z) hCle);generalize hDe:s2.heap.objs.size=D at hCs hDC hCle hacc hDfp lt2;have loop:∀s3:bb,s3={ s2 with heap:=h1,toks:=s2.toks+([]:List (Str×ah)).length } →
   lu (cg X.prog X.w) X.A (.compLoop (.ListComp elt [⟨tg,iter,ifs,0⟩] scope pos) 0 (.ref it) (.ref D) (compEnvC scope cl C X.env)) (RR (.ref D) C) s3:=by
  rintro s3 rfl;have I4:Inv (bT X scope cl N C s2 H2 fp) [] (cB nl ci σ) H2 { s2 with heap:=h1,toks:=s2.toks+([]:List (Str×ah)).length }:=PP B I2 f2 fo (by rw[hDe];exact hCle) hns1 old;have fpk:∀{H':Hp},(∀b∈fp,H' b=none)->∀b∈fp,sN (bT X scope cl N C s2 H2 fp) [] H' b:=λhn b hb =>
   ⟨hn b hb,(I4.ok.exf b hb).1,I4.ok.exfs b hb,.inl hb,(I4.ok.exf b hb).2,λp hp=>by cases hp⟩
  have hDX:∀x c,(bT X scope cl N C s2 H2 fp).env.cells.lookup x=some c->c≠D:=λx c e=>by
   obtain⟨v,o,ho,_⟩:=I2.cell x c (B.sub x c e);rw[←hDe];exact cf (bc ho)
  have hDL:D≠(bT X scope cl N C s2 H2 fp).env.locals:=hDC;have hDf:D∉(bT X scope cl N C s2 H2 fp).fs:=λz=>by
   rcases aw.mp (I2.stkSub D z) with q|q
   .exact eg _ (by have:=I2.lt;rw[hDe,←q]at this;exact this)
   .exact I2.nofs (by rw[hDe];exact au _) q
  refine PR (λn s'=>∃i ys its k H',W i n ys H'/\Inv (bT X scope cl N C s2 H2 fp) [] (cB nl ci σ) H' s'/\tn i s'.heap/\(∀b∈fp,H' b=none)/\H' D=none ∧
   s'.heap.get? D=some { cls:= .type "list",data:= .seq its.toArray k }/\Vals ys its/\ys.length<=sizeLine) ?_ m0 ?_
  .rintro n s' ⟨i,ys,its,k,H',w',I',st',fr',hD',eD,rv,hz⟩;have IP:Inv (bT X scope cl N C s2 H2 fp) [(D,{ cls:= .type "list",data:= .seq its.toArray k })] (cB nl ci σ) H' s':=I'.pins_of λp hp=>by
    obtain rfl:p=_:=by simpa using hp
    exact⟨eD,hD',hDL,hDf,λv z=>by cases z⟩
   have fpD:∀{H'':Hp},(∀b∈fp,H'' b=none)->∀b∈fp,sN (bT X scope cl N C s2 H2 fp) [(D,{ cls:= .type "list",data:= .seq its.toArray k })] H'' b:=λhn b hb =>
    ⟨hn b hb,(I4.ok.exf b hb).1,I4.ok.exfs b hb,.inl hb,(I4.ok.exf b hb).2,λp hp=>by
     obtain rfl:p=_:=by simpa [bT] using hp
     exact λz=>hDfp ((show D=b from z)▸hb)⟩
   rcases turn i n ys H' w' with⟨stop,q⟩|⟨go,step⟩
   .refine thn (T.done (bT X scope cl N C s2 H2 fp) rfl rfl rfl hc i _ s' (cB nl ci σ) H' _ IP (fpD fr') st' stop) ?_;rintro r s'' ⟨hr,I''⟩;subst hr;have eD2:=(I''.pin (D,_) (be _ fu)).1;have J1:Inv (bT X scope cl N C s2 H2 fp) [] (cB nl ci σ) (upd H' D (.lst ys)) s'' :=
     (I''.pins_of (pins':=[]) λp hp=>by cases hp).track hD' eD2 rv hz (by show s2.heap.objs.size<=D;rw[hDe];exact au _) hDL hDX λp hp=>by cases hp
    have K1:Inv X pins σ (upd H' D (.lst ys)) s'':=WM I2 f2 J1;obtain⟨mC,nsC,_⟩:=J1.loc;obtain⟨oC,es,ep,hoC,hdC,rC⟩:=id nsC;refine hfin D C s'' H' ys oC mC hD' (K1.pins_of λp hp=> ?_) nsC (by rw[hDe];exact hCle) q;rcases bf.mp hp with hp|hp
    .exact K1.pin p (be _ hp)
    .obtain rfl:p=(C,oC):=by simpa using hp
     refine⟨hoC,J1.free,xf (bt I2.lt (by rw[hDe];exact hCle)),I2.nofs (by rw[hDe];exact hCle),λv z=> ?_⟩;rw[hdC]at z;cases z
   .refine thn (T.item (bT X scope cl N C s2 H2 fp) rfl rfl rfl hc i _ s' (cB nl ci σ) H' _ IP (fpD fr') st' go) ?_;rintro r s4 ⟨u,hr,h4⟩;subst hr;refine thn h4 ?_;rintro _ s5 ⟨x,H5,I5,r5,y5,st5,fr5⟩;have I5':=I5.pinned (fpD fr5) (T.obj _ _ st5);refine fm (hg C s2 H2 fp _ s5 (cB nl ci σ) H5 x u _ I5' r5 (step x H5 y5)) (?_) λ_ _ f=>f.elim;rintro _ s6 ⟨σ6,H6,I6,⟨hl6,hk6⟩,q6⟩;refine fm (hi C s2 H2 fp _ s6 σ6 H6 _ I6 q6) (?_) λ_ _ f=>f.elim;rintro b s7 ⟨H7,I7,q7⟩;have pinD:∀{pp:List (Addr×Obj)}{σx:St}{Hx:Hp}{sx:bb},Inv (bT X scope cl N C s2 H2 fp) ([(D,({ cls:= .type "list",data:= .seq its.toArray k }:Obj))]++pT fp s5.heap) σx Hx sx →
      sx.heap.get? D=some { cls:= .type "list",data:= .seq its.toArray k }/\Hx D=none/\tn (i+1) sx.heap/\(∀b∈fp,Hx b=none):=λ{pp σx Hx sx} Ix=>by
     refine⟨(Ix.pin (D,_) (be _ (dz _ fu))).1,(Ix.pin (D,_) (be _ (dz _ fu))).2.1,T.keep _ _ _ st5 λb hb o e=>(Ix.pin (b,o) (be _ (be _ (lX hb e)))).1,λb hb=> ?_⟩;obtain⟨o,e,d⟩:=T.obj _ _ st5 b hb;exact(Ix.pin (b,o) (be _ (be _ (lX hb e)))).2.1
    cases b with
    | false =>
     rw[if_neg bw]at q7 ⊢;obtain⟨m',hm',w7⟩:=q7;obtain⟨e7,n7,st7,fr7⟩:=pinD (pp:=[]) I7;exact⟨m',hm',i+1,ys,its,k,H7,w7,(I7.pins_of (pins':=[]) λp hp=>by cases hp).weak hl6.symm hk6,st7,fr7,n7,e7,rv,hz⟩
    | true =>
     rw[if_pos rfl]at q7 ⊢;refine fm (he C s2 H2 fp _ s7 σ6 H7 _ I7 q7) (?_) λ_ _ f=>f.elim;rintro y' s8 ⟨y,H8,I8,r8,hlt,m',hm',w8⟩;obtain⟨e8,n8,st8,fr8⟩:=pinD (pp:=[]) I8;have I8f:Inv (bT X scope cl N C s2 H2 fp) (pT fp s5.heap) σ6 H8 s8:=I8.pins_of λp hp=>I8.pin p (be _ (be _ hp));have I8t:=I8f.track n8 e8 rv hz (by show s2.heap.objs.size<=D;rw[hDe];exact au _) hDL hDX λp hp=>by
      have hp':p∈pT fp s5.heap:=by simpa [bT] using hp
      exact λz=>hDfp (z▸(JH hp').1)
     refine fm (cV (X:=bT X scope cl N C s2 H2 fp) (pT fp s5.heap) s8 σ6 _ (.ref D) [y] (.ref D) [y'] (λ_ H9=>H9=upd H8 D (.lst (ys++[y]))) I8t rfl (.cons r8 .nil)
      ⟨D,ys,y,rfl,rfl,aR,hlt,aBP⟩) (λ_ s9 ⟨_,H9,I9,_,e9⟩=> ?_) λ_ _ f=>f.elim
     subst e9;obtain⟨hz9,its9,k9,rv9,e9⟩:=I9.hok D _ aR;have I9u:=I9.untrack n8;refine⟨m',hm',i+1,ys++[y],its9,k9,H8,w8,(I9u.pins_of (pins':=[]) λp hp=>by cases hp).weak hl6.symm hk6,?_,fr8,n8,e9,rv9,hz9⟩;exact T.keep _ _ _ st5 λb hb o e=>(I9u.pin (b,o) (be _ (lX hb e))).1
  .exact⟨0,[],[],0,H2,w0,I4,T.keep _ _ _ st2 λb hb o e=>old b o e,λb hb=>(f2 b hb).1,I2.hok.fresh (by rw[hDe];exact au _),hacc,.nil,fk _⟩
 exact codeAny_compStart_list (loop _ rfl) (T.self _ 0 _ _ _ (T.keep _ _ _ st2 λb hb o e=>old b o e) (loop _ rfl))
theorem d7(hc:X.calm=true)(B:Blk X scope cl N nl ci)(hp:PI X tg iter wi)(hg:∀C s0 H0 fp,PG (bT X scope cl N C s0 H0 fp) tg g)(hi:∀C s0 H0 fp,PF (bT X scope cl N C s0 H0 fp) ifs ti)
  (he:∀C s0 H0 fp,PE (bT X scope cl N C s0 H0 fp) elt te)(hs:∀x,sg iter X.env x=pure x:=by intro _;rfl):PE X (.ListComp elt [⟨tg,iter,ifs,0⟩] scope pos) (R4 wi nl ci g ti te):=by
 intro pins s σ H Q I h;rw[eval_ListComp];refine tu (use:=none) rfl hs B.clos B.kind B.names (thn (hp pins s σ H _ I h) λv s1 h1=>thn h1 λitv s2 h2=> ?_);obtain⟨it,fp,tn,J,H2,e,I2,T,st2,f2,hW⟩:=h2;subst e;refine JI (RR:=λacc C=>compPost (cg X.prog X.w) X.A X.xe none (EP X pins σ Q) acc C) hc B hg hi he I2 T st2 f2 hW ?_;intro D C s' H' ys oC m hD K1 hn hC q;refine⟨m,hn,λh' hs'=> ?_⟩;have hL:C≠X.env.locals:=(K1.pin (C,oC) (by simp)).2.2.1;have I9:Inv X pins σ (upd H' D (.lst ys)) { s' with heap:=h',toks:=s'.toks }:=K1.unpinned.turned (t':=s'.toks) (it:=C) (λb o hb e=>hs'.extBut b o hb e) (K1.pin (C,oC) (by simp)).2.1 hL (.inr (ee I2.sz hC)) (λx c e z=> ?_) λp hp z=> ?_
 .exact⟨.ref D,_,I9,rfl,q D hD⟩
 .obtain⟨v,o,ho,_⟩:=I2.cell x c e;exact absurd (bt (bc ho) (z▸hC)) (eg _)
 .exact absurd (bt (bc (I2.pin p hp).1) (z▸hC)) (eg _)
theorem eQ{i:Nat}{pos' spos:Pos}(hN:X.N.Nodup)(hix:X.N[i]? =some x)(hx:Loc X.env.scope x)(hc:X.calm=true)(B:Blk X scope cl N nl ci)(hp:PI X tg iter wi)(hg:∀C s0 H0 fp,PG (bT X scope cl N C s0 H0 fp) tg g)
  (hi:∀C s0 H0 fp,PF (bT X scope cl N C s0 H0 fp) ifs ti)(he:∀C s0 H0 fp,PE (bT X scope cl N C s0 H0 fp) elt te)
  (hsw:wj (.ListComp elt [⟨tg,iter,ifs,0⟩] scope pos) (some (.Name x pos')) spos.line X.env=pure true:=by rfl)(hs:∀x,sg iter X.env x=pure x:=by intro _;rfl)
  (hf:X.fn x=true∨X.env.scope.names.lookup x=some .local:=by first|exact .inl rfl|exact .inr rfl|assumption) :
  PS X (.Assign [.Name x pos'] (.ListComp elt [⟨tg,iter,ifs,0⟩] scope pos) spos) (T0 (R4 wi nl ci g ti te) (cG i)):=by
 intro pins s σ H D I h;rw[exec_Assign_Name_used _ _ _ _ hsw];refine ae (tp (ae ?_));show bz _ X.A (do let _ ←comprehension (.ListComp elt [⟨tg,iter,ifs,0⟩] scope pos) scope X.env _ (newList []) false (eval iter X.env) (some (uy (.Name x pos') X.env))) _ _ s;refine ae (fm (tu (use:=some (uy (.Name x pos') X.env)) (Q:=λ_ s'=>SP X pins D .next s') rfl hs B.clos B.kind B.names
  (thn (hp pins s σ H _ I h) λv s1 h1=>thn h1 λitv s2 h2=> ?_)) (λ_ s' hq=>av (av hq)) λ_ _ e=>e)
 obtain⟨it,fp,tn,J,H2,e,I2,T,st2,f2,hW⟩:=h2;subst e;refine JI (RR:=λacc C=>compPost (cg X.prog X.w) X.A X.xe (some (uy (.Name x pos') X.env)) (λ_ s'=>SP X pins D .next s') acc C) hc B hg hi he I2 T st2 f2 hW ?_;intro Dd C s' H' ys oC m hD K1 hn hC q;show bz _ X.A (uy (.Name x pos') X.env (.ref Dd)) _ _ _;refine thn (aN (i:=i) hN hix hx hf (pins++[(C,oC)]) s' σ (upd H' Dd (.lst ys)) (.ref Dd) (.ref Dd) (λσ' H''=>D.nx σ' H'') K1 rfl (q Dd hD)) ?_;rintro _ s'' ⟨σ',H'',K2,q2⟩;have eC:=K2.pin (C,oC) (by simp);obtain⟨oC',es,ep,hoC,hdC,rC⟩:=id hn;have eo:oC'=oC:=by
  have:=(K1.pin (C,oC) (by simp)).1;rw[hoC]at this;exact dq this
 subst eo;refine⟨m,⟨oC',es,ep,eC.1,hdC,rC⟩,λh' hs'=> ?_⟩;have hL:C≠X.env.locals:=eC.2.2.1;have I9:Inv X pins σ' H'' { s'' with heap:=h',toks:=s''.toks }:=K2.unpinned.turned (t':=s''.toks) (it:=C) (λb o hb e=>hs'.extBut b o hb e) eC.2.1 hL (.inr (ee I2.sz hC)) (λx c e z=> ?_) λp hp z=> ?_
 .exact⟨σ',H'',I9,q2⟩
 .obtain⟨v,o,ho,_⟩:=I2.cell x c e;exact absurd (bt (bc ho) (z▸hC)) (eg _)
 .exact absurd (bt (bc (I2.pin p hp).1) (z▸hC)) (eg _)
def Its(x:Str):It:=⟨λi _=>i<x.cps.size,λi H v H'=>H'=H/\∃c,x.cps[i]? =some c/\v= .str ⟨#[c]⟩,λi _=>i=x.cps.size⟩
theorem LM(it:Addr)(x:Str)(t:Tok)(ty:String)
  (hty:["enumerate","zip","dict_itemiterator","dict_reverseitemiterator","odict_iterator","itertools.zip_longest","itertools.pairwise"].contains ty=false)
  (W:∀A':jy,A'.handled=none->Walks P w A' it [it] [it] x.cps.size (SignAt x) (λi h=>h.IsStrIter it ty x t i))
  (hself:∀(A:jy) (i:Nat) (s:bb) (Q:ah->bb->Prop) (E:ah->bb->Prop),s.heap.IsStrIter it ty x t i->Q (.ref it) s->bz (cg P w) A (pyIter (.ref it)) Q E s) :
  D7 P w K tg (Its x) [it] it (λi h=>h.IsStrIter it ty x t i) where
 mem:=by simp
 obj:=λi h st b hb=>by
  have e:b=it:=by simpa using hb
  subst e;obtain⟨o,e,c,d⟩:=st;exact⟨o,e,λv z=>by rw[d]at z;cases z⟩
 keep:=λi h h' st k=>let ⟨o,ho,r⟩:=st;⟨o,k it (by simp) o ho,r⟩
 item:=by
  intro X hP hw hK hc i pins s σ H E I hf st hg;subst hP hw hK;obtain⟨f0,f1,f2,f3,f4,f5⟩:=hf it (by simp);refine(W X.A (I.ok.hd hc)).item i s _ _ hg st λv h' tk hv st' kk=> ?_;obtain⟨c,u,hc',rfl⟩:=hv;have I1:Inv X pins σ H { s with heap:=h',toks:=tk }:=I.turned (λb o hb e=>kk b o (by simpa using hb) e) f0 f1 f3 f4 f5;obtain⟨o,e,c1,d⟩:=id st';exact⟨_,rfl,T7 (s:={ s with heap:=h',toks:=tk }) e c1 d hty ⟨.str ⟨#[c]⟩,H,I1,⟨u,rfl⟩,⟨rfl,c,hc',rfl⟩,st',λb hb=>(hf b hb).1⟩⟩
 done:=by
  intro X hP hw hK hc i pins s σ H E I hf st hg;subst hP hw hK;obtain⟨f0,f1,f2,f3,f4,f5⟩:=hf it (by simp);have e:i=x.cps.size:=hg;subst e;exact(W X.A (I.ok.hd hc)).done s _ _ st λh' tk kk=>⟨rfl,I.turned (λb o hb e=>kk b o (by simpa using hb) e) f0 f1 f3 f4 f5⟩
 self:=hself
def aGm(tl:TE):TI:=λσ H R=>tl σ H λx H1=>∃z,x= .str z/\R (Its z) H1
theorem aFc{l:Expr}{tl:TE}(hl:PE X l tl):PI X tg l (aGm tl):=by
 intro pins s σ H R I h;refine thn (hl pins s σ H _ I h) ?_;rintro v s1 ⟨x,H1,I1,rx,z,ez,q⟩;subst ez;obtain⟨t,rfl⟩:=rx;cases ha:z.cps.all (·<128)
 .refine wpAny_pyIter_wide ha ⟨s1.heap.objs.size,[s1.heap.objs.size],_,Its z,H1,rfl,I1.kept (t':=s1.toks) λb u e=>aj _ e,LM _ z t "str_iterator" (by decide) (λA' hA=>Walks.strWide hA _ z t) (λ_ _ _ _ _ st h=>wpAny_pyIter_striter_wide st h),⟨_,bg _ rfl,rfl,rfl⟩,λb hb=> ?_,q⟩;have e:b=s1.heap.objs.size:=by simpa using hb
  subst e;exact I1.fpOk (au _) (I1.hok.fresh (au _))
 .refine wpAny_pyIter_ascii ha ⟨s1.heap.objs.size,[s1.heap.objs.size],_,Its z,H1,rfl,I1.kept (t':=s1.toks) λb u e=>aj _ e,LM _ z t "str_ascii_iterator" (by decide) (λA' hA=>Walks.strAscii hA _ z t) (λ_ _ _ _ _ st h=>wpAny_pyIter_striter_ascii st h),⟨_,bg _ rfl,rfl,rfl⟩,λb hb=> ?_,q⟩;have e:b=s1.heap.objs.size:=by simpa using hb
  subst e;exact I1.fpOk (au _) (I1.hok.fresh (au _))
theorem aBS(n:Nat)(f:Nat->V)(hn:n<=sizeLine)(Ok:Hp->Prop)(h0:Ok H1)
  (hst:∀H,Ok H->J.stop n H)(hgo:∀i H,i<n->Ok H->J.go i H)
  (hstep:∀i H x H',i<n->Ok H->J.yld i H x H'->g x σ0 H' λσ2 H2=>(σ2.length=σ0.length/\∀(j:Nat) v,σ0[j]? =some (some v)->σ2[j]? =some (some v))/\ti σ2 H2 λb H3=>b=true/\te σ2 H3 λy H4=>y=f i/\Ok H4)
  (mono:∀σ H (Q Q':Bool->Hp->Prop),(∀b H',Q b H'->Q' b H')->ti σ H Q->ti σ H Q')(mono2:∀σ H (Q Q':VK),(∀b H',Q b H'->Q' b H')->te σ H Q->te σ H Q')(mono3:∀x σ H (Q Q':St->Hp->Prop),(∀σ' H',Q σ' H'->Q' σ' H')->g x σ H Q->g x σ H Q')
  (hfin:∀H,Ok H->fin ((fc n).map f) H):dR J g ti te σ0 fin H1:=by
 refine⟨λi m ys H=>m=n - i/\i<=n/\ys=(fc i).map f/\Ok H,⟨n,by simp,fk _,rfl,h0⟩,?_⟩;rintro i m ys H ⟨rfl,hi,rfl,ok⟩
 by_cases hlt:i<n
 .refine .inr ⟨hgo i H hlt ok,λx H' y=> ?_⟩;refine mono3 _ _ _ _ _ (λσ' H'' q=>⟨q.1,mono _ _ _ _ (λb H3 q=> ?_) q.2⟩) (hstep i H x H' hlt ok y);obtain⟨rfl,q⟩:=q;rw[if_pos rfl];refine mono2 _ _ _ _ (λv H4 q=> ?_) q;obtain⟨rfl,ok4⟩:=q;refine⟨by rw[af,el];lia,n - (i+1),by lia,rfl,hlt,?_,ok4⟩;rw[mj,aq];rfl
 .have e:i=n:=by lia
  subst e;exact .inl ⟨hst H ok,hfin H ok⟩
theorem MJ:∀bs:List Bool,(fc bs.length).all (λi=>bs.getD i true)=bs.all id
 | []=>rfl
 | b::bs=>by
  rw[az,ng,ma,List.all_map,ma,←MJ bs];rfl
theorem GB(hc:X.calm=true):dQ X (.builtin "all") (λxs H Q=>∃(p:Addr) (bs:List Bool),xs=[.ref p]/\SqL X.K H p (bs.map V.bl)/\Q (.bl (bs.all id)) H):=by
 intro pins s σ H xs us Q I r h;obtain⟨p,bs,rfl,hq,q⟩:=h;obtain⟨u,rfl,rx⟩:=mF r;cases rx;obtain⟨its,r',pl,hz⟩:=I.list hq;have hl:=pl.isList;have hlt:p<s.heap.objs.size:=by obtain⟨_,e,_⟩:=hl;exact bc e
 have hlen:bs.length=its.length:=by have:=r'.length;rw[af]at this;exact this
 refine call_all_walk (ky hl ?_);refine⟨s.heap.objs.size,_,_,its.toArray.size,_,_,λi=>bs.getD i true,rfl,Walks.list (show X.A.in1.handled=none from I.ok.hd hc) s.heap.objs.size p (cf hlt) its.toArray,⟨⟨_,bg _ rfl,rfl,rfl⟩,hl.push _⟩,?_,?_⟩
 .intro i v s' Q' E' hi hQ;have hi':its[i]? =some v:=by simpa using hi
  have hib:i<bs.length:=by rw[hlen];exact(ax.mp hi').1
  obtain⟨u,hu,ru⟩:=r'.get (i:=i) (x:=V.bl bs[i]) (by rw[bu,ao hib];rfl);rw[hi']at hu;cases hu;have:v=qz bs[i]:=ru;subst this;refine ip ?_;have eb:bs.getD i true=bs[i]:=by rw[bj,ao hib];rfl
  have hQ':Q' (bs.getD i true) s':=hQ;rw[eb]at hQ';exact hQ'
 .intro h' tk hk;have eall:(fc its.toArray.size).all (λi=>bs.getD i true)=bs.all id:=by
   rw[bp,←hlen];exact MJ bs
  rw[eall];refine⟨.bl (bs.all id),H,?_,rfl,q⟩;have I1:Inv X pins σ H { s with heap:=s.heap.push { cls:= .type "list_iterator",data:= .fields #[.ref p,.int 0 0] },toks:=s.toks }:=I.kept λb u e=>aj _ e;obtain⟨f0,f1,f2,f3,f4,f5⟩:=I.fpOk (au _) (I.hok.fresh (au _));exact I1.turned (λb o hb e=>hk b o (by simpa using hb) e) f0 f1 f3 f4 f5
theorem O9:dQ X (.builtin "isinstance") (λxs H Q=>∃x c t u b,xs=[x,c]/\k6 X.K H x t/\RelV c u/\W.kitOne X.K t u=some b/\Q (.bl b) H):=by
 intro pins s σ H xs us Q I r h;obtain⟨x,c,t,u,b,rfl,ty,rc,e,q⟩:=h;obtain⟨v1,v2,rfl,r1,r2⟩:=aAZ r;have e2:v2=u:=by
  cases c with
  | non=>exact(show v2=_ from r2).trans (show u=_ from rc).symm
  | bl b=>exact(show v2=_ from r2).trans (show u=_ from rc).symm
  | ref b=>exact(show v2=_ from r2).trans (show u=_ from rc).symm
  | ty b=>exact(show v2=_ from r2).trans (show u=_ from rc).symm
  | int i =>
   obtain⟨t1,rfl⟩:=(show ∃t,u=_ from rc)
   cases ty<;>simp[W.kitOne,W.kitCls]at e
  | str i =>
   obtain⟨t1,rfl⟩:=(show ∃t,u=_ from rc)
   cases ty<;>simp[W.kitOne,W.kitCls]at e
  | byt i =>
   obtain⟨t1,rfl⟩:=(show ∃t,u=_ from rc)
   cases ty<;>simp[W.kitOne,W.kitCls]at e
  | flt i =>
   obtain⟨t1,rfl⟩:=(show ∃t,u=_ from rc)
   cases ty<;>simp[W.kitOne,W.kitCls]at e
 subst e2;exact XY I r1 ty e λtk=>⟨.bl b,H,I.tok tk,rfl,q⟩
theorem W4:OpR X (gu .LtE) (λx y H Q=>∃i j,x= .str i/\y= .str j/\Q (.bl (!decide (j.cps.toList<i.cps.toList))) H):=by
 intro pins s σ H x y v u Q I rx ry h;obtain⟨i,j,rfl,rfl,q⟩:=h;obtain⟨t,rfl⟩:=rx;obtain⟨t',rfl⟩:=ry;exact P.le_str ⟨.bl _,H,I,rfl,q⟩
def aAG(xs:List (Str×mz))(XN:List Str)(ns:List (Str×mz))(N:List Str)(nl:Nat)(ci:List Nat):Bool :=
 (ns.all λy=>y.2 != .cell&&(y.2 != .local||ns.lookup y.1==some .local)&&(y.2 != .free||(xs.lookup y.1==some .cell&&ns.lookup y.1==some .free))) &&
 (N.length==nl+ci.length) &&
 (fc ci.length).all λj=>match ci[j]?,N[nl+j]? with
  | some i,some n=>XN[i]? ==some n&&xs.lookup n==some .cell&&ns.lookup n==some .free
  | _,_=>false
def yK(ns:List (Str×mz))(cs:List (Str×Addr)):List (Str×Addr)->List (Str×Addr)
 | acc=>ns.foldl (λacc y=>if y.2== .free then (y.1,(cs.lookup y.1).getD 0)::acc else acc) acc
theorem yY:∀(ns:List (Str×mz)) (acc:List (Str×Addr)),(∀y∈ns,y.2= .free->∃c,env.cells.lookup y.1=some c) →
  (forIn ns acc λx r=>(do
   let (name,kind):=x
   if (kind==gg)=true then do
     let c ←cellOf env name
     pure (ki ((name,c)::r))
    else pure (ki r)):Sem (List (Str×Addr)))=pure (yK ns env.cells acc)
 | [],acc,_=>rfl
 | (n,k)::r,acc,h=>by
  have ih:=λacc=>yY r acc λy hy=>h y (ab _ hy);rw[List.forIn_cons]
  by_cases hk:k= .free
  .subst hk;obtain⟨c,e⟩:=h (n,.free) fu rfl;have e1:cellOf env n=pure c:=by unfold cellOf;rw[e]
   simp only[beq_self_eq_true,if_true,e1];show (forIn r ((n,c)::acc) _:Sem (List (Str×Addr)))=_;rw[ih];show _=pure (yK ((n,gg)::r) env.cells acc);simp only[yK,List.foldl_cons,beq_self_eq_true,if_true,e,uk]
  .have hb:(k==gg)=false:=by simpa using hk
   simp only[hb,fw,if_false];show (forIn r acc _:Sem (List (Str×Addr)))=_;rw[ih];simp only[yK,List.foldl_cons,hb,fw,if_false]
theorem kH:∀(ns:List (Str×mz)) (acc:List (Str×Addr)) (n:Str),(∀y∈ns,y.2= .free->∃c,cs.lookup y.1=some c) →
  ((n,gg)∈ns∨acc.lookup n=cs.lookup n)->(∀c,acc.lookup n=some c->cs.lookup n=some c)->(yK ns cs acc).lookup n=cs.lookup n
 | [],acc,n,_,h,_=>by
  rcases h with h|h
  .cases h
  .exact h
 | (m,k)::r,acc,n,hc,h,hs=>by
  have hc':∀y∈r,y.2= .free->∃c,cs.lookup y.1=some c:=λy hy=>hc y (ab _ hy);show (yK r cs (if k== .free then (m,(cs.lookup m).getD 0)::acc else acc)).lookup n=cs.lookup n
  by_cases hk:k= .free
  .subst hk;obtain⟨c,e⟩:=hc (m,.free) fu rfl;simp only[beq_self_eq_true,if_true,e,uk]
   by_cases hm:n=m
   .subst hm;have q:iy n ((n,c)::acc)=some c:=by simp[et]
    exact kH r _ n hc' (.inr (q.trans e.symm)) λc' z=>by rw[q]at z;cases z;exact e
   .have hb:(n==m)=false:=by simpa using hm
    have q:iy n ((m,c)::acc)=acc.lookup n:=by simp[et,hb]
    refine kH r _ n hc' ?_ λc' z=>hs c' (q▸z);rcases h with h|h
    .rcases aw.mp h with z|z
     .cases z;exact absurd rfl hm
     .exact .inl z
    .exact .inr (q.trans h)
  .have hb:(k==gg)=false:=by simpa using hk
   simp only[hb,fw,if_false];refine kH r _ n hc' ?_ hs;rcases h with h|h
   .rcases aw.mp h with z|z
    .cases z;exact absurd rfl hk
    .exact .inl z
   .exact .inr h
theorem MA:∀(ns:List (Str×mz)) (acc:List (Str×Addr)),(∀y∈ns,y.2= .free->∃c,cs.lookup y.1=some c) →
  (∀n c,acc.lookup n=some c->cs.lookup n=some c)->∀n c,(yK ns cs acc).lookup n=some c->cs.lookup n=some c
 | [],acc,_,hs,n,c,h=>hs n c h
 | (m,k)::r,acc,hc,hs,n,c,h=>by
  have hc':∀y∈r,y.2= .free->∃c,cs.lookup y.1=some c:=λy hy=>hc y (ab _ hy);have h':(yK r cs (if k== .free then (m,(cs.lookup m).getD 0)::acc else acc)).lookup n=some c:=h;refine MA r _ hc' ?_ n c h';intro n' c' z
  by_cases hk:k= .free
  .subst hk;obtain⟨d,e⟩:=hc (m,.free) fu rfl;simp only[beq_self_eq_true,if_true,e,uk]at z
   by_cases hm:n'=m
   .subst hm;simp[et]at z;subst z;exact e
   .have hb:(n'==m)=false:=by simpa using hm
    simp[et,hb]at z;exact hs n' c' z
  .have hb:(k==gg)=false:=by simpa using hk
   simp only[hb,fw,if_false]at z;exact hs n' c' z
theorem nQ(hkf:env.scope.kind= .function):∀{names:List (Str×mz)}{x:Str},names.lookup x=some .free->env.kindOf x=some .cell →
  (names.map λ(n,k)=>if (k==gg&&env.scope.kind== .function&&env.kindOf n==some .cell) then (n,oy) else (n,k)).lookup x=some .cell
 | [],_,h,_=>by simp at h
 | (n,k)::r,x,h,hc=>by
  show iy x ((if (k==gg&&env.scope.kind== .function&&env.kindOf n==some .cell)=true then (n,oy) else (n,k))::_)=_;cases hx:x==n with
  | true =>
   simp only[et,hx]at h;cases h;have e:x=n:=by simpa using hx
   subst e;rw[hkf,hc];simp[et]
  | false =>
   simp only[et,hx]at h;have ih:=nQ hkf h hc
   split
   .simp only[et,hx];exact ih
   .simp only[et,hx];exact ih
theorem iJ:∀{names:List (Str×mz)}{x:Str}{k':mz},(∀y∈names,y.2≠ .cell)->(k'= .cell∨k'= .free) →
  (names.map λ(n,k)=>if (k==gg&&env.scope.kind== .function&&env.kindOf n==some .cell) then (n,oy) else (n,k)).lookup x=some k'->(x,gg)∈names
 | [],_,_,_,_,h=>by simp at h
 | (n,k)::r,x,k',hn,hk',h=>by
  have h':iy x ((if (k==gg&&env.scope.kind== .function&&env.kindOf n==some .cell)=true then (n,oy) else (n,k))::r.map _)=some k':=h;cases hx:x==n with
  | true =>
   have e:x=n:=by simpa using hx
   subst e
   by_cases hf:k= .free
   .subst hf;exact fu
   .have hb:(k==gg)=false:=by simpa using hf
    simp only[hb,vn,fw,if_false,et,hx]at h';cases h';rcases hk' with z|z
    .exact absurd z (hn (x,k) fu)
    .exact absurd z hf
  | false =>
   have h2:iy x (r.map λ(n,k)=>if (k==gg&&env.scope.kind== .function&&env.kindOf n==some .cell) then (n,oy) else (n,k))=some k':=by
    split at h'
    .simp only[et,hx]at h';exact h'
    .simp only[et,hx]at h';exact h'
   exact ab _ (iJ (λy hy=>hn y (ab _ hy)) hk' h2)
theorem blk(n0:Nat)(hX:X.env.cells=qx n0 X.env.scope.names [])(hkf:X.env.scope.kind= .function)(hk:scope.kind= .function)
  (h:aAG X.env.scope.names X.N scope.names N nl ci=true):Blk X scope (yK scope.names X.env.cells []) N nl ci:=by
 unfold aAG at h;rw[ie,ie]at h;obtain⟨⟨h1,h2⟩,h3⟩:=h;rw[jt]at h1;have h1':∀y∈scope.names,y.2≠ .cell/\(y.2= .local->scope.names.lookup y.1=some .local)/\(y.2= .free->X.env.scope.names.lookup y.1=some .cell/\scope.names.lookup y.1=some .free):=λy hy=>by
  have q:=h1 y hy;simp only[ie,Bool.or_eq_true,bne_iff_ne,ne_eq,beq_iff_eq]at q;obtain⟨⟨q1,q2⟩,q3⟩:=q;exact⟨q1,λe=>q2.resolve_left λz=>z e,λe=>q3.resolve_left λz=>z e⟩
 have hcs:∀y∈scope.names,y.2= .free->∃c,X.env.cells.lookup y.1=some c:=λy hy e=>by
  rw[hX];exact xW ((h1' y hy).2.2 e).1
 refine⟨hk,λy hy=>(h1' y hy).2.1,λy hy=>(h1' y hy).1,?_,?_,?_,by simpa using h2,?_⟩
 .unfold closureFor;refine(congrArg (λm:Sem (List (Str×Addr))=>m >>= λcs=>pure cs) (yY scope.names [] hcs)).trans ?_;rfl
 .exact MA scope.names [] hcs λn c z=>by cases z
 .intro n hn;have hm:(n,gg)∈scope.names:=by
   rcases hn with z|z
   .exact iJ (λy hy=>(h1' y hy).1) (.inl rfl) z
   .exact iJ (λy hy=>(h1' y hy).1) (.inr rfl) z
  obtain⟨c,e⟩:=hcs _ hm rfl;exact⟨c,(kH scope.names [] n hcs (.inl hm) λc z=>by cases z).trans e⟩
 .intro j i hj;have hjl:j<ci.length:=(ax.mp hj).1;rw[jt]at h3;have q:=h3 j (gm.mpr hjl);rw[hj]at q;cases e:N[nl+j]? with
  | none=>rw[e]at q;cases q
  | some n =>
   rw[e]at q;simp only[ie,beq_iff_eq]at q;obtain⟨⟨q1,q2⟩,q3⟩:=q;refine⟨n,rfl,q1,.inl q2,.inl (nQ hkf q3 q2),?_⟩;exact kH scope.names [] n hcs (.inl (gx q3)) λc z=>by cases z
structure Fc(P:fh)(w:gh)(K:W.Frag)(mg:Str->Option ah)(base:Heap)(x:Str)(k:Nat)(ps:List Str)(sp:Sp):Prop where
 ex:∃f fd,mg x=some (.ref f)/\W.keepIn K (.ref f)=true/\Binds K fd ps []/\FnOk P w K mg base CX0 k f fd ps sp
theorem bG{k:Nat}{ps:List Str}{sp:Sp}{t:TA}{p pos:Pos}(F:Fc X.prog X.w X.K X.mg X.base x k ps sp)(hr:Room k' X.A)(ha:PA X (e::es) t)(hk:k<=k':=by decide)(hg:Gl X x:=by rfl)
  (hdb:(x==("__debug__" :Str))=false:=by decide)(he:dg (e::es) X.env=(false,eval e X.env)::dg es X.env:=by rfl)(hpl:(jk pos (dg es X.env)).any (·.1)=false:=by rfl) :
  PE X (.Call (.Name x p) (e::es) [] pos) (wU sp [] E0 t):=by
 obtain⟨f,fd,hm,kp,b,G⟩:=F.ex;exact aBA G (hr.mono hk) hg hm kp b .nil u3 ha hdb he hpl
variable {T:String}
theorem UE{n:String}(hg:Gl X x)(hm:X.mg x=none)(hv:fj x=some (.type n))(hn:x≠ "__name__" :=by decide)(hd:(x==("__debug__" :Str))=false:=by decide):PE X (.Name x pos) (tC (.ty n)):=aBH hg hm hv rfl hn hd
variable {i lo:Int}
theorem aCA{t:Tok}(hg:Gl X x)(hm:X.mg x=some (.int i t))(hd:(x==("__debug__" :Str))=false:=by decide):PE X (.Name x pos) (tC (.int i)):=aC3 hg hm ⟨t,rfl⟩ hd
theorem pZ:fj "isinstance" =some (.builtin "isinstance"):=by decide +kernel
theorem aDH:fj "all" =some (.builtin "all"):=by decide +kernel
theorem eZ:fj "len" =some (.builtin "len"):=by decide +kernel
theorem E3:fj "min" =some (.builtin "min"):=by decide +kernel
theorem aDN:fj "int" =some (.type "int"):=by decide +kernel
theorem aER:fj "str" =some (.type "str"):=by decide +kernel
theorem aCt:fj "bool" =some (.type "bool"):=by decide +kernel
theorem wL:fj "list" =some (.type "list"):=by decide +kernel
theorem aBr:fj "dict" =some (.type "dict"):=by decide +kernel
inductive BTy(K:W.Frag)(H:Hp):V->String->Prop where
 | non:BTy K H .non "NoneType"
 | bl (x:Bool):BTy K H (.bl x) "bool"
 | int (i:Int):BTy K H (.int i) "int"
 | str (x:Str):BTy K H (.str x) "str"
 | lst {a:Addr}{xs:List V} (e:H a=some (.lst xs)):BTy K H (.ref a) "list"
 | tup {a:Addr}{xs:List V} (e:H a=some (.tup xs)):BTy K H (.ref a) "tuple"
 | dK {a:Addr}{kvs:List (Key×V)} (e:H a=some (.dK kvs)):BTy K H (.ref a) "dict"
theorem BTy.ty{x:V}{n:String}(b:BTy K H x n):k6 K H x (.type n):=by
 cases b with
 | non=>exact .non
 | bl=>exact .bl _
 | int=>exact .int _
 | str=>exact .str _
 | lst e=>exact .lst e
 | tup e=>exact .tup e
 | dK e=>exact .dK e
def isB(n c:String):Bool:=n==c||(n== "bool" &&c== "int")
theorem R6{x:V}{n:String}(b:BTy K H x n)(c:String)(hc:c= "int" ∨c= "bool" ∨c= "str"):W.kitOne K (.type n) (.type c)=some (isB n c):=by
 cases b<;>rcases hc with rfl|rfl|rfl<;>kernel_rfl
theorem W0(n:Nat)(Ok:Nat->List V->Hp->Prop)(hn:n<=sizeLine)(h00:σ0[0]? =some none)(h0:Ok 0 [] H1)(hlen:∀i ys H,Ok i ys H->ys.length<=i)
  (hst:∀ys H,Ok n ys H->J.stop n H/\fin ys H)(hstep:∀i ys H,i<n->Ok i ys H->J.go i H/\∀x H',J.yld i H x H'->∀R:VK,(∀y H4,Ok (i+1) (ys++[y]) H4->R y H4)->te (σ0.set 0 (some x)) H' R):dR J (cG 0) DR te σ0 fin H1:=by
 refine⟨λi m ys H=>m=n - i/\i<=n/\Ok i ys H,⟨n,by simp,fk _,h0⟩,?_⟩;rintro i m ys H ⟨rfl,hi,ok⟩
 by_cases hlt:i<n
 .obtain⟨go,st⟩:=hstep i ys H hlt ok;refine .inr ⟨go,λx H' y=>⟨⟨by simp,λj v hv=> ?_⟩,?_⟩⟩
  .cases j with
   | zero=>rw[h00]at hv;cases hv
   | succ j=>rw[ph (by lia)];exact hv
  .unfold DR
   dsimp only
   rw[if_pos rfl];exact st x H' y _ λz H4 ok4=>⟨by have:=hlen i ys H ok;lia,n - (i+1),by lia,rfl,hlt,ok4⟩
 .have e:i=n:=by lia
  subst e;exact .inl (hst ys H ok)
theorem SE(Ok:Nat->List V->Hp->Prop)(hn:n<=sizeLine)(h00:σ0[0]? =some none)(h0:Ok 0 [] H1)(hlen:∀i ys H,Ok i ys H->ys.length<=i)(hfin:∀ys H,Ok n ys H->fin ys H)
  (hstep:∀i ys H,i<n->Ok i ys H->∀R:VK,(∀y H4,Ok (i+1) (ys++[y]) H4->R y H4)->te (σ0.set 0 (some (.int (lo+i)))) H R):dR (Itr lo n) (cG 0) DR te σ0 fin H1 :=
 W0 n Ok hn h00 h0 hlen (λys H ok=>⟨au _,hfin ys H ok⟩) λi ys H hi ok=>⟨hi,λx H' y=>by
  obtain⟨e1,e2⟩:=y;subst e1 e2;exact hstep i ys _ hi ok⟩
structure FunV(K:W.Frag)(x qual:Str)(st:Stmt)(f:Addr)(fd:gv):Prop where
 ex:∃(oc:ah) (od:Option Addr) (dV kV doc pm:ah) (an:Option Addr) (cdv ct:ah) (osl:Array (Option ah)),
  fd=W.fnOf x qual (d6 st) (dG st) (aG st) dV kV doc pm an cdv ct/\K.lookup f=some ⟨oc,od,.func fd,osl⟩/\W.codeIn K cdv qual=true
 kp:W.keepIn K (.ref f)=true
variable {st:Stmt}{fd:gv}{an od:Option Addr}
theorem FunV.ok{f:Addr}{ps:List Str}{k:Nat}{sp:Sp}(F:FunV K x qual st f fd)(S:aM N ps (aG st))(len:∀vs H Q E,sp vs H Q E->vs.length=ps.length)
  (hbody:∀(cdv:ah) (A:jy) (outer:List Env) (s:bb) (H:Hp) (vs:List V) (Q:VK) (E:XK),Room k (A.deeper (va qual (aG st) s.heap.objs.size f cdv))->sp vs H Q E →
   ∃t,PSs (xA CX0 P w K mg base N qual (aG st) f cdv A outer s H E).nox (dG st) t/\t { nx:=λ_ H'=>Q .non H',rt:=Q } (gX N vs) H):FnOk P w K mg base CX0 (k+1) f fd ps sp:=by
 obtain⟨oc,od,dV,kV,doc,pm,an,cdv,ct,osl,rfl,lk,hcd⟩:=F.ex;refine aFI lk hcd S len λA outer s H vs Q E hr h=> ?_;obtain⟨t,h1,h2⟩:=hbody cdv A outer s H vs Q E hr h;exact⟨t,PSs.nox h1,h2⟩
theorem r6{f:Addr}{osl:Array (Option ah)}{dV kV ct:ah}(l:K.lookup f=some ⟨oc,od,.func (W.fnOf x qual (d6 st) (dG st) (aG st) dV kV doc pm an cdv ct),osl⟩)(c:W.codeIn K cdv qual=true)
  (k:W.keepIn K (.ref f)=true):FunV K x qual st f (W.fnOf x qual (d6 st) (dG st) (aG st) dV kV doc pm an cdv ct):=⟨⟨oc,od,dV,kV,doc,pm,an,cdv,ct,osl,rfl,l,c⟩,k⟩
structure Mc(P:fh)(w:gh)(K:W.Frag)(mg:Str->Option ah)(base:Heap)(C:Addr)(nm:Str)(k:Nat)(sp:Sp):Prop where
 ex:∃f fd ps,Cls K C/\Meth K C nm f/\Binds K fd ps []/\FnOk P w K mg base CX0 k f fd ps sp
structure Kc(P:fh)(w:gh)(K:W.Frag)(mg:Str->Option ah)(base:Heap)(x:Str)(C:Addr)(k:Nat)(dvs:List V)(sp:Sp):Prop where
 ex:∃f fd ps ds,mg x=some (.ref C)/\Mk K C f/\Vals dvs ds/\Binds K fd ps ds/\FnOk P w K mg base CX0 k f fd ps sp
section
variable {k:Nat}{sp:Sp}{p:Pos}{o:Expr}{t:TA}
def tMD(M:Addr->Sp->Prop)(m:Str)(ta:TE)(t:TA):TE:=λσ H Q=>ta σ H λx H1=>∃a C dx fs sp,x= .ref a/\H1 a=some (.ins C dx fs)/\fs.lookup m=none/\M C sp/\t σ H1 λvs H2=>sp (x::vs) H2 Q E0
theorem cP(k:Nat){pl:Sem Bool}(hr:Room k' X.A)(ho:PE X o ta)(ha:PA X (e::es) t)(hk:k<=k':=by decide)
  (hst:dg (e::es) X.env=(false,eval e X.env)::dg es X.env:=by rfl)(hpl:(jk pos (dg es X.env)).any (·.1)=false:=by rfl)
  (ht:eval (.Call (.Attribute o m apos) (e::es) [] pos) X.env=(do
   let ov ←eval o X.env
   wg apos.atName
   let (f,first) ←holding [ov] (qu ov m pl)
   callWith pos f first (jk pos (dg (e::es) X.env)) (uj pos (my [] X.env))):=by rfl) :
  PE X (.Call (.Attribute o m apos) (e::es) [] pos) (tMD (λC sp=>Mc X.prog X.w X.K X.mg X.base C m k sp) m ta t):=by
 intro pins s σ H Q I h;refine W.methodCall_KW (pl:=pl) (thn (ho pins s σ H _ I h) ?_) ht;rintro u s1 ⟨x,H1,I1,rx,a,C,dx,fs,sp,ex,ea,l,M,q⟩;subst ex;obtain rfl:u=cy a:=rx;obtain⟨f,fd,ps,c,hm,hb,F⟩:=M.ex;refine EY I1 ea c hm l ?_;refine W.callWith_K (first:=[.ref a]) (h₀:=X.base) I.ok.mod.kin hm.kp (thn (ha pos pins s1 σ H1 _ I1 q) ?_) hst hpl;rintro us s2 ⟨vs,H2,I2,r,q2⟩;refine⟨I2.kIn,?_⟩;exact wB (us:= .ref a::us) (vs:= .ref a::vs) (dvs:=[]) F (hr.mono hk) hb .nil u3 I2 (.cons rfl r) (by rw[df];exact q2)
theorem cU(k:Nat){pl:Sem Bool}(hr:Room k' X.A)(ho:PE X o ta)(hk:k<=k':=by decide)
  (ht:eval (.Call (.Attribute o m apos) [] [] pos) X.env=(do
   let ov ←eval o X.env
   wg apos.atName
   let (f,first) ←holding [ov] (qu ov m pl)
   callWith pos f first (jk pos (dg [] X.env)) (uj pos (my [] X.env))):=by rfl) :
  PE X (.Call (.Attribute o m apos) [] [] pos) (tMD (λC sp=>Mc X.prog X.w X.K X.mg X.base C m k sp) m ta OE):=by
 intro pins s σ H Q I h;refine W.methodCall_KW (pl:=pl) (thn (ho pins s σ H _ I h) ?_) ht;rintro u s1 ⟨x,H1,I1,rx,a,C,dx,fs,sp,ex,ea,l,M,q⟩;subst ex;obtain rfl:u=cy a:=rx;obtain⟨f,fd,ps,c,hm,hb,F⟩:=M.ex;refine EY I1 ea c hm l ?_;exact W.callWith_K0 (first:=[.ref a]) I1.kIn hm.kp (wB (us:=[.ref a]) (vs:=[.ref a]) (dvs:=[]) F (hr.mono hk) hb .nil u3 I1 (.cons rfl .nil) q)
theorem mN(F:Kc X.prog X.w X.K X.mg X.base x C k dvs sp)(hr:Room k' X.A)(ha:PA X (e::es) t)(hk:k+1<=k':=by decide)(hg:Gl X x:=by rfl)
  (hdb:(x==("__debug__" :Str))=false:=by decide)(he:dg (e::es) X.env=(false,eval e X.env)::dg es X.env:=by rfl)(hpl:(jk pos (dg es X.env)).any (·.1)=false:=by rfl) :
  PE X (.Call (.Name x p) (e::es) [] pos) (FY C sp dvs E0 t):=by
 obtain⟨f,fd,ps,ds,hm,M,hd,hb,G⟩:=F.ex;exact aDf M G (hr.mono hk) hg hm hb hd u3 ha hdb he hpl
structure Dc(P:fh)(w:gh)(K:W.Frag)(mg:Str->Option ah)(base:Heap)(x m:Str)(k:Nat)(sp:Sp):Prop where
 ex:∃C f fd ps,mg x=some (.ref C)/\W.specialIn K (.ref C) "__getattribute__" =some (some (.builtin "type.__getattribute__"))/\W.readsIn K C (.type "type")=true/\W.findCls K (.ref C) (.type "type") m=some (.val (.ref f)) ∧
  W.keepIn K (.ref f)=true/\Binds K fd ps []/\FnOk P w K mg base CX0 k f fd ps sp
theorem LE{pl:Sem Bool}(F:Dc X.prog X.w X.K X.mg X.base x m k sp)(hr:Room k' X.A)(ha:PA X (e::es) t)(hk:k<=k':=by decide)(hg:Gl X x:=by rfl)(hdb:(x==("__debug__" :Str))=false:=by decide)
  (hst:dg (e::es) X.env=(false,eval e X.env)::dg es X.env:=by rfl)(hpl:(jk pos (dg es X.env)).any (·.1)=false:=by rfl)
  (ht:eval (.Call (.Attribute (.Name x p) m apos) (e::es) [] pos) X.env=(do
   let ov ←eval (.Name x p) X.env
   wg apos.atName
   let (f,first) ←holding [ov] (qu ov m pl)
   callWith pos f first (jk pos (dg (e::es) X.env)) (uj pos (my [] X.env))):=by rfl) :
  PE X (.Call (.Attribute (.Name x p) m apos) (e::es) [] pos) (wU sp [] E0 t):=by
 intro pins s σ H Q I h;obtain⟨C,f,fd,ps,hm,hga,hrd,hfc,kp,hb,G⟩:=F.ex;refine W.methodCall_KW (pl:=pl) (rY I hg hm ?_ hdb) ht;refine W.method_cls I.kIn hga (W.cls_value I.kIn hrd hfc (zX (v:= .ref f) rfl) ?_);have I1:=I.tok (s.toks+1);refine W.callWith_K (first:=[]) (h₀:=X.base) I.ok.mod.kin kp (thn (ha pos pins _ σ H _ I1 h) ?_) hst hpl;rintro us s2 ⟨vs,H2,I2,r,q2⟩;refine⟨I2.kIn,?_⟩;exact wB G (hr.mono hk) hb .nil u3 I2 r q2
end
def aAV:R2:=λx y H Q=>∃i j,x= .str i/\y= .str j/\i.length+j.length<=sizeLine/\Q (.str (i++j)) H
def SH:R2:=λx y H Q=>y= .non/\Q (.bl (decide (x= .non))) H
def K3:R2:=λx y H Q=>y= .non/\Q (.bl (!decide (x= .non))) H
def aGl:R2:=λx y H Q=>∃i j,x= .str i/\y= .str j/\Q (.bl (!decide (j.cps.toList<i.cps.toList))) H
def aGf(K:W.Frag):List V->Hp->VK->Prop:=λxs H Q=>∃x c t u b,xs=[x,c]/\k6 K H x t/\RelV c u/\W.kitOne K t u=some b/\Q (.bl b) H
def aGt(K:W.Frag):List V->Hp->VK->Prop:=λxs H Q=>∃(p:Addr) (bs:List Bool),xs=[.ref p]/\SqL K H p (bs.map V.bl)/\Q (.bl (bs.all id)) H
def aFG:List V->Hp->VK->Prop:=λxs H Q=>∃z,xs=[.str z]/\z.length<=sizeLine/\Q (.int z.length) H
def aA3(K:W.Frag):List V->Hp->VK->Prop:=λxs H Q=>∃p ys,xs=[.ref p]/\(SqL K H p ys∨SqT K H p ys)/\Q (.int ys.length) H
def aAW:List V->Hp->VK->Prop:=λxs H Q=>∃i j,xs=[.int i,.int j]/\Q (.int (if j<i then j else i)) H
def QR(K:W.Frag):List V->Hp->VK->Prop:=λxs H Q=>∃p ys,xs=[.ref p]/\(SqL K H p ys∨SqT K H p ys)/\∀l,H l=none->Q (.ref l) (upd H l (.lst ys))
theorem aCN:OpR X (kg .Add) aAV:=R9
theorem VU:OpR X (gu .Is) SH:=aD5
theorem RG:OpR X (gu .IsNot) K3:=aBI
theorem WI:OpR X (gu .LtE) aGl:=W4
theorem DQ:dQ X (.builtin "isinstance") (aGf X.K):=O9
theorem ZT(hc:X.calm=true):dQ X (.builtin "all") (aGt X.K):=GB hc
theorem VR:dQ X (.builtin "len") aFG:=OK
theorem c7:dQ X (.builtin "len") (aA3 X.K):=LL
theorem zN(hc:X.calm=true):dQ X (.builtin "min") aAW:=WC hc
theorem wY:dQ X (.type "list") (QR X.K):=N8
theorem eV{j:Int}(n:Int){k1 k2 p1 p2 pos}(h:i^j.toNat=n)(c:aDR i j):PE X (.BinOp (.Constant (.int i) k1 p1) .Pow (.Constant (.int j) k2 p2) pos) (tC (.int n)):=by
 subst h;intro pins s σ H Q I q;exact aI aFe aD aD pins s σ H Q I ⟨i,j,rfl,rfl,c,q⟩
def LA(P:Bool->Hp->Prop):VK:=λx H=>∃k,x= .bl k/\P k H
def aEU(O:Option Int->Hp->Prop):VK:=λx H=>∃i,x= .int i/\O (some i) H
def aFa(Q:VK):List V->Hp->Prop:=λxs H=>xs.length<=sizeLine/\∀p,H p=none->Q (.ref p) (upd H p (.lst xs))
def aEJ(Q:VK):List V->Hp->Prop:=λxs H=>xs.length<=sizeLine/\∀p,H p=none->Q (.ref p) (upd H p (.tup xs))
def aDS(Q:VK):List V->Hp->Prop:=λys H=>∀p,H p=none->Q (.ref p) (upd H p (.lst ys))
def aEg(K:W.Frag)(f:Str)(Q:VK):VK:=λx H=>∃a C dx fs v,x= .ref a/\H a=some (.ins C dx fs)/\Cls K C/\NoAttr K C f/\fs.lookup f=some v/\Q v H
def aAK(K:W.Frag)(f:Str)(y:V)(q:Hp->Prop):VK:=λx H=>∃a C dx fs,x= .ref a/\H a=some (.ins C dx fs)/\Cls K C/\NoAttr K C f/\fs.length<1000/\q (upd H a (.ins C dx (bO f y fs)))
def MdP(M:Addr->Sp->Prop)(m:Str)(t:TA)(σ:St)(Q:VK):VK:=λx H=>∃a C dx fs sp,x= .ref a/\H a=some (.ins C dx fs)/\fs.lookup m=none/\M C sp/\t σ H λvs H2=>sp (x::vs) H2 Q E0
def jK(C:Addr)(sp:Sp)(dvs:List V)(E:XK)(Q:VK):List V->Hp->Prop:=λvs H1=>∀x dx,H1 x=none->H1 dx=none->dx≠x →
 sp (.ref x::(vs++dvs)) (upd (upd H1 dx (.own x)) x (.ins C dx [])) (λv H2=>v= .non/\Q (.ref x) H2) E
def BmP(K:W.Frag)(T:String)(r:V->List V->Hp->VK->Prop)(t:TA)(σ:St)(Q:VK):VK:=λx H1=>tyV K T x H1/\t σ H1 λxs H2=>r x xs H2 Q
def aEH(K:W.Frag)(T:String)(r:V->List V->Hp->VK->Prop)(Q:VK):VK:=λx H1=>tyV K T x H1/\r x [] H1 Q
def aDB(K:W.Frag)(R:It->Hp->Prop):VK:=λx H1=>∃a,x= .ref a/\(∃xs,SqL K H1 a xs)/\R (Itl K a) H1
def aDX(R:It->Hp->Prop):List V->Hp->Prop:=λvs H1=>∃j:Int,vs=[.int j]/\ -(2^62)<=j/\j<2^62/\R (Itr 0 j.toNat) H1
def aEe(R:It->Hp->Prop):List V->Hp->Prop:=λvs H1=>∃i j:Int,vs=[.int i,.int j]/\(-(2^62)<=i/\i<2^62/\ -(2^62)<=j/\j<2^62)/\R (Itr i (j - i).toNat) H1
variable {tb:TS}{r:V->List V->Hp->VK->Prop}{gs:TGs}{Q rt:VK}{ct nx:St->Hp->Prop}
section
variable {bk:St->Hp->Prop}{t u:TS}{tb tc:TE}{c d:TT}{E:XK}
theorem aEv(h:t ⟨u ⟨nx,rt,bk,ct⟩,rt,bk,ct⟩ σ H):MU t u ⟨nx,rt,bk,ct⟩ σ H:=h
theorem lO(R:St->Hp->Prop)(h2:∀σ' H',R σ' H'->u ⟨nx,rt,bk,ct⟩ σ' H')(h1:∀nx':St->Hp->Prop,(∀σ' H',R σ' H'->nx' σ' H')->t ⟨nx',rt,bk,ct⟩ σ H):MU t u ⟨nx,rt,bk,ct⟩ σ H:=h1 _ h2
theorem ZR{v:TS}(h:MU (T5 c t u) v ⟨nx,rt,bk,ct⟩ σ H):MU (T5 c t u) v ⟨nx,rt,bk,ct⟩ σ H:=h
theorem aC8(h:nx σ H):aAC ⟨nx,rt,bk,ct⟩ σ H:=h
theorem aEc(h:te σ H λx H1=>g x σ H1 nx):T0 te g ⟨nx,rt,bk,ct⟩ σ H:=h
theorem aD1(h:te σ H rt):aEd te ⟨nx,rt,bk,ct⟩ σ H:=h
theorem aCO(h:te σ H λ_ H1=>nx σ H1):aAR te ⟨nx,rt,bk,ct⟩ σ H:=h
theorem aFS(h:c σ H λb H1=>if b=true then t ⟨nx,rt,bk,ct⟩ σ H1 else u ⟨nx,rt,bk,ct⟩ σ H1):T5 c t u ⟨nx,rt,bk,ct⟩ σ H:=h
theorem aEk{i:Nat}{ti:TIp}(h:jU i σ H λx H0=>te σ H0 λy H1=>ti x y H1 λz H2=>cG i z σ H2 nx):aEr i te ti ⟨nx,rt,bk,ct⟩ σ H:=by
 obtain⟨x,e,q⟩:=h;exact⟨x,e,q⟩
def TF(J:It)(g:TG)(tb:TS)(D:gY)(σ:St)(H:Hp):Prop :=
 ∃W:Nat->Nat->St->Hp->Prop,(∃m,W 0 m σ H)/\∀i m σ H,W i m σ H →
  (J.stop i H/\D.nx σ H)∨(J.go i H/\∃N:St->Hp->Prop,(∀σ' H',N σ' H'->∃m',m'<m/\W (i+1) m' σ' H')/\∀x H',J.yld i H x H'->g x σ H' λσ2 H2=>tb { D with nx:=N,ct:=N,bk:=D.nx } σ2 H2)
theorem aED{tb:TS}(h:wi σ H λJ H1=>TF J g tb ⟨nx,rt,bk,ct⟩ σ H1):aE4 wi g tb ⟨nx,rt,bk,ct⟩ σ H:=h
theorem aFQ{l:St}(h:Q v H):jU 0 (some v::l) H Q:=⟨v,rfl,h⟩
theorem aFx{a0}{l:St}(h:Q v H):jU 1 (a0::some v::l) H Q:=⟨v,rfl,h⟩
theorem aFV{a0 a1}{l:St}(h:Q v H):jU 2 (a0::a1::some v::l) H Q:=⟨v,rfl,h⟩
theorem aFs{a0 a1 a2}{l:St}(h:Q v H):jU 3 (a0::a1::a2::some v::l) H Q:=⟨v,rfl,h⟩
theorem aFJ{a0 a1 a2 a3}{l:St}(h:Q v H):jU 4 (a0::a1::a2::a3::some v::l) H Q:=⟨v,rfl,h⟩
theorem aFp{a0 a1 a2 a3 a4}{l:St}(h:Q v H):jU 5 (a0::a1::a2::a3::a4::some v::l) H Q:=⟨v,rfl,h⟩
theorem aFK{a0 a1 a2 a3 a4 a5}{l:St}(h:Q v H):jU 6 (a0::a1::a2::a3::a4::a5::some v::l) H Q:=⟨v,rfl,h⟩
theorem aF2{a0 a1 a2 a3 a4 a5 a6}{l:St}(h:Q v H):jU 7 (a0::a1::a2::a3::a4::a5::a6::some v::l) H Q:=⟨v,rfl,h⟩
theorem aFT{a0 a1 a2 a3 a4 a5 a6 a7}{l:St}(h:Q v H):jU 8 (a0::a1::a2::a3::a4::a5::a6::a7::some v::l) H Q:=⟨v,rfl,h⟩
theorem aF8{a0 a1 a2 a3 a4 a5 a6 a7 a8}{l:St}(h:Q v H):jU 9 (a0::a1::a2::a3::a4::a5::a6::a7::a8::some v::l) H Q:=⟨v,rfl,h⟩
theorem aDW{a0 a1 a2 a3 a4 a5 a6 a7 a8 a9}{l:St}(h:Q v H):jU 10 (a0::a1::a2::a3::a4::a5::a6::a7::a8::a9::some v::l) H Q:=⟨v,rfl,h⟩
theorem aDY{a0 a1 a2 a3 a4 a5 a6 a7 a8 a9 a10}{l:St}(h:Q v H):jU 11 (a0::a1::a2::a3::a4::a5::a6::a7::a8::a9::a10::some v::l) H Q:=⟨v,rfl,h⟩
variable {q:St->Hp->Prop}
theorem aFY{a}{l:St}(h:q (some v::l) H):cG 0 v (a::l) H q:=h
theorem aFy{a0 a}{l:St}(h:q (a0::some v::l) H):cG 1 v (a0::a::l) H q:=h
theorem aF5{a0 a1 a}{l:St}(h:q (a0::a1::some v::l) H):cG 2 v (a0::a1::a::l) H q:=h
theorem aFF{a0 a1 a2 a}{l:St}(h:q (a0::a1::a2::some v::l) H):cG 3 v (a0::a1::a2::a::l) H q:=h
theorem aFt{a0 a1 a2 a3 a}{l:St}(h:q (a0::a1::a2::a3::some v::l) H):cG 4 v (a0::a1::a2::a3::a::l) H q:=h
theorem aFE{a0 a1 a2 a3 a4 a}{l:St}(h:q (a0::a1::a2::a3::a4::some v::l) H):cG 5 v (a0::a1::a2::a3::a4::a::l) H q:=h
theorem aFA{a0 a1 a2 a3 a4 a5 a}{l:St}(h:q (a0::a1::a2::a3::a4::a5::some v::l) H):cG 6 v (a0::a1::a2::a3::a4::a5::a::l) H q:=h
theorem aF4{a0 a1 a2 a3 a4 a5 a6 a}{l:St}(h:q (a0::a1::a2::a3::a4::a5::a6::some v::l) H):cG 7 v (a0::a1::a2::a3::a4::a5::a6::a::l) H q:=h
theorem aFZ{a0 a1 a2 a3 a4 a5 a6 a7 a}{l:St}(h:q (a0::a1::a2::a3::a4::a5::a6::a7::some v::l) H):cG 8 v (a0::a1::a2::a3::a4::a5::a6::a7::a::l) H q:=h
theorem aFL{a0 a1 a2 a3 a4 a5 a6 a7 a8 a}{l:St}(h:q (a0::a1::a2::a3::a4::a5::a6::a7::a8::some v::l) H):cG 9 v (a0::a1::a2::a3::a4::a5::a6::a7::a8::a::l) H q:=h
theorem aFg{a0 a1 a2 a3 a4 a5 a6 a7 a8 a9 a}{l:St}(h:q (a0::a1::a2::a3::a4::a5::a6::a7::a8::a9::some v::l) H):cG 10 v (a0::a1::a2::a3::a4::a5::a6::a7::a8::a9::a::l) H q:=h
theorem aEO{a0 a1 a2 a3 a4 a5 a6 a7 a8 a9 a10 a}{l:St}(h:q (a0::a1::a2::a3::a4::a5::a6::a7::a8::a9::a10::some v::l) H):cG 11 v (a0::a1::a2::a3::a4::a5::a6::a7::a8::a9::a10::a::l) H q:=h
theorem aGx(h:Q v H):tC v σ H Q:=h
theorem aFw{r:R2}(h:ta σ H λx H1=>tb σ H1 λy H2=>r x y H2 Q):tOp r ta tb σ H Q:=h
theorem aF7{r:V->Hp->VK->Prop}(h:ta σ H λx H1=>r x H1 Q):tUn r ta σ H Q:=h
theorem aF0{f:Int->Int->V}{j:Int}(h:Q (f i j) H):rI0 f (.int i) (.int j) H Q:=⟨i,j,rfl,rfl,h⟩
theorem aGs{f:Int->V}(h:Q (f i) H):rU f (.int i) H Q:=⟨i,rfl,h⟩
theorem aEy{f:Int->Int->V}{j:Int}(h0:0<j)(h1:j<1073741824)(h:Q (f i j) H):rI aDz f (.int i) (.int j) H Q:=⟨i,j,rfl,rfl,⟨h0,h1⟩,h⟩
theorem aFh{f:Int->Int->V}{j:Int}(h0:0<j)(h:Q (f i j) H):rI (λ_ j=>0<j) f (.int i) (.int j) H Q:=⟨i,j,rfl,rfl,h0,h⟩
theorem aC7{f:Int->Int->V}{j:Int}(h0: -18446744073709551616<i)(h1:i<18446744073709551616)(h:Q (f i j) H):rI CMul f (.int i) (.int j) H Q:=⟨i,j,rfl,rfl,.inl ⟨by lia,by lia⟩,h⟩
theorem aCL{f:Int->Int->V}{j:Int}(h0: -18446744073709551616<j)(h1:j<18446744073709551616)(h:Q (f i j) H):rI CMul f (.int i) (.int j) H Q:=⟨i,j,rfl,rfl,.inr ⟨by lia,by lia⟩,h⟩
theorem V1{f:Int->Int->V}{j:Int}(h0:0<=j)(h:Q (f i j) H):rI (λ_ j=>0<=j) f (.int i) (.int j) H Q:=⟨i,j,rfl,rfl,h0,h⟩
theorem aFu{j:Int}:decide (V.int i=V.int j)=decide (i=j):=by simp
theorem aFW{i j:Str}:decide (V.str i=V.str j)=decide (i=j):=by simp
theorem aE2{j:Int}(h:Q (.bl (decide (i=j))) H):rEq (.int i) (.int j) H Q:=⟨rfl,by rw[aFu];exact h⟩
theorem aEs{i j:Str}(h:Q (.bl (decide (i=j))) H):rEq (.str i) (.str j) H Q:=⟨rfl,by rw[aFW];exact h⟩
theorem aBL(h:Q (.bl true) H):SH .non .non H Q:=⟨rfl,h⟩
theorem aBp{i:Str}(h:Q (.bl false) H):SH (.str i) .non H Q:=⟨rfl,by rw[decide_eq_false (λz=>by cases z)];exact h⟩
theorem aBQ(h:Q (.bl (decide (v= .non))) H):SH v .non H Q:=⟨rfl,h⟩
theorem aBT(h:Q (.bl false) H):K3 .non .non H Q:=⟨rfl,h⟩
theorem aCJ{i:Str}(h:Q (.bl true) H):K3 (.str i) .non H Q:=⟨rfl,by rw[decide_eq_false (λz=>by cases z)];exact h⟩
theorem aB6(h:Q (.bl true) H):K3 (.int i) .non H Q:=⟨rfl,by rw[decide_eq_false (λz=>by cases z)];exact h⟩
theorem aC2{i j:Str}(hl:i.length+j.length<=sizeLine)(h:Q (.str (i++j)) H):aAV (.str i) (.str j) H Q:=⟨i,j,rfl,rfl,hl,h⟩
theorem aBY(h:ta σ H (LA λc H1=>if c=true then tb σ H1 Q else Q (.bl false) H1)):aAT ta tb σ H Q:=h
theorem aE8(h:c σ H λk H1=>if k=true then ta σ H1 Q else tb σ H1 Q):tIf c ta tb σ H Q:=h
theorem aDn{sp:Sp}{t:TA}(h:t σ H λvs H1=>sp vs H1 Q E):wU sp [] E t σ H Q:=by
 unfold wU;simp only[df];exact h
theorem aFU{r:List V->Hp->VK->Prop}{t:TA}(h:t σ H λvs H1=>r vs H1 Q):tCB r t σ H Q:=h
theorem aE5{t:TA}(h:t σ H (aFa Q)):aDE t σ H Q:=h
theorem aEf{t:TA}(h:t σ H (aEJ Q)):aEP t σ H Q:=h
theorem gE{o:HO}{R:V->Hp->Prop}(h:∀p H',H p=none->Same H H'->H' p=some o->R (.ref p) H'):∀p,H p=none->R (.ref p) (upd H p o) :=
 λp hp=>h p _ hp (λb u e=>by rw[aK (bB e hp)];exact e) aR
theorem aBx(hn:xs.length<=sizeLine)(h:∀p H',H p=none->Same H H'->H' p=some (.lst xs)->Q (.ref p) H'):aFa Q xs H:=⟨hn,gE h⟩
theorem aBK(hn:xs.length<=sizeLine)(h:∀p H',H p=none->Same H H'->H' p=some (.tup xs)->Q (.ref p) H'):aEJ Q xs H:=⟨hn,gE h⟩
theorem aBE(h:∀p H',H p=none->Same H H'->H' p=some (.lst xs)->Q (.ref p) H'):aDS Q xs H:=gE h
theorem aEw{f:Str}(h:ta σ H (aEg K f Q)):ZY K ta f σ H Q:=h
theorem aCG{fs:List (Str×V)}{f:Str}(e:H a=some (.ins C dx fs))(cl:Cls K C)(na:NoAttr K C f)(l:fs.lookup f=some v)(h:Q v H):aEg K f Q (.ref a) H:=⟨a,C,dx,fs,v,rfl,e,cl,na,l,h⟩
theorem aCp{f:Str}(h:ta σ H λy H1=>tb σ H1 (aAK K f y (nx σ))):aEW K tb ta f ⟨nx,rt,bk,ct⟩ σ H:=h
theorem Y4{fs:List (Str×V)}{f:Str}{y:V}{w:Hp->Prop}(e:H a=some (.ins C dx fs))(cl:Cls K C)(na:NoAttr K C f)(l:decide (fs.length<1000)=true)
  (h:∀H',(∀b o,H b=some o->b≠a->H' b=some o)->H' a=some (.ins C dx (bO f y fs))->w H'):aAK K f y w (.ref a) H :=
 ⟨a,C,dx,fs,rfl,e,cl,na,of_decide_eq_true l,h _ (λb o q hb=>by rw[aK hb];exact q) aR⟩
theorem aFv{M:Addr->Sp->Prop}{t:TA}(h:ta σ H (MdP M m t σ Q)):tMD M m ta t σ H Q:=h
theorem aES{M:Addr->Sp->Prop}{t:TA}{fs:List (Str×V)}{sp:Sp}(e:H a=some (.ins C dx fs))(l:fs.lookup m=none)(F:M C sp)(h:t σ H λvs H2=>sp (.ref a::vs) H2 Q E0):MdP M m t σ Q (.ref a) H :=
 ⟨a,C,dx,fs,sp,rfl,e,l,F,h⟩
theorem aCu{sp:Sp}{t:TA}(h:t σ H (jK C sp dvs E Q)):FY C sp dvs E t σ H Q:=h
theorem iY{sp:Sp}{fs:List (Str×V)}
  (hsp:∀p dx H0 (Q':VK),H0 p=some (.ins C dx [])->(∀H',(∀b o,H0 b=some o->b≠p->H' b=some o)->H' p=some (.ins C dx fs)->Q' .non H')->Same H H0->sp (.ref p::(vs++dvs)) H0 Q' E)
  (k:∀p dx H',H p=none->Same H H'->H' p=some (.ins C dx fs)->Q (.ref p) H'):jK C sp dvs E Q vs H:=by
 intro x dx nx nd ne;have s0:Same H (upd (upd H dx (.own x)) x (.ins C dx [])):=λb o e=>by
  rw[aK (bB e nx),aK (bB e nd)];exact e
 exact hsp x dx _ _ aR (λH' sb e=>⟨rfl,k x dx H' nx (λb o q=>sb b o (s0 b o q) (bB q nx)) e⟩) s0
theorem aCS(h:wi σ H λJ H1=>dR J g ti te (cB nl ci σ) (aDS Q) H1):R4 wi nl ci g ti te σ H Q:=h
theorem aFH{r:V->Option Int->Option Int->Hp->VK->Prop}{tl th:TO}(h:te σ H λx H1=>tl σ H1 λl H2=>th σ H2 λu H3=>r x l u H3 Q):tSl r te tl th σ H Q:=h
theorem WJ{lo hi:Option Int}(e:SqL K H a xs)(h:∀p H',H p=none->Same H H'->H' p=some (.lst (DL xs lo hi))->Q (.ref p) H'):ZZ K (.ref a) lo hi H Q:=⟨a,xs,rfl,e,gE h⟩
theorem MD(e:SqL K H p xs)(l:atI xs i=some v)(h:Q v H):AM K (.ref p) (.int i) H Q:=⟨p,xs,i,v,rfl,rfl,e,l,h⟩
theorem aBC{a b:Int}(e:SqL K H p [.int a,.int b])(h0:0<=i)(h1:i<2)(h:∀v,(i=0/\v=a)∨(i=1/\v=b)->Q (.int v) H):AM K (.ref p) (.int i) H Q:=by
 have:i=0∨i=1:=by lia
 rcases this with rfl|rfl
 .exact⟨p,_,0,_,rfl,rfl,e,rfl,h a (.inl ⟨rfl,rfl⟩)⟩
 .exact⟨p,_,1,_,rfl,rfl,e,rfl,h b (.inr ⟨rfl,rfl⟩)⟩
def OH(ns:List Int)(lo hi:Option Int):List Int:=(ns.drop (HT.sIx ns.length 0 lo)).take (HT.sIx ns.length ns.length hi - HT.sIx ns.length 0 lo)
theorem WK(ns:List Int)(lo hi:Option Int):DL (ns.map V.int) lo hi=(OH ns lo hi).map V.int:=by
 unfold DL OH;rw[af,wt,List.map_drop]
theorem aD0{ns:List Int}{lo hi:Option Int}(e:SqL K H a (ns.map V.int))(h:∀p H',H p=none->Same H H'->H' p=some (.lst ((OH ns lo hi).map V.int))->Q (.ref p) H'):ZZ K (.ref a) lo hi H Q :=
 WJ e (by rw[WK];exact h)
theorem nY{k:Int}{R:Hp->Prop}(e:H p=some (.lst xs))(l:ixN xs.length k=some j)(h:∀H',(∀b o,H b=some o->b≠p->H' b=some o)->H' p=some (.lst (xs.set j v))->R H'):aAB (.ref p) (.int k) v H R :=
 ⟨p,xs,k,j,rfl,rfl,e,l,h _ (λb o q hb=>by rw[aK hb];exact q) aR⟩
theorem aC1{l:Addr}{zs:List V}(e:H l=some (.lst xs))(e2:H b=some (.lst zs))(hn:xs.length+zs.length<=sizeLine)(h:∀p H',H p=none->Same H H'->H' p=some (.lst (xs++zs))->Q (.ref p) H'):aEQ (.ref l) (.ref b) H Q :=
 ⟨l,b,xs,zs,rfl,rfl,e,e2,hn,gE h⟩
theorem aFO{t:TA}(h:to σ H (BmP K T r t σ Q)):tBM K T r to t σ H Q:=h
theorem aDV(h:to σ H (aEH K T r Q)):aEu K T r to σ H Q:=h
theorem aDK{t:TA}(e:SqL K H p xs)(h:t σ H λxs H2=>r (.ref p) xs H2 Q):BmP K "list" r t σ Q (.ref p) H:=⟨.inl ⟨rfl,xs,e⟩,h⟩
theorem aDe(h:r (.int i) [] H Q):aEH K "int" r Q (.int i) H:=⟨rfl,h⟩
structure ICls(K:W.Frag)(C:Addr):Prop where
 cl:Cls K C
 ha:W.findIn K (.ref C) "__class__" =some (some (.builtin "object.__class__"))
 hn:W.specialIn K (.builtin "object.__class__") "__get__" =some (some (.builtin "getset_descriptor.__get__"))
 tk:W.takesIn K (.builtin "object.__class__")=some true
 hm:W.mroIn K C (.type "object")=some true
theorem aCd(e:SqL K H p ys)(h:Q (.int ys.length) H):aA3 K [.ref p] H Q:=⟨p,ys,rfl,.inl e,h⟩
theorem aBF{j:Int}(h:Q (.int (min i j)) H):aAW [.int i,.int j] H Q:=⟨i,j,rfl,by
 have e:(if j<i then j else i)=min i j:=by lia
 rw[e];exact h⟩
theorem W7(e:SqL K H p ys)(h:∀l H',H l=none->Same H H'->H' l=some (.lst ys)->Q (.ref l) H'):QR K [.ref p] H Q:=⟨p,ys,rfl,.inl e,gE h⟩
variable {B:Bool->Hp->Prop}
theorem aBi(h:te σ H (LA B)):aA8 te σ H B:=h
theorem aF6(h:te σ H (LA B)):tB te σ H B:=h
theorem aEb(h:c σ H λk H1=>if k=true then d σ H1 B else B false H1):aD7 c d σ H B:=h
theorem aFM(h:c σ H λk H1=>if k=true then B true H1 else d σ H1 B):tOr c d σ H B:=h
theorem aEM(h:c σ H λk H1=>B (!k) H1):aEl c σ H B:=h
theorem aE6{b:Bool}{P:Bool->Hp->Prop}(h:P b H):LA P (.bl b) H:=⟨b,rfl,h⟩
theorem NE{A B:Prop}(h:A):if true=true then A else B:=by rw[if_pos rfl];exact h
theorem LV{A B:Prop}(h:B):if false=true then A else B:=by rw[if_neg bw];exact h
theorem aBz{A B:Prop}(h:B):if (!true)=true then A else B:=LV h
theorem aCU{A B:Prop}(h:A):if (!false)=true then A else B:=NE h
theorem aEN{p A B:Prop}[Decidable p](hp:p)(h:A):if decide p=true then A else B:=by rw[if_pos (decide_eq_true hp)];exact h
theorem aDP{p A B:Prop}[Decidable p](hp:¬p)(h:B):if decide p=true then A else B:=by rw[if_neg (by rw[decide_eq_false hp];exact bw)];exact h
theorem aCz{p A B:Prop}[Decidable p](hp:p)(h:B):if (!decide p)=true then A else B:=by rw[decide_eq_true hp];exact LV h
theorem aCy{p A B:Prop}[Decidable p](hp:¬p)(h:A):if (!decide p)=true then A else B:=by rw[decide_eq_false hp];exact NE h
theorem bS{p A B:Prop}[Decidable p](h1:p->A)(h2:¬p->B):if decide p=true then A else B:=F9 (λh=>h1 (of_decide_eq_true h)) λh=>h2 λz=>h (decide_eq_true z)
variable {L:List V->Hp->Prop}{O:Option Int->Hp->Prop}{tr:TA}
theorem aD2(h:L [] H):OE σ H L:=h
theorem aCj(h:te σ H λx H1=>tr σ H1 λxs H2=>L (x::xs) H2):aAS te tr σ H L:=h
theorem VQ(h:O none H):QT σ H O:=h
theorem aBs(h:te σ H (aEU O)):aBe te σ H O:=h
theorem aDQ(h:O (some i) H):aEU O (.int i) H:=⟨i,rfl,h⟩
theorem aBm{ti:TE}{ts:DF}(h:to σ H λo H1=>ti σ H1 λi H2=>ts o i v H2 λH3=>q σ H3):aEp to ti ts v σ H q:=h
theorem aCY(h:q σ H):NH [] σ H q:=⟨rfl,h⟩
theorem ZX(h:g v σ H λσ' H'=>gs vs σ' H' q):rL g gs (v::vs) σ H q:=⟨v,vs,rfl,h⟩
theorem aB5(e:SqT K H a vs)(hl:vs.length=n)(h:gs vs σ H q):GF K n gs (.ref a) σ H q:=⟨a,vs,rfl,e,hl,h⟩
variable {R:It->Hp->Prop}
theorem ZW(h:te σ H (aDB K R)):aAU K te σ H R:=h
theorem JR(e:SqL K H a xs)(h:R (Itl K a) H):aDB K R (.ref a) H:=⟨a,rfl,⟨xs,e⟩,h⟩
theorem aAd(h:tr σ H (aDX R)):aA4 tr σ H R:=h
theorem WY{j:Int}(h0: -4611686018427387904<=j)(h1:j<4611686018427387904)(h:R (Itr 0 j.toNat) H):aDX R [.int j] H:=⟨j,rfl,by lia,by lia,h⟩
theorem YM(h:tr σ H (aEe R)):aAP tr σ H R:=h
theorem WP{j:Int}(h0: -4611686018427387904<=i)(h1:i<4611686018427387904)(h2: -4611686018427387904<=j)(h3:j<4611686018427387904)(h:R (Itr i (j - i).toNat) H):aEe R [.int i,.int j] H:=⟨i,j,rfl,⟨by lia,by lia,by lia,by lia⟩,h⟩
theorem dH{tb:TS}(xs:List V)(Pv:Nat->St->Hp->Prop)(h0:Pv 0 σ H)(hl:∀i σ H,i<=xs.length->Pv i σ H->SqL K H a xs)
  (hs:∀i x σ H,xs[i]? =some x->Pv i σ H->g x σ H λσ2 H2=>tb ⟨Pv (i+1),rt,nx,Pv (i+1)⟩ σ2 H2)(hd:∀σ H,Pv xs.length σ H->nx σ H):TF (Itl K a) g tb ⟨nx,rt,bk,ct⟩ σ H :=
 ZH (D:=⟨nx,rt,bk,ct⟩) Pv h0 hl hs hd
theorem wA{tb:TS}(Pv:Nat->St->Hp->Prop)(h0:Pv 0 σ H)
  (hs:∀i σ H,i<n->Pv i σ H->g (.int (lo+i)) σ H λσ2 H2=>tb ⟨Pv (i+1),rt,nx,Pv (i+1)⟩ σ2 H2)(hd:∀σ H,Pv n σ H->nx σ H):TF (Itr lo n) g tb ⟨nx,rt,bk,ct⟩ σ H :=
 XV (D:=⟨nx,rt,bk,ct⟩) Pv h0 hs hd
end
theorem AE(hr:ci.map (λi=>(σ[i]?).join)=rest):cB 1 ci σ=none::rest:=by
 unfold cB;rw[hr];rfl
theorem P5(P:Nat->V->Prop)(hn:n<=sizeLine)(hr:ci.map (λi=>(σ[i]?).join)=rest)
  (hs:∀i H1,i<n->Same H H1->∀R:VK,(∀y H2,P i y->Same H1 H2->R y H2)->te (some (.int (lo+i))::rest) H1 R)
  (hf:∀ys H1,Same H H1->ys.length=n->(∀i y,ys[i]? =some y->P i y)->fin ys H1):dR (Itr lo n) (cG 0) DR te (cB 1 ci σ) fin H:=by
 rw[AE hr];refine SE (λi ys H1=>Same H H1/\ys.length=i/\∀j y,ys[j]? =some y->P j y) hn rfl ⟨Same.refl _,rfl,λj y h=>by simp at h⟩ (λi ys H1 ok=>xg ok.2.1) (λys H1 ok=>hf ys H1 ok.1 ok.2.1 ok.2.2) ?_;intro i ys H1 hi ⟨s1,hl,hp⟩ R hR;refine hs i H1 hi s1 R λy H2 hy s2=>hR y H2 ⟨s1.trans s2,by simp[hl],λj z hz=> ?_⟩
 by_cases hj:j<ys.length
 .rw[fq hj]at hz;exact hp j z hz
 .rw[fg (by lia)]at hz;have hj0:j - ys.length=0:=by
   cases e:j - ys.length with
   | zero=>rfl
   | succ k=>rw[e]at hz;simp at hz
  rw[hj0]at hz;have:z=y:=by simpa using hz.symm
  subst this;have:j=i:=by lia
  subst this;exact hy
theorem TR{α β:Type}{xs:List α}{ys:List β}{f:α->β}(hl:ys.length=xs.length)(h:∀(i:Nat) y,ys[i]? =some y->∃x,xs[i]? =some x/\y=f x):ys=xs.map f:=by
 apply List.ext_getElem?
 intro i;rw[bu];cases e:ys[i]? with
 | none =>
  have:xs[i]? =none:=by
   rw[List.getElem?_eq_none_iff]at e ⊢
   lia
  rw[this];rfl
 | some y =>
  obtain⟨x,hx,rfl⟩:=h i y e;rw[hx];rfl
theorem MI(f:Nat->V)(hn:n<=sizeLine)(hr:ci.map (λi=>(σ[i]?).join)=rest)
  (hs:∀i H1,i<n->Same H H1->∀R:VK,(∀H2,Same H1 H2->R (f i) H2)->te (some (.int (lo+i))::rest) H1 R)
  (hf:∀H1,Same H H1->fin ((fc n).map f) H1):dR (Itr lo n) (cG 0) DR te (cB 1 ci σ) fin H:=by
 refine P5 (λi y=>y=f i) hn hr (λi H1 hi s1 R hR=>hs i H1 hi s1 R λH2 s2=>hR _ H2 rfl s2) ?_;intro ys H1 s1 hl hp;have e:ys=(fc n).map f:=by
  refine TR (by rw[hl,el]) λi y hy=> ?_;have hi:i<n:=by
   rw[←hl];exact(ax.mp hy).1
  exact⟨i,by simp[hi],hp i y hy⟩
 rw[e];exact hf H1 s1
theorem Same.at{o:HO}(s:Same H H')(h:H b=some o):H' b=some o:=s b o h
def SameBut(p:Addr)(H H':Hp):Prop:=∀b o,H b=some o->b≠p->H' b=some o
theorem SameBut.upd{o:HO}:SameBut p H (upd H p o):=λb u e hb=>by rw[aK hb];exact e
theorem SameBut.trans(a:SameBut p H H1)(b:SameBut p H1 H2):SameBut p H H2:=λc o h hc=>b c o (a c o h hc) hc
theorem Same.but(s:Same H H'):SameBut p H H':=λb o e _=>s b o e
theorem SameBut.same{H0:Hp}(n:H0 p=none)(s:Same H0 H)(b:SameBut p H H'):Same H0 H':=λc o e=>b c o (s c o e) (bB e n)
theorem aL{t:TS}{D:gY}(e:gX N vs=σ)(h:t D σ H):t D (gX N vs) H:=e▸h
theorem SameBut.refl:SameBut p H H:=λ_ _ e _=>e
theorem SameBut.snoc(b:∀c o,H1 c=some o->c≠p->H2 c=some o)(a:SameBut p H H1):SameBut p H H2:=λc o h hc=>b c o (a c o h hc) hc
theorem SameBut.snocS(b:Same H1 H2)(a:SameBut p H H1):SameBut p H H2:=λc o h hc=>b c o (a c o h hc)
theorem Same.snoc(b:Same H1 H2)(a:Same H H1):Same H H2:=a.trans b
theorem aDk{f:Str}{fs:List (Str×V)}:(bO f v fs).lookup f=some v:=by rw[pC,if_pos rfl]
theorem aFr{f g:Str}{o:Option V}{fs:List (Str×V)}(h:decide (g=f)=false)(l:fs.lookup g=o):(bO f v fs).lookup g=o:=by rw[pC,if_neg (of_decide_eq_false h)];exact l
theorem XI{f:Str}:([]:List (Str×V)).lookup f=none:=rfl
variable {items:Array ah}
section
variable {kV ct:ah}{ps:List Str}
theorem oM(k:Nat){T:Addr}{ds:List ah}{sl:Array (Option ah)}(lt:K.lookup T=some ⟨oc,od,.seq items n,sl⟩)
  (h:∀us:List ah,us.length=k->∃k,bindArgs (W.fnOf x qual (d6 st) (dG st) (aG st) (.ref T) kV doc pm an cdv ct) ⟨us,[]⟩=seqItems? (.ref T) >>= k/\k (some items)=pure (ps.zip (us++ds)))(hk:k+ds.length=ps.length:=by rfl) :
  Binds K (W.fnOf x qual (d6 st) (dG st) (aG st) (.ref T) kV doc pm an cdv ct) ps ds:=λs us hK hl=>by
 obtain⟨k,h1,h2⟩:=h us (by rw[ak]at hl;lia);exact .of_defaults (T:=T) (items:=items) (n:=n) rfl (hK T _ lt) rfl h1 h2
end
theorem cD(s:String):(ly s).length=s.length:=by
 rw[Str.ofString_eq_toList];show (s.toList.map Char.toNat).toArray.size=_;rw[bp,af,String.length_toList]
def sgB(c:Nat):Bool:=decide (97<=c)&&decide (c<=122)
def aEm(z:Str):Bool:=z.cps.toList.all sgB
def aY(z:Str):Bool:=decide (1<=(z.length:Int))&&decide ((z.length:Int)<=8)&&aEm z
theorem VD(h:aY z=true):z.length<=8:=by
 unfold aY at h;simp only[ie,decide_eq_true_eq]at h
 lia
theorem Y8(h0:1<=z.length)(h1:z.length<=8)(h2:aEm z=true):aY z=true:=by
 unfold aY;simp only[ie,decide_eq_true_eq];exact⟨⟨by lia,by lia⟩,h2⟩
theorem C0(x y:Str):(x++y).cps.toList=x.cps.toList++y.cps.toList:=by
 show (x.cps++y.cps).toList=_;simp
theorem vL(x y:Str):(x++y).length=x.length+y.length:=by
 show (x.cps++y.cps).size=_;rw[Array.size_append];rfl
theorem IC(c:Nat):(⟨#[c]⟩:Str).length=1:=rfl
theorem aCc{y:Str}(h:x.cps.toList=y.cps.toList):x=y:=by
 cases x;cases y;have:_=_:=Array.ext' h;cases this;rfl
theorem FG{l:Addr}(hl:h.IsList l items)(x:su it h h')(hne:l≠it):h'.IsList l items:=by
 obtain⟨o,ho,r⟩:=hl;exact⟨o,x l o hne ho,r⟩
theorem IX{t:Addr}(hne:t≠it):∀(n i:Nat) (s:bb) (Q:List ah->bb->Prop),s.heap.IsListIter it t i->s.heap.IsList t items->i+n<=items.size →
  (∀h':Heap,h'.IsListIter it t (i+n)->ik it s.heap h'->Q ((items.toList.drop i).take n) { s with heap:=h' })->bz (cg prog w) A (draw (.ref it) n) Q E s
 | 0,i,s,Q,hit,_,_,hQ=>by
  show bz _ _ (pure []) Q E s;exact av (by simpa using hQ s.heap hit (ik.refl ..))
 | n+1,i,s,Q,hit,ht,hle,hQ=>by
  have hlt:i<items.size:=by lia
  show bz _ _ (oj (.ref it) >>= _) Q E s;refine ae (wpAny_pyNext_list_item hit ht (x:=items[i]) (by simp[hlt]) λh₁ hit₁ hs₁=> ?_);refine ae (gb (IX hne n (i+1) _ _ hit₁ (FG ht hs₁.extBut hne) (by lia) λh₂ hit₂ hs₂=>av ?_));have hd:items.toList.drop i=items[i]::items.toList.drop (i+1):=by simp[sd,hlt]
  have:=hQ h₂ (by rw[show i+(n+1)=i+1+n by lia];exact hit₂) (hs₁.trans hs₂);rw[hd,List.take_succ_cons]at this;exact this
theorem DE{t:Addr}{Q:List ah->bb->Prop}(hh:A.handled=none)(ht:s.heap.IsList t items)
  (hQ:∀h',su s.heap.objs.size s.heap h'->Q items.toList { s with heap:=h' }):bz (cg prog w) A (unpackItems (.ref t) items.size none) Q E s:=by
 have hlt:t≠s.heap.objs.size:=by obtain⟨o,ho,_⟩:=ht;exact cf (bc ho)
 unfold unpackItems;refine ae ?_
 .unfold notIterableAtAll;refine ae (vf ht.typeIs slot_list_iter.lookup ?_);refine av ?_;simp only[fw,if_false];refine ae (gb (ky ht ?_));refine ae (gb (IX hlt items.size 0 _ _ ⟨_,bg _ rfl,rfl,rfl⟩ (ht.push _) (by lia) λh₁ hit₁ hs₁=> ?_));have hall:List.take items.size (List.drop 0 items.toList)=items.toList:=by
   rw[List.drop_zero];exact jz (by simp)
  rw[hall];rw[if_neg (by simp)];have ht₁:h₁.IsList t items:=FG (ht.push _) hs₁.extBut hlt;refine ae (gb (wpAny_pyNext_list_end hh hit₁ ht₁ (by simp) λh₂ he₂=> ?_));simp only[Option.isSome_none,fw,if_false];refine av (hQ h₂ λb o hb e=>he₂ b o hb (hs₁.extBut b o hb (aj _ e)))
theorem CA{elts:List Expr}{x1}{t:Addr}{Q:Unit->bb->Prop}(hh:A.handled=none)(ht:s.heap.IsList t items)
  (hn:(jb elts env).length=items.size)(hstar:(jb elts env).findIdx? (·.1)=none)
  (h:∀h',su s.heap.objs.size s.heap h'->bz (cg prog w) A (assignInOrder ((jb elts env).map (·.2)) items.toList) Q E { s with heap:=h' }) :
  bz (cg prog w) A (uy (.Tuple elts x1 pos) env (.ref t)) Q E s:=by
 rw[assign_Tuple];refine ae (tp ?_);unfold unpack;rw[hn,hstar];exact ae (gb (DE hh ht h))
def aAH(K:W.Frag)(n:Nat)(t:TGs):TG:=λv σ H Q=>∃a xs,v= .ref a/\SqL K H a xs/\xs.length=n/\t xs σ H Q
theorem QU{k:Nat}{t:TGs}(hc:X.calm=true)(h:PGs X es t)
  (hn:(jb es X.env).length=n:=by rfl)(hst:(jb es X.env).findIdx? (·.1)=none:=by rfl):PG X (.Tuple es k pos) (aAH X.K n t):=by
 intro pins s σ H v u Q I r hw;obtain⟨a,xs,e1,hq,hl,hw⟩:=hw;subst e1;cases r;obtain⟨its,rv,ht,hz⟩:=I.list hq;refine CA (I.ok.hd hc) ht.isList (by simp[hn,←hl,rv.length]) hst λh' hx=> ?_;have I1:Inv X pins σ H { s with heap:=h' }:=I.kept (t':=s.toks) λb o e=>hx b o (cf (bc e)) e;exact h pins _ σ H xs _ Q I1 (by simpa using rv) hw
theorem ZU{q:St->Hp->Prop}(e:SqL K H a vs)(hl:vs.length=n)(h:gs vs σ H q):aAH K n gs (.ref a) σ H q:=⟨a,vs,rfl,e,hl,h⟩
section
variable {bk:St->Hp->Prop}
end
theorem aBU{j:Int}(h0:0<j)(h:0<=i%j->i%j<j->Q (.int (i%j)) H):rI (λ_ j=>0<j) (λi j=> .int (i%j)) (.int i) (.int j) H Q:=⟨i,j,rfl,rfl,h0,h (gp _ (by lia)) (jh _ h0)⟩
open PySem.W
section
variable {g:Array GenState}{d:Drawn}{t:Nat}{os:OsState}{o:Obj}{vs:Array ah}{K:Frag}
end
variable {outer:List Env}
section
variable {M:Model}{L:Addr}{Q:Unit->bb->Prop}
end
section
variable {o:HO}
end
section
variable {s1:bb}{h2 B:Heap}
end
section
variable {E:XK}{cpos:Pos}{t:TA}
end
section
variable {k:Nat}{sp:Sp}{p:Pos}{o:Expr}{t:TA}{E:XK}{ps:List Str}
end
section
variable {M:Model}{L:Addr}{Q:Unit->bb->Prop}
end
section
variable {k:Nat}{sp:Sp}{p:Pos}{o:Expr}{t:TA}{f:Addr}{ds:List ah}{R:XK}{ps:List Str}
end
section
variable {k:Nat}{sp:Sp}{p:Pos}{o:Expr}{t:TA}{R:XK}
end
section
variable {i:Nat}{n:Str}{T:Addr}{hpos epos:Pos}{tc:XK->TE}{b₀:Stmt}{suite:List Stmt}{ts:TS}
end
section
variable {p:Pos}{v1 v2:Expr}{t:TJ}
end
section
variable {K:Frag}{D:Addr}{cd:ClassData}{b:Bool}
end
variable {K:Frag}{H:Hp}{Q:VK}
end L2
set_option maxHeartbeats 0
namespace L2
open PySem PySem.Spec PyProof.Rows
abbrev kn(o:Obj):HO:= .frz o (.ext λ_=>True)
variable {P prog:fh}{w:gh}{H H' H1 H2:Hp}{base h h':Heap}{PL a b c cL it p q:Addr}{o:Obj}
theorem LD(e:h.get? a=some o):ObjOk P w H h a (kn o):=⟨e,trivial,⟨o,e⟩,λ_ _ _ _=>trivial⟩
theorem AT(x:HOk P w H h)(e:H a=some (kn o)):h.get? a=some o:=(x a _ e).1
variable {rest σ σ0:St}{s:bb}{X:Cx}{pins:List (Addr×Obj)}
variable {m p1 p2 p4 p5 qual x z:Str}{body e tg value:Expr}{CX:CXT}{ep j k' n:Nat}{apos cpos pos tpos:Pos}{elts es:List Expr}
section
variable {k:Nat}{sp:Sp}{E:XK}{y:Str}{p:Pos}{t:TA}{i:Nat}
end
def cxL(CX:CXT)(P:fh)(w:gh)(K:W.Frag)(mg:Str->Option ah)(base:Heap)(N:List Str)(qual:Str)(scope:qi)(f:Addr)(cd:ah)(cl:List (Str×Addr))(A:jy)(outer:List Env)(s:bb)(H:Hp)(E:XK):Cx where
 prog:=P
 w:=w
 K:=K
 mg:=mg
 base:=base
 A:=A.deeper (W.envX qual scope s.heap.objs.size f cd cl)
 N:=N
 s₀:=s
 H₀:=H
 env:=W.envX qual scope s.heap.objs.size f cd cl
 outer:=outer
 stack:=W.envX qual scope s.heap.objs.size f cd cl::outer
 ex:=[]
 calm:=true
 fn:=λ_=>false
 pn:=[]
 xe:=λe s'=>bz (cg P w) (A.deeper (W.envX qual scope s.heap.objs.size f cd cl)) (leaving (W.envX qual scope s.heap.objs.size f cd cl) e) (λ_ s''=>CX outer H s E e s'') (λe' s''=>CX outer H s E e' s'') s'
def LamAt(H:Hp)(F:Addr)(fd:gv)(qual:Str)(args:qy)(body:Expr)(sc:qi)(y:Str)(c:Addr):Prop :=
 ∃(c':Addr) (pm ctv:ah) (oc:Obj) (fv:Array ah) (t:Tok),fd=W.kla_fn "<lambda>" qual args body sc [(y,c)] pm (.ref c') ctv ∧
  H F=some (kn (W.kla_obj "<lambda>" qual args body sc [(y,c)] pm c' ctv))/\H c'=some (kn oc)/\oc.data= .fields fv/\fv[1]? =some (.str qual t)
variable {fd:gv}{args:qy}{lsc sc:qi}
theorem LamAt.same{F:Addr}{y:Str}(x:LamAt H F fd qual args body sc y c)(s:Same H H'):LamAt H' F fd qual args body sc y c :=
 let ⟨c',pm,ctv,oc,fv,t,e1,e2,e3,r⟩:=x;⟨c',pm,ctv,oc,fv,t,e1,s _ _ e2,s _ _ e3,r⟩
variable {K:W.Frag}{mg:Str->Option ah}
section
variable {k:Nat}{p:Pos}{t:TA}
def aFf(F:Addr->gv->List Str->Sp->Prop)(K:W.Frag)(i:Nat)(t:TA):TE:=λσ H Q=>∃f o fd,σ[i]? =some (some (.ref f))/\H f=some (kn o)/\o.data= .func fd ∧
 t σ H λvs H1=>∃ps sp,H1 f=some (kn o)/\Binds K fd ps []/\F f fd ps sp/\sp vs H1 Q E0
theorem Q1{f:Addr}(e:h.get? f=some o)(d:o.data= .func fd):W.FnAt f h:=by
 obtain⟨oc,od,dt,sl⟩:=o;have d':dt= .func fd:=d;subst d';exact⟨oc,od,fd,sl,e⟩
theorem YS(k:Nat)(i:Nat)(hr:Room k' X.A)(ha:PA X (e::es) t)(hk:k<=k':=by decide)(hN:X.N[i]? =some x:=by rfl)(hv:Vis X.env.scope x:=by first|exact vm rfl|exact uu (vm rfl)|exact uu (uu rfl))
  (hdb:(x==("__debug__" :Str))=false:=by decide)(hcd:(x==("__classdict__" :Str))=false:=by decide)(he:dg (e::es) X.env=(false,eval e X.env)::dg es X.env:=by rfl)(hpl:(jk pos (dg es X.env)).any (·.1)=false:=by rfl) :
  PE X (.Call (.Name x p) (e::es) [] pos) (aFf (λf fd ps sp=>FnOk X.prog X.w X.K X.mg X.base CX0 k f fd ps sp) X.K i t):=by
 intro pins s σ H Q I h;obtain⟨f,o,fd,hi,hf,hd,h⟩:=h;refine jg (thn (U6 (i:=i) hN hv hdb hcd pins s σ H (λv' H'=>v'= .ref f/\H' f=some (kn o)/\t σ H' λvs H1=>∃ps sp,H1 f=some (kn o)/\Binds X.K fd ps []/\FnOk X.prog X.w X.K X.mg X.base CX0 k f fd ps sp/\sp vs H1 Q E0) I ⟨_,hi,rfl,hf,h⟩) ?_);rintro u s1 ⟨v1,H1,I1,rv,e1,hf1,q1⟩;subst e1;obtain rfl:u=cy f:=rv;refine W.callWith_F (Q1 (AT I1.hok hf1) hd) (thn (ha pos pins s1 σ H1 _ I1 q1) ?_) he hpl;rintro us s2 ⟨vs,H2,I2,r,ps,sp,hf2,hb,F,q⟩;refine⟨Q1 (AT I2.hok hf2) hd,?_⟩;have q':sp (vs++[]) H2 Q E0:=by rw[df];exact q
 exact wB (us:=us) (vs:=vs) F (hr.mono hk) hb .nil u3 I2 r q'
end
section
variable {y:Str}
end
theorem U2{mb:Str->Option ah}{k:Nat}{fa:Addr}{sp:Sp}{s₁:bb}{vs:List ah}{ns:List Int}
  (KX:K.In s₁.heap)(hns:s₁.heap.Ns bh mg)(hb:s₁.heap.Ns uw mb)(hbb:∀x:Str,x≠ "__name__" ->mb x=fj x)(hlim:s₁.heap.NoLimit)(hg:s₁.gens= #[])
  (C:W.CodeHd s₁.heap cL PL)(hP:s₁.heap.get? PL=some (W.tabObj #[]))(hKP:K.lookup PL=none)
  (hbm:∃bm ob,mg "__builtins__" =some (.ref bm)/\bm≠uw/\s₁.heap.get? bm=some ob/\ob.cls= .type "module" /\ob.dict=some uw/\ob.data= .plain)
  (ha:s₁.heap.get? a=some { cls:= .type "list",data:= .seq vs.toArray })(hi:IntsAre vs ns)(hl:ns.length<=sizeLine)(hr:Room k wm)
  (F:∀base:Heap,W.CodeHd base cL PL->base.BuiltinsAt mg PL->FnOk P w K mg base CX k fa fd [x] sp)(hbind:∀(s:bb) (u:ah),BindsTo s fd ⟨[u],[]⟩ [(x,u)])
  (hsp:∀H:Hp,SqL K H a (ns.map V.int)->H PL=some (.tbl #[])->sp [.ref a] H (λv _=>v= .bl true) λ_ _ _=>False)
  (hCX:∀H e s',CX [] H s₁ (λ_ _ _=>False) e s'->False) :
  lu (cg P w) wm (.call (.ref fa) ⟨[.ref a],[]⟩) (λr s'=>r= .ok (.ret (.bool true))/\OldK s₁.heap s'.heap/\s'.os=s₁.os/\sf s'.gens) s₁:=by
 have rv:=JW hi;have lenV:=hi.length;have naP:a≠PL:=λz=>by rw[z,hP]at ha;cases ha
 have core:∀H:Hp,H PL=some (.tbl #[])->SqL K H a (ns.map V.int)->HOk P w H s₁.heap->(∀b,H b≠none->b=a∨b=PL)->(H a≠none->K.lookup a=none)->(∀u,H a=some u->∃o xs,u= .frz o (.lst xs)) →
   lu (cg P w) wm (.call (.ref fa) ⟨[.ref a],[]⟩) (λr s'=>r= .ok (.ret (.bool true))/\OldK s₁.heap s'.heap/\s'.os=s₁.os/\sf s'.gens) s₁:=by
  intro H hHP hS hok hA hK hfz;have base_of:∀{b:Addr}{o:Obj},s₁.heap.get? b=some o->H b=none->(tL s₁.heap H).get? b=some o:=λe n=>aAn e n;have noT:∀{b:Addr}{o:Obj},s₁.heap.get? b=some o->o.cls≠ .none->o.cls≠ .type "list" ->H b=none:=λ{b o} e n1 n2=>by
   cases q:H b with
   | none=>rfl
   | some u =>
    rcases hA b (by rw[q];simp) with z|z
    .rw[z,ha]at e;cases e;exact absurd rfl n2
    .rw[z,hP]at e;cases e;exact absurd rfl n1
  have noA:∀{b:Addr}{o:Obj}{es:Array lz}{ep:Nat},s₁.heap.get? b=some o->o.data= .dict es ep->H b=none:=λ{b o es ep} e d=>by
   cases q:H b with
   | none=>rfl
   | some u =>
    rcases hA b (by rw[q];simp) with z|z
    .rw[z,ha]at e;cases e;have d':Data.seq vs.toArray _=Data.dict es ep:=d;cases d'
    .rw[z,hP]at e;cases e;have d':Data.fields #[]=Data.dict es ep:=d;cases d'
  have nsK:∀{b:Addr}{m:Str->Option ah},s₁.heap.Ns b m->(tL s₁.heap H).Ns b m:=λ{b m} ⟨o,es,ep,e,d,r⟩=>⟨o,es,ep,base_of e (noA e d),d,r⟩
  have hKb:K.In (tL s₁.heap H):=λb o e=>base_of (KX b o e) (by
   cases q:H b with
   | none=>rfl
   | some u =>
    rcases hA b (by rw[q];simp) with z|z
    .subst z;rw[hK (by rw[q];simp)]at e;cases e
    .rw[z,hKP]at e;cases e)
  have hM:Mod K mg (tL s₁.heap H):=⟨hKb,nsK hns,⟨mb,nsK hb,hbb⟩,let ⟨mc,h1,h2⟩:=hlim;⟨mc,nsK h1,h2⟩⟩
  have e0:Env0 P w K mg (tL s₁.heap H) wm [] s₁ H:=⟨rfl,hM,λb o e=>aBO e,xg (XS _ _),trivial,λb hb=>absurd (show b∈([]:List Addr) from hb) (by simp),hok,.of_eq hg⟩
  have hC:W.CodeHd (tL s₁.heap H) cL PL:=by
   obtain⟨o,fv,file,tf,flags,tg,inF,text,tt,e1,e2,r⟩:=C;exact⟨o,fv,file,tf,flags,tg,inF,text,tt,base_of e1 (noT e1 (by rw[e2];intro z;cases z) (by rw[e2];decide)),e2,r⟩
  have hB:(tL s₁.heap H).BuiltinsAt mg PL:=by
   obtain⟨bm,ob,b1,b2,b3,b4,b5,b6⟩:=hbm;refine⟨bm,ob,b1,b2,λz=> ?_,λz=> ?_,base_of b3 (noT b3 (by rw[b4];intro z;cases z) (by rw[b4];decide)),b4,b5,b6⟩
   .obtain⟨o,es,ep,e,hd,_⟩:=hns;rw[z,e]at b3;cases b3;rw[hd]at b6;cases b6
   .rw[z,hP]at b3;cases b3;cases b4
  refine uz ((F _ hC hB).run wm [] s₁ H ⟨[.ref a],[]⟩ [.ref a] [.ref a] _ _ hr e0 (hbind s₁ (.ref a)) (.cons rfl .nil) (hsp H hS hHP)) λr s' h=> ?_;cases r with
  | error e=>exact(hCX H e s' h).elim
  | ok fl =>
   cases fl with
   | next=>exact gw h
   | brk=>exact gw h
   | cont=>exact gw h
   | ret u =>
    obtain⟨v,H',os,bare,un,hok',r',q⟩:=h;have q':v= .bl true:=q;subst q';obtain rfl:u=qz true:=r';have kept:∀b o,b≠PL->s₁.heap.get? b=some o->s'.heap.get? b=some o:=λb o nb e=>by
     cases q:H b with
     | none=>exact un.keep b o e q (by intro z;exact absurd (show b∈([]:List Addr) from z) (by simp)) (by simp)
     | some u =>
      rcases hA b (by rw[q];simp) with z|z
      .subst z;obtain⟨ob,xs,rfl⟩:=hfz u q;have z2:=un.frzs b ob _ q;obtain⟨e1,_⟩:=hok b _ q;obtain⟨e2,_⟩:=hok' b _ z2;rw[e]at e1;cases e1;exact e2
      .exact absurd z nb
    obtain⟨more,hm⟩:=un.tbls PL #[] hHP;have gP':s'.heap.get? PL=some (W.tabObj (#[]++more)):=hok' PL _ hm;refine⟨rfl,⟨λb o e=> ?_,λb o e=> ?_⟩,os,bare⟩
    .by_cases hb:b=PL
     .subst hb;rw[hP]at e;cases e;exact .inr (.inl ⟨(C.tab hP).isCodeTable,rfl,#[],more,rfl,gP'⟩)
     .exact .inl (kept b o hb e)
    .by_cases hb:b=PL
     .subst hb;exact⟨_,gP'⟩
     .exact⟨o,kept b o hb e⟩
 cases hk:K.lookup a with
 | some o =>
  have e:=KX a o hk;rw[ha]at e;cases e;refine core (λb=>if b=PL then some (.tbl #[]) else none) (if_pos rfl) (.inr ⟨_,vs.toArray,_,hk,rfl,rfl,rfl,by rw[bp,lenV];exact hl,by simpa using rv⟩) (λb u z=> ?_) (λb z=> ?_) (λz=>absurd (if_neg naP) z) (λu z=> ?_)
  .by_cases hb:b=PL
   .have z':=(if_pos hb).symm.trans z;cases z';subst hb;exact hP
   .have z':=(if_neg hb).symm.trans z;cases z'
  .by_cases hb:b=PL
   .exact .inr hb
   .exact absurd (if_neg hb) z
  .have z':=(if_neg naP).symm.trans z;cases z'
 | none =>
  have eP:(if PL=a then some (HO.frz { cls:= .type "list",data:= .seq vs.toArray } (.lst (ns.map V.int))) else if PL=PL then some (.tbl #[]) else none)=some (.tbl #[]):=by rw[if_neg (eh naP),if_pos rfl]
  refine core (λb=>if b=a then some (.frz { cls:= .type "list",data:= .seq vs.toArray } (.lst (ns.map V.int))) else if b=PL then some (.tbl #[]) else none) eP (.inl (.inr ⟨{ cls:= .type "list",data:= .seq vs.toArray },if_pos rfl⟩)) (λb u z=> ?_) (λb z=> ?_) (λ_=>hk) (λu z=> ?_)
  .by_cases hb:b=a
   .have z':=(if_pos hb).symm.trans z;cases z';subst hb;exact⟨ha,by rw[af];exact hl,vs,_,rv,ha⟩
   .have z1:=(if_neg hb).symm.trans z
    by_cases hb2:b=PL
    .have z':=(if_pos hb2).symm.trans z1;cases z';subst hb2;exact hP
    .have z':=(if_neg hb2).symm.trans z1;cases z'
  .by_cases hb:b=a
   .exact .inl hb
   .by_cases hb2:b=PL
    .exact .inr hb2
    .exact absurd ((if_neg hb).trans (if_neg hb2)) z
  .have z':=(if_pos rfl).symm.trans z;cases z';exact⟨_,_,rfl⟩
variable {Q rt:VK}{i:Int}{ta td te tv tx:TE}
section
variable {o:Expr}{to:TE}{ap:Pos}
def aAX(i j:Int):Prop:=0<j/\j<2^100
theorem ZN:OpR X (kg .FloorDiv) (rI aAX λi j=> .int (i/j)):=opI λi j _ _ _ _ _ hc q=>by
 have h1:(0:Int)<j:=hc.1;have h2:j<2^100:=hc.2;refine floordiv_int (by lia) (by rw[lg i (by lia)];exact q) (.inl (PyProof.noPylong_of_log2 ?_));have h3:j.natAbs<2^100:=by lia
 have h4:=Nat.log2_lt (n:=j.natAbs) (k:=100) (by lia)
 lia
def rBL:V->List V->Hp->VK->Prop:=λx xs H Q=>∃i,x= .int i/\xs=[]/\Q (.int (jc i)) H
theorem WV:MtR X "int.bit_length" rBL:=by
 intro pins s σ H x xs v us Q I rx rs h;obtain⟨i,rfl,rfl,q⟩:=h;obtain⟨t,rfl⟩:=rx;cases rs;exact call_int_bit_length ⟨.int (jc i),H,I.tok _,⟨_,rfl⟩,q⟩
theorem XX{b t:Int}(hb:0<=b)(h:(jc b:Int)<=t):b/2^t.toNat%2=0:=by
 have ht:jc b<=t.toNat:=by lia
 have hlt:b<2^t.toNat:=by
  unfold jc at ht
  by_cases h0:b=0
  .subst h0;exact Int.pow_pos (by decide)
  .rw[if_neg (by simpa using h0)]at ht;have h1:b.natAbs<2^(b.natAbs.log2+1):=Nat.lt_log2_self;have h2:2^(b.natAbs.log2+1)<=2^t.toNat:=Nat.pow_le_pow_right (by decide) ht;have h3:((2^t.toNat:Nat):Int)=(2:Int)^t.toNat:=by simp
   lia
 rw[Int.ediv_eq_zero_of_lt hb hlt];rfl
theorem VP(h:Q (.int (jc i)) H):rBL (.int i) [] H Q:=⟨i,rfl,rfl,h⟩
theorem aCZ{f:Int->Int->V}{j:Int}(h0:0<j)(h1:j<2^100)(h:Q (f i j) H):rI aAX f (.int i) (.int j) H Q:=⟨i,j,rfl,rfl,⟨h0,h1⟩,h⟩
theorem MT:∀{xs:List V}{us:List ah},xs.length=us.length->(∀(i:Nat) x u,xs[i]? =some x->us[i]? =some u->RelV x u)->Vals xs us
 | [],[],_,_=> .nil
 | [],_::_,h,_=>by simp at h
 | _::_,[],h,_=>by simp at h
 | x::xs,u::us,h,k=> .cons (k 0 x u rfl rfl) (MT (by simpa using h) λi y w e1 e2=>k (i+1) y w (by simpa using e1) (by simpa using e2))
end
structure DcD(P:fh)(w:gh)(K:W.Frag)(mg:Str->Option ah)(base:Heap)(x m:Str)(k:Nat)(dvs:List V)(sp:Sp):Prop where
 ex:∃C f fd ps ds,mg x=some (.ref C)/\W.specialIn K (.ref C) "__getattribute__" =some (some (.builtin "type.__getattribute__"))/\W.readsIn K C (.type "type")=true/\W.findCls K (.ref C) (.type "type") m=some (.val (.ref f)) ∧
  W.keepIn K (.ref f)=true/\Vals dvs ds/\Binds K fd ps ds/\FnOk P w K mg base CX0 k f fd ps sp
variable {vs xs:List V}
section
variable {k:Nat}{sp:Sp}{p:Pos}{t:TA}{dvs:List V}
theorem LR{pl:Sem Bool}(F:DcD X.prog X.w X.K X.mg X.base x m k dvs sp)(hr:Room k' X.A)(ha:PA X (e::es) t)(hk:k<=k':=by decide)(hg:Gl X x:=by rfl)(hdb:(x==("__debug__" :Str))=false:=by decide)
  (hst:dg (e::es) X.env=(false,eval e X.env)::dg es X.env:=by rfl)(hpl:(jk pos (dg es X.env)).any (·.1)=false:=by rfl)
  (ht:eval (.Call (.Attribute (.Name x p) m apos) (e::es) [] pos) X.env=(do
   let ov ←eval (.Name x p) X.env
   wg apos.atName
   let (f,first) ←holding [ov] (qu ov m pl)
   callWith pos f first (jk pos (dg (e::es) X.env)) (uj pos (my [] X.env))):=by rfl) :
  PE X (.Call (.Attribute (.Name x p) m apos) (e::es) [] pos) (wU sp dvs E0 t):=by
 intro pins s σ H Q I h;obtain⟨C,f,fd,ps,ds,hm,hga,hrd,hfc,kp,hd,hb,G⟩:=F.ex;refine W.methodCall_KW (pl:=pl) (rY I hg hm ?_ hdb) ht;refine W.method_cls I.kIn hga (W.cls_value I.kIn hrd hfc (zX (v:= .ref f) rfl) ?_);have I1:=I.tok (s.toks+1);refine W.callWith_K (first:=[]) (h₀:=X.base) I.ok.mod.kin kp (thn (ha pos pins _ σ H _ I1 h) ?_) hst hpl;rintro us s2 ⟨vs,H2,I2,r,q2⟩;refine⟨I2.kIn,?_⟩;exact wB G (hr.mono hk) hb hd u3 I2 r q2
theorem DM{E:XK}(h:t σ H λvs H1=>sp (vs++dvs) H1 Q E):wU sp dvs E t σ H Q:=h
end
def K4(H:Hp)(c:Addr)(v:V):Prop:=∃o u,H c=some (kn o)/\o.data= .cell (some u)/\RelV v u
def off(H:Hp)(c:Addr):Hp:=λb=>if b=c then none else H b
theorem sX:off H c c=none:=by unfold off;rw[if_pos rfl]
theorem iC(h:b≠c):off H c b=H b:=by unfold off;rw[if_neg h]
theorem YF{u:HO}(h:off H c b=some u):b≠c/\H b=some u:=by
 by_cases hb:b=c
 .subst hb;rw[sX]at h;cases h
 .rw[iC hb]at h;exact⟨hb,h⟩
theorem YX{u:HO}(h:H c=some u):upd (off H c) c u=H:=by
 funext b
 by_cases hb:b=c
 .subst hb;rw[aR,h]
 .rw[aK hb,iC hb]
theorem aBj(x:HOk P w H h)(e:H c=some (kn o)):HOk P w (off H c) h:=λb u q=>by
 obtain⟨hb,q'⟩:=YF q;refine(x b u q').stay (λ_ _ _ z=>z) (λd z=> ?_) λd xs z=> ?_
 .rw[iC (by rintro rfl;rw[e]at z;cases z)];exact z
 .rw[iC (by rintro rfl;rw[e]at z;cases z)];exact z
theorem U4(x:HOk P w H h)(n:H c=none)(g:h.get? c=some o):HOk P w (upd H c (kn o)) h:=λb u q=>by
 by_cases hb:b=c
 .subst hb;rw[aR]at q;cases q;exact LD g
 .rw[aK hb]at q;exact(x b u q).stay (λ_ _ _ z=>z) (λd z=>by rw[aK (bB z n)];exact z) λd xs z=>by rw[aK (bB z n)];exact z
theorem aEA{fs:List Addr}(e:H c=some (kn o))(g:h.get? c=some o)(hf:c∉fs)(x:Un fs [] (off H c) H' h h'):Un fs [] H (upd H' c (kn o)) h h' where
 keep:=λb ob q n hb hx=>x.keep b ob q (by rw[iC (by rintro rfl;rw[e]at n;cases n)];exact n) hb hx
 slot:=λb ob q n hb hx=>x.slot b ob q (by rw[iC (by rintro rfl;rw[e]at n;cases n)];exact n) hb hx
 free:=λb ob q n hx=>by
  have hb:b≠c:=by rintro rfl;rw[e]at n;cases n
  rw[aK hb];exact x.free b ob q (by rw[iC hb];exact n) hx
 there:=x.there
 tups:=λb xs q=>by
  have hb:b≠c:=by rintro rfl;rw[e]at q;cases q
  rw[aK hb];exact x.tups b xs (by rw[iC hb];exact q)
 frzs:=λb ob u q=>by
  by_cases hb:b=c
  .subst hb;rw[e]at q;cases q;exact aR
  .rw[aK hb];exact x.frzs b ob u (by rw[iC hb];exact q)
 tbls:=λb ps q=>by
  have hb:b≠c:=by rintro rfl;rw[e]at q;cases q
  obtain⟨m,z⟩:=x.tbls b ps (by rw[iC hb];exact q);exact⟨m,by rw[aK hb];exact z⟩
variable {v y:V}
theorem aBl{k:Nat}{f:Addr}{y:Str}{sp:Sp}
  (hk:sc.kind= .function)(hco:sc.isCoroutine=false)(hgen:sc.isGenerator=false)(hcell:∀z∈sc.names,z.2≠ .cell)(hx:sc.names.lookup x=some .local)(hfree:∀z,sc.names.lookup z=some .free->z=y)(hy:sc.names.lookup y=some .free)
  (len:∀vs H Q E,sp vs H Q E->∃a,vs=[a]/\LamAt H f fd qual args body sc y c/\K4 H c v)
  (hbody:∀(cdv:ah) (A:jy) (outer:List Env) (s:bb) (H:Hp) (a:V) (Q:VK) (E:XK),Room k (A.deeper (W.envX qual sc s.heap.objs.size f cdv [(y,c)]))->sp [a] H Q E →
   ∃t,PE (cxL CX0 P w K mg base [x,y] qual sc f cdv [(y,c)] A outer s (off H c) E).nox body t/\∀o,H c=some (kn o)->t [some a,some v] (off H c) (λr H'=>Q r (upd H' c (kn o)))) :
  FnOk P w K mg base CX0 (k+1) f fd [x] sp:=by
 refine⟨λvs H Q E h=> ?_,λA outer s H ar us vs Q E hr e0 hb r hsp=> ?_⟩
 .obtain⟨a,rfl,_⟩:=len vs H Q E h;rfl
 obtain⟨a,rfl,⟨c',pm,ctv,oc,fv,tt,rfl,hF,hc',hd,hv⟩,oC,uv,eC,hdC,rv⟩:=len vs H Q E hsp;obtain⟨u,rfl,ra⟩:∃u,us=[u]/\RelV a u:=by
  cases r with
  | cons r1 r2=>cases r2;exact⟨_,rfl,r1⟩
 obtain⟨t,ht,hq⟩:=hbody (.ref c') A outer s H a Q E (hr.deeper _) hsp;have hq:=hq oC eC;have gC:=AT e0.hok eC;have lim:s.heap.NoLimit:=e0.mod.nolimit.keeps λb o e=>(e0.bs b o e).1;refine W.kla_callFunE hr.depth (AT e0.hok hF) rfl hco hgen rfl ⟨c',oc,fv,tt,rfl,AT e0.hok hc',hd,hv⟩ (hb _ _ _ _ ?_);refine wpAny_newFunctionEnv hcell (λz hz=>by
  have hz':z∈[(x,u)]:=hz;rw[bq]at hz';rw[hz'];exact hx) (λh₁ hns hsb=>⟨lim.fresh _ hsb,?_⟩) hk
 have hk₁:∀b o,s.heap.get? b=some o->h₁.get? b=some o:=λb o e=>hsb.extBut b o (cf (bc e)) (aj _ e);have lkY:∀z (d:Addr),([(y,c)]:List (Str×Addr)).lookup z=some d->z=y/\d=c:=λz d e=>by
  rw[et]at e;cases q:z==y with
  | true=>rw[q]at e;cases e;exact⟨eq_of_beq q,rfl⟩
  | false=>rw[q]at e;cases e
 have lkC:([(y,c)]:List (Str×Addr)).lookup y=some c:=by rw[et,beq_self_eq_true]
 have nc:∀b o,base.get? b=some o->b≠c:=λb o e z=>by
  have:=(e0.bs b o e).2;rw[z,eC]at this;cases this
 have ncf:c∉frs outer:=λz=>by rw[e0.frf c z]at eC;cases eC
 show lu (cg P w) A (.expr body (W.envX qual sc s.heap.objs.size f (.ref c') [(y,c)])) _ _;have hokO:=aBj e0.hok eC;have I:Inv (cxL CX0 P w K mg base [x,y] qual sc f (.ref c') [(y,c)] A outer s (off H c) E) [] [some a,some v] (off H c) { s with heap:=h₁,toks:=s.toks+([x].zip [u]).length }:=by
  have noA:∀b:Addr,b∉(cxL CX0 P w K mg base [x,y] qual sc f (.ref c') [(y,c)] A outer s (off H c) E).ex:=λb z=>absurd (show b∈([]:List Addr) from z) (by simp);refine⟨⟨e0.mod,hk,rfl,rfl,au _,λz1 z2 d h1 h2=> ?_,λz hz=> ?_,λz d hf _=>absurd (show false=true from hf) bw,λ_=>hr.hd,vq e0.frames,.inr ⟨rfl,rfl⟩,λb z=>absurd z (noA b),λb o e=>⟨(e0.bs b o e).1,by show off H c b=none;rw[iC (nc b o e)];exact(e0.bs b o e).2⟩,e0.bsz,λb _ _=>noA b,λb z=>absurd z (noA b),e0.funs,λb hb=> ?_⟩,
   rfl,e0.bare,Un.kept hk₁,⟨_,hns,λi z v' h1 h2 h3=> ?_⟩,λz d h=> ?_,hokO.fresh (au _),λz d h=> ?_,λp hp=>absurd (show p∈([]:List (Addr×Obj)) from hp) (by simp),hokO.kept hk₁,rfl⟩
  .exact(lkY z1 d h1).1.trans (lkY z2 d h2).1.symm
  .have hz:sc.names.lookup z=some .cell∨sc.names.lookup z=some .free:=hz;rcases hz with hz|hz
   .exact absurd rfl (hcell _ (gx hz))
   .rw[hfree z hz];exact⟨c,lkC⟩
  .show off H c b=none
   by_cases hbc:b=c
   .rw[hbc];exact sX
   .rw[iC hbc];exact e0.frf b hb
  .match i,h1,h2 with
   | 0,h1,h2 =>
    cases h1;cases h2;refine⟨u,ra,.inl ⟨hx,?_⟩⟩;show ([(x,u)].reverse).lookup x=some u;rw[List.reverse_singleton,et,beq_self_eq_true]
   | 1,h1,h2 =>
    cases h1;cases h2;exact⟨uv,rv,.inr ⟨.inr hy,c,lkC,oC,hk₁ _ _ gC,hdC⟩⟩
   | i+2,h1,h2=>cases h1
  .rw[(lkY z d h).2];exact⟨_,oC,hk₁ _ _ gC,hdC⟩
  .rw[(lkY z d h).2];exact sX
 refine W.kla_codeExpr (fm (PE.nox ht [] _ [some a,some v] (off H c) _ I hq) (λu' s' ⟨v',H',J,rv',q⟩=> ?_) λe s' hs=> ?_)
 .have Jb:Un (frs outer) [] (off H c) H' s.heap s'.heap:=J.base;have gC':s'.heap.get? c=some oC:=Jb.keep c oC gC sX ncf (by simp);have nC':H' c=none:=Jb.free c oC gC sX (by simp);exact⟨v',upd H' c (kn oC),J.os,J.bare,aEA eC gC ncf Jb,U4 J.hok nC' gC',rv',q⟩
 .exact fm hs (λ_ s'' z=>z.elim) λ_ s'' z=>z.elim
def SPr(X:Cx)(pins:List (Addr×Obj))(D:gY)(R:St->V->Hp->Prop)(f:Flow)(s':bb):Prop :=
 match f with
 | .ret u=>∃v σ' H',Inv X pins σ' H' s'/\RelV v u/\(D.rt v H'∨R σ' v H')
 | f=>SP X pins D f s'
def PRs(X:Cx)(st:List Stmt)(t:gY->(St->V->Hp->Prop)->St->Hp->Prop):Prop :=
 ∀(pins:List (Addr×Obj)) (s:bb) (σ:St) (H:Hp) (D:gY) (R:St->V->Hp->Prop),Inv X pins σ H s->t D R σ H->bz (cg X.prog X.w) X.A (execs st X.env) (SPr X pins D R) X.xe s
variable {ct nx:St->Hp->Prop}{st:Stmt}
section
variable {rest:List Stmt}{t:TS}{u:gY->(St->V->Hp->Prop)->St->Hp->Prop}
def aAx(t:TS)(u:gY->(St->V->Hp->Prop)->St->Hp->Prop):gY->(St->V->Hp->Prop)->St->Hp->Prop:=λD R=>t { D with nx:=u D R }
def aA6(te:TE):gY->(St->V->Hp->Prop)->St->Hp->Prop:=λ_ R σ H=>te σ H (R σ)
theorem aCP{bk:St->Hp->Prop}{R:St->V->Hp->Prop}(h:t ⟨u ⟨nx,rt,bk,ct⟩ R,rt,bk,ct⟩ σ H):aAx t u ⟨nx,rt,bk,ct⟩ R σ H:=h
theorem aDi{D:gY}{R:St->V->Hp->Prop}(h:te σ H (R σ)):aA6 te D R σ H:=h
theorem oH(h1:PS X st t)(h2:PRs X rest u):PRs X (st::rest) (aAx t u):=by
 intro pins s σ H D R I h;refine oh (thn (h1 pins s σ H { D with nx:=u D R } I h) λf s1 q=> ?_);cases f with
 | next =>
  obtain⟨σ',H',I',q⟩:=q;exact h2 pins s1 σ' H' D R I' q
 | ret v=>obtain⟨v,σ',H',I,r,q⟩:=q;exact⟨v,σ',H',I,r,.inl q⟩
 | brk=>exact q
 | cont=>exact q
theorem aBv(he:PE X e te):PRs X [.Return (some e) pos] (aA6 te):=by
 intro pins s σ H D R I h;refine oh ?_;refine wpAny_Return_some (thn (he pins s σ H _ I h) ?_);rintro v s1 ⟨x,H1,I1,r1,q1⟩;exact⟨x,σ,H1,I1,r1,.inr q1⟩
end
theorem aFC{fs:List Addr}{u:HO}(n:H' c=none)(hc:h.objs.size<=c)(x:Un fs [] H H' h h'):Un fs [] H (upd H' c u) h h' where
 keep:=x.keep
 slot:=x.slot
 free:=λb ob q n' hx=>by
  rw[aK (cf (bt (bc q) hc))];exact x.free b ob q n' hx
 there:=x.there
 tups:=λb xs q=>by rw[aK (bB (x.tups b xs q) n)];exact x.tups b xs q
 frzs:=λb ob u' q=>by rw[aK (bB (x.frzs b ob u' q) n)];exact x.frzs b ob u' q
 tbls:=λb ps q=>by
  obtain⟨m,z⟩:=x.tbls b ps q;exact⟨m,by rw[aK (bB z n)];exact z⟩
variable {N:List Str}
def aGo(i:Nat)(c:Addr)(Q:VK):St->V->Hp->Prop:=λσ v H'=>∃cv,σ[i]? =some (some cv)/\∀H2,Same H' H2->H' c=none->K4 H2 c cv->Q v H2
theorem FunV.okR{f:Addr}{ps:List Str}{k i:Nat}{y:Str}{sp:Sp}(F:FunV K x qual st f fd)(S:aM N ps (aG st))(hi:N[i]? =some y)(hyc:(aG st).names.lookup y=some .cell)(len:∀vs H Q E,sp vs H Q E->vs.length=ps.length)
  (hbody:∀(cdv:ah) (A:jy) (outer:List Env) (s:bb) (H:Hp) (vs:List V) (Q:VK) (E:XK) (c:Addr),fd.code=cdv->(qx (s.heap.objs.size+1) (aG st).names []).lookup y=some c->Room k (A.deeper (va qual (aG st) s.heap.objs.size f cdv))->sp vs H Q E →
   ∃t,PRs (xA CX0 P w K mg base N qual (aG st) f cdv A outer s H E).nox (dG st) t/\t { nx:=λ_ H'=>Q .non H',rt:=Q } (aGo i c Q) (gX N vs) H):FnOk P w K mg base CX0 (k+1) f fd ps sp:=by
 obtain⟨oc,od,dV,kV,doc,pm,an,cdv,ct,osl,rfl,lk,hcd⟩:=F.ex;refine⟨len,λA outer s H args us vs Q E hr e0 hb r hsp=> ?_⟩;have hl:=len _ _ _ _ hsp;have KX:K.In s.heap:=e0.mod.kin.keeps λb o e=>(e0.bs b o e).1;have lim:s.heap.NoLimit:=e0.mod.nolimit.keeps λb o e=>(e0.bs b o e).1;have hkind:∀y∈ps.zip us,(aG st).names.lookup y.1=some .local∨((aG st).names.lookup y.1=some .cell/\((qx (s.heap.objs.size+1) (aG st).names []).lookup y.1).isSome=true):=λ⟨n,v⟩ hy=>by
  rcases S.par n (qe hy).1 with q|q
  .exact .inl q
  .exact .inr ⟨q,W.cellsFrom_some _ _ _ (.inl q)⟩
 refine codeAny_call_function hr.depth (KX _ _ lk) rfl S.co S.gen rfl (W.codeRec_of KX hcd) (hb _ _ _ _ ?_);refine rl S.kind hkind λenv he s1 x=> ?_;subst he;refine⟨lim.keeps x.toInCall.keep,codeAny_func ?_⟩;obtain⟨c,hc⟩:=xW (n:=s.heap.objs.size+1) hyc;obtain⟨t,ht,hq⟩:=hbody cdv A outer s H vs Q E c rfl hc (hr.deeper _) hsp;have I:Inv (xA CX0 P w K mg base N qual (aG st) f cdv A outer s H E) [] (gX N vs) H s1:=JE S hr.hd e0 hl r x;refine fm (ht [] s1 (gX N vs) H _ _ (I.wish _) hq) (λfl s' hs=> ?_) λe s' hs=>gw hs;have fin:∀{σ':St}{H':Hp}{v:V}{u:ah},Inv (xA CX0 P w K mg base N qual (aG st) f cdv A outer s H E).nox [] σ' H' s'->RelV v u->Q v H'->CE outer P w H s Q u s' :=
  λ{σ' H' v u} J rv q=>⟨v,H',J.os,J.bare,J.base,J.hok,rv,q⟩
 cases fl with
 | ret u =>
  obtain⟨v,σ',H',J,rv,q⟩:=hs;rcases q with q|⟨cv,hi',q⟩
  .exact fin J rv q
  .obtain⟨m,hn,hl'⟩:=J.loc;obtain⟨u',ru,lk'⟩:=hl' i y cv hi hi' (.inr (.inl hyc));have hcell:s'.heap.IsCell c (some u'):=by
    rcases lk' with⟨z,_⟩|⟨_,c2,e1,e2⟩
    .have z':(aG st).names.lookup y=some .local:=z;rw[hyc]at z';cases z'
    .have e1':(qx (s.heap.objs.size+1) (aG st).names []).lookup y=some c2:=e1;rw[hc]at e1';cases e1';exact e2
   obtain⟨oC,hoC,hdC⟩:=hcell;have nC:H' c=none:=J.freeC y c hc;have cs:s.heap.objs.size<=c:=J.ok.cab y c rfl hc;exact⟨v,upd H' c (kn oC),J.os,J.bare,aFC nC cs J.base,U4 J.hok nC hoC,rv,q _ (λb o e=>by rw[aK (bB e nC)];exact e) nC ⟨oC,u',aR,hdC,ru⟩⟩
 | next =>
  obtain⟨σ',H',J,q⟩:=hs;exact fin (v:=V.non) (u:=ft) J rfl q
 | brk =>
  obtain⟨_,_,_,q⟩:=hs;exact gw q
 | cont =>
  obtain⟨_,_,_,q⟩:=hs;exact gw q
section
open PySem.W
variable {i:Nat}{n y:Str}{T:Addr}{np yp hpos epos:Pos}{tc:XK->TE}{b₀:Stmt}{suite:List Stmt}{ts:TS}
end
theorem UR{t:gY->(St->V->Hp->Prop)->St->Hp->Prop}{D:gY}{R:St->V->Hp->Prop}(e:gX N vs=σ)(h:t D R σ H):t D R (gX N vs) H:=e▸h
theorem walk_ofT2{l:W.OpenLaw}{k:Nat}{q:fh}{loose:List Str}{XP:(Str->Option ah)->Heap->Prop}{YP:gh->Heap->Prop}{d d2:DefRec}{K:Params->W.Frag}{CX:gh->CXT}{sp:gh->Addr->Sp}
  (hn:l.most=some n)(hn2:n<=sizeLine)(hdf:d.params.defaults=[])(hr:Room k wm)(hrec:d2∈recsOf q)(hnt:∀w:gh,W.noTabs (K w.params)=true)
  (hY:∀(w:gh) (h:Heap),YP w h->(K w.params).In h)
  (F:∀(w:gh) (mg:Str->Option ah) (fa:Addr) (h:Heap),(K w.params).In h->h.Ns bh mg->mg d.name=some (.ref fa) →
   ∃(fd:gv) (f2:Addr) (fd2:gv),mg d2.name=some (.ref f2)/\(∃oc od osl,(K w.params).lookup f2=some ⟨oc,od,.func fd2,osl⟩)/\(∀(s:bb) (u:ah),BindsTo s fd ⟨[u],[]⟩ [(x,u)]) ∧
    ∀(base:Heap) (cL PL:Addr),fd2.code= .ref cL->W.CodeHd base cL PL->base.BuiltinsAt mg PL->FnOk l.prog w (K w.params) mg base (CX w) k fa fd [x] (sp w PL))
  (hsp:∀(w:gh) (PL:Addr) (H:Hp) (a:Addr) (ns:List Int),ns.length<=n->SqL (K w.params) H a (ns.map V.int)->H PL=some (.tbl #[])->sp w PL [.ref a] H (λv _=>v= .bl true) λ_ _ _=>False)
  (hCX:∀(w:gh) (H:Hp) (s:bb) (e:ah) (s':bb),CX w [] H s (λ_ _ _=>False) e s'->False) :
  W.WalkO q loose XP YP l.row.toRowW d [] (λf vs=>PySem.call f vs):=by
 refine Att.attach_call hn hdf λw s₀ s₁ mg mb fa o pm cd doc a vs ns G Y ho hd hcd hmg hobj hints hlen hg=> ?_;have KX:=hY w _ Y;obtain⟨fd,f2,fd2,hm2,⟨oc,od,osl,lk⟩,hb,hF⟩:=F w mg fa _ KX G.T.g hmg;obtain⟨a',o',fd',c,PL,h1,h2,h3,h4,h5,h6⟩:=G.T.tab d2 hrec;rw[hm2]at h1;cases h1;have e1:=KX _ _ lk;rw[h2]at e1;cases e1;have h3':fd2=fd':=by injection h3
 subst h3';have C:=W.CodeHd.of h5 h6;have hKP:(K w.params).lookup PL=none:=by
  cases q:(K w.params).lookup PL with
  | none=>rfl
  | some o2 =>
   have e2:=KX _ _ q;rw[h6.2]at e2;cases e2;have z:=jt.mp (hnt w) (PL,_) (W.mem_of_lookupK q);exact absurd (show false=true from z) bw
 exact U2 KX G.T.g G.T.b G.T.builtins G.T.nolimit hg C h6.2 hKP G.T.bmain hobj hints (ee hlen hn2) hr (λbase hc hB=>hF base c PL h4 hc hB) hb (λH hS hP=>hsp w PL H a ns hlen hS hP) λH e s'=>hCX w H s₁ e s'
variable {u:ah}{α β κ:Type}
section
variable [DecidableEq κ]
def bA(kvs:List (κ×V))(k:κ):Option V:=(kvs.find? λkv=>decide (kv.1=k)).map (·.2)
def cJ(kvs:List (κ×V))(k:κ)(v:V):List (κ×V) :=
 if (kvs.any λkv=>decide (kv.1=k))=true then kvs.map (λkv=>if kv.1=k then (kv.1,v) else kv) else kvs++[(k,v)]
theorem dN{p:κ×V}{r:List (κ×V)}{k:κ}(e:p.1=k):bA (p::r) k=some p.2:=by simp[bA,kj,e]
theorem dL{p:κ×V}{r:List (κ×V)}{k:κ}(e:¬p.1=k):bA (p::r) k=bA r k:=by simp[bA,kj,e]
theorem oU(k:κ):∀kvs:List (κ×V),(kvs.any λkv=>decide (kv.1=k))=(bA kvs k).isSome
 | []=>rfl
 | p::r=>by
  rw[kq]
  by_cases e:p.1=k
  .simp only[dN e,decide_eq_true e,Bool.true_or,Option.isSome_some]
  .rw[dL e,decide_eq_false e,Bool.false_or];exact oU k r
theorem MW(k j:κ)(y:V):∀kvs:List (κ×V),bA (kvs.map λkv=>if kv.1=k then (kv.1,y) else kv) j=(bA kvs j).map λx=>if j=k then y else x
 | []=>rfl
 | p::r=>by
  have ih:=MW k j y r;rw[ay]
  by_cases h:p.1=k
  .rw[if_pos h]
   by_cases e:p.1=j
   .rw[dN (p:=(p.1,y)) e,dN e,qf,if_pos (e.symm.trans h)]
   .rw[dL (p:=(p.1,y)) e,dL e,ih]
  .rw[if_neg h]
   by_cases e:p.1=j
   .rw[dN (p:=p) e,dN e,qf,if_neg (λz=>h (e.trans z))]
   .rw[dL (p:=p) e,dL e,ih]
theorem JQ(k j:κ)(y:V):∀kvs:List (κ×V),bA kvs k=none->bA (kvs++[(k,y)]) j=if j=k then some y else bA kvs j
 | [],_=>by
  by_cases e:k=j
  .rw[if_pos e.symm];exact dN (p:=(k,y)) e
  .rw[if_neg (λz=>e z.symm)];exact dL (p:=(k,y)) e
 | p::r,hn=>by
  rw[ig];have hk:¬p.1=k:=λz=>by rw[dN z]at hn;cases hn
  rw[dL hk]at hn;have ih:=JQ k j y r hn
  by_cases e:p.1=j
  .rw[dN e,dN e,if_neg (λz=>hk (e.trans z))]
  .rw[dL e,dL e,ih]
theorem DW(kvs:List (κ×V))(k j:κ)(y:V):bA (cJ kvs k y) j=if j=k then some y else bA kvs j:=by
 unfold cJ
 by_cases a:(kvs.any λkv=>decide (kv.1=k))=true
 .rw[if_pos a,MW];rw[oU]at a
  by_cases e:j=k
  .obtain⟨x,hx⟩:=tq.mp a;rw[if_pos e,e,hx,qf,if_pos rfl]
  .rw[if_neg e];cases bA kvs j with
   | none=>rfl
   | some x=>rw[qf,if_neg e]
 .rw[if_neg a];refine JQ k j y kvs ?_;rw[oU]at a;cases q:bA kvs k with
  | none=>rfl
  | some x=>rw[q]at a;exact(a rfl).elim
theorem kI(kvs:List (κ×V))(k:κ)(v:V):(cJ kvs k v).length<=kvs.length+1:=by
 unfold cJ
 split
 .rw[af];lia
 .rw[ak,az,ml];lia
theorem eX{kvs:List (κ×V)}{k:κ}(v:V)(h:bA kvs k=none):cJ kvs k v=kvs++[(k,v)]:=by
 unfold cJ;rw[oU,h];exact if_neg (by decide)
theorem RelO.isSome_eq{o:Option V}{u:Option ah}(r:RelO o u):o.isSome=u.isSome:=by
 cases o with
 | none=>cases u with
  | none=>rfl
  | some _=>exact(show False from r).elim
 | some _=>cases u with
  | none=>exact(show False from r).elim
  | some _=>rfl
theorem RelO.getD{o:Option V}{u:Option ah}{d:V}{d':ah}(r:RelO o u)(rd:RelV d d'):RelV (o.getD d) (u.getD d'):=by
 cases o with
 | none=>cases u with
  | none=>exact rd
  | some _=>exact(show False from r).elim
 | some _=>cases u with
  | none=>exact(show False from r).elim
  | some _=>exact r
theorem KV.val{kvs:List (κ×V)}{vs:List (κ×ah)}(r:KV kvs vs)(k:κ):RelO (bA kvs k) (wo vs k):=by
 unfold KV at r
 induction r with
 | nil=>exact jf
 | @cons p q ps qs h t ih =>
  obtain⟨h1,h2⟩:=h
  by_cases e:p.1=k
  .have e':q.1=k:=h1.symm.trans e;have b:wo (q::qs) k=some q.2:=by simp[wo,kj,e']
   rw[dN e,b];exact h2
  .have e':¬q.1=k:=λz=>e (h1.trans z);have b:wo (q::qs) k=wo qs k:=by simp[wo,kj,e']
   rw[dL e,b];exact ih
theorem KV.any{kvs:List (κ×V)}{vs:List (κ×ah)}(r:KV kvs vs)(k:κ):(kvs.any λkv=>decide (kv.1=k))=vs.any λkv=>decide (kv.1=k):=by
 unfold KV at r
 induction r with
 | nil=>rfl
 | cons h t ih=>rw[kq,kq,ih,h.1]
theorem KV.repl{kvs:List (κ×V)}{vs:List (κ×ah)}(r:KV kvs vs)(k:κ)(ry:RelV y u):
  KV (kvs.map λkv=>if kv.1=k then (kv.1,y) else kv) (vs.map λkv=>if kv.1=k then (kv.1,u) else kv):=by
 unfold KV at r ⊢
 induction r with
 | nil=>exact .nil
 | @cons p q ps qs h t ih =>
  rw[ay,ay];refine .cons ?_ ih;obtain⟨h1,h2⟩:=h
  by_cases e:p.1=k
  .rw[if_pos e,if_pos (h1.symm.trans e)];exact⟨h1,ry⟩
  .rw[if_neg e,if_neg (λz=>e (h1.trans z))];exact⟨h1,h2⟩
theorem KV.put{kvs:List (κ×V)}{vs:List (κ×ah)}(r:KV kvs vs)(k:κ)(ry:RelV y u):KV (cJ kvs k y) (stored vs k u):=by
 unfold cJ stored;rw[r.any k]
 by_cases e:(vs.any λkv=>decide (kv.1=k))=true
 .rw[if_pos e,if_pos e];exact r.repl k ry
 .rw[if_neg e,if_neg e];exact Paired.snoc r ⟨rfl,ry⟩
theorem KV.length{kvs:List (κ×V)}{vs:List (κ×ah)}(r:KV kvs vs):kvs.length=vs.length:=bx r
end
theorem u6{k:Key}(r:RelV (kV k) u):(bZ P w).is k u=true:=by
 cases k with
 | inl i=>obtain⟨t,e⟩:=(show ∃t,u=lq i t from r);subst e;exact PQ P w i t
 | inr x=>obtain⟨t,e⟩:=(show ∃t,u=qt x t from r);subst e;exact PM P w x t
theorem IZ:∀{ks:List Key}{us:List ah},Vals (ks.map kV) us->ItemsAre (bZ P w) ks us
 | [],_,r=>by rw[List.map_nil]at r;cases r;exact .nil
 | k::ks,_,r=>by
  rw[ay]at r;cases r with
  | cons h t=>exact .cons (u6 h) (IZ t)
abbrev KT(H:Hp):List (List Key×V)->List (List Key×Addr×ah)->Prop:=bo λp q=>p.1=q.1/\H q.2.1=some (.tup (p.1.map kV))/\RelV p.2 q.2.2
theorem KT.val{kvs:List (List Key×V)}{xs:List (List Key×Addr×ah)}(r:KT H kvs xs)(k:List Key):RelO (bA kvs k) ((atKey xs k).map (·.2)):=by
 induction r with
 | nil=>exact jf
 | @cons p q ps qs h t ih =>
  obtain⟨h1,_,h2⟩:=h
  by_cases e:p.1=k
  .have e':q.1=k:=h1.symm.trans e;have b:atKey (q::qs) k=some q.2:=by simp[atKey,kj,e']
   rw[dN e,b];exact h2
  .have e':¬q.1=k:=λz=>e (h1.trans z);have b:atKey (q::qs) k=atKey qs k:=by simp[atKey,kj,e']
   rw[dL e,b];exact ih
theorem KT.repl{kvs:List (List Key×V)}{xs:List (List Key×Addr×ah)}(r:KT H kvs xs)(k:List Key)(ry:RelV y u):
  KT H (kvs.map λkv=>if kv.1=k then (kv.1,y) else kv) (xs.map (putAt k u)):=by
 induction r with
 | nil=>exact .nil
 | @cons p q ps qs h t ih =>
  rw[ay,ay];refine .cons ?_ ih;obtain⟨h1,h2,h3⟩:=h;unfold putAt
  by_cases e:p.1=k
  .rw[if_pos e,if_pos (h1.symm.trans e)];exact⟨h1,h2,ry⟩
  .rw[if_neg e,if_neg (λz=>e (h1.trans z))];exact⟨h1,h2,h3⟩
theorem KT.put{kvs:List (List Key×V)}{xs:List (List Key×Addr×ah)}(r:KT H kvs xs)(k:List Key)(hb:H b=some (.tup (k.map kV)))(ry:RelV y u):
  KT H (cJ kvs k y) (storedH xs k b u):=by
 have e:(kvs.any λkv=>decide (kv.1=k))=(atKey xs k).isSome:=by
  rw[oU,(r.val k).isSome_eq,sv]
 unfold cJ storedH;rw[e]
 by_cases q:(atKey xs k).isSome=true
 .rw[if_pos q,if_pos q];exact r.repl k ry
 .rw[if_neg q,if_neg q];exact Paired.snoc r ⟨rfl,hb,ry⟩
theorem KT.keeps{kvs:List (List Key×V)}{xs:List (List Key×Addr×ah)}(r:KT H kvs xs)(ht:∀b ys,H b=some (.tup ys)->H' b=some (.tup ys)):KT H' kvs xs :=
 Paired.mapP r λ_ _ z=>⟨z.1,ht _ _ z.2.1,z.2.2⟩
variable {kvs:List (Key×V)}
theorem aAQ{u:HO}(ok:HOk P w H h)(e:Rd H a u):ObjOk P w H h a u:=e.ok ok
theorem pB(ok:HOk P w H h)(e:Rd H a (.dK kvs)):kvs.length<=sizeLine/\(a==ib)=false/\∃vs,KV kvs vs/\h.DictOf (bZ P w) a vs :=
 show ObjOk P w H h a (.dK kvs) from aAQ ok e
theorem aBa(ok:HOk P w H h)(e:H a=some (.dK kvs)):kvs.length<=sizeLine/\(a==ib)=false/\∃vs,KV kvs vs/\h.DictOf (bZ P w) a vs:=pB ok (.inl e)
theorem wN{ks:List Key}(ok:HOk P w H h)(e:H a=some (.tup (ks.map kV))):(uh (bZ P w)).is h ks a:=by
 obtain⟨_,its,r,o,h1,h2,n,h3⟩:=(show ObjOk P w H h a (.tup (ks.map kV)) from ok a _ e)
 exact⟨o,its.toArray,n,h1,h2,h3,by simpa using IZ r⟩
theorem yL{kvs:List (List Key×V)}(ok:HOk P w H h)(e:Rd H a (.dT kvs)):kvs.length<=sizeLine/\(a==ib)=false ∧
  ∃xs,KT H kvs xs/\h.DictOfH (uh (bZ P w)) a xs:=by
 obtain⟨z,y,xs,r,o,es,ep,h1,h2,h3,h4,h5⟩:=(show ObjOk P w H h a (.dT kvs) from aAQ ok e)
 refine⟨z,y,xs,r,o,es,ep,h1,h2,h3,h4,λx hx=> ?_,h5⟩;have all:∀{l:List (List Key×V)}{m:List (List Key×Addr×ah)},KT H l m->∀x∈m,(uh (bZ P w)).is h x.1 x.2.1:=by
  intro l m q
  induction q with
  | nil=>intro x hx;exact nomatch hx
  | @cons p q ps qs hq t ih =>
   intro x hx;rcases aw.mp hx with e|hx
   .subst e;exact wN ok (by rw[←hq.1];exact hq.2.1)
   .exact ih x hx
 exact all r x hx
theorem aF3{kvs:List (List Key×V)}(ok:HOk P w H h)(e:H a=some (.dT kvs)):kvs.length<=sizeLine/\(a==ib)=false ∧
  ∃xs,KT H kvs xs/\h.DictOfH (uh (bZ P w)) a xs:=yL ok (.inl e)
def DGet(H:Hp)(a:Addr)(y:V)(r:Option V):Prop :=
 (∃kvs k,Rd H a (.dK kvs)/\y=kV k/\r=bA kvs k)∨∃kvs k b,Rd H a (.dT kvs)/\y= .ref b/\H b=some (.tup (k.map kV))/\r=bA kvs k
def DPut(H:Hp)(a:Addr)(y v:V)(H':Hp):Prop :=
 (∃kvs k,H a=some (.dK kvs)/\y=kV k/\kvs.length<sizeLine/\H'=upd H a (.dK (cJ kvs k v))) ∨
 ∃kvs k b,H a=some (.dT kvs)/\y= .ref b/\H b=some (.tup (k.map kV))/\kvs.length<sizeLine/\H'=upd H a (.dT (cJ kvs k v))
theorem DGet.t{kvs:List (List Key×V)}{k:List Key}(e:H a=some (.dT kvs))(eb:H b=some (.tup (k.map kV))):DGet H a (.ref b) (bA kvs k):= .inr ⟨kvs,k,b,.inl e,rfl,eb,rfl⟩
theorem DPut.k{k:Key}(e:H a=some (.dK kvs))(hl:kvs.length<sizeLine):DPut H a (kV k) v (upd H a (.dK (cJ kvs k v))):= .inl ⟨kvs,k,e,rfl,hl,rfl⟩
theorem DPut.t{kvs:List (List Key×V)}{k:List Key}(e:H a=some (.dT kvs))(eb:H b=some (.tup (k.map kV)))(hl:kvs.length<sizeLine):
  DPut H a (.ref b) v (upd H a (.dT (cJ kvs k v))):= .inr ⟨kvs,k,b,e,rfl,eb,hl,rfl⟩
variable {A:jy}{E:ah->bb->Prop}
section
variable {r:ah}{o:Option V}
theorem Inv.big(I:Inv X pins σ H s):ib<s.heap.objs.size:=by
 have h:bh<s.heap.objs.size:=(I.mod.glob.keeps I.bk).lt;exact xj (by decide) h
theorem JS{Q:ah->bb->Prop}(hu:A.units+1<rg)(I:Inv X pins σ H s)(g:DGet H a y (some v))(ry:RelV y u)(h:∀w' s',Inv X pins σ H s'->RelV v w'->Q w' s'):
  bz (cg X.prog X.w) A (wk (.ref a) u) Q E s:=by
 rcases g with⟨kvs,k,e,ey,l⟩|⟨kvs,k,b,e,ey,eb,l⟩
 .subst ey;obtain⟨z,hd,vs,rel,dd⟩:=pB I.hok e;obtain⟨w',hw,rw'⟩:=RelO.some_of (v:=v) (o:=wo vs k) (by rw[l];exact rel.val k);exact wpAny_getItem_of (u6 ry) dd.mapOf hw (h w' _ (I.tok _) rw')
 .subst ey;cases (show u=cy b from ry);obtain⟨z,hd,xs,rel,dd⟩:=yL I.hok e;obtain⟨w',hw,rw'⟩:=RelO.some_of (v:=v) (o:=(atKey xs k).map (·.2)) (by rw[l];exact rel.val k);obtain⟨p,hp,hp2⟩:=cj.mp hw;refine wpAny_getItem_heap (ka hu) (wN I.hok eb) dd hp ?_;rw[hp2];exact h w' _ (I.tok _) rw'
theorem aGg{Q:ah->bb->Prop}(hu:A.units+1<rg)(I:Inv X pins σ H s)(g:DGet H a y o)(ry:RelV y u)(h:∀s',Inv X pins σ H s'->Q (.bool o.isSome) s'):
  bz (cg X.prog X.w) A (gu .In u (.ref a)) Q E s:=by
 rcases g with⟨kvs,k,e,ey,l⟩|⟨kvs,k,b,e,ey,eb,l⟩
 .subst ey;obtain⟨z,hd,vs,rel,dd⟩:=pB I.hok e;refine wpAny_in_of (u6 ry) hd dd.mapOf ?_;rw[←(rel.val k).isSome_eq,←l];exact h _ (I.tok _)
 .subst ey;cases (show u=cy b from ry);obtain⟨z,hd,xs,rel,dd⟩:=yL I.hok e;refine wpAny_in_heap (ka hu) (wN I.hok eb) hd dd ?_;have q:=(rel.val k).isSome_eq;rw[sv]at q;rw[←q,←l];exact h _ (I.tok _)
theorem aBk{Q:ah->bb->Prop}(hu:A.units+1<rg)(I:Inv X pins σ H s)(g:DGet H a y o)(ry:RelV y u)(h:∀s',Inv X pins σ H s'->Q (.bool (!o.isSome)) s'):
  bz (cg X.prog X.w) A (gu .NotIn u (.ref a)) Q E s:=by
 rcases g with⟨kvs,k,e,ey,l⟩|⟨kvs,k,b,e,ey,eb,l⟩
 .subst ey;obtain⟨z,hd,vs,rel,dd⟩:=pB I.hok e;refine wpAny_notIn_of (u6 ry) hd dd.mapOf ?_;rw[←(rel.val k).isSome_eq,←l];exact h _ (I.tok _)
 .subst ey;cases (show u=cy b from ry);obtain⟨z,hd,xs,rel,dd⟩:=yL I.hok e;refine wpAny_notIn_heap (ka hu) (wN I.hok eb) hd dd ?_;have q:=(rel.val k).isSome_eq;rw[sv]at q;rw[←q,←l];exact h _ (I.tok _)
theorem G8{t':Nat}{ob:HO}(I:Inv X pins σ H s)(mu:Mut (H a))(hs:ik a s.heap h')(he:∃q,h'.get? a=some q)(new:ObjOk X.prog X.w (upd H a ob) h' a ob):
  Inv X pins σ (upd H a ob) { s with heap:=h',toks:=t' } :=
 I.write (x:=a) (e:=a) mu (.inl rfl) (λb q hb z=>(hs.2 b hb).trans z) he new
theorem zZ{vs:List (Key×ah)}(z:kvs.length<=sizeLine)(hd:(a==ib)=false)(rel:KV kvs vs)(dd:h'.DictOf (bZ P w) a vs):
  ObjOk P w H' h' a (.dK kvs):=⟨z,hd,vs,rel,dd⟩
theorem JN{Q:Unit->bb->Prop}(hu:A.units+1<rg)(I:Inv X pins σ H s)(g:DPut H a y v H')(ry:RelV y u)(rv:RelV v r)(h:∀s',Inv X pins σ H' s'->Q () s'):
  bz (cg X.prog X.w) A (setItem (.ref a) u r) Q E s:=by
 rcases g with⟨kvs,k,e,ey,l,eH⟩|⟨kvs,k,b,e,ey,eb,l,eH⟩
 .subst ey eH;obtain⟨z,hd,vs,rel,dd⟩:=aBa I.hok e;have hz:vs.length<=sizeLine:=by rw[←rel.length];exact z
  have hl:(cJ kvs k v).length<=sizeLine:=by have:=kI kvs k v;lia
  refine wpAny_setItem_pairs (hsz:=hz) (u6 ry) dd λh' dd' hs=>h _ ?_;have he:∃q,h'.get? a=some q:=let ⟨q,_,_,hq,_⟩:=dd';⟨q,hq⟩;exact G8 I (by rw[e];exact jf) hs he (zZ hl hd (rel.put k rv) dd')
 .subst ey eH;cases (show u=cy b from ry);obtain⟨z,hd,xs,rel,dd⟩:=aF3 I.hok e;have hz:xs.length<=sizeLine:=by rw[←bx rel];exact z
  have hl:(cJ kvs k v).length<=sizeLine:=by have:=kI kvs k v;lia
  refine wpAny_setItem_heap (hsz:=hz) (ka hu) (wN I.hok eb) dd λh' dd' hs=>h _ ?_;obtain⟨q,es,ep,hq,h2,h3,h4,_,h5⟩:=dd';refine G8 I (by rw[e];exact jf) hs ⟨q,hq⟩ ⟨hl,hd,_,(rel.put k eb rv).keeps λc ys ec=> ?_,q,es,ep,hq,h2,h3,h4,h5⟩;rw[aK (aF1 ec e (λz=>nomatch z))];exact ec
end
section
variable {k:Key}
end
def aEG(i:Expr):Prop:=∀ov iv,vt i false ov iv=operate [ov,iv] (wk ov iv)
theorem aCW{env:Env}{slice:Expr}{T id:String}{Q:ah->bb->Prop}
  (hl:rm (.type T) "__getitem__" =pure (some (.builtin id)))(hs:aEG slice)
  (h:bz (cg prog w) A (eval value env) (λo s₁=>bz (cg prog w) A (eval slice env) (λi s₂=>s₂.TypeIs o T/\bz (cg prog w) A (wk o i) Q E s₂) E s₁) E s) :
  bz (cg prog w) A (eval (.Subscript value slice pos) env) Q E s:=by
 refine Subscript_ (fm h (λo s₁ h₁=>fm h₁ (λi s₂ h₂=> ?_) λ_ _ x=>x) λ_ _ x=>x);obtain⟨hT,h₂⟩:=h₂;unfold subscriptTail;refine ae ?_;rw[getitemInPython_of_ne hT.not_modules];refine ae (vf hT hl ?_);have fin:bz (cg prog w) A (vt slice false o i) (λr s₃=>bz (cg prog w) A (letTemporaryGo value o r >>= λ_=>pure r) Q E s₃) E s₂:=by
  rw[hs o i];exact wpAny_operating (fm h₂ (λr s₃ h₃=>ae (wpAny_letTemporaryGo (av h₃))) λ_ _ x=>x)
 first
  | exact av (ae fin)
  | exact ae (av (ae fin))
  | exact ae fin
theorem P3{o:Option V}(I:Inv X pins σ H s)(g:DGet H a y o):s.TypeIs (.ref a) "dict" :=by
 rcases g with⟨kvs,k,e,_,_⟩|⟨kvs,k,b,e,_,_,_⟩
 .obtain⟨_,_,vs,_,dd⟩:=pB I.hok e;exact dd.typeIs
 .obtain⟨_,_,xs,_,dd⟩:=yL I.hok e;exact dd.typeIs
def aAY(td ty:TE):TE:=λσ H Q=>td σ H λx H1=>ty σ H1 λy H2=>∃a v,x= .ref a/\DGet H2 a y (some v)/\Q v H2
def aDU(ty td:TE):TE:=λσ H Q=>ty σ H λy H1=>td σ H1 λx H2=>∃a o,x= .ref a/\DGet H2 a y o/\Q (.bl o.isSome) H2
def QL(ty td:TE):TE:=λσ H Q=>ty σ H λy H1=>td σ H1 λx H2=>∃a o,x= .ref a/\DGet H2 a y o/\Q (.bl (!o.isSome)) H2
def aA0(td ty tv:TE):TS:=λD σ H=>tv σ H λv H1=>td σ H1 λx H2=>ty σ H2 λy H3=>∃a H4,x= .ref a/\DPut H3 a y v H4/\D.nx σ H4
def aBc(td ty tv:TE)(rd:V->V->Hp->VK->Prop):TS:=λD σ H=>td σ H λx H1=>ty σ H1 λy H2=>∃a v,x= .ref a/\DGet H2 a y (some v) ∧
 tv σ H2 λy2 H3=>rd v y2 H3 λz H4=>∃H5,DPut H4 a y z H5/\D.nx σ H5
variable {rd:V->V->Hp->VK->Prop}
section
variable {o i:Expr}{pos':Pos}{ty:TE}
theorem gH(hu:X.A.units+1<rg)(ho:PE X o td)(hi:PE X i ty)(hs:aEG i):PE X (.Subscript o i pos) (aAY td ty):=by
 intro pins s σ H Q I h;refine aCW PySem.F.slot_dict_getitem.lookup hs (thn (ho pins s σ H _ I h) ?_);rintro u s1 ⟨x,H1,I1,rx,q1⟩;refine thn (hi pins s1 σ H1 _ I1 q1) ?_;rintro iv s2 ⟨y,H2,I2,ry,a,v,ex,g,q2⟩;subst ex;obtain rfl:u=cy a:=rx;exact⟨P3 I2 g,JS hu I2 g ry λw' s3 I3 rw'=>⟨v,H2,I3,rw',q2⟩⟩
theorem OB(hu:X.A.units+1<rg)(hi:PE X i ty)(ho:PE X o td):PC X .In i o (aDU ty td):=by
 intro pins s σ H Q I h;refine thn (hi pins s σ H _ I h) ?_;rintro iv s1 ⟨y,H1,I1,ry,q1⟩;refine thn (ho pins s1 σ H1 _ I1 q1) ?_;rintro u s2 ⟨x,H2,I2,rx,a,ov,ex,g,q2⟩;subst ex;obtain rfl:u=cy a:=rx;exact aGg hu I2 g ry λs3 I3=>⟨.bl ov.isSome,H2,I3,rfl,q2⟩
theorem zH(hu:X.A.units+1<rg)(hi:PE X i ty)(ho:PE X o td):PC X .NotIn i o (QL ty td):=by
 intro pins s σ H Q I h;refine thn (hi pins s σ H _ I h) ?_;rintro iv s1 ⟨y,H1,I1,ry,q1⟩;refine thn (ho pins s1 σ H1 _ I1 q1) ?_;rintro u s2 ⟨x,H2,I2,rx,a,ov,ex,g,q2⟩;subst ex;obtain rfl:u=cy a:=rx;exact aBk hu I2 g ry λs3 I3=>⟨.bl (!ov.isSome),H2,I3,rfl,q2⟩
theorem jI(hu:X.A.units+1<rg)(ho:PE X o td)(hi:PE X i ty)(hv:PE X value tv)(hs:wj value (some (.Subscript o i pos')) pos.line X.env=pure false):
  PS X (.Assign [.Subscript o i pos'] value pos) (aA0 td ty tv):=by
 intro pins s σ H D I h;refine wpAny_Assign_Subscript (thn (hv pins s σ H _ I h) ?_) hs;rintro r s1 ⟨v,H1,I1,rv,q1⟩;refine thn (ho pins s1 σ H1 _ I1 q1) ?_;rintro u s2 ⟨x,H2,I2,rx,q2⟩;refine thn (hi pins s2 σ H2 _ I2 q2) ?_;rintro iv s3 ⟨y,H3,I3,ry,a,H4,ex,g,q3⟩;subst ex;obtain rfl:u=cy a:=rx;exact JN hu I3 g ry rv λs4 I4=>⟨σ,H4,I4,q3⟩
theorem aCC{op:Operator}(hu:X.A.units+1<rg)(ho:PE X o td)(hi:PE X i ty)(hv:PE X value tv)(hop:ZI X op rd)
  (ha:∀ov iv new,augStore i ov iv new=(do holding [new,ov,iv] (setItem ov iv new);release [new,ov,iv] [];pure .next)):PS X (.AugAssign (.Subscript o i tpos) op value pos) (aBc td ty tv rd):=by
 intro pins s σ H D I h;refine qb (thn (ho pins s σ H _ I h) ?_) ha;rintro u s1 ⟨x,H1,I1,rx,q1⟩;refine thn (hi pins s1 σ H1 _ I1 q1) ?_;rintro iv s2 ⟨y,H2,I2,ry,a,v,ex,g,q2⟩;subst ex;obtain rfl:u=cy a:=rx;refine JS hu I2 g ry λw' s3 I3 rw'=>thn (hv pins s3 σ H2 _ I3 q2) ?_;rintro w2 s4 ⟨y2,H3,I4,ry2,q3⟩;refine thn (hop pins s4 σ H3 v y2 w' w2 _ I4 rw' ry2 q3) ?_;rintro w3 s5 ⟨z,H4,I5,rz,H5,g5,q4⟩;exact JN hu I5 g5 ry rz λs6 I6=>⟨σ,H5,I6,q4⟩
end
theorem OQ(h:Heap)(hb:ib<h.objs.size):ObjOk P w H (h.push { cls:= .type "dict",data:= .dict #[] }) h.objs.size (.dK []) :=
 ⟨fk _,beq_eq_false_iff_ne.mpr (eh (cf hb)),[],.nil,xo h⟩
theorem aAm(h:Heap)(hb:ib<h.objs.size):ObjOk P w H (h.push { cls:= .type "dict",data:= .dict #[] }) h.objs.size (.dT []) :=
 ⟨fk _,beq_eq_false_iff_ne.mpr (eh (cf hb)),[],.nil,_,#[],0,bg _ rfl,⟨rfl,rfl,rfl⟩,rfl,rfl,nh⟩
def WX:TE:=λ_ H Q=>∀p,H p=none->Q (.ref p) (upd H p (.dK []))
def V2:TE:=λ_ H Q=>∀p,H p=none->Q (.ref p) (upd H p (.dT []))
theorem wT:PE X (.Dict [] [] pos) WX:=λpins s σ H Q I h =>
 wpAny_Dict_empty ⟨.ref s.heap.objs.size,_,I.laid (a:=s.heap.objs.size) (o:= .dK []) (t':=s.toks) (λ_ _ q=>aj _ q) (au _) (OQ s.heap I.big),rfl,h _ (I.hok.fresh (au _))⟩
theorem D0:PE X (.Dict [] [] pos) V2:=λpins s σ H Q I h =>
 wpAny_Dict_empty ⟨.ref s.heap.objs.size,_,I.laid (a:=s.heap.objs.size) (o:= .dT []) (t':=s.toks) (λ_ _ q=>aj _ q) (au _) (aAm s.heap I.big),rfl,h _ (I.hok.fresh (au _))⟩
def lZ(kvs more:List (Key×V)):List (Key×V):=more.foldl (λacc kv=>cJ acc kv.1 kv.2) kvs
theorem KV.merge:∀{more:List (Key×V)}{rs:List (Key×ah)}{kvs:List (Key×V)}{vs:List (Key×ah)},KV more rs->KV kvs vs->KV (lZ kvs more) (merged vs rs):=by
 intro more rs kvs vs r;unfold KV at r
 induction r generalizing kvs vs with
 | nil=>intro q;exact q
 | @cons p q ps qs h t ih =>
  intro r0;have e:KV (cJ kvs p.1 p.2) (stored vs q.1 q.2):=by
   have:=r0.put p.1 h.2;rw[←h.1];exact this
  exact ih e
theorem zB:∀(more kvs:List (Key×V)),(lZ kvs more).length<=kvs.length+more.length
 | [],kvs=>by show kvs.length<=kvs.length+0;lia
 | p::r,kvs=>by
  have h1:=zB r (cJ kvs p.1 p.2);have h2:=kI kvs p.1 p.2;show (lZ (cJ kvs p.1 p.2) r).length<=_;rw[az];lia
structure M2(X:Cx)(o:Expr)(m:Str)(apos:Pos)(e f:Expr)(cpos:Pos):Prop where
 base:jq o m X.env (eval o X.env)=eval o X.env
 few:((jk cpos (dg [e,f] X.env)).all (λx=> !x.1)&&(uj cpos (my [] X.env)).all (λx=>x.1.isSome)
  && decide (([e,f]:List Expr).length+([]:List Keyword).length+(if ([]:List Keyword).isEmpty then 0 else 1)<30))=true
 line:(apos.endLine==cpos.line)=true
 trees:jk cpos (dg [e,f] X.env)=[(false,eval e X.env),(false,eval f X.env)]
def IsD(H:Hp)(a:Addr):Prop:=(∃kvs,Rd H a (.dK kvs))∨∃kvs,Rd H a (.dT kvs)
theorem MQ(I:Inv X pins σ H s)(d:IsD H a):
  s.TypeIs (.ref a) "dict" /\(∀b,cy a= .ref b->∃ob,s.heap.get? b=some ob/\ob.dict=none)/\(a==ib)=false:=by
 rcases d with⟨kvs,e⟩|⟨kvs,e⟩
 .obtain⟨_,hd,vs,_,dd⟩:=pB I.hok e;refine⟨dd.typeIs,λb q=> ?_,hd⟩;cases q;obtain⟨ob,_,_,h1,h2,_⟩:=dd;exact⟨ob,h1,h2.2.1⟩
 .obtain⟨_,hd,xs,_,dd⟩:=yL I.hok e;refine⟨dd.typeIs,λb q=> ?_,hd⟩;cases q;obtain⟨ob,_,_,h1,h2,_⟩:=dd;exact⟨ob,h1,h2.2.1⟩
section
variable {d:V}{r:ah}{o:Option V}
theorem aEC{Q:ah->bb->Prop}(hu:A.units+1<rg)(I:Inv X pins σ H s)(g:DGet H a y o)(ry:RelV y u)(rd:RelV d r)(h:∀w' s',Inv X pins σ H s'->RelV (o.getD d) w'->Q w' s'):
  bz (cg X.prog X.w) A (call (.builtin "dict.get") [.ref a,u,r]) Q E s:=by
 rcases g with⟨kvs,k,e,ey,l⟩|⟨kvs,k,b,e,ey,eb,l⟩
 .subst ey;obtain⟨z,hd,vs,rel,dd⟩:=pB I.hok e;refine call_meetsIn ny dd.typeIs vb (um _ _ _) (meets_dict_get_default (bZ X.prog X.w) a (u6 ry) hd r) ⟨_,dd.mapOf,h _ _ (I.tok _) ?_⟩;rw[l];exact(rel.val k).getD rd
 .subst ey;cases (show u=cy b from ry);obtain⟨z,hd,xs,rel,dd⟩:=yL I.hok e;refine call_meetsIn ny dd.typeIs vb (um _ _ _) (meetsH_dict_get_default (uh (bZ X.prog X.w)) a b hd r) ⟨ka hu,k,xs,wN I.hok eb,dd,h _ _ (I.tok _) ?_⟩;rw[l];exact(rel.val k).getD rd
end
def XM(td ty tx:TE):TE:=λσ H Q=>td σ H λx H1=>∃a,x= .ref a/\IsD H1 a/\ty σ H1 λy H2=>tx σ H2 λz H3=>∃o,DGet H3 a y o/\Q (o.getD z) H3
section
variable {o f:Expr}{ty:TE}
theorem ZE(hu:X.A.units+1<rg)(ho:PE X o td)(he:PE X e ty)(hf:PE X f tx)(m:M2 X o "get" apos e f cpos):PE X (.Call (.Attribute o "get" apos) [e,f] [] cpos) (XM td ty tx):=by
 intro pins s σ H Q I h;refine wpAny_Call_method m.base m.few m.line PySem.F.plainAttrs_dict ny PySem.F.type_dict_get (thn (ho pins s σ H _ I h) ?_);rintro u s1 ⟨x,H1,I1,rx,a,ex,d,q1⟩;subst ex;obtain rfl:u=cy a:=rx;obtain⟨t1,t2,_⟩:=MQ I1 d;refine⟨t1,t2,?_⟩;rw[m.trees];refine jd rfl (vv (rh (thn (he pins s1 σ H1 _ I1 q1) λiv s2 ⟨y,H2,I2,ry,q2⟩ =>
  rh (thn (hf pins s2 σ H2 _ I2 q2) λfv s3 ⟨z,H3,I3,rz,ov,g,q3⟩=>Calls.spliced_nil ?_))))
 exact aEC hu I3 g ry rz λw' s4 I4 rw'=>⟨_,H3,I4,rw',q3⟩
end
section
variable [DecidableEq κ]
theorem nd_snoc:∀{l:List κ}{k:κ},l.Nodup->¬k∈l->(l++[k]).Nodup
 | [],k,_,_=>by simp
 | a::r,k,h,hk=>by
  obtain⟨h1,h2⟩:=cn.mp h;show (a::(r++[k])).Nodup;refine cn.mpr ⟨λm=> ?_,nd_snoc h2 λm=>hk (aw.mpr (uu m))⟩;rcases bf.mp m with q|q
  .exact h1 q
  .exact hk (aw.mpr (vm (bq.mp q).symm))
end
open PySem.W
def jD(c:Nat->Nat->Bool):KasT α->α
 | .ret a=>a
 | .ask i j k=>jD c (k (c i j))
def KasIn(n:Nat)(R:α->Prop):KasT α->Prop
 | .ret a=>R a
 | .ask i j k=>i<n/\j<n/\∀b,KasIn n R (k b)
theorem KasIn.bind{β:Type}{R:α->Prop}{S:β->Prop}{f:α->KasT β}(hf:∀a,R a->KasIn n S (f a)):∀{t:KasT α},KasIn n R t->KasIn n S (t.bind f)
 | .ret _,h=>hf _ h
 | .ask _ _ _,h=>⟨h.1,h.2.1,λb=>KasIn.bind hf (h.2.2 b)⟩
theorem KasIn.val{R:α->Prop}(c:Nat->Nat->Bool):∀{t:KasT α},KasIn n R t->R (jD c t)
 | .ret _,h=>h
 | .ask i j k,h=>KasIn.val c (t:=k (c i j)) (h.2.2 (c i j))
theorem KasIn.wp{R:α->Prop}{c:Nat->Nat->Bool}{cmp:Nat->Nat->(Bool->bb->Prop)->bb->Prop}(hc:∀i j,i<n->j<n->∀C,C (c i j) s->cmp i j C s){Q:α->bb->Prop}:
  ∀{t:KasT α},KasIn n R t->Q (jD c t) s->t.kasWp cmp Q s
 | .ret _,_,q=>q
 | .ask i j k,h,q=>hc i j h.1 h.2.1 _ (KasIn.wp hc (t:=k (c i j)) (h.2.2 (c i j)) q)
abbrev Places(n:Nat)(p:Array Nat):Prop:=p.Perm (fc n).toArray
theorem Places.lt{p:Array Nat}(h:Places n p)(h0:0<n)(i:Nat):p.getD i 0<n:=by
 by_cases hi:i<p.size
 .have e:p.getD i 0=p[i]:=by simp[Array.getD,hi]
  rw[e];have:=h.mem_iff.mp (Array.getElem_mem hi)
  simpa using this
 .have e:p.getD i 0=0:=by simp[Array.getD,hi]
  rw[e];exact h0
theorem lY{p:Array Nat}(h:Places n p)(i j:Nat):Places n (kas_rev p i j):=(mirror_perm _ _ _ _).trans h
theorem NC{p:Array Nat}(h0:0<n)(hp:Places n p):∀(f k:Nat),KasIn n (λ_=>True) (kas_asc p f k)
 | 0,_=>trivial
 | f+1,k=>⟨hp.lt h0 _,hp.lt h0 _,λb=>by cases b with|true=>exact trivial|false=>exact NC h0 hp f (k+1)⟩
theorem BQ(h0:0<n):∀(f:Nat) {p:Array Nat},Places n p->∀k q,KasIn n (λr:Array Nat×Nat×Nat=>Places n r.1) (kas_desc f p k q)
 | 0,_,hp,_,_=>hp
 | f+1,p,hp,k,q=>by
  refine⟨hp.lt h0 _,hp.lt h0 _,λb=> ?_⟩;cases b with
  | true =>
   show KasIn n _ (if q>0 then _ else _)
   split
   .exact BQ h0 f (lY hp _ _) _ _
   .exact BQ h0 f hp _ _
  | false =>
   refine⟨hp.lt h0 _,hp.lt h0 _,λb=> ?_⟩;cases b with
   | true=>exact hp
   | false=>exact BQ h0 f hp _ _
theorem ND{k m:Nat}{p:Array Nat}(h0:0<n)(hp:Places n p):KasIn n (λr:Nat×Array Nat=>Places n r.2) (kas_tail3 k m p) :=
 KasIn.bind (R:=λ_=>True) (S:=λr:Nat×Array Nat=>Places n r.2) (f:=λj=> .ret (j,kas_rev p 0 k)) (λ_ _=>lY hp 0 k) (NC h0 (lY hp 0 k) (m - k) k)
theorem CZ{k m:Nat}{p:Array Nat}(h0:0<n)(hp:Places n p):KasIn n (λr:Nat×Array Nat=>Places n r.2) (kas_descPart k m p) :=
 KasIn.bind (λr hr=>by
  split
  .exact ND h0 (lY hr _ _)
  .exact ND h0 hr) (BQ h0 _ hp _ _)
theorem YZ{m:Nat}{p:Array Nat}(h0:0<n)(hp:Places n p):KasIn n (λr:Nat×Array Nat=>Places n r.2) (kas_count m p) :=
 KasIn.bind (λk _=>by
  split
  .exact hp
  .split
   .refine⟨hp.lt h0 _,hp.lt h0 _,λb=> ?_⟩;cases b with
    | true=>exact hp
    | false=>exact CZ h0 (lY hp _ _)
   .exact CZ h0 hp) (NC h0 hp _ _)
theorem D6{k:Nat}{p:Array Nat}(h0:0<n)(hp:Places n p):∀(f l r:Nat),KasIn n (λ_=>True) (kas_place p k f l r)
 | 0,_,_=>trivial
 | f+1,l,r=>by
  unfold kas_place
  split
  .exact trivial
  .refine⟨hp.lt h0 _,hp.lt h0 _,λb=> ?_⟩;cases b with
   | true=>exact D6 h0 hp f _ _
   | false=>exact D6 h0 hp f _ _
theorem WO(h0:0<n):∀(f:Nat) {p:Array Nat} (k:Nat),Places n p->KasIn n (Places n) (kas_bin f p k)
 | 0,_,_,hp=>hp
 | f+1,_,k,hp=>KasIn.bind (λ_ _=>WO h0 f (k+1) ((bubble_perm _ _ _).trans hp)) (D6 h0 hp _ _ _)
theorem QS(h0:0<n):KasIn n (Places n) (kas_sort n) :=
 KasIn.bind (λr hr=>by
  split
  .exact WO h0 _ _ hr
  .exact hr) (YZ h0 (Array.Perm.refl _))
def dO(d:α)(c:Nat->Nat->Bool)(l:List α):List α:=if l.length<2 then l else (jD c (kas_sort l.length)).toList.map λi=>l.getD i d
theorem kK(c:Nat->Nat->Bool)(h:0<n):Places n (jD c (kas_sort n)):=(QS h).val c
theorem GP(d:α)(c:Nat->Nat->Bool)(l:List α):(dO d c l).length=l.length:=by
 unfold dO
 split
 .rfl
 .have h:=(kK (n:=l.length) c (by lia)).size_eq;rw[af,ir,h];simp
open PySem.Calls
abbrev wJ(a:Addr)(h h':Heap):Prop:=∀b o,b≠a->h.get? b=some o->h'.get? b=some o
theorem aCn{vs:List ah}{P:PySem.Fin->bb->Prop}(c:Nat->Nat->Bool)(κ:SortKind)(ho:s.heap.get? a=some (ku "list" vs.toArray n))(h64:vs.length<64)
  (hk:2<=vs.length->∀h',wJ a s.heap h'->∀R:SortKind->bb->Prop,R κ { s with heap:=h' }->bz (cg prog w) A (keyKind' vs.toArray) R (λ_ _=>False) { s with heap:=h' })
  (hc:2<=vs.length->∀h',wJ a s.heap h'->∀i j,i<vs.length->j<vs.length->∀C,C (c i j) { s with heap:=h' }->kas_ask prog w A κ vs i j C { s with heap:=h' })
  (h:∀h' e,wJ a s.heap h'->h'.get? a=some (ku "list" (dO ft c vs).toArray e)->P (.done (.ret .none)) { s with heap:=h' }) :
  bz (cg prog w) A (sy.«list.sort» ⟨[.ref a],[]⟩) P E s:=by
 have lt:a<s.heap.objs.size:=bc ho;generalize hg1:s.heap.update a (iw λ_=>(#[]:Array ah))=g1;have sb1:ik a s.heap g1:=hg1▸js s.heap a (iw λ_=>(#[]:Array ah));obtain⟨e1,o1⟩:∃e1,g1.get? a=some (ku "list" #[] e1):=hg1▸⟨_,get?_update_seq ho λ_=> #[]⟩;have lt1:a<g1.objs.size:=bc o1;have kp:wJ a s.heap ((g1.push (ku "tuple" vs.toArray 0)).push (ku "list" #[] 0)):=λb o hb q =>
  aj _ (aj _ ((sb1.2 b hb).trans q))
 have o3:((g1.push (ku "tuple" vs.toArray 0)).push (ku "list" #[] 0)).get? a=some (ku "list" #[] e1):=aj _ (aj _ o1);generalize hg3:(g1.push (ku "tuple" vs.toArray 0)).push (ku "list" #[] 0)=g3 at kp o3;have fin:∀out:List ah,out.length=vs.length->out=dO ft c vs->bz (cg prog w) A (do
   let touched:=(←seqEpoch a) !=e1
   uo (.ref a) λ_=>out.toArray
   if let some e:=(none:Option ah) then rule "list.sort.comparison-raised";throw e
   if touched then rule "list.sort.modified";raiseError "ValueError" "list modified during sort"
   ret .none) P E { s with heap:=g3 }:=by
  intro out hl ho';obtain⟨e2,o4⟩:∃e2,(g3.update a (iw λ_=>out.toArray)).get? a=some (ku "list" out.toArray e2):=⟨_,get?_update_seq o3 λ_=>out.toArray⟩
  refine ae (seqEpoch_at (s:={ s with heap:=g3 }) o3 rfl ?_);refine ae (listUpdate_at (s:={ s with heap:=g3 }) o3 rfl ?_ (fk _) (by rw[bp,sizeLine_eq];lia));simp only[bne_self_eq_false,fw,if_false];refine av (h _ e2 (λb o hb q=> ?_) (ho'▸o4));exact((js g3 a (iw λ_=>out.toArray)).2 b hb).trans (kp b o hb q)
 rw[list_sort_plain];refine ae (listItems_at ho rfl (ae (listUpdate_at ho rfl ?_ (by rw[bp,sizeLine_eq];lia) (fk _))));rw[hg1];refine ae (seqEpoch_at (s:={ s with heap:=g1 }) o1 rfl ?_);refine ae (wpAny_newTuple ?_ (by show vs.length<=_;rw[sizeLine_eq];lia));refine ae (wpAny_newList ?_ (fk _));refine gb ?_;show bz (cg prog w) A _ P E { s with heap:=(g1.push (ku "tuple" vs.toArray 0)).push (ku "list" #[] 0) };rw[hg3]
 dsimp only
 by_cases h2:vs.toArray.size<2
 .rw[if_pos h2,if_pos h2];have h2':vs.length<2:=by rwa [bp]at h2
  refine ae (av ?_);rw[StateT.run_pure];refine ae (av ?_)
  dsimp only
  have ez:(arrOf (SortSt.mk' general' (vs.toArray.zip vs.toArray) #[] 7 none)).map (·.2)=vs.toArray:=by
   show (vs.toArray.zip vs.toArray).map (·.2)=_
   apply Array.toList_inj.mp
   rw[Array.toList_map,Array.toList_zip,List.map_snd_zip];exact au _
  rw[ez];exact fin vs rfl (by unfold dO;rw[if_pos h2'])
 .rw[if_neg h2,if_neg h2];have h2':2<=vs.length:=by rw[bp]at h2;lia
  refine ae (fm (hk h2' _ kp (λκ' s'=>κ'=κ/\s'={ s with heap:=g3 }) ⟨rfl,rfl⟩) ?_ λ_ _ x=>x.elim);rintro _ _ ⟨rfl,rfl⟩;refine ae (fm (kat_run (Q:=λst' s'=>∃p:Array Nat,p=jD c (kas_sort vs.length)/\arrOf st'=p.map (kas_item (vs.toArray.zip vs.toArray))/\failedOf st'=none/\s'={ s with heap:=g3 }) (G:=λp s'=>p=jD c (kas_sort vs.length)/\s'={ s with heap:=g3 })
   rfl h2' h64 (λp st' s' _ a2 a3 a4=>⟨p,a4.1,a2,a3,a4.2⟩) ((QS (by lia)).wp (hc h2' _ kp) ⟨rfl,rfl⟩)) ?_ λ_ _ e=>e)
  rintro ⟨⟨⟩,st'⟩ _ ⟨p,rfl,har,hf,rfl⟩
  dsimp only
  rw[kat_snds rfl har,hf];have hz:=(kK (n:=vs.length) c (by lia)).size_eq;exact fin _ (by rw[af,ir,hz];simp) (by unfold dO;rw[if_neg (by lia)])
theorem UP{l:Addr}{vs:List ah}{Q:ah->bb->Prop}(c:Nat->Nat->Bool)(κ:SortKind)(hl:s.heap.IsList l vs.toArray)(h64:vs.length<64)
  (hk:2<=vs.length->∀h',(∀b o,s.heap.get? b=some o->h'.get? b=some o)->∀R:SortKind->bb->Prop,R κ { s with heap:=h' }->bz (cg prog w) A.in1.in1 (keyKind' vs.toArray) R (λ_ _=>False) { s with heap:=h' })
  (hc:2<=vs.length->∀h',(∀b o,s.heap.get? b=some o->h'.get? b=some o)->∀i j,i<vs.length->j<vs.length->∀C,C (c i j) { s with heap:=h' }->kas_ask prog w A.in1.in1 κ vs i j C { s with heap:=h' })
  (h:∀D h' e,s.heap.objs.size<=D->(∀b o,s.heap.get? b=some o->h'.get? b=some o)->h'.get? D=some (ku "list" (dO ft c vs).toArray e)->Q (.ref D) { s with heap:=h' }) :
  bz (cg prog w) A (call (.builtin "sorted") [.ref l]) Q E s:=by
 have hz64:vs.length<=sizeLine:=by rw[sizeLine_eq];lia
 refine Calls.call_function_entry kind_sorted plain_sorted entry_sorted (args_sorted1 _) ?_;unfold sy.«sorted»;refine ae (m:=checkCount "sorted" 1 1 _) (av (ae (collect_list hl ?_ hz64)));refine ae (wpAny_newList ?_ hz64);generalize hq:(s.heap.push (ku "list" #[] 0)).update s.heap.objs.size (iw (·++vs.toArray))=q;have qs:q.objs.size=s.heap.objs.size+1:=by rw[←hq,Heap.size_update,size_push']
 have qk:∀b o,s.heap.get? b=some o->q.get? b=some o:=λb o e=>by
  have bl:b<s.heap.objs.size:=bc e;rw[←hq,Heap.get?_update_ne _ _ _ _ (cf bl),Heap.get?_push_ne _ _ _ (cf bl)];exact e
 have oD:(q.push (ku "list" vs.toArray 0)).get? q.objs.size=some (ku "list" vs.toArray 0):=bg _ rfl;have kD:∀h',wJ q.objs.size (q.push (ku "list" vs.toArray 0)) h'->∀b o,s.heap.get? b=some o->h'.get? b=some o:=λh' k b o e =>
  k b o (cf (by rw[qs];exact sk (bc e))) (aj _ (qk b o e))
 refine ae (gb (ij slot_list_sort ⟨_,oD,rfl⟩ entry_list_sort ?body (args_list_sort _)))
 case body =>
  refine aCn (s:={ s with heap:=q.push (ku "list" vs.toArray 0) }) c κ oD h64 (λh2 h' k=>hk h2 h' (kD h' k)) (λh2 h' k=>hc h2 h' (kD h' k)) λh' e k o'=> ?_;exact⟨_,rfl,av ⟨_,rfl,h _ h' e (by show s.heap.objs.size<=q.objs.size;rw[qs];exact si _) (kD h' k) o'⟩⟩
def fK:Key->Bool
 | .inl _=>true
 | .inr _=>false
def TU:Key->Key->Bool
 | .inl i,.inl j=>decide (i<j)
 | .inr x,.inr y=>decide (x.cps.toList<y.cps.toList)
 | _,_=>false
def ME:List Key->List Key->Bool
 | a::as,b::bs=>if a=b then ME as bs else TU a b
 | _,_=>false
theorem aDI{a b:Key}{v:ah}{Q:Bool->bb->Prop}(k:fK a=fK b)(ru:RelV (kV a) u)(rv:RelV (kV b) v)(q:Q (decide (a=b)) s):bz (cg prog w) A (eqBool u v) Q E s:=by
 cases a<;>cases b<;>first|(cases k;done)|skip
 .obtain⟨t,rfl⟩:=ru;obtain⟨t',rfl⟩:=rv;refine wpAny_eqBool_int ?_;rename_i i j;have e:(i==j)=decide ((mh i:Key)=mh j):=by
   by_cases z:i=j
   .subst z;simp
   .rw[beq_false_of_ne z,decide_eq_false (λy=>z (oz y))]
  rw[e];exact q
 .obtain⟨t,rfl⟩:=ru;obtain⟨t',rfl⟩:=rv;refine wpAny_eqBool_str ?_;rename_i i j;have e:decide (i=j)=decide ((jx i:Key)=jx j):=by
   by_cases z:i=j
   .subst z;simp
   .rw[decide_eq_false z,decide_eq_false (λy=>z (jw y))]
  rw[e];exact q
theorem aDO{a b:Key}{v:ah}{Q:Bool->bb->Prop}(k:fK a=fK b)(ru:RelV (kV a) u)(rv:RelV (kV b) v)(q:Q (TU a b) s)(t:Bool):bz (cg prog w) A (oneLt' t u v) Q E s:=by
 cases a<;>cases b<;>first|(cases k;done)|skip
 .obtain⟨t1,rfl⟩:=ru;obtain⟨t2,rfl⟩:=rv;cases t with
  | true=>exact oneLt_int q
  | false=>exact kat_one _ _ (lt_int q)
 .obtain⟨t1,rfl⟩:=ru;obtain⟨t2,rfl⟩:=rv;cases t with
  | true=>exact oneLt_str q
  | false=>exact kat_one _ _ (lt_str q)
theorem VY{Q:Bool->bb->Prop}:∀{as bs:List Key}{us vs:List ah} (i:Nat),as.map fK=bs.map fK->Vals (as.map kV) us->Vals (bs.map kV) vs->Q (ME as bs) s->KatLex prog w A true false Q (us.zip vs) i s
 | [],[],_,_,_,_,.nil,.nil,q=>kat_nil q
 | [],_::_,_,_,_,k,_,_,_=>by cases k
 | _::_,[],_,_,_,k,_,_,_=>by cases k
 | a::as,b::bs,_,_,i,k,.cons ra rs,.cons rb rt,q=>by
  have k1:fK a=fK b:=(tw k).1;refine kat_cons (aDI k1 ra rb ?_);have q':Q (if a=b then ME as bs else TU a b) s:=q
  by_cases z:a=b
  .rw[if_pos z]at q';rw[decide_eq_true z];exact kat_yes (VY (i+1) (tw k).2 rs rt q')
  .rw[if_neg z]at q';rw[decide_eq_false z];exact kat_no (aDO k1 ra rb q' _)
abbrev KRows(H:Hp):List V->List (List Key)->Prop:=bo λv r=>∃p,v= .ref p/\H p=some (.tup (r.map kV))
theorem KRows.map(f:∀p xs,H p=some (.tup xs)->H' p=some (.tup xs)):∀{vs:List V}{rs:List (List Key)},KRows H vs rs->KRows H' vs rs
 | _,_,.nil=> .nil
 | _,_,.cons ⟨p,e,h⟩ r=> .cons ⟨p,e,f _ _ h⟩ (KRows.map f r)
theorem KRows.same{rs:List (List Key)}(x:KRows H vs rs)(s:Same H H'):KRows H' vs rs:=x.map λp xs h=>s _ _ h
theorem KRows.get:∀{vs:List V}{rs:List (List Key)}{i:Nat}{v:V},KRows H vs rs->vs[i]? =some v->∃p r,v= .ref p/\rs[i]? =some r/\H p=some (.tup (r.map kV))
 | _,_,0,_,.cons ⟨p,e,h⟩ _,z=>by cases z;exact⟨p,_,e,rfl,h⟩
 | _,_,i+1,_,.cons _ t,z=>KRows.get (i:=i) t (by simpa using z)
 | _,_,_,_,.nil,z=>by simp at z
def uS(rs:List (List Key))(i j:Nat):Bool:=ME (rs.getD i []) (rs.getD j [])
def TD(rs:List (List Key))(vs:List V):List V:=dO .non (uS rs) vs
variable {sh:List Bool}
theorem GL(I:Inv X pins σ H s){r:List Key}(e:H p=some (.tup (r.map kV))):∃(o:Obj) (us:List ah) (n:Nat),s.heap.get? p=some o/\o.cls= .type "tuple" /\o.data= .seq us.toArray n/\Vals (r.map kV) us:=by
 obtain⟨_,its,r',o,h1,h2,n,h3⟩:=(show ObjOk X.prog X.w H s.heap p (.tup (r.map kV)) from I.hok p _ e)
 exact⟨o,its,n,h1,h2,h3,r'⟩
theorem JD(I:Inv X pins σ H s){T:ah}(kp:∀b o,s.heap.get? b=some o->h'.get? b=some o)(hT:∀(k:Key) (u:ah),sh.head? =some (fK k)->RelV (kV k) u->Looks (cg X.prog X.w) h' (typeOf u) T):
  ∀{vs:List V}{rs:List (List Key)}{us:List ah},KRows H vs rs->Vals vs us->(∀r∈rs,r.map fK=sh)->sh≠[]->∃fs,KatTups h' us fs/\fs.length=us.length/\∀v∈fs,Looks (cg X.prog X.w) h' (typeOf v) T
 | _,_,_,.nil,.nil,_,_=>⟨[],trivial,rfl,λ_ z=>nomatch z⟩
 | _::_,r::_,_::_,.cons ⟨p,hv,e⟩ q,.cons rv rt,hs,hn=>by
  obtain⟨fs,f1,f2,f3⟩:=JD I kp hT q rt (λr hr=>hs r (ab _ hr)) hn;subst hv;cases rv;have hr:=hs r (.head _);cases r with
  | nil=>exact absurd hr.symm hn
  | cons k ks =>
   obtain⟨o,us,n,o1,o2,o3,o4⟩:=GL I e;cases o4 with
   | cons r1 r2 =>
    rename_i u us;refine⟨u::fs,KatTups.cons (kp _ _ o1) o2 o3 (by simp) f1,by simp[f2],λv hv=> ?_⟩;rcases aw.mp hv with rfl|hv
    .exact hT k _ (by rw[←hr];rfl) r1
    .exact f3 v hv
def QK(K:W.Frag):List V->Hp->VK->Prop:=λxs H Q=>∃p vs rs sh,xs=[.ref p]/\SqL K H p vs/\KRows H vs rs/\vs.length<64/\(∀r∈rs,r.map fK=sh)/\sh≠[]/\∀l,H l=none->Q (.ref l) (upd H l (.lst (TD rs vs)))
theorem L1{us:List ah}(c:Nat->Nat->Bool)(r:Vals xs us):Vals (dO .non c xs) (dO ft c us):=by
 have hl:=r.length;unfold dO;rw[hl]
 split
 .exact r
 .have hp:=kK (n:=us.length) c (by lia);have hm:∀i∈(jD c (kas_sort us.length)).toList,i<us.length:=λi hi=>by
   have h:=hp.mem_iff.mp (pj.mp hi)
   simpa using h
  revert hm;generalize (jD c (kas_sort us.length)).toList=l;intro hm
  induction l with
  | nil=>exact .nil
  | cons i l ih =>
   refine .cons ?_ (ih λj hj=>hm j (ab _ hj));have hi:=hm i (.head _);have hx:xs[i]? =some (xs[i]'(by lia)):=ao _;obtain⟨u,hu,ru⟩:=r.get hx;show RelV (xs.getD i .non) (us.getD i ft);rw[bj,bj,hx,hu];exact ru
theorem AL:dQ X (.builtin "sorted") (QK X.K):=by
 intro pins s σ H xs us Q I r h;obtain⟨p,vs,rs,sh,rfl,hq,kr,h64,hs,hn,q⟩:=h;obtain⟨u,rfl,rx⟩:=mF r;cases rx;obtain⟨its,rv,pl,hz⟩:=I.list hq;have hl:=rv.length;have hT:∃T:ah,(T==T)=true/\(T !=mn "tuple")=true/\∀(h':Heap) (k:Key) (u:ah),sh.head? =some (fK k)->RelV (kV k) u->Looks (cg X.prog X.w) h' (typeOf u) T:=by
  cases sh with
  | nil=>exact absurd rfl hn
  | cons b sh =>
   cases b with
   | true =>
    refine⟨.type "int",rfl,by decide,λh' k u hk ru=> ?_⟩;cases k with
    | inl i=>obtain⟨t,rfl⟩:=ru;exact Looks.of_pure rfl
    | inr x=>cases hk
   | false =>
    refine⟨.type "str",rfl,by decide,λh' k u hk ru=> ?_⟩;cases k with
    | inl i=>cases hk
    | inr x=>obtain⟨t,rfl⟩:=ru;exact Looks.of_pure rfl
 obtain⟨T,t1,t2,t3⟩:=hT;refine UP (uS rs) (tuples' true) pl.isList (by lia) (λh2 h' kp R hR=> ?_) (λh2 h' kp i j hi hj C hC=> ?_) λD h' e hD kp o'=> ?_
 .obtain⟨fs,f1,f2,f3⟩:=JD I kp (λk u=>t3 h' k u) kr rv hs hn;refine kat_kind (s:={ s with heap:=h' }) f1 (by lia) f3 t1 ?_;rw[t2];exact hR
 .obtain⟨p1,r1,x1,y1,z1⟩:=kr.get (i:=i) (ao (by lia));obtain⟨p2,r2,x2,y2,z2⟩:=kr.get (i:=j) (ao (by lia));obtain⟨u1,v1,w1⟩:=rv.get (ao (show i<vs.length by lia));obtain⟨u2,v2,w2⟩:=rv.get (ao (show j<vs.length by lia));rw[x1]at w1;rw[x2]at w2;cases w1;cases w2;obtain⟨o1,us1,n1,g1,c1,d1,l1⟩:=GL I z1;obtain⟨o2,us2,n2,g2,c2,d2,l2⟩:=GL I z2;have s1:=hs r1 (ba y1);have s2:=hs r2 (ba y2);have e1:=l1.length;have e2:=l2.length;rw[af]at e1 e2;have e3:r1.length=r2.length:=by rw[←af (f:=fK),s1,←s2,af]
  unfold kas_ask;rw[bj,bj,v1,v2];refine kat_lt (s:={ s with heap:=h' }) (kp _ _ g1) d1 (kp _ _ g2) d2 ?_;rw[show decide (us1.toArray.size<us2.toArray.size)=false from decide_eq_false (by rw[bp,bp];lia)];refine VY 0 (s1.trans s2.symm) l1 l2 ?_;have ec:uS rs i j=ME r1 r2:=by
   unfold uS;rw[bj,bj,y1,y2];rfl
  rw[ec]at hC;exact hC
 .exact⟨.ref D,_,I.laid (t':=s.toks) kp hD (show ObjOk X.prog X.w _ h' _ (.lst _) from⟨by rw[GP];exact hz,_,e,L1 _ rv,o'⟩),rfl,q _ (I.hok.fresh hD)⟩
section
variable {d:Addr}{es:Array lz}{i:Nat}
theorem OI{Q:ah->bb->Prop}(hd:(d==ib)=false)(ho:s.heap.get? d=some o)(hc:o.ExactDict)(hq:o.data= .dict es ep)
  (k:Q (.ref s.heap.objs.size) { s with heap:=s.heap.push { cls:= .type "dict_keyiterator",data:= .fields #[.ref d,.int 0 0,.int es.size 0,.int ep 0] } }):bz (cg prog w) A (pyIter (.ref d)) Q E s:=by
 have T:s.TypeIs (.ref d) "dict" :=⟨o,ho,hc.1⟩
 refine tj T F.slot_dict_iter (ij F.slot_dict_iter T F.entry_dict_iter ?_ (F.args_dict_iter_1 _));unfold sy.«dict.__iter__» sy.Dict.dictSlotNone;refine ae (ae (nz T (av ?_)));show bz _ A.in1 (kx d >>= _) _ _ s;unfold kx;rw[if_neg (λz=>by rw[hd]at z;cases z)];refine ae (av (ae (jo ho hq (ae (km ho hq ?_)))));exact ae (gj (av ⟨_,rfl,"dict_keyiterator",_,⟨_,bg _ rfl,rfl⟩,F.slot_dict_keyiterator_next.lookup,k⟩))
theorem YD{Q:Option ah->bb->Prop}{e:lz}(hit:s.heap.IsKeyIter it d i es.size ep)(ho:s.heap.get? d=some o)(hq:o.data= .dict es ep)(hx:es[i]? =some e)
  (k:∀h',h'.IsKeyIter it d (i+1) es.size ep->ik it s.heap h'->Q (some e.key) { s with heap:=h' }):bz (cg prog w) A (oj (.ref it)) Q E s:=by
 obtain⟨oi,hi,ci,di⟩:=id hit;have T:=hit.typeIs;unfold oj;refine ae (tz (ju (name:=ly "__next__") T F.slot_dict_keyiterator_next (ij F.slot_dict_keyiterator_next T F.entry_dict_keyiterator_next ?_ (F.args_dict_keyiterator_next_1 _))));refine ae (av (ae (ae ?_)))
 first|refine ae (iz T (av (ae (ji hi di ?_))))|refine ae (jr T (av (ae (ji hi di ?_))))
 simp only[show gz "dict_keyiterator" =false by decide,fw,if_false];show bz _ A.in1 (if (cy d==ft)=true then _ else _) _ _ s;rw[if_neg (show ¬(cy d==ft)=true from bw)];refine ae (av (ae (jo ho hq ?_)));rw[if_neg (by simp)];refine ae (av (ae (km ho hq ?_)));rw[if_neg (by simp)];refine av ?_;simp only[show ¬((i:Int)<0) from by lia,if_false,dw,hx];refine ae ?_
 first|refine ae (iz T (av (ae (oe T ?_))))|refine ae (jr T (av (ae (oe T ?_))))
 show bz _ A.in1 (setField (.ref it) 1 (jl ((i:Int)+1)) >>= _) _ _ s;refine ae (vw hi di (by simp) ?_);have H2:(s.heap.update it (Obj.mapFields (·.setIfInBounds 1 (jl ((i:Int)+1))))).IsKeyIter it d (i+1) es.size ep :=
  ⟨_,iu _ hi (vj (rp di _)),(Obj.cls_mapFields ..).trans ci,(rp di _).trans (by simp[jl])⟩
 refine ae (gb (ae (oe (s:={ s with heap:=s.heap.update it (Obj.mapFields (·.setIfInBounds 1 (jl ((i:Int)+1)))) }) H2.typeIs ?_)));show bz _ A.in1 (pure e.key) _ _ _;exact av (av ⟨_,rfl,av (k _ H2 (js ..))⟩)
theorem aCe{Q:Option ah->bb->Prop}(hh:A.handled=none)(hit:s.heap.IsKeyIter it d i es.size ep)(ho:s.heap.get? d=some o)(hq:o.data= .dict es ep)(hx:es.size<=i)
  (k:∀h',su it s.heap h'->Q none { s with heap:=h' }):bz (cg prog w) A (oj (.ref it)) Q E s:=by
 obtain⟨oi,hi,ci,di⟩:=id hit;have T:=hit.typeIs;unfold oj;refine ae (tz (ju (name:=ly "__next__") T F.slot_dict_keyiterator_next (ij F.slot_dict_keyiterator_next T F.entry_dict_keyiterator_next ?_ (F.args_dict_keyiterator_next_1 _))));refine ae (av (ae (ae ?_)))
 first|refine ae (iz T (av (ae (ji hi di ?_))))|refine ae (jr T (av (ae (ji hi di ?_))))
 simp only[show gz "dict_keyiterator" =false by decide,fw,if_false];show bz _ A.in1 (if (cy d==ft)=true then _ else _) _ _ s;rw[if_neg (show ¬(cy d==ft)=true from bw)];refine ae (av (ae (jo ho hq ?_)));rw[if_neg (by simp)];refine ae (av (ae (km ho hq ?_)));rw[if_neg (by simp)];refine av ?_;simp only[show ¬((i:Int)<0) from by lia,if_false,dw,vc hx];refine ae ?_
 first|refine ae (iz T (av ?_))|refine ae (jr T (av ?_))
 show bz _ A.in1 (setField (.ref it) 0 .none >>= _) _ _ s;refine ae (vw hi di (by simp) ?_);show bz _ A.in1 (newExc (.type "StopIteration") [] >>= _) _ _ _;refine ae ?_;simp only[newExc,newTuple];refine ae (gj (ae (m:=lj _ _) (wpAny_of_eq (a:=ft) (by first|rfl|(simp only[lj];rfl)) (gj ?_ (by size_fits)))) (by size_fits));simp only[raiseNew];refine ae (wpAny_handled ?_);rw[show A.in1.handled=none from hh];refine ae (av (vx ?_));refine ae (jv (b:=true) (T:= "StopIteration") ⟨_,bg _ rfl,rfl⟩ isSubtype_stop ?_);exact av (k _ (((js ..).extBut.push _).push _))
end
def Itk(a:Addr)(o:Obj)(kvs:List (Key×V)):It :=
 ⟨λi H=>H a=some (.frz o (.dK kvs))/\i<kvs.length,λi H x H'=>H'=H/\∃k v,kvs[i]? =some (k,v)/\x=kV k,λi H=>H a=some (.frz o (.dK kvs))/\kvs.length<=i⟩
theorem KT.len{kvs:List (List Key×V)}{xs:List (List Key×Addr×ah)}(r:KT H kvs xs):kvs.length=xs.length:=bx r
theorem Inv.freeze{u:HO}(I:Inv X pins σ H s)(mu:Mut (some u))(e:H a=some u)(ho:s.heap.get? a=some o)(new:ObjOk X.prog X.w (upd H a (.frz o u)) s.heap a (.frz o u)):Inv X pins σ (upd H a (.frz o u)) s :=
 I.write (t':=s.toks) (h':=s.heap) (by rw[e];exact mu) (.inl rfl) (λb u _ z=>z) ⟨_,ho⟩ new
section
variable {c:Expr}{lo hi:Option Expr}{tl th ts:TO}{p2:Pos}
end
variable {ti:TT}{fin:List V->Hp->Prop}{ci:List Nat}
theorem IV:fj "sorted" =some (.builtin "sorted"):=by decide +kernel
theorem Room.units1{k:Nat}(r:Room k A):A.units+1<rg:=by have:=r.un;lia
theorem Y7(h:∀p H',H p=none->Same H H'->H' p=some (.dT [])->Q (.ref p) H'):V2 σ H Q:=gE h
theorem YN [DecidableEq κ]{kvs:List (κ×V)}{k:κ}{e:κ×V}(h:e∈cJ kvs k v):e∈kvs∨e.1=k/\e.2=v:=by
 unfold cJ at h
 split at h
 .obtain⟨p,hp,e1⟩:=ag.mp h
  by_cases z:p.1=k
  .rw[if_pos z]at e1;subst e1;exact .inr ⟨z,rfl⟩
  .rw[if_neg z]at e1;subst e1;exact .inl hp
 .rcases bf.mp h with h|h
  .exact .inl h
  .cases bq.mp h;exact .inr ⟨rfl,rfl⟩
theorem oJ{k:Nat}{t:TGs}{n:Nat}{pos:Pos}(hc:X.calm=true)(h:PGs X es t)(hK:X.K=K:=by rfl)
  (hn:(jb es X.env).length=n:=by rfl)(hst:(jb es X.env).findIdx? (·.1)=none:=by rfl):PG X (.Tuple es k pos) (GF K n t):=by
 subst hK;exact v8 hc h hn hst
theorem dF(hK:X.K=K:=by rfl):IxR X (aEz K):=by
 subst hK;exact dA
def K5(nx:St->Hp->Prop)(σ:St)(x v:V):VK:=λy H3=>∃a H4,x= .ref a/\DPut H3 a y v H4/\nx σ H4
def LB(Q:VK)(x:V):VK:=λy H2=>∃a v,x= .ref a/\DGet H2 a y (some v)/\Q v H2
section
variable {rt bk:St->Hp->Prop}
theorem aCB{ty:TE}{rt:VK}{bk:St->Hp->Prop}(h:tv σ H λv H1=>td σ H1 λx H2=>ty σ H2 (K5 nx σ x v)):aA0 td ty tv ⟨nx,rt,bk,ct⟩ σ H:=h
theorem xY{kvs:List (List Key×V)}(k:List Key)(e:H p=some (.dT kvs))(eb:H b=some (.tup (k.map kV)))(hl:kvs.length<sizeLine)
  (h:∀H',SameBut p H H'->H' p=some (.dT (cJ kvs k v))->nx σ H'):K5 nx σ (.ref p) v (.ref b) H :=
 ⟨p,_,rfl,DPut.t e eb hl,h _ SameBut.upd aR⟩
theorem aBg{ty:TE}(h:td σ H λx H1=>ty σ H1 (LB Q x)):aAY td ty σ H Q:=h
theorem YG{kvs:List (List Key×V)}(k:List Key)(e:Rd H p (.dT kvs))(eb:H b=some (.tup (k.map kV)))(hv:bA kvs k=some v)(h:Q v H):LB Q (.ref p) (.ref b) H :=
 ⟨p,v,rfl,.inr ⟨kvs,k,b,e,rfl,eb,hv.symm⟩,h⟩
theorem tD(e:SqL K H p xs)(h0:0<=i)(h1:i<xs.length)(h:∀v∈xs,Q v H):AM K (.ref p) (.int i) H Q:=by
 have hl:i.toNat<xs.length:=by lia
 have e1:=rW (xs:=xs) (j:=i.toNat) (v:=xs[i.toNat]) (ao hl);rw[show ((i.toNat:Nat):Int)=i by lia]at e1;exact⟨p,xs,i,_,rfl,rfl,e,e1,h _ (uq hl)⟩
end
theorem zD:entryFor table "dict_itemiterator.__iter__" =some sy.«dict_keyiterator.__iter__»:=entryFor_alias (id':= "dict_keyiterator.__iter__") (by kernel_rfl) rfl (by decide +kernel) (by kernel_rfl)
theorem QW{k:Key}(h:(bZ P w).is k u=true):RelV (kV k) u:=by
 rcases dC h with⟨i,t,rfl,rfl⟩|⟨x,t,rfl,rfl⟩
 .exact⟨t,rfl⟩
 .exact⟨t,rfl⟩
theorem MM{kvs:List (κ×V)}{vs:List (κ×ah)}{i:Nat}(h:KV kvs vs)(hi:i<kvs.length):∃k v u,kvs[i]? =some (k,v)/\vs[i]? =some (k,u)/\RelV v u:=by
 induction h generalizing i with
 | nil=>exact absurd hi (ko _)
 | @cons x y l m h t ih =>
  cases i with
  | zero=>exact⟨x.1,x.2,y.2,rfl,by rw[h.1];rfl,h.2⟩
  | succ i=>exact ih (Nat.lt_of_succ_lt_succ hi)
theorem JJ [DecidableEq κ]{knd:KeyKind P w κ}:∀{es:List lz}{kvs:List (κ×ah)}{i:Nat}{k:κ}{u:ah},Pairs knd es kvs->kvs[i]? =some (k,u)->∃e,es[i]? =some e/\knd.is k e.key=true/\e.val=u
 | _,_,0,_,_,.cons h1 h2 _,z=>by cases z;exact⟨_,rfl,h1,h2⟩
 | _,_,i+1,_,_,.cons _ _ t,z=>by
  obtain⟨e,e1,e2⟩:=JJ (i:=i) t (by simpa using z);exact⟨e,by simpa using e1,e2⟩
 | _,_,_,_,_,.nil,z=>by simp at z
theorem R5(a it:Addr){es:Array lz}(kvs:List (Key×V))(hd:o.data= .dict es ep)(hz:es.size=kvs.length):
  D7 P w K tg (Itk a o kvs) [it] it (λi h=>h.IsKeyIter it a i es.size ep) where
 mem:=by simp
 obj:=λi h st b hb=>by
  have e:b=it:=by simpa using hb
  subst e;obtain⟨ob,e,c,d⟩:=st;exact⟨ob,e,λv z=>by rw[d]at z;cases z⟩
 keep:=λi h h' st k=>st.at λob e=>k it (by simp) ob e
 item:=by
  intro X hP hw hK hc i pins s σ H E I hf st hg;subst hP hw hK;obtain⟨ha,hi⟩:=hg;obtain⟨ho,z,y,vs,r,o',es',ep',h1,h2,h3,h4,h5,h6⟩:=(show ObjOk X.prog X.w H s.heap a (.frz o (.dK kvs)) from I.hok a _ ha)
  rw[ho]at h1;cases h1;rw[hd]at h3;cases h3;obtain⟨k,v,u,e1,e2,e3⟩:=MM r hi;obtain⟨e,f6,f7,f8⟩:=JJ h5 e2;obtain⟨f0,f1,f2,f3,f4,f5⟩:=hf it (by simp);refine YD st ho hd (e:=e) (by simpa using f6) λh' st' sb=> ?_;have I1:Inv X pins σ H { s with heap:=h' }:=I.turned (t':=s.toks) (λb o hb e=>(sb.2 b hb).trans e) f0 f1 f3 f4 f5;exact⟨_,rfl,letGo_keyiter (s':={ s with heap:=h' }) st' ⟨kV k,H,I1,QW f7,⟨rfl,k,v,e1,rfl⟩,st',λb hb=>(hf b hb).1⟩⟩
 done:=by
  intro X hP hw hK hc i pins s σ H E I hf st hg;subst hP hw hK;obtain⟨ha,hi⟩:=hg;obtain⟨ho,hok⟩:=(show ObjOk X.prog X.w H s.heap a (.frz o (.dK kvs)) from I.hok a _ ha)
  obtain⟨f0,f1,f2,f3,f4,f5⟩:=hf it (by simp);exact aCe (I.ok.hd hc) st ho hd (by lia) λh' eb=>⟨rfl,I.turned (t':=s.toks) (λb o hb e=>eb b o hb e) f0 f1 f3 f4 f5⟩
 self:=λ_ _ _ _ _ st h=>wpAny_pyIter_keyiter st h
def XB(td:TE):TI:=λσ H R=>td σ H λx H1=>∃a kvs,x= .ref a/\H1 a=some (.dK kvs)/\∀o,R (Itk a o kvs) (upd H1 a (.frz o (.dK kvs)))
theorem NL{l:Expr}(hl:PE X l td):PI X tg l (XB td):=by
 intro pins s σ H R I h;refine thn (hl pins s σ H _ I h) ?_;rintro v s1 ⟨x,H1,I1,r1,q1⟩;obtain⟨a,kvs,rfl,hq,q⟩:=q1;cases r1;obtain⟨z,y,vs,r,o,es,ep,h1,h2,h3,h4,h5,h6⟩:=(show ObjOk X.prog X.w H1 s1.heap a (.dK kvs) from I1.hok a _ hq)
 have hz:es.size=kvs.length:=by rw[r.length,←h5.length];simp
 have new:ObjOk X.prog X.w (upd H1 a (.frz o (.dK kvs))) s1.heap a (.frz o (.dK kvs)):=⟨h1,z,y,vs,r,o,es,ep,h1,h2,h3,h4,h5,h6⟩
 have I2:Inv X pins σ (upd H1 a (.frz o (.dK kvs))) s1:=I1.freeze trivial hq h1 new;refine OI y h1 h2 h3 ?_;refine⟨s1.heap.objs.size,[s1.heap.objs.size],_,_,upd H1 a (.frz o (.dK kvs)),rfl,I2.kept (t':=s1.toks) λb o e=>aj _ e,R5 a _ kvs h3 hz,⟨_,bg _ rfl,rfl,rfl⟩,λb hb=> ?_,q o⟩;have e:b=s1.heap.objs.size:=by simpa using hb
 subst e;exact I2.fpOk (au _) (I2.hok.fresh (au _))
section
variable {u:HO}
theorem Inv.thaw(I:Inv X pins σ H s)(h0:∀o u,X.H₀ a≠some (.frz o u))(e:H a=some (.frz o u)):Inv X pins σ (upd H a u) s:=by
 have nn:∀b,H b=none->b≠a:=λb n z=>by rw[z,e]at n;cases n
 have no:∀b c,H b=some (.own c)->b≠a:=λb c n z=>by rw[z,e]at n;cases n
 have nt:∀b xs,H b=some (.tup xs)->b≠a:=λb c n z=>by rw[z,e]at n;cases n
 refine⟨I.ok,I.os,I.bare,⟨I.base.keep,I.base.slot,λb ob q n hx=> ?_,I.base.there,λb xs q=> ?_,λb ob xs q=> ?_,λb ps q=> ?_⟩,I.loc,I.cell,?_,λx c ec=> ?_,λp hp=> ?_,λb v q=> ?_,I.len⟩
 .have z:=I.base.free b ob q n hx;rw[aK (nn b z)];exact z
 .have z:=I.base.tups b xs q;rw[aK (nt b xs z)];exact z
 .have z:=I.base.frzs b ob xs q;have hb:b≠a:=λy=>h0 ob xs (by rw[←y];exact q);rw[aK hb];exact z
 .obtain⟨more,z⟩:=I.base.tbls b ps q;refine⟨more,?_⟩;rw[aK (λy=>by rw[y,e]at z;cases z)];exact z
 .rw[aK (nn _ I.free)];exact I.free
 .rw[aK (nn _ (I.freeC x c ec))];exact I.freeC x c ec
 .obtain⟨p1,p2,p3⟩:=I.pin p hp;exact⟨p1,by rw[aK (nn _ p2)];exact p2,p3⟩
 .have so:∀b c,H b=some (.own c)->upd H a u b=some (.own c):=λb c z=>by rw[aK (no b c z)];exact z
  have st:∀b xs,H b=some (.tup xs)->upd H a u b=some (.tup xs):=λb c z=>by rw[aK (nt b c z)];exact z
  by_cases hb:b=a
  .subst hb;rw[aR]at q;cases q;obtain⟨_,z⟩:=(show ObjOk X.prog X.w H s.heap b (.frz o u) from I.hok b _ e)
   exact z.stay (λ_ _ _ q=>q) (λc z=>so c b z) st
  .rw[aK hb]at q;exact(I.hok b v q).stay (λ_ _ _ q=>q) (λc z=>so c b z) st
theorem Inv.wasFree(I:Inv X pins σ H s)(h:∀o u,H a≠some (.frz o u)):∀o u,X.H₀ a≠some (.frz o u):=λo u z=>h o u (I.base.frzs a o u z)
end
def i6(a:Addr)(R:Hp->Prop):Hp->Prop:=λH=>∃o u,H a=some (.frz o u)/\R (upd H a u)
def aA1(te:TE):TE:=λσ H Q=>∃a,(∀o u,H a≠some (.frz o u))/\te σ H λx=>i6 a (Q x)
def aA9(ts:TS):TS:=λD σ H=>∃a,(∀o u,H a≠some (.frz o u))/\ts ⟨λσ'=>i6 a (D.nx σ'),λv=>i6 a (D.rt v),λσ'=>i6 a (D.bk σ'),λσ'=>i6 a (D.ct σ')⟩ σ H
theorem HH(he:PE X e te):PE X e (aA1 te):=by
 intro pins s σ H Q I h;obtain⟨a,h0,h⟩:=h;refine thn (he pins s σ H _ I h) ?_;rintro v s1 ⟨x,H1,I1,r1,o,u,e,q⟩;exact⟨x,_,I1.thaw (I.wasFree h0) e,r1,q⟩
theorem aBt{ts:TS}(he:PS X st ts):PS X st (aA9 ts):=by
 intro pins s σ H D I h;obtain⟨a,h0,h⟩:=h;refine thn (he pins s σ H _ I h) λf s1 z=> ?_;cases f with
 | next=>obtain⟨σ1,H1,I1,o,u,e,q⟩:=z;exact⟨σ1,_,I1.thaw (I.wasFree h0) e,q⟩
 | brk=>obtain⟨σ1,H1,I1,o,u,e,q⟩:=z;exact⟨σ1,_,I1.thaw (I.wasFree h0) e,q⟩
 | cont=>obtain⟨σ1,H1,I1,o,u,e,q⟩:=z;exact⟨σ1,_,I1.thaw (I.wasFree h0) e,q⟩
 | ret v=>obtain⟨x,σ1,H1,I1,r,o,u,e,q⟩:=z;exact⟨x,σ1,_,I1.thaw (I.wasFree h0) e,r,q⟩
theorem L5:∀bs:List Bool,((fc bs.length).any λi=>bs.getD i false)=bs.any id
 | []=>rfl
 | b::bs=>by
  rw[az,ng,kq,List.any_map,kq,←L5 bs];rfl
theorem xV:∀{ns:List Int}{us:List ah},Vals (ns.map V.int) us->∃xs:List (Int×Tok),us=xs.map (λp=>lq p.1 p.2)/\ns=xs.map (·.1)
 | [],_,.nil=>⟨[],rfl,rfl⟩
 | n::ns,_,.cons r t=>by
  obtain⟨xs,rfl,rfl⟩:=xV t;obtain⟨tk,rfl⟩:=r;exact⟨(n,tk)::xs,rfl,rfl⟩
def aDJ(K:W.Frag):List V->Hp->VK->Prop:=λxs H Q=>∃(p:Addr) (bs:List Bool),xs=[.ref p]/\SqL K H p (bs.map V.bl)/\Q (.bl (bs.any id)) H
theorem IS(hc:X.calm=true):dQ X (.builtin "any") (aDJ X.K):=by
 intro pins s σ H xs us Q I r h;obtain⟨p,bs,rfl,hq,q⟩:=h;obtain⟨u,rfl,rx⟩:=mF r;cases rx;obtain⟨its,r',pl,hz⟩:=I.list hq;have hl:=pl.isList;have hlt:p<s.heap.objs.size:=by obtain⟨_,e,_⟩:=hl;exact bc e
 have hlen:bs.length=its.length:=by have:=r'.length;rw[af]at this;exact this
 refine call_any_walk (ky hl ?_);refine⟨s.heap.objs.size,_,_,its.toArray.size,_,_,λi=>bs.getD i false,rfl,Walks.list (show X.A.in1.handled=none from I.ok.hd hc) s.heap.objs.size p (cf hlt) its.toArray,⟨⟨_,bg _ rfl,rfl,rfl⟩,hl.push _⟩,?_,?_⟩
 .intro i v s' Q' E' hi hQ;have hi':its[i]? =some v:=by simpa using hi
  have hib:i<bs.length:=by rw[hlen];exact(ax.mp hi').1
  obtain⟨u,hu,ru⟩:=r'.get (i:=i) (x:=V.bl bs[i]) (by rw[bu,ao hib];rfl);rw[hi']at hu;cases hu;have:v=qz bs[i]:=ru;subst this;refine ip ?_;have eb:bs.getD i false=bs[i]:=by rw[bj,ao hib];rfl
  have hQ':Q' (bs.getD i false) s':=hQ;rw[eb]at hQ';exact hQ'
 .intro h' tk hk;have eany:(fc its.toArray.size).any (λi=>bs.getD i false)=bs.any id:=by
   rw[bp,←hlen];exact L5 bs
  rw[eany];refine⟨.bl (bs.any id),H,?_,rfl,q⟩;have I1:Inv X pins σ H { s with heap:=s.heap.push { cls:= .type "list_iterator",data:= .fields #[.ref p,.int 0 0] },toks:=s.toks }:=I.kept λb u e=>aj _ e;obtain⟨f0,f1,f2,f3,f4,f5⟩:=I.fpOk (au _) (I.hok.fresh (au _));exact I1.turned (λb o hb e=>hk b o (by simpa using hb) e) f0 f1 f3 f4 f5
def aDG(K:W.Frag):List V->Hp->VK->Prop:=λxs H Q=>∃(p:Addr) (ns:List Int),xs=[.ref p]/\SqL K H p (ns.map V.int)/\Q (.int ns.sum) H
theorem JO(hc:X.calm=true):dQ X (.builtin "sum") (aDG X.K):=by
 intro pins s σ H xs us Q I r h;obtain⟨p,ns,rfl,hq,q⟩:=h;obtain⟨u,rfl,rx⟩:=mF r;cases rx;obtain⟨its,r',pl,hz⟩:=I.list hq;obtain⟨zs,rfl,rfl⟩:=xV r';have hl:s.heap.IsList p (intItems zs.toArray):=by
  have:=pl.isList
  simpa [intItems] using this
 refine sum_intListG (I.ok.hd hc) hl λh' tk t' hk=> ?_;have e2:preSum (numAt zs.toArray) zs.toArray.size=(zs.map (·.1)).sum:=by
  rw[preSum_eq,jz (by simp)]
 rw[e2];exact⟨.int (zs.map (·.1)).sum,H,I.kept hk,⟨t',rfl⟩,q⟩
theorem XC{bs:List Bool}(e:SqL K H p (bs.map V.bl))(h:Q (.bl (bs.any id)) H):aDJ K [.ref p] H Q:=⟨p,bs,rfl,e,h⟩
theorem VT{ns:List Int}(e:SqL K H p (ns.map V.int))(h:Q (.int ns.sum) H):aDG K [.ref p] H Q:=⟨p,ns,rfl,e,h⟩
theorem VI:fj "any" =some (.builtin "any"):=by decide +kernel
theorem MH:fj "sum" =some (.builtin "sum"):=by decide +kernel
theorem aBD:rm (.type "list") "keys" =pure none:=by rw[vg,og];kernel_rfl
theorem aCi:rm (.type "list") "__getattr__" =pure none:=by rw[vg,og];kernel_rfl
theorem LG:isSubtype (.type "AttributeError") (.type "AttributeError")=pure true:=by rw[isSubtype_type];kernel_rfl
theorem X9:((Manifest.find? "AttributeError").elim false λt=>t.mro.contains "StopIteration" ||t.mro.contains "SystemExit")=false:=by decide +kernel
variable {its:Array ah}{tk:Tok}{R:Result->bb->Prop}
theorem Z3{α:Type}{v:ah}{Q:α->bb->Prop}(hh:A.handled=none)
  (k:∀e h' tk' o,h'.get? e=some o->o.cls= .type "AttributeError" ->(∀b o,s.heap.get? b=some o->h'.get? b=some o)->E (.ref e) { s with heap:=h',toks:=tk' }) :
  bz (cg prog w) A (do
   let e ←newExc (.type "AttributeError") [v];let l ←mkText "keys"
   noteAttr e (.ref a) l
   raiseNew e) Q E s:=by
 unfold newExc newTuple;refine ae (ae (gj (ae (m:=lj _ _) (wpAny_of_eq (a:=ft) (by simp only[lj,X9];rfl) (gj ?_ (by size_fits)))) (by size_fits)));refine ae (wpAny_mkText ?_);refine ae ?_;unfold noteAttr;refine ae ?_;unfold lacksNameAndObj;have e1:(#[cy s.heap.objs.size,.none,.none,.none,.bool false,.none]++ownMembersOf (.type "AttributeError") [v]:Array ah)= #[cy s.heap.objs.size,.none,.none,.none,.bool false,.none,pq,pq]:=rfl;rw[e1];generalize hs:s.heap.push { cls:=mn "tuple",data:=Data.seq #[v] }=h1;have ho:(h1.push { cls:= .type "AttributeError",data:= .fields #[cy s.heap.objs.size,.none,.none,.none,.bool false,.none,pq,pq] }).get? h1.objs.size=some { cls:= .type "AttributeError",data:= .fields #[cy s.heap.objs.size,.none,.none,.none,.bool false,.none,pq,pq] }:=bg _ rfl;refine ae (jv (b:=true) (T:= "AttributeError") ⟨_,ho,rfl⟩ LG ?_);refine ae (wpAny_load ho ?_);refine av ?_;refine ae (wpAny_rule ?_);refine ae (qm (T:= "AttributeError") ⟨_,ho,rfl⟩ ?_);unfold layMembers;refine ae (wpAny_load ho ?_);refine wpAny_update ho ?_;simp only[raiseNew];refine ae (wpAny_handled ?_);rw[hh];refine ae (av (vx ?_));refine k h1.objs.size _ _ _ (iu _ ho (vj (rp rfl _))) (Obj.cls_mapFields ..) λb o e=> ?_;have hb:b≠h1.objs.size:=λz=>by
  have h2:h1.objs.size=s.heap.objs.size+1:=by rw[←hs];simp[Heap.push]
  have h3:=bc e;rw[z,h2]at h3;exact absurd h3 (Nat.not_lt.mpr (si _))
 exact(gc _ _ (eh hb)).trans (aj _ (by rw[←hs];exact aj _ e))
theorem SY{Q:Fin->bb->Prop}(hh:A.handled=none)(hx:s.heap.get? a=some { cls:= .type "list",data:= .seq its n })
  (k:∀e h' tk' o,h'.get? e=some o->o.cls= .type "AttributeError" ->(∀b o,s.heap.get? b=some o->h'.get? b=some o)->E (.ref e) { s with heap:=h',toks:=tk' }) :
  bz (cg prog w) A (sy.«object.__getattribute__» ⟨[.ref a,.str "keys" tk],[]⟩) Q E s:=by
 obtain⟨h,g,d,t,os⟩:=s;have hT:(⟨h,g,d,t,os⟩:bb).TypeIs (.ref a) "list" :=⟨_,hx,rfl⟩
 have f4:=aBD
 repeat (any_goals (first|assumption|wp_step))
 refine ae (wpAny_mkStr ?_ (by rw[sizeLine_eq];decide +kernel));exact Z3 hh λe h' tk' o e1 e2 e3=>k e h' tk' o e1 e2 e3
theorem VH(hh:A.handled=none)(hx:s.heap.get? a=some { cls:= .type "list",data:= .seq its n })
  (k:∀e h' tk' o,h'.get? e=some o->o.cls= .type "AttributeError" ->(∀b o,s.heap.get? b=some o->h'.get? b=some o)->R (.error (.ref e)) { s with heap:=h',toks:=tk' }) :
  lu (cg prog w) A (.call (.builtin "list.__getattribute__") ⟨[.ref a,.str "keys" tk],[]⟩) R s:=by
 obtain⟨h,g,d,t,os⟩:=s;exact codeAny_call_builtin F.slot_list_getattribute.plain F.entry_list_ga (F.slot_list_getattribute.check _ _ _ _ _ _ _ _ (show (⟨h,g,d,t,os⟩:bb).TypeIs (.ref a) "list" from⟨_,hx,rfl⟩) (F.args_list_getattribute_2 _ _) (SY hh hx k))
theorem aC5{Q:Option ah->bb->Prop}(hh:A.handled=none)(hx:s.heap.get? a=some { cls:= .type "list",data:= .seq its n })
  (k:∀h' tk',(∀b o,s.heap.get? b=some o->h'.get? b=some o)->Q none { s with heap:=h',toks:=tk' }):bz (cg prog w) A (getAttr? (.ref a) "keys") Q E s:=by
 obtain⟨h,g,d,t,os⟩:=s;have hT:(⟨h,g,d,t,os⟩:bb).TypeIs (.ref a) "list" :=⟨_,hx,rfl⟩
 have f2:=F.slot_list_getattribute.lookup;have f3:=F.slot_list_getattribute.bind (.ref a);unfold getAttr? getAttrBy?
 repeat (any_goals (first|assumption|wp_step))
 refine VH hh hx λe h' tk' o e1 e2 e3=> ?_;have hE:(⟨h',g,d,tk',os⟩:bb).TypeIs (.ref e) "AttributeError" :=⟨_,e1,e2⟩
 show bz (cg prog w) A (getattributeRaised (cy a) (qt (ly "keys") t) (.type "list") (.ref e) none false false) _ _ (⟨h',g,d,tk',os⟩:bb);unfold getattributeRaised;refine ae (jv (b:=true) hE LG ?_);show bz (cg prog w) A (rm (.type "list") "__getattr__" >>= λx=>hookOrError (cy a) (qt (ly "keys") t) (.ref e) false false x) _ _ (⟨h',g,d,tk',os⟩:bb);rw[aCi];refine ae (av ?_);refine vx ?_;refine ae (jv (b:=true) hE LG ?_);exact av (k h' tk' e3)
theorem wO:entryFor table "dict.update.loop" =some sy.«dict.update.loop»:=entryFor_of_tree (by kernel_rfl)
theorem jH:plainId "dict.update.loop" =true:=by decide +kernel
def WU [DecidableEq κ](kvs ps:List (κ×ah)):List (κ×ah):=ps.foldl (λacc p=>stored acc p.1 p.2) kvs
theorem TC [DecidableEq κ](kvs:List (κ×ah))(k:κ)(v:ah):(stored kvs k v).length<=kvs.length+1:=by
 unfold stored
 split
 .rw[af];exact si _
 .rw[ak];exact au _
section
variable [DecidableEq κ]{knd:KeyKind prog w κ}{I d:Addr}{fp wr:List Addr}{P:Nat->ah->Prop}{St:Nat->Heap->Prop}
def aF9(knd:KeyKind prog w κ)(d:Addr)(wr:List Addr)(P:Nat->ah->Prop)(ps:List (κ×ah))(h:Heap):Prop :=
 ∀i v,P i v->∃(q:Addr) (o:Obj) (key:ah) (k:κ) (u:ah) (c:Nat),v= .ref q/\q∉wr/\q≠d/\h.get? q=some o/\o.cls= .type "tuple" /\o.data= .seq #[key,u] c/\knd.is k key=true/\ps[i]? =some (k,u)
theorem YE(W:Walks prog w A.in1 I fp wr n P St)(hdf:d∉fp)(ps:List (κ×ah))(hn:ps.length=n)(hsz:n<=sizeLine):
  ∀(k i:Nat) (s:bb) (kvs:List (κ×ah)),n - i=k->i<=n->St i s.heap->kvs.length<=i->s.heap.DictOf knd d kvs->aF9 knd d wr P ps s.heap →
  (∀h' tk,h'.DictOf knd d (WU kvs (ps.drop i))->(∀b o,b∉wr->b≠d->s.heap.get? b=some o->h'.get? b=some o)->R (.ok (.ret .none)) { s with heap:=h',toks:=tk }) →
  lu (cg prog w) A (.builtin "dict.update.loop" ⟨[.ref d,.ref I,jl i,.none],[]⟩) R s:=by
 have hdw:d∉wr:=λh=>hdf (W.sub _ h);intro k
 induction k with
 | zero =>
  intro i s kvs hk hi hst hl hd hrow hR;have hin:i=n:=by lia
  subst hin;refine codeAny_builtin wO ?_;rw[vy jH _];show bz _ A.in1 (oj (.ref I) >>= _) _ _ s;refine ae (W.done s _ _ hst λh' tk hk'=> ?_);show bz _ _ (sy.Dict.addKeywords d [] >>= _) _ _ _;refine ae (av (av (hR h' tk ?_ λb o hb _ e=>hk' b o hb e)));rw[List.drop_of_length_le (by lia)];exact hd.at λo e=>hk' d o hdw e
 | succ k ih =>
  intro i s kvs hk hi hst hl hd hrow hR;have hlt:i<n:=by lia
  refine codeAny_builtin wO ?_;rw[vy jH _];show bz _ A.in1 (oj (.ref I) >>= _) _ _ s;refine ae (W.item i s _ _ hlt hst λv h' tk hP hst' hk'=> ?_);obtain⟨q,o,key,kk,u,c,rfl,hqw,hqd,ho,hc,hdt,his,hps⟩:=hrow i v hP;have ho':=hk' q o hqw ho;refine ae (gb (ae (wpAny_tryCatch ?_)));unfold sy.Dict.pairItems;refine ae (qm (T:= "tuple") ⟨o,ho',hc⟩ ?_);rw[if_pos (by rfl)];refine ae (wpAny_seqItems ho' hdt (av ?_));have hd':h'.DictOf knd d kvs:=hd.at λo e=>hk' d o hdw e;refine gb (wpAny_dictSet_pairs his hd' (λh2 hd2 sb=> ?_) (by lia));have keep:∀b o,b∉wr->b≠d->s.heap.get? b=some o->h2.get? b=some o:=λb o hb hbd e=>(sb.2 b hbd).trans (hk' b o hb e);refine av ⟨uc jH _,ih (i+1) _ (stored kvs kk u) (by lia) hlt (W.frame _ _ _ hst' λb hb o e=>(sb.2 b (λz=>hdf (z▸hb))).trans e) (ee (TC ..) (by lia)) hd2 (λj v hj=> ?_) λh3 tk3 hd3 hk3=> ?_⟩
  .obtain⟨q,o,key,kk,u,c,e1,e2,e3,e4,e5⟩:=hrow j v hj;exact⟨q,o,key,kk,u,c,e1,e2,e3,keep q o e2 e3 e4,e5⟩
  .refine hR h3 tk3 ?_ λb o hb hbd e=>hk3 b o hb hbd (keep b o hb hbd e);have ed:ps.drop i=(kk,u)::ps.drop (i+1):=by
    have hi2:i<ps.length:=by lia
    rw[sd hi2];have:=(ax.mp hps).2;rw[this]
   rw[ed];exact hd3
end
section
variable [DecidableEq κ]{knd:KeyKind prog w κ}{l:Addr}{c:Nat}
theorem XT{ps:List (κ×ah)}{Q:ah->bb->Prop}(hh:A.handled=none)(hl:s.heap.get? l=some { cls:= .type "list",data:= .seq its c })(hsz:its.size<=sizeLine)(hlen:ps.length=its.size)
  (hrow:∀(i:Nat) (v:ah),its[i]? =some v->∃(q:Addr) (o:Obj) (key:ah) (k:κ) (u:ah) (c:Nat),v= .ref q/\s.heap.get? q=some o/\o.cls= .type "tuple" /\o.data= .seq #[key,u] c/\knd.is k key=true/\ps[i]? =some (k,u))
  (h:∀h' tk,h'.DictOf knd s.heap.objs.size (WU [] ps)->(∀b o,s.heap.get? b=some o->h'.get? b=some o)->Q (.ref s.heap.objs.size) { s with heap:=h',toks:=tk }) :
  bz (cg prog w) A (call (.type "dict") [.ref l]) Q E s:=by
 refine callType_codes (Q₁:=λobj s₁=>obj= .ref s.heap.objs.size/\s₁={ s with heap:=s.heap.push { cls:= .type "dict",data:= .dict #[] } }) F.kt_called_dict (F.kt_typeCall_dict_1 _) F.entry_dict_init (kt_code_dict_new _ ⟨rfl,rfl⟩) ?_;rintro obj s₁ ⟨rfl,rfl⟩;have hnew:(s.heap.push { cls:= .type "dict",data:= .dict #[] }).DictOf knd s.heap.objs.size []:=xo s.heap;have hl':(s.heap.push { cls:= .type "dict",data:= .dict #[] }).get? l=some { cls:= .type "list",data:= .seq its c }:=aj _ hl;refine⟨hnew.typeIs,F.args_dict_init_2 _ _,?_⟩;unfold sy.«dict.__init__»;refine ae ?_;unfold sy.Dict.selfAndRest;refine ae (nz hnew.typeIs ?_);show bz _ _ (pure (s.heap.objs.size,[cy l])) _ _ _;refine av ?_;show bz _ _ (ur "dict.__init__" s.heap.objs.size (.ref l) [] .none) _ _ _;unfold ur;refine ae (qm (T:= "list") ⟨_,hl',rfl⟩ ?_);rw[if_pos (by decide)];refine ae (aC5 hh hl' λh1 t1 kp1=> ?_);rw[if_pos (show (none:Option ah).isNone=true from rfl)];refine ae (wpAny_rule ?_);have hl1:=kp1 _ _ hl';have isl:h1.IsList l its:=⟨_,hl1,rfl,_,rfl⟩
 have lt1:∀b o,s.heap.get? b=some o->b≠h1.objs.size:=λb o e z=>by
  have:=bc (kp1 b o (aj _ e));rw[z]at this;exact eg _ this
 have hdI:s.heap.objs.size≠h1.objs.size:=λz=>by
  have:=bc (kp1 _ _ (bg s.heap (o:={ cls:= .type "dict",data:= .dict #[] }) rfl));rw[z]at this;exact eg _ this
 have hdl:∀b o,s.heap.get? b=some o->b≠s.heap.objs.size:=λb o e z=>by
  have:=bc e;rw[z]at this;exact eg _ this
 refine ae (ky isl ?_);refine av ⟨uc jH _,?_⟩;have W:=Walks.list (prog:=prog) (w:=w) (A:=A.in1.in1) hh h1.objs.size l (lt1 _ _ hl) its;refine YE (knd:=knd) W (by simp only[aw,fz,or_false,not_or];exact⟨hdI,eh (hdl _ _ hl)⟩) ps hlen hsz its.size 0 _ [] (Nat.sub_zero _) (fk _) ⟨⟨_,bg _ rfl,rfl,rfl⟩,isl.push _⟩ (au _) ((hnew.at λo e=>kp1 _ o e).push _) (λi v hi=> ?_) λh' tk hd hk=> ?_
 .obtain⟨q,o,key,k,u,c',e1,e2,e3,e4,e5,e6⟩:=hrow i v hi;refine⟨q,o,key,k,u,c',e1,?_,hdl _ _ e2,aj _ (kp1 _ _ (aj _ e2)),e3,e4,e5,e6⟩;simp only[aw,fz,or_false];exact lt1 _ _ e2
 .refine⟨rfl,h h' tk hd λb o e=>hk b o ?_ (hdl _ _ e) (aj _ (kp1 _ _ (aj _ e)))⟩;simp only[aw,fz,or_false];exact lt1 _ _ e
end
abbrev LC(H:Hp):List V->List (Key×V)->Prop:=bo λv p=>∃q,v= .ref q/\H q=some (.tup [kV p.1,p.2])
theorem X7(I:Inv X pins σ H s){k:Key}{x:V}(e:H q=some (.tup [kV k,x])):∃(o:Obj) (key u:ah) (n:Nat),s.heap.get? q=some o/\o.cls= .type "tuple" /\o.data= .seq #[key,u] n/\(bZ X.prog X.w).is k key=true/\RelV x u:=by
 obtain⟨_,us,r,o,h1,h2,n,h3⟩:=(show ObjOk X.prog X.w H s.heap q (.tup [kV k,x]) from I.hok q _ e)
 cases r with
 | @cons _ key _ _ r1 r =>
  cases r with
  | @cons _ u _ _ r2 r =>
   cases r;exact⟨o,key,u,n,h1,h2,h3,u6 r1,r2⟩
theorem FV(I:Inv X pins σ H s):∀{vs:List V}{ps:List (Key×V)}{us:List ah},LC H vs ps->Vals vs us →
  ∃rs:List (Key×ah),KV ps rs/\rs.length=us.length/\∀(i:Nat) (v:ah),us[i]? =some v->∃(q:Addr) (o:Obj) (key:ah) (k:Key) (u:ah) (c:Nat),v= .ref q/\s.heap.get? q=some o/\o.cls= .type "tuple" /\o.data= .seq #[key,u] c/\(bZ X.prog X.w).is k key=true/\rs[i]? =some (k,u)
 | _,_,_,.nil,.nil=>⟨[],.nil,rfl,λi v z=>by simp at z⟩
 | _::_,(k,x)::_,_::us,.cons ⟨q,e,hq⟩ t,.cons r rt=>by
  obtain⟨rs,h1,h2,h3⟩:=FV I t rt;obtain⟨o,key,u,n,o1,o2,o3,o4,o5⟩:=X7 I hq;subst e;cases r;refine⟨(k,u)::rs,.cons ⟨rfl,o5⟩ h1,by simp[h2],λi v z=> ?_⟩;cases i with
  | zero=>cases z;exact⟨q,o,key,k,u,n,rfl,o1,o2,o3,o4,rfl⟩
  | succ i =>
   obtain⟨q,o,key,k,u,c,w1⟩:=h3 i v (by simpa using z);exact⟨q,o,key,k,u,c,by simpa using w1⟩
def VL:List V->Hp->VK->Prop:=λxs H Q=>∃p vs ps,xs=[.ref p]/\Rd H p (.lst vs)/\LC H vs ps/\∀l,H l=none->Q (.ref l) (upd H l (.dK (lZ [] ps)))
theorem TB(hc:X.calm=true):dQ X (.type "dict") VL:=by
 intro pins s σ H xs us Q I r h;obtain⟨p,vs,ps,rfl,hq,pr,q⟩:=h;obtain⟨u,rfl,rx⟩:=mF r;cases rx;obtain⟨z,its,n,rv,e⟩:=(show ObjOk X.prog X.w H s.heap p (.lst vs) from hq.ok I.hok)
 obtain⟨rs,h1,h2,h3⟩:=FV I pr rv;have hl:=rv.length;have hlp:=h1.length;refine XT (knd:=bZ X.prog X.w) (ps:=rs) (I.ok.hd hc) e (by rw[bp];lia) (by rw[bp];exact h2) (λi v hv=>h3 i v (by simpa using hv)) λh' tk hd kp=> ?_;have lm:(lZ [] ps).length<=sizeLine:=ee (zB ps []) (by simp;lia);have nm:(s.heap.objs.size==ib)=false:=by
  have:=I.big;simp only[beq_eq_false_iff_ne];exact λz=>by rw[z]at this;exact eg _ this
 exact⟨.ref _,_,I.laid (t':=tk) kp (au _) (zZ lm nm (KV.merge h1 .nil) hd),rfl,q _ (I.hok.fresh (au _))⟩
section
variable {d:Addr}{es:Array lz}{i:Nat}{k0 v0:ah}
theorem UY{Q:Option ah->bb->Prop}{e:lz}(st:mq s.heap it d i es.size ep k0 v0)(ho:s.heap.get? d=some o)(hq:o.data= .dict es ep)(hx:es[i]? =some e)
  (k:∀h',IsItemIterOut h' it d (i+1) es.size ep e.key e.val s.heap.objs.size->h'.get? s.heap.objs.size=some { cls:= .type "tuple",data:= .seq #[e.key,e.val] } →
   (∀b u,b≠it->s.heap.get? b=some u->h'.get? b=some u)->Q (some (.ref s.heap.objs.size)) { s with heap:=h' }):bz (cg prog w) A (oj (.ref it)) Q E s:=by
 obtain⟨hp,g,dr,tk,os⟩:=s;have T:bb.TypeIs ⟨hp,g,dr,tk,os⟩ (.ref it) "dict_itemiterator" :=⟨_,st,rfl⟩
 unfold oj;refine ae (tz (ju (name:=ly "__next__") T F.slot_dict_itemiterator_next (ij F.slot_dict_itemiterator_next T F.entry_dict_itemiterator_next ?_ (F.args_dict_itemiterator_next_1 _))));refine ae (av (ae (ae ?_)))
 first|refine ae (ix T (av (ae (ji st rfl ?_))))|refine ae (jm T (av (ae (ji st rfl ?_))))
 simp only[show gz "dict_itemiterator" =true by decide,if_true];show bz _ A.in1 (if (cy d==ft)=true then _ else _) _ _ (⟨hp,g,dr,tk,os⟩:bb);rw[if_neg (show ¬(cy d==ft)=true from bw)];refine ae (av (ae (jo ho hq ?_)));rw[if_neg (by simp)];refine ae (av (ae (km ho hq ?_)));rw[if_neg (by simp)];refine av ?_;simp only[show ¬((i:Int)<0) from by lia,if_false,dw,hx];refine ae ?_
 first|refine ae (ix T (av (ae (kb T ?_))))|refine ae (jm T (av (ae (kb T ?_))))
 show bz _ A.in1 (setField (.ref it) 3 (jl ((i:Int)+1)) >>= _) _ _ (⟨hp,g,dr,tk,os⟩:bb);refine ae (ke st (by simp) λh1 e1 s1=> ?_)
 replace s1:ik it hp h1:=s1
 replace e1:mq h1 it d (i+1) es.size ep k0 v0:=by
  unfold mq;rw[show ((i+1:Nat):Int)=(i:Int)+1 by lia];simpa [jl] using e1
 have T1:bb.TypeIs ⟨h1,g,dr,tk,os⟩ (.ref it) "dict_itemiterator" :=⟨_,e1,rfl⟩
 refine ae (gb (ae (kb T1 (ae (kb T1 ?_)))));show bz _ A.in1 (ni (.ref it) 6 e.key e.val) _ _ (⟨h1,g,dr,tk,os⟩:bb);unfold ni;refine ae (wpAny_newTuple ?_);have e2:mq (h1.push { cls:= .type "tuple",data:= .seq #[e.key,e.val] }) it d (i+1) es.size ep k0 v0:=aj _ e1;generalize q2:h1.push { cls:= .type "tuple",data:= .seq #[e.key,e.val] }=h2 at e2;have z1:h1.objs.size=hp.objs.size:=s1.1;have il:it<hp.objs.size:=bc st;have t2:h2.get? hp.objs.size=some { cls:= .type "tuple",data:= .seq #[e.key,e.val] }:=by rw[←q2,←z1];exact bg _ rfl
 have k2:∀b u,b≠it->hp.get? b=some u->h2.get? b=some u:=λb u hb z=>by rw[←q2];exact aj _ (s1.extBut b u hb z)
 show bz _ A.in1 (me (.ref it) >>= _) _ _ (⟨h2,g,dr,tk,os⟩:bb);rw[z1];clear q2 e1 s1 T1 z1 h1;refine ae ?_;unfold me;refine ae (vz e2 rfl (x:= .none) rfl (av ?_));simp only[if_true];refine ae (vz e2 rfl (x:=k0) rfl (ae (vz e2 rfl (x:=v0) rfl ?_)));refine ae (ke e2 (by simp) λh3 e3 s3=> ?_)
 replace s3:ik it h2 h3:=s3
 replace e3:mq h3 it d (i+1) es.size ep e.key v0:=e3
 refine ae (ke e3 (by simp) λh4 e4 s4=> ?_)
 replace s4:ik it h3 h4:=s4
 replace e4:mq h4 it d (i+1) es.size ep e.key e.val:=e4
 refine ae (ke e4 (by simp) λh5 e5 s5=> ?_)
 replace s5:ik it h4 h5:=s5
 replace e5:IsItemIterOut h5 it d (i+1) es.size ep e.key e.val hp.objs.size:=e5
 refine ae (ke e5 (by simp) λh6 e6 s6=> ?_)
 replace s6:ik it h5 h6:=s6
 replace e6:IsItemIterOut h6 it d (i+1) es.size ep e.key e.val hp.objs.size:=e6
 have kk:∀b u,b≠it->h2.get? b=some u->h6.get? b=some u:=λb u hb z=>s6.extBut b u hb (s5.extBut b u hb (s4.extBut b u hb (s3.extBut b u hb z)));exact ae (wpAny_letGo (av (av ⟨_,rfl,av (k h6 e6 (kk _ _ (xf il) t2) λb u hb z=>kk b u hb (k2 b u hb z))⟩)))
theorem ZD{Q:Option ah->bb->Prop}(hh:A.handled=none)(st:mq s.heap it d i es.size ep k0 v0)(ho:s.heap.get? d=some o)(hq:o.data= .dict es ep)(hx:es.size<=i)
  (k:∀h',su it s.heap h'->Q none { s with heap:=h' }):bz (cg prog w) A (oj (.ref it)) Q E s:=by
 have T:s.TypeIs (.ref it) "dict_itemiterator" :=⟨_,st,rfl⟩
 unfold oj;refine ae (tz (ju (name:=ly "__next__") T F.slot_dict_itemiterator_next (ij F.slot_dict_itemiterator_next T F.entry_dict_itemiterator_next ?_ (F.args_dict_itemiterator_next_1 _))));refine ae (av (ae (ae ?_)))
 first|refine ae (ix T (av (ae (ji st rfl ?_))))|refine ae (jm T (av (ae (ji st rfl ?_))))
 simp only[show gz "dict_itemiterator" =true by decide,if_true];show bz _ A.in1 (if (cy d==ft)=true then _ else _) _ _ s;rw[if_neg (show ¬(cy d==ft)=true from bw)];refine ae (av (ae (jo ho hq ?_)));rw[if_neg (by simp)];refine ae (av (ae (km ho hq ?_)));rw[if_neg (by simp)];refine av ?_;simp only[show ¬((i:Int)<0) from by lia,if_false,dw,vc hx];refine ae ?_
 first|refine ae (ix T (av ?_))|refine ae (jm T (av ?_))
 show bz _ A.in1 (setField (.ref it) 2 .none >>= _) _ _ s;refine ae (vw st rfl (by simp) ?_);show bz _ A.in1 (newExc (.type "StopIteration") [] >>= _) _ _ _;refine ae ?_;simp only[newExc,newTuple];refine ae (gj (ae (m:=lj _ _) (wpAny_of_eq (a:=ft) (by first|rfl|(simp only[lj];rfl)) (gj ?_ (by size_fits)))) (by size_fits));simp only[raiseNew];refine ae (wpAny_handled ?_);rw[show A.in1.handled=none from hh];refine ae (av (vx ?_));refine ae (jv (b:=true) (T:= "StopIteration") ⟨_,bg _ rfl,rfl⟩ isSubtype_stop ?_);exact av (k _ (((js ..).extBut.push _).push _))
end
section
variable {d:Addr}{es:Array lz}{i:Nat}
theorem TY{Q:ah->bb->Prop}(hd:(d==ib)=false)(T:s.TypeIs (.ref d) "dict")
  (k:Q (.ref s.heap.objs.size) { s with heap:=s.heap.push { cls:= .type "dict_items",data:= .fields #[.ref d] } }):bz (cg prog w) A (call (.builtin "dict.items") [.ref d]) Q E s:=by
 refine ij F.slot_dict_items T F.entry_dict_items ?_ (F.args_dict_items_1 _);unfold sy.«dict.items» sy.Dict.noArgs;refine ae (ae (nz T (av ?_)));show bz _ A.in1 (kx d >>= _) _ _ s;unfold kx;rw[if_neg (λz=>by rw[hd]at z;cases z)];exact ae (av (ae (gj (av ⟨_,rfl,k⟩))))
theorem V8{v:Addr}{Q:ah->bb->Prop}(hv:s.heap.IsItemsView v d)(ho:s.heap.get? d=some o)(hq:o.data= .dict es ep)
  (k:Q (.ref s.heap.objs.size) { s with heap:=s.heap.push { cls:= .type "dict_itemiterator",data:= .fields #[.none,.bool false,.ref d,.int 0 0,.int es.size 0,.int ep 0,.none,.none] } }):bz (cg prog w) A (pyIter (.ref v)) Q E s:=by
 obtain⟨ov,hov,hcv,hdv⟩:=id hv;refine tj hv.typeIs F.slot_dict_items_iter (ij F.slot_dict_items_iter hv.typeIs F.entry_dict_items_iter ?_ (F.args_dict_items_iter_1 _));unfold sy.«dict_items.__iter__» sy.Dict_items.dictOf sy.Dict_items.newIterator;refine ae (av (ae (ae (vz hov hdv (x:= .ref d) rfl (av (ae (ae (jo ho hq (ae (km ho hq ?_))))))))));simp only[show gz "dict_itemiterator" =true by decide,if_true];refine gj (av ⟨_,rfl,"dict_itemiterator",_,⟨_,bg _ rfl,rfl⟩,F.slot_dict_itemiterator_next.lookup,?_⟩) (by simp only[sizeOk,mf,bp,ak,az,ml,sizeLine_eq];lia)
 simpa [jl,mf] using k
end
def Itj(a:Addr)(o:Obj)(kvs:List (List Key×V)):It :=
 ⟨λi H=>H a=some (.frz o (.dT kvs))/\i<kvs.length,λi H x H'=>∃k v p q,kvs[i]? =some (k,v)/\x= .ref q/\H p=some (.tup (k.map kV))/\H q=none/\H'=upd H q (.tup [.ref p,v]),λi H=>H a=some (.frz o (.dT kvs))/\kvs.length<=i⟩
theorem KT.get2:∀{kvs:List (List Key×V)}{xs:List (List Key×Addr×ah)}{i:Nat},KT H kvs xs->i<kvs.length->∃k v b u,kvs[i]? =some (k,v)/\xs[i]? =some (k,b,u)/\H b=some (.tup (k.map kV))/\RelV v u
 | _,_,0,.cons h _,_=>⟨_,_,_,_,rfl,by rw[h.1];rfl,h.2.1,h.2.2⟩
 | _,_,i+1,.cons _ t,hi=>by
  obtain⟨k,v,b,u,e1,e2,e3⟩:=KT.get2 (i:=i) t (by simpa using hi);exact⟨k,v,b,u,by simpa using e1,by simpa using e2,e3⟩
 | _,_,_,.nil,hi=>by simp at hi
theorem O8{x1:Nat}(a it:Addr){es:Array lz}(kvs:List (List Key×V))(hd:o.data= .dict es ep)(hz:es.size=kvs.length):
  D7 P w K (.Tuple elts x1 tpos) (Itj a o kvs) [it] it (λi h=>∃ok ov,mq h it a i es.size ep ok ov) where
 mem:=by simp
 obj:=λi h st b hb=>by
  have e:b=it:=by simpa using hb
  subst e;obtain⟨ok,ov,e⟩:=st;exact⟨_,e,λv z=>by cases z⟩
 keep:=λi h h' st k=>let ⟨ok,ov,e⟩:=st;⟨ok,ov,k it (by simp) _ e⟩
 item:=by
  intro X hP hw hK hc i pins s σ H E I hf st hg;subst hP hw hK;obtain⟨ha,hi⟩:=hg;obtain⟨ok,ov,st⟩:=st;obtain⟨ho,z,y,xs,r,o',es',ep',h1,h2,h3,h4,h5⟩:=(show ObjOk X.prog X.w H s.heap a (.frz o (.dT kvs)) from I.hok a _ ha)
  rw[ho]at h1;cases h1;rw[hd]at h3;cases h3;obtain⟨k,v,b,u,e1,e2,e3,e5⟩:=KT.get2 r hi;have e4:=entry_at h4 i;rw[e2]at e4;obtain⟨f0,f1,f2,f3,f4,f5⟩:=hf it (by simp);refine UY st ho hd e4 λh' st' ht kp=> ?_;refine⟨_,rfl,?_⟩;refine wpAny_letOwnedTupleGo_items (s:={ s with heap:=h' }) st' λh'' st'' sb=> ?_;have hq:H s.heap.objs.size=none:=I.hok.fresh (au _);have hne:s.heap.objs.size≠it:=λz=>by
   have:=bc (show s.heap.get? it=some _ from st);rw[z]at this;exact eg _ this
  have tup:Vals [.ref b,v] [.ref b,u]:= .cons rfl (.cons e5 .nil);have I1:Inv X pins σ (upd H s.heap.objs.size (.tup [.ref b,v])) { s with heap:=s.heap.push { cls:= .type "tuple",data:= .seq #[.ref b,u] } } :=
   I.laid (t':=s.toks) (λb u e=>aj _ e) (au _) ⟨(show 2<=sizeLine by rw[sizeLine_eq];decide),[.ref b,u],tup,⟨_,bg _ rfl,rfl,0,rfl⟩⟩
  have n0:upd H s.heap.objs.size (.tup [.ref b,v]) it=none:=by rw[aK (eh hne)];exact f0
  have I2:Inv X pins σ (upd H s.heap.objs.size (.tup [.ref b,v])) { s with heap:=h'' }:=Inv.turned (s:={ s with heap:=s.heap.push { cls:= .type "tuple",data:= .seq #[.ref b,u] } }) (h':=h'') (t':=s.toks) (it:=it) I1 (λc o hb e=>by
   rcases Heap.get?_push_cases e with⟨rfl,rfl⟩|e
   .exact(sb.2 _ hb).trans ht
   .exact(sb.2 c hb).trans (kp c o hb e)) n0 f1 f3 f4 f5
  exact⟨.ref s.heap.objs.size,_,I2,rfl,⟨k,v,b,_,e1,rfl,e3,hq,rfl⟩,⟨_,_,st''⟩,λb hb=>by
   have e:b=it:=by simpa using hb
   rw[e];exact n0⟩
 done:=by
  intro X hP hw hK hc i pins s σ H E I hf st hg;subst hP hw hK;obtain⟨ha,hi⟩:=hg;obtain⟨ok,ov,st⟩:=st;obtain⟨ho,hok⟩:=(show ObjOk X.prog X.w H s.heap a (.frz o (.dT kvs)) from I.hok a _ ha)
  obtain⟨f0,f1,f2,f3,f4,f5⟩:=hf it (by simp);exact ZD (I.ok.hd hc) st ho hd (by lia) λh' eb=>⟨rfl,I.turned (t':=s.toks) (λb o hb e=>eb b o hb e) f0 f1 f3 f4 f5⟩
 self:=λA i s Q E st h=>by
  obtain⟨ok,ov,st⟩:=st;have T:s.TypeIs (.ref it) "dict_itemiterator" :=⟨_,st,rfl⟩
  refine tj T F.slot_dict_itemiterator_iter (ij F.slot_dict_itemiterator_iter T zD ?_ (F.args_dict_itemiterator_iter_1 _));show bz _ _ (ret (.ref it)) _ _ s;exact av ⟨_,rfl,"dict_itemiterator",_,T,F.slot_dict_itemiterator_next.lookup,h⟩
def RA(td:TE):TI:=λσ H R=>td σ H λx H1=>∃a kvs,x= .ref a/\H1 a=some (.dT kvs)/\∀o,R (Itj a o kvs) (upd H1 a (.frz o (.dT kvs)))
theorem zF{l:Expr}{elts:List Expr}{x1:Nat}{tpos:Pos}(hl:PE X l td)(hbase:jq l "items" X.env (eval l X.env)=eval l X.env:=by rfl)(hline:(apos.endLine==cpos.line)=true:=by rfl):
  PI X (.Tuple elts x1 tpos) (.Call (.Attribute l "items" apos) [] [] cpos) (RA td):=by
 intro pins s σ H R I h;refine mx hbase hline (thn (hl pins s σ H _ I h) ?_);rintro v s1 ⟨x,H1,I1,r1,q1⟩;obtain⟨a,kvs,rfl,hq,q⟩:=q1;cases r1;obtain⟨t1,t2,_⟩:=MQ I1 (.inr ⟨kvs,.inl hq⟩);refine⟨"dict","dict.items",F.plainAttrs_dict,F.slot_dict_items,F.type_dict_items,t1,t2,jd rfl (ql ?_)⟩;obtain⟨z,y,xs,r,o,es,ep,h1,h2,h3,h4,h5⟩:=(show ObjOk X.prog X.w H1 s1.heap a (.dT kvs) from I1.hok a _ hq)
 have hz:es.size=kvs.length:=by rw[size_of_entries h4,KT.len r]
 refine TY y t1 ?_;have hne:∀b ys,H1 b=some (.tup ys)->upd H1 a (.frz o (.dT kvs)) b=some (.tup ys):=λb ys e=>by
  have hb:b≠a:=λz=>by rw[z,hq]at e;cases e
  rw[aK hb];exact e
 have new:ObjOk X.prog X.w (upd H1 a (.frz o (.dT kvs))) s1.heap a (.frz o (.dT kvs)):=⟨h1,z,y,xs,KT.keeps r hne,o,es,ep,h1,h2,h3,h4,h5⟩
 have I2:Inv X pins σ (upd H1 a (.frz o (.dT kvs))) s1:=I1.freeze trivial hq h1 new;have I3:Inv X pins σ (upd H1 a (.frz o (.dT kvs))) { s1 with heap:=s1.heap.push { cls:= .type "dict_items",data:= .fields #[.ref a] } }:=I2.kept (t':=s1.toks) λb o e=>aj _ e;refine V8 ⟨_,bg _ rfl,rfl,rfl⟩ (aj _ h1) h3 ?_;refine⟨_,[_],_,_,upd H1 a (.frz o (.dT kvs)),rfl,I3.kept (t':=s1.toks) λb o e=>aj _ e,O8 a _ kvs h3 hz,⟨.none,.none,bg _ rfl⟩,λb hb=> ?_,q o⟩;obtain rfl:=bq.mp hb;exact I3.fpOk (au _) (I3.hok.fresh (au _))
section
variable (r:Nat->Int)
variable {r}{p:Array Nat}
end
section
variable {r:Nat->Int}{p:Array Nat}
end
section
variable {lt:α->α->Bool}{l:List α}{d:α}
theorem NP(c:Nat->Nat->Bool):(dO d c l).Perm l:=by
 unfold dO
 split
 .exact List.Perm.refl _
 .have h:=Array.perm_iff_toList_perm.mp (kK (n:=l.length) c (by lia));refine(h.map λi=>l.getD i d).trans ?_;have e:((fc l.length).toArray.toList.map λi=>l.getD i d)=l:=by
   apply List.ext_getElem?
   intro i
   by_cases hi:i<l.length
   .simp[hi,bj]
   .simp[hi]
  rw[e]
end
def rP(rs:List (List Key)):List (List Key):=dO [] (uS rs) rs
theorem yM(rs:List (List Key)):(rP rs).Perm rs:=NP _
theorem SV{rs:List (List Key)}(k:KRows H vs rs):KRows H (TD rs vs) (rP rs):=by
 have hl:vs.length=rs.length:=bx k;unfold TD rP dO;rw[hl]
 split
 .exact k
 .have hp:=kK (n:=rs.length) (uS rs) (by lia);have hm:∀i∈(jD (uS rs) (kas_sort rs.length)).toList,i<rs.length:=λi hi=>by
   have h:=hp.mem_iff.mp (pj.mp hi)
   simpa using h
  revert hm;generalize (jD (uS rs) (kas_sort rs.length)).toList=l;intro hm
  induction l with
  | nil=>exact .nil
  | cons i l ih =>
   refine .cons ?_ (ih λj hj=>hm j (ab _ hj));have hi:=hm i (.head _);obtain⟨p,r,e1,e2,e3⟩:=k.get (i:=i) (v:=vs.getD i .non) (by rw[bj,ao (by lia)];rfl);refine⟨p,e1,?_⟩;show H p=some (.tup ((rs.getD i []).map kV));rw[bj,e2];exact e3
theorem Paired.snoc{F:α->β->Prop}:∀{l:List α}{m:List β}{a:α}{b:β},bo F l m->F a b->bo F (l++[a]) (m++[b])
 | _,_,_,_,.nil,h=> .cons h .nil
 | _,_,_,_,.cons r t,h=> .cons r (Paired.snoc t h)
theorem Paired.at2{F:α->β->Prop}:∀{l:List α}{m:List β}{i:Nat}{a:α}{b:β},bo F l m->l[i]? =some a->m[i]? =some b->F a b
 | _,_,0,_,_,.cons r _,h1,h2=>by cases h1;cases h2;exact r
 | _,_,i+1,_,_,.cons _ t,h1,h2=>Paired.at2 (i:=i) t (by simpa using h1) (by simpa using h2)
 | _,_,_,_,_,.nil,h1,_=>by simp at h1
variable {J:It}{g:TG}
theorem oB(xs:List α)(c:α->Bool)(P:α->V->Hp->Prop)(hm:∀x y H1 H2,P x y H1->Same H1 H2->P x y H2)(hn:xs.length<=sizeLine)
  (hgo:∀i H1,Same H H1->i<xs.length->J.go i H1)(hst:∀H1,Same H H1->J.stop xs.length H1)
  (hb:∀i x H1,xs[i]? =some x->Same H H1->∀v H',J.yld i H1 v H'->Same H1 H'/\∃σ2:St,σ2.length=σ0.length/\(∀(j:Nat) v,σ0[j]? =some (some v)->σ2[j]? =some (some v))/\(∀R:St->Hp->Prop,R σ2 H'->g v σ0 H' R) ∧
   (∀R:Bool->Hp->Prop,(∀H2,Same H' H2->R (c x) H2)->ti σ2 H' R)/\(c x=true->∀H2,Same H' H2->∀R:VK,(∀y H3,P x y H3->Same H2 H3->R y H3)->te σ2 H2 R))
  (hf:∀ys H1,Same H H1->bo (λx y=>P x y H1) (xs.filter c) ys->fin ys H1):dR J g ti te σ0 fin H:=by
 refine⟨λi m ys H1=>i+m=xs.length/\Same H H1/\bo (λx y=>P x y H1) ((xs.take i).filter c) ys,⟨xs.length,by lia,Same.refl _,.nil⟩,?_⟩;rintro i m ys H1 ⟨e1,s1,pr⟩;cases m with
 | zero =>
  have ei:i=xs.length:=by lia
  subst ei;rw[cp]at pr;exact .inl ⟨hst H1 s1,hf ys H1 s1 pr⟩
 | succ m =>
  have hi:i<xs.length:=by lia
  refine .inr ⟨hgo i H1 s1 hi,λv H' y=> ?_⟩;have ex:xs[i]? =some xs[i]:=ao hi;have etake:xs.take (i+1)=xs.take i++[xs[i]]:=by rw[nj,ex];rfl
  have hlen:ys.length<=i:=by
   rw[←bx pr];exact ee (fb _ _) (by rw[dh];lia)
  obtain⟨s2,σ2,l2,c2,hg,ht,he⟩:=hb i xs[i] H1 ex s1 v H' y;refine hg _ ⟨⟨l2,c2⟩,ht _ λH2 s3=> ?_⟩;cases hc:c xs[i] with
  | true =>
   show te σ2 H2 _;refine he hc H2 s3 _ λy H3 py s4=>⟨by lia,m,by lia,by lia,((s1.trans s2).trans s3).trans s4,?_⟩
   rw[etake,dy,cq hc];exact Paired.snoc (Paired.imp' (λa b h=>hm a b _ _ h ((s2.trans s3).trans s4)) pr) py
  | false =>
   show ∃m',_;refine⟨m,by lia,by lia,(s1.trans s2).trans s3,?_⟩;rw[etake,dy,ck (by rw[hc];exact bw),List.filter_nil,df];exact Paired.imp' (λa b h=>hm a b _ _ h (s2.trans s3)) pr
theorem MY(hr:ci.map (λi=>(σ[i]?).join)=rest):cB n ci σ=rk n none++rest:=by unfold cB;rw[hr]
theorem G3{xs:List α}(f1 f2:α->V)(c:α->Bool)(P:α->V->Hp->Prop)(hm:∀x y H1 H2,P x y H1->Same H1 H2->P x y H2)(hn:xs.length<=sizeLine)(hr:ci.map (λi=>(σ[i]?).join)=rest)(hl:SqL K H a vs)
  (hv:bo (λv x=>∃q,v= .ref q/\H q=some (.tup [f1 x,f2 x])) vs xs)
  (ht:∀x H1,x∈xs->Same H H1->∀R:Bool->Hp->Prop,(∀H2,Same H1 H2->R (c x) H2)->ti (some (f1 x)::some (f2 x)::rest) H1 R)
  (he:∀x H1,x∈xs->c x=true->Same H H1->∀R:VK,(∀y H2,P x y H2->Same H1 H2->R y H2)->te (some (f1 x)::some (f2 x)::rest) H1 R)
  (hf:∀ys H1,Same H H1->bo (λx y=>P x y H1) (xs.filter c) ys->fin ys H1):dR (Itl K a) (GF K 2 (rL (cG 0) (rL (cG 1) NH))) ti te (cB 2 ci σ) fin H:=by
 have e0:cB 2 ci σ=none::none::rest:=MY hr;rw[e0];have hlen:vs.length=xs.length:=bx hv;refine oB xs c P hm hn (λi H1 s hi=>⟨vs,vs[i],s.seq hl,ao (by lia)⟩) (λH1 s=>⟨vs,s.seq hl,by lia⟩) (λi x H1 hx s1 v H' y=> ?_) hf;obtain⟨rfl,e2⟩:=y;have ev:=e2 vs (s1.seq hl);obtain⟨q,rfl,hq⟩:∃q,v= .ref q/\H q=some (.tup [f1 x,f2 x]):=Paired.at2 hv ev hx;have hmem:=ba hx;refine⟨Same.refl _,some (f1 x)::some (f2 x)::rest,rfl,λj v hv=> ?_,λR h=>⟨q,[f1 x,f2 x],rfl,.inl (.inl (s1 _ _ hq)),rfl,f1 x,[f2 x],rfl,f2 x,[],rfl,rfl,h⟩,λR h=>ht x _ hmem s1 R h,λhc H2 s2 R h=>he x H2 hmem hc (s1.trans s2) R h⟩
 match j,hv with
 | 0,hv=>cases hv
 | 1,hv=>cases hv
 | j+2,hv=>exact hv
theorem same_upd{o:HO}(h:H q=none):Same H (upd H q o):=λb u e=>by
 have:b≠q:=λz=>by rw[z,h]at e;cases e
 rw[aK this];exact e
theorem aCh{xs:List α}(f1 f2 f3:α->V)(c:α->Bool)(P:α->V->Hp->Prop)(hm:∀x y H1 H2,P x y H1->Same H1 H2->P x y H2)(hn:xs.length<=sizeLine)(hr:ci.map (λi=>(σ[i]?).join)=rest)(hl:SqL K H a vs)
  (hv:bo (λv x=>∃q,v= .ref q/\H q=some (.tup [f1 x,f2 x,f3 x])) vs xs)
  (ht:∀x H1,x∈xs->Same H H1->∀R:Bool->Hp->Prop,(∀H2,Same H1 H2->R (c x) H2)->ti (some (f1 x)::some (f2 x)::some (f3 x)::rest) H1 R)
  (he:∀x H1,x∈xs->c x=true->Same H H1->∀R:VK,(∀y H2,P x y H2->Same H1 H2->R y H2)->te (some (f1 x)::some (f2 x)::some (f3 x)::rest) H1 R)
  (hf:∀ys H1,Same H H1->bo (λx y=>P x y H1) (xs.filter c) ys->fin ys H1):dR (Itl K a) (GF K 3 (rL (cG 0) (rL (cG 1) (rL (cG 2) NH)))) ti te (cB 3 ci σ) fin H:=by
 have e0:cB 3 ci σ=none::none::none::rest:=MY hr;rw[e0];have hlen:vs.length=xs.length:=bx hv;refine oB xs c P hm hn (λi H1 s hi=>⟨vs,vs[i],s.seq hl,ao (by lia)⟩) (λH1 s=>⟨vs,s.seq hl,by lia⟩) (λi x H1 hx s1 v H' y=> ?_) hf;obtain⟨rfl,e2⟩:=y;have ev:=e2 vs (s1.seq hl);obtain⟨q,rfl,hq⟩:∃q,v= .ref q/\H q=some (.tup [f1 x,f2 x,f3 x]):=Paired.at2 hv ev hx;have hmem:=ba hx;refine⟨Same.refl _,some (f1 x)::some (f2 x)::some (f3 x)::rest,rfl,λj v hv=> ?_,λR h=>⟨q,[f1 x,f2 x,f3 x],rfl,.inl (.inl (s1 _ _ hq)),rfl,f1 x,[f2 x,f3 x],rfl,f2 x,[f3 x],rfl,f3 x,[],rfl,rfl,h⟩,λR h=>ht x _ hmem s1 R h,λhc H2 s2 R h=>he x H2 hmem hc (s1.trans s2) R h⟩
 match j,hv with
 | 0,hv=>cases hv
 | 1,hv=>cases hv
 | 2,hv=>cases hv
 | j+3,hv=>exact hv
theorem aD3(c:Key×V->Bool)(P:Key×V->V->Hp->Prop)(hm:∀x y H1 H2,P x y H1->Same H1 H2->P x y H2)(hn:kvs.length<=sizeLine)(hr:ci.map (λi=>(σ[i]?).join)=rest)(h0:H a=some (.frz o (.dK kvs)))
  (ht:∀x H1,x∈kvs->Same H H1->∀R:Bool->Hp->Prop,(∀H2,Same H1 H2->R (c x) H2)->ti (some (kV x.1)::rest) H1 R)
  (he:∀x H1,x∈kvs->c x=true->Same H H1->∀R:VK,(∀y H2,P x y H2->Same H1 H2->R y H2)->te (some (kV x.1)::rest) H1 R)
  (hf:∀ys H1,Same H H1->bo (λx y=>P x y H1) (kvs.filter c) ys->fin ys H1):dR (Itk a o kvs) (cG 0) ti te (cB 1 ci σ) fin H:=by
 rw[AE hr];refine oB kvs c P hm hn (λi H1 s hi=>⟨s _ _ h0,hi⟩) (λH1 s=>⟨s _ _ h0,au _⟩) (λi x H1 hx s1 v H' y=> ?_) hf;obtain⟨rfl,k,u,e2,rfl⟩:=y;rw[hx]at e2;cases e2;have hmem:=ba hx;refine⟨Same.refl _,some (kV k)::rest,rfl,λj v hv=> ?_,λR h=>h,λR h=>ht _ _ hmem s1 R h,λhc H2 s2 R h=>he _ H2 hmem hc (s1.trans s2) R h⟩;cases j with
 | zero=>cases hv
 | succ j=>exact hv
theorem LU{kvs:List (List Key×V)}(c:List Key×V->Bool)(P:List Key×V->V->Hp->Prop)(hm:∀x y H1 H2,P x y H1->Same H1 H2->P x y H2)(hn:kvs.length<=sizeLine)(hr:ci.map (λi=>(σ[i]?).join)=rest)(h0:H a=some (.frz o (.dT kvs)))
  (ht:∀x H1 p,x∈kvs->Same H H1->H1 p=some (.tup (x.1.map kV))->∀R:Bool->Hp->Prop,(∀H2,Same H1 H2->R (c x) H2)->ti (some (.ref p)::some x.2::rest) H1 R)
  (he:∀x H1 p,x∈kvs->c x=true->Same H H1->H1 p=some (.tup (x.1.map kV))->∀R:VK,(∀y H2,P x y H2->Same H1 H2->R y H2)->te (some (.ref p)::some x.2::rest) H1 R)
  (hf:∀ys H1,Same H H1->bo (λx y=>P x y H1) (kvs.filter c) ys->fin ys H1):dR (Itj a o kvs) (GF K 2 (rL (cG 0) (rL (cG 1) NH))) ti te (cB 2 ci σ) fin H:=by
 have e0:cB 2 ci σ=none::none::rest:=MY hr;rw[e0];refine oB kvs c P hm hn (λi H1 s hi=>⟨s _ _ h0,hi⟩) (λH1 s=>⟨s _ _ h0,au _⟩) (λi x H1 hx s1 v H' y=> ?_) hf;obtain⟨k,u,p,q,e2,rfl,hp,hq,rfl⟩:=y;rw[hx]at e2;cases e2;have hmem:=ba hx;have sq:Same H1 (upd H1 q (.tup [.ref p,u])):=same_upd hq;refine⟨sq,some (.ref p)::some u::rest,rfl,λj v hv=> ?_,λR h=>⟨q,[.ref p,u],rfl,.inl (.inl aR),rfl,.ref p,[u],rfl,u,[],rfl,rfl,h⟩,λR h=>ht _ _ p hmem (s1.trans sq) (sq _ _ hp) R h,λhc H2 s2 R h=>he _ H2 p hmem hc ((s1.trans sq).trans s2) (s2 _ _ (sq _ _ hp)) R h⟩
 match j,hv with
 | 0,hv=>cases hv
 | 1,hv=>cases hv
 | j+2,hv=>exact hv
section
variable {tb:TS}{bk:St->Hp->Prop}
theorem aAi(kvs:List (Key×V))(Pv:Nat->St->Hp->Prop)(h0:Pv 0 σ H)(hl:∀i σ H,Pv i σ H->H p=some (.frz o (.dK kvs)))
  (hs:∀i k v σ H,kvs[i]? =some (k,v)->Pv i σ H->g (kV k) σ H λσ2 H2=>tb ⟨Pv (i+1),rt,nx,Pv (i+1)⟩ σ2 H2)(hd:∀σ H,Pv kvs.length σ H->nx σ H):TF (Itk p o kvs) g tb ⟨nx,rt,bk,ct⟩ σ H:=by
 refine⟨λi m σ H=>m=kvs.length - i/\i<=kvs.length/\Pv i σ H,⟨kvs.length,by simp,fk _,h0⟩,?_⟩;rintro i m σ H ⟨rfl,hi,q⟩
 by_cases hlt:i<kvs.length
 .refine .inr ⟨⟨hl i σ H q,hlt⟩,Pv (i+1),λσ' H' p'=>⟨kvs.length - (i+1),by lia,rfl,hlt,p'⟩,λx H' y=> ?_⟩;obtain⟨rfl,k,v,e,rfl⟩:=y;exact hs i k v σ _ e q
 .have e:i=kvs.length:=by lia
  subst e;exact .inl ⟨⟨hl _ σ H q,au _⟩,hd σ H q⟩
end
def U0(R:It->Hp->Prop):VK:=λx H1=>∃a kvs,x= .ref a/\H1 a=some (.dK kvs)/\∀o,R (Itk a o kvs) (upd H1 a (.frz o (.dK kvs)))
def Q4(R:It->Hp->Prop):VK:=λx H1=>∃a kvs,x= .ref a/\H1 a=some (.dT kvs)/\∀o,R (Itj a o kvs) (upd H1 a (.frz o (.dT kvs)))
def Y1(Q:VK)(y:V):VK:=λx H2=>∃a o,x= .ref a/\DGet H2 a y o/\Q (.bl o.isSome) H2
def GM(Q:VK)(y:V):VK:=λx H2=>∃a o,x= .ref a/\DGet H2 a y o/\Q (.bl (!o.isSome)) H2
def WB(σ:St)(ty tx:TE)(Q:VK):VK:=λx H1=>∃a,x= .ref a/\IsD H1 a/\ty σ H1 λy H2=>tx σ H2 λz H3=>∃o,DGet H3 a y o/\Q (o.getD z) H3
def aE9(a:Addr)(Q:VK)(y:V):VK:=λz H3=>∃o,DGet H3 a y o/\Q (o.getD z) H3
section
variable {R:It->Hp->Prop}{ty:TE}
theorem W8(h:td σ H (U0 R)):XB td σ H R:=h
theorem SG(h:td σ H (Q4 R)):RA td σ H R:=h
theorem NV(e:H p=some (.dK kvs))(h:∀o H',SameBut p H H'->H' p=some (.frz o (.dK kvs))->R (Itk p o kvs) H'):U0 R (.ref p) H:=⟨p,kvs,rfl,e,λo=>h o _ SameBut.upd aR⟩
theorem z9{kvs:List (List Key×V)}(e:H p=some (.dT kvs))(h:∀o H',SameBut p H H'->H' p=some (.frz o (.dT kvs))->R (Itj p o kvs) H'):Q4 R (.ref p) H:=⟨p,kvs,rfl,e,λo=>h o _ SameBut.upd aR⟩
theorem aEi(h:ty σ H λy H1=>td σ H1 (Y1 Q y)):aDU ty td σ H Q:=h
theorem VB(h:ty σ H λy H1=>td σ H1 (GM Q y)):QL ty td σ H Q:=h
theorem aB1(e:Rd H p (.dK kvs))(h:Q (.bl (bA kvs (.inr z)).isSome) H):Y1 Q (.str z) (.ref p) H:=⟨p,_,rfl,.inl ⟨kvs,.inr z,e,rfl,rfl⟩,h⟩
theorem FE(e:Rd H p (.dK kvs))(h:Q (.bl (!(bA kvs (.inr z)).isSome)) H):GM Q (.str z) (.ref p) H:=⟨p,_,rfl,.inl ⟨kvs,.inr z,e,rfl,rfl⟩,h⟩
theorem x9(e:H p=some (.dK kvs))(hl:kvs.length<sizeLine)(h:∀H',SameBut p H H'->H' p=some (.dK (cJ kvs (.inr z) v))->nx σ H'):K5 nx σ (.ref p) v (.str z) H :=
 ⟨p,_,rfl,DPut.k (k:= .inr z) e hl,h _ SameBut.upd aR⟩
theorem iX(e:Rd H p (.dK kvs))(hv:bA kvs (.inr z)=some v)(h:Q v H):LB Q (.ref p) (.str z) H:=⟨p,v,rfl,.inl ⟨kvs,.inr z,e,rfl,hv.symm⟩,h⟩
theorem YO(h:∀p H',H p=none->Same H H'->H' p=some (.dK [])->Q (.ref p) H'):WX σ H Q:=gE h
theorem YH(h:td σ H (WB σ ty tx Q)):XM td ty tx σ H Q:=h
theorem WH{kvs:List (List Key×V)}(e:H p=some (.dT kvs))(h:ty σ H λy H2=>tx σ H2 (aE9 p Q y)):WB σ ty tx Q (.ref p) H:=⟨p,rfl,.inr ⟨kvs,.inl e⟩,h⟩
theorem ZK{z:V}{kvs:List (List Key×V)}(k:List Key)(e:H p=some (.dT kvs))(eb:H b=some (.tup (k.map kV)))(h:Q ((bA kvs k).getD z) H):aE9 p Q (.ref b) z H:=⟨_,DGet.t e eb,h⟩
theorem ZC{ps:List (Key×V)}(e:H p=some (.lst vs))(r:LC H vs ps)(h:∀l H',H l=none->Same H H'->H' l=some (.dK (lZ [] ps))->Q (.ref l) H'):VL [.ref p] H Q:=⟨p,vs,ps,rfl,.inl e,r,gE h⟩
theorem MO{rs:List (List Key)}(e:SqL K H p vs)(kr:KRows H vs rs)(hl:vs.length<64)(hs:∀r∈rs,r.map fK=sh)(hn:sh≠[])(h:∀l ws H',H l=none->Same H H'->H' l=some (.lst ws)->KRows H' ws (rP rs)->Q (.ref l) H'):QK K [.ref p] H Q :=
 ⟨p,vs,rs,sh,rfl,e,kr,hl,hs,hn,gE λl H' n S e=>h l _ H' n S e ((SV kr).same S)⟩
theorem D8{u:HO}(e:H p=some u)(nf:∀o x,u≠ .frz o x)(h:te σ H λx=>i6 p (Q x)):aA1 te σ H Q:=⟨p,λo x z=>nf o x (by rw[e]at z;exact dq z),h⟩
theorem ZQ{ts:TS}{bk:St->Hp->Prop}{u:HO}(e:H p=some u)(nf:∀o x,u≠ .frz o x)(h:ts ⟨λσ'=>i6 p (nx σ'),λv=>i6 p (rt v),λσ'=>i6 p (bk σ'),λσ'=>i6 p (ct σ')⟩ σ H):aA9 ts ⟨nx,rt,bk,ct⟩ σ H :=
 ⟨p,λo x z=>nf o x (by rw[e]at z;exact dq z),h⟩
theorem u5{u:HO}{R:Hp->Prop}(e:H p=some (.frz o u))(h:∀H',SameBut p H H'->H' p=some u->R H'):i6 p R H:=⟨o,u,e,h _ SameBut.upd aR⟩
theorem V7{Hf:Hp}{u:HO}(e:H p=some u)(a:SameBut p H Hf)(b:SameBut p Hf H1)(c:SameBut p H1 H2)(e2:H2 p=some u):Same H H2:=λx o z=>by
 by_cases hx:x=p
 .subst hx;rw[e]at z;cases z;exact e2
 .exact c x o (b x o (a x o z hx) hx) hx
end
theorem A3{f:Str}(he:PE X e ta)(hb:jq e f X.env (eval e X.env)=eval e X.env)(hK:X.K=K:=by rfl):PE X (.Attribute e f pos) (ZY K ta f):=by
 subst hK;exact aH he hb
theorem SL(hK:X.K=K:=by rfl):OpR X (gu .In) (rIn K false):=by
 subst hK;exact VS
theorem lP{xs:List α}(F:V->α->Prop)(c:α->Bool)(P:α->V->Hp->Prop)(hm:∀x y H1 H2,P x y H1->Same H1 H2->P x y H2)(hn:xs.length<=sizeLine)(hr:ci.map (λi=>(σ[i]?).join)=rest)(hl:SqL K H a vs)(hv:bo F vs xs)
  (ht:∀v x H1,F v x->x∈xs->Same H H1->∀R:Bool->Hp->Prop,(∀H2,Same H1 H2->R (c x) H2)->ti (some v::rest) H1 R)
  (he:∀v x H1,F v x->x∈xs->c x=true->Same H H1->∀R:VK,(∀y H2,P x y H2->Same H1 H2->R y H2)->te (some v::rest) H1 R)
  (hf:∀ys H1,Same H H1->bo (λx y=>P x y H1) (xs.filter c) ys->fin ys H1):dR (Itl K a) (cG 0) ti te (cB 1 ci σ) fin H:=by
 rw[AE hr];have hlen:vs.length=xs.length:=bx hv;refine oB xs c P hm hn (λi H1 s hi=>⟨vs,vs[i],s.seq hl,ao (by lia)⟩) (λH1 s=>⟨vs,s.seq hl,by lia⟩) (λi x H1 hx s1 v H' y=> ?_) hf;obtain⟨rfl,e2⟩:=y;have ev:=e2 vs (s1.seq hl);have hF:=Paired.at2 hv ev hx;have hmem:=ba hx;refine⟨Same.refl _,some v::rest,rfl,λj v hv=> ?_,λR h=>h,λR h=>ht v x _ hF hmem s1 R h,λhc H2 s2 R h=>he v x H2 hF hmem hc (s1.trans s2) R h⟩;cases j with
 | zero=>cases hv
 | succ j=>exact hv
theorem lT{f:α->V}:∀{l:List α}{ys:List V},bo (λx y=>y=f x) l ys->ys=l.map f
 | _,_,.nil=>rfl
 | _,_,.cons h t=>by rw[h,lT t];rfl
theorem dM(l:List α):l.filter (λ_=>true)=l:=by simp
theorem aEX{ss:List Str}(e:SqL K H p (ss.map V.str))(h:Q (.bl (decide (z∈ss))) H):rIn K false (.str z) (.ref p) H Q:=by
 refine⟨p,_,rfl,.inl e,rfl,?_,?_⟩
 .rw[jt];intro x hx;obtain⟨y,_,rfl⟩:=ag.mp hx;rfl
 .have e2:inV (.str z) (ss.map V.str)=decide (z∈ss):=by
   rw[mi,decide_eq_true_eq];unfold inV;rw[List.any_eq_true]
   constructor
   .rintro ⟨x,hx,h⟩;obtain⟨y,hy,rfl⟩:=ag.mp hx;have:y=z:=by simpa [eqV] using h
    rw[←this];exact hy
   .intro h;exact⟨.str z,ag.mpr ⟨z,h,rfl⟩,by simp[eqV]⟩
  show Q (.bl (inV (.str z) (ss.map V.str))) H;rw[e2];exact h
abbrev cT:=Int×Str×Int
def bV(t:Int)(n:Str):List Key:=[.inl t,.inr n]
def mQ(r:cT):List Key:=[.inl r.1,.inr r.2.1,.inl r.2.2]
def K9:V->Int
 | .int i=>i
 | _=>0
def NN(kvs:List (List Key×V))(r:cT):List (List Key×V):=cJ kvs (bV r.1 r.2.1) (.int (K9 ((bA kvs (bV r.1 r.2.1)).getD (.int 0))+r.2.2))
def jY(rows:List cT):List (List Key×V):=rows.foldl NN []
theorem pM(rows:List cT)(r:cT):jY (rows++[r])=NN (jY rows) r:=by unfold jY;rw[tm];rfl
def rE(rows:List cT)(t:Int)(n:Str):Int:=((rows.filter λr=>decide (r.1=t)&&decide (r.2.1=n)).map (·.2.2)).sum
theorem R7(rows:List cT)(r:cT)(t:Int)(n:Str):rE (rows++[r]) t n=rE rows t n+if r.1=t/\r.2.1=n then r.2.2 else 0:=by
 unfold rE;rw[dy,aq,gr]
 congr 1
 by_cases h:r.1=t/\r.2.1=n
 .rw[if_pos h,cq (by simp[h])];simp
 .rw[if_neg h,ck (by simpa using h)];simp
theorem iW{t t':Int}{n n':Str}(h:bV t n=bV t' n'):t=t'/\n=n':=by
 unfold bV at h;injection h with h1 h2;injection h2 with h2;exact⟨oz h1,jw h2⟩
theorem A9{P:List α->Prop}(h0:P [])(hs:∀l a,P l->P (l++[a]))(l:List α):P l:=by
 have:∀m:List α,P m.reverse:=λm=>by
  induction m with
  | nil=>exact h0
  | cons a m ih=>rw[List.reverse_cons];exact hs _ _ ih
 rw[←List.reverse_reverse l];exact this _
theorem MF(t:Int)(n:Str)(rows:List cT):K9 ((bA (jY rows) (bV t n)).getD (.int 0))=rE rows t n:=by
 induction rows using A9 with
 | h0=>rfl
 | hs l r ih =>
  rw[pM,R7];unfold NN;rw[DW]
  by_cases e:bV t n=bV r.1 r.2.1
  .obtain⟨rfl,rfl⟩:=iW e;rw[if_pos rfl,if_pos ⟨rfl,rfl⟩,←ih];rfl
  .rw[if_neg e,if_neg (λh=>e (by rw[h.1,h.2])),ih];lia
theorem VA [DecidableEq κ]{kvs:List (κ×V)}{k:κ}(nd:(kvs.map (·.1)).Nodup):((cJ kvs k v).map (·.1)).Nodup:=by
 unfold cJ
 split
 .have e:(kvs.map λkv=>if kv.1=k then (kv.1,v) else kv).map (·.1)=kvs.map (·.1):=by
   rw[du]
   apply gy
   intro x _;show (if x.1=k then (x.1,v) else x).1=x.1
   split<;>rfl
  rw[e];exact nd
 .rename_i h;rw[aq];refine nd_snoc nd λhk=>h ?_;obtain⟨x,hx,e⟩:=ag.mp hk;rw[List.any_eq_true];exact⟨x,hx,decide_eq_true e⟩
theorem gB [DecidableEq κ]:∀{kvs:List (κ×V)}{e:κ×V},(kvs.map (·.1)).Nodup->e∈kvs->bA kvs e.1=some e.2
 | a::l,e,nd,h=>by
  have nd':=List.pairwise_cons.mp nd;rcases aw.mp h with rfl|h
  .exact dN rfl
  .rw[dL (nd'.1 e.1 (ag.mpr ⟨e,h,rfl⟩))];exact gB nd'.2 h
theorem uY [DecidableEq κ]{kvs:List (κ×V)}{k:κ}(h:bA kvs k=some v):(k,v)∈kvs:=by
 unfold bA at h;obtain⟨x,hx,e⟩:=cj.mp h;have h1:=List.find?_some hx;have h2:=se hx;have h3:x.1=k:=of_decide_eq_true h1;rw[←h3,←e];exact h2
def aGi(kvs:List (List Key×V)):Prop:=(kvs.map (·.1)).Nodup/\∀e∈kvs,∃t n i,e=(bV t n,.int i)
theorem lW(rows:List cT):aGi (jY rows):=by
 induction rows using A9 with
 | h0=>exact⟨nh,λe h=>nomatch h⟩
 | hs l r ih =>
  rw[pM];refine⟨VA ih.1,λe he=> ?_⟩;rcases YN he with h|⟨h1,h2⟩
  .exact ih.2 e h
  .exact⟨_,_,_,Prod.ext h1 h2⟩
theorem aAf(rows:List cT)(t:Int)(n:Str):∃i,(bA (jY rows) (bV t n)).getD (.int 0)= .int i:=by
 cases h:bA (jY rows) (bV t n) with
 | none=>exact⟨0,rfl⟩
 | some v =>
  obtain⟨t',n',i,e⟩:=(lW rows).2 _ (uY h);cases e;exact⟨i,rfl⟩
theorem DC(rows:List cT):(jY rows).length<=rows.length:=by
 induction rows using A9 with
 | h0=>exact au _
 | hs l r ih =>
  rw[pM,ak];exact ee (kI _ _ _) (by simp;lia)
def Z5(e:List Key×V):Bool:=decide (0<K9 e.2)
def RT(e:List Key×V):List Key:=e.1++[.inl (K9 e.2)]
def g6(rows:List cT):List (List Key):=((jY rows).filter Z5).map RT
theorem mem_told{rows:List cT}{k:List Key}:k∈g6 rows↔∃t n,k=mQ (t,n,rE rows t n)/\0<rE rows t n:=by
 unfold g6
 constructor
 .intro h;obtain⟨e,he,rfl⟩:=ag.mp h;obtain⟨h1,h2⟩:=cu.mp he;obtain⟨t,n,i,rfl⟩:=(lW rows).2 e h1;have hv:=gB (lW rows).1 h1;have ht:=MF t n rows;rw[hv]at ht;have ht':i=rE rows t n:=ht;refine⟨t,n,?_,?_⟩
  .rw[←ht'];rfl
  .rw[←ht'];exact of_decide_eq_true h2
 .rintro ⟨t,n,rfl,h⟩;have ht:=MF t n rows;cases hv:bA (jY rows) (bV t n) with
  | none =>
   rw[hv]at ht;have:(0:Int)=rE rows t n:=ht
   lia
  | some v =>
   have hm:=uY hv;obtain⟨t',n',i,e⟩:=(lW rows).2 _ hm;obtain⟨e1,e2⟩:=Prod.mk.inj e;subst e2;rw[hv]at ht;have ht':i=rE rows t n:=ht;refine ag.mpr ⟨(bV t n,.int i),cu.mpr ⟨hm,?_⟩,?_⟩
   .show decide (0<i)=true;rw[ht'];exact decide_eq_true h
   .rw[ht'];rfl
theorem T4(rows:List cT):∀r∈g6 rows,r.map fK=[true,false,true]:=λr hr=>by
 obtain⟨t,n,rfl,_⟩:=mem_told.mp hr;rfl
theorem aDd:rm (.type "dict") "__len__" =pure (some (.builtin "dict.__len__")):=by rw[vg,og];kernel_rfl
section
variable {d:Addr}[DecidableEq κ]{knd:KeyKind prog w κ}{ps:List (κ×ah)}
theorem V0(T:s.TypeIs (.ref d) "dict"){Q:Bool->bb->Prop}(h:Q false s):bz (cg prog w) A (qo (.ref d)) Q E s:=by
 unfold qo;refine ae (vf T aDd ?_);generalize q:("dict.__len__" :String)=i0
 wp_delta
 rw[show splitId i0=some ("dict","__len__") from by subst q;decide +kernel];subst q;refine ae (jv (T:= "dict") (b:=true) T (by rw[isSubtype_type];kernel_rfl) (vh (λz=>absurd z (by decide)) (λ_=>vh (λ_=> ?_) (λz=>absurd (by decide +kernel) z))));exact ae (qm T (av h))
theorem P0(hh:A.handled=none)(hm:s.heap.DictAt knd d ps ep)(hd0:(d==ib)=false)(S:Addr)(hSd:S≠d)(c0:Nat)(hS:s.heap.get? S=some { cls:= .type "list",data:= .seq #[] c0 })(hn:ps.length<=sizeLine)
  (k:∀h' tk acc c,(∀b o,b≠S->s.heap.get? b=some o->h'.get? b=some o)->h'.get? S=some { cls:= .type "list",dict:=none,data:= .seq acc c,slots:= #[] }->ItemsOf (λi v=>∃k x,ps[i]? =some (k,x)/\knd.is k v=true) acc ps.length->R (.ok (.ret .none)) { s with heap:=h',toks:=tk }) :
  bz (cg prog w) A.in1 (je (.ref S) (.ref d) .none) (λfin s'=>match fin with| .done f=>R (.ok f) s'| .again c'=>c'.quiet=true/\lu (cg prog w) A c' R s') (λe s'=>R (.error e) s') s:=by
 obtain⟨o,es,ho,hc,hq,hk,hp,hnd⟩:=id hm;have T:s.TypeIs (.ref d) "dict" :=⟨o,ho,hc.1⟩
 have lS:S<s.heap.objs.size:=bc hS;have ld:d<s.heap.objs.size:=bc ho;have hsz:es.size=ps.length:=by rw[←hp.length];simp
 have W:=(Walks.dictKeys (prog:=prog) (w:=w) (knd:=knd) (A:=A.in1) hh s.heap.objs.size d (cf ld) ps ep).toS;have run:∀(h:Heap) (c1 tk:Nat),h.IsKeyIter s.heap.objs.size d 0 ps.length ep->(∀b u,b≠S->s.heap.get? b=some u->h.get? b=some u)->h.get? S=some { cls:= .type "list",data:= .seq #[] c1 } →
   lu (cg prog w) A (.builtin "list.extend.loop" ⟨[.ref S,.ref s.heap.objs.size,.none],[]⟩) R { s with heap:=h,toks:=tk }:=by
  intro h c1 tk hit kp hS1;refine codeAny_extend_loopS W hn S (by simp only[aw,fz,or_false,not_or];exact⟨cf lS,hSd⟩) .none ps.length 0 _ #[] c1 rfl (fk _) ⟨hit,o,es,kp d o (eh hSd) ho,hc,hq,hk,hp,hnd⟩ hS1 (ItemsOf.nil _) λs' acc c' mv hS2 hacc=> ?_;rw[Moved.eq_with mv];refine k s'.heap s'.toks acc c' (λb u hb e=>mv.heap b u (λz=> ?_) (kp b u hb e)) hS2 hacc;rcases aw.mp z with z|z
  .exact hb z
  .have:=bc e;rw[bq.mp z]at this;exact eg _ this
 unfold je;refine ae (qm (T:= "dict") T ?_);simp only[show ud (.ref S) (.ref d)=false by simp[ud,hSd],show (mn "dict" ==mn "list")=false by decide,show (mn "dict" ==mn "tuple")=false by decide,Bool.or_false,fw,if_false];refine ae (OI hd0 ho hc hq ?_);have hS1:=aj { cls:= .type "dict_keyiterator",data:= .fields #[.ref d,.int 0 0,.int es.size 0,.int ep 0] } hS;refine ae (gb (V0 ⟨o,aj _ ho,hc.1⟩ ?_));have hit:(s.heap.push { cls:= .type "dict_keyiterator",data:= .fields #[.ref d,.int 0 0,.int es.size 0,.int ep 0] }).IsKeyIter s.heap.objs.size d 0 ps.length ep:=⟨_,bg _ rfl,rfl,by rw[hsz];rfl⟩
 refine vh (λz=> ?_) (λ_=>av ⟨uc F.plain_extend_loop _,run _ c0 _ hit (λb u _ e=>aj _ e) hS1⟩);refine ae (wpAny_rule (ae ?_));show bz _ A.in1 (updateSeq S (·.push .none) >>= λ_=>updateSeq S (·.pop)) _ _ _;have u1:=iu (iw (·.push ft)) hS1 rfl;have u2:=iu (iw (·.pop)) u1 rfl;refine ae (vi hS1 rfl (vi (hz:=by seq_fits) u1 rfl (av ⟨uc F.plain_extend_loop _,run _ _ _ ?_ (λb u hb e=> ?_) u2⟩)))
 .exact hit.at λu e=>(gc _ _ (cf lS)).trans ((gc _ _ (cf lS)).trans e)
 .exact(gc _ _ (eh hb)).trans ((gc _ _ (eh hb)).trans (aj _ e))
theorem W9{Q:ah->bb->Prop}(hh:A.handled=none)(hm:s.heap.DictAt knd d ps ep)(hd0:(d==ib)=false)(hn:ps.length<=sizeLine)
  (k:∀h' tk acc c,(∀b o,s.heap.get? b=some o->h'.get? b=some o)->h'.get? s.heap.objs.size=some { cls:= .type "list",dict:=none,data:= .seq acc c,slots:= #[] }->ItemsOf (λi v=>∃k x,ps[i]? =some (k,x)/\knd.is k v=true) acc ps.length->Q (.ref s.heap.objs.size) { s with heap:=h',toks:=tk }) :
  bz (cg prog w) A (call (.type "list") [.ref d]) Q E s:=by
 refine callType_codes (Q₁:=λx s1=>x= .ref s.heap.objs.size/\s1={ s with heap:=s.heap.push { cls:= .type "list",data:= .seq #[] } }) F.called_list (F.typeCall_list_1 _) F.entry_list_init (code_list_new _ ⟨rfl,rfl⟩) ?_;rintro x s1 ⟨rfl,rfl⟩;have hS:(s.heap.push { cls:= .type "list",data:= .seq #[] }).get? s.heap.objs.size=some { cls:= .type "list",data:= .seq #[] }:=bg _ rfl;have hm1:(s.heap.push { cls:= .type "list",data:= .seq #[] }).DictAt knd d ps ep:=hm.at' λo e=>aj _ e;have hdS:s.heap.objs.size≠d:=λz=>by
  obtain⟨o,_,ho,_⟩:=hm;have:=bc ho;rw[←z]at this;exact eg _ this
 refine⟨⟨_,hS,rfl⟩,F.args_list_init_2 _ _,?_⟩;show bz _ A.in1.in1 (vd (.ref s.heap.objs.size) >>= λold=>uo (.ref s.heap.objs.size) (λ_=> #[]) >>= λ_=>letGo old.toList.reverse >>= λ_=>je (.ref s.heap.objs.size) (.ref d) .none) _ _ _;refine ae ?_;unfold vd;refine ae (wpAny_seqItems hS rfl (av ?_));show bz _ A.in1.in1 (updateSeq s.heap.objs.size (λ_=> #[]) >>= λ_=>letGo (#[]:Array ah).toList.reverse >>= λ_=>je (.ref s.heap.objs.size) (.ref d) .none) _ _ _;have u1:=iu (iw (λ_=>(#[]:Array ah))) hS rfl;have kp:∀b o,b≠s.heap.objs.size->(s.heap.push { cls:= .type "list",data:= .seq #[] }).get? b=some o->((s.heap.push { cls:= .type "list",data:= .seq #[] }).update s.heap.objs.size (iw (λ_=>(#[]:Array ah)))).get? b=some o:=λb o hb e=>(gc _ _ (eh hb)).trans e;refine ae (vi hS rfl (ae (wpAny_letGo ?_)));refine P0 (A:=A.in1) hh (hm1.at' λo e=>kp d o (eh hdS) e) hd0 _ hdS _ u1 hn λh' tk acc c kk hS' hacc=> ?_;exact⟨rfl,k h' tk acc c (λb o e=>kk b o (cf (bc e)) (kp b o (cf (bc e)) (aj _ e))) hS' hacc⟩
end
def XH:List V->Hp->VK->Prop:=λxs H Q=>∃p kvs,xs=[.ref p]/\Rd H p (.dK kvs)/\∀l,H l=none->Q (.ref l) (upd H l (.lst (kvs.map λe=>kV e.1)))
theorem KF{rs:List (Key×ah)}(r:KV kvs rs){acc:Array ah}(h:ItemsOf (λi v=>∃k x,rs[i]? =some (k,x)/\(bZ P w).is k v=true) acc rs.length):Vals (kvs.map λe=>kV e.1) acc.toList:=by
 have e0:acc.toList.length=rs.length:=by rw[ir];exact h.1
 refine MT (by rw[af,e0];exact r.length) λi x u h1 h2=> ?_;obtain⟨k,y,e1,e2⟩:=h.2 i u (by simpa using h2);rw[bu]at h1;obtain⟨e,he,rfl⟩:=cj.mp h1;have hi:i<kvs.length:=(ax.mp he).1;obtain⟨k',v',u',f1,f2,f3⟩:=MM r hi;rw[he]at f1;cases f1;rw[e1]at f2;cases f2;exact QW e2
theorem FO(hc:X.calm=true):dQ X (.type "list") XH:=by
 intro pins s σ H xs us Q I r h;obtain⟨p,kvs,rfl,hq,q⟩:=h;obtain⟨u,rfl,rx⟩:=mF r;cases rx;obtain⟨z,y,rs,kv,o,es,ep,h1,h2,h3,h4,h5,h6⟩:=pB I.hok hq;have hl:=kv.length;refine W9 (knd:=bZ X.prog X.w) (ps:=rs) (ep:=ep) (I.ok.hd hc) ⟨o,es,h1,h2,h3,h4,h5,h6⟩ y (by lia) λh' tk acc c kp hS hacc=> ?_;exact⟨.ref _,_,I.laid (t':=tk) kp (au _) (show ObjOk X.prog X.w _ h' _ (.lst (kvs.map λe=>kV e.1)) from⟨by rw[af];exact z,acc.toList,c,KF kv hacc,by rw[Array.toArray_toList];exact hS⟩),rfl,q _ (I.hok.fresh (au _))⟩
def A6(v d:Addr):HO:= .ext λh=>h.IsValuesView v d
def TL(Q:VK):VK:=λx H1=>∃a kvs,x= .ref a/\Rd H1 a (.dK kvs)/\∀v,H1 v=none->Q (.ref v) (upd H1 v (A6 v a))
def aAL(td:TE):TE:=λσ H Q=>td σ H (TL Q)
theorem SJ{l:Expr}(hl:PE X l td)(hbase:jq l "values" X.env (eval l X.env)=eval l X.env:=by rfl)(hline:(apos.endLine==cpos.line)=true:=by rfl):
  PE X (.Call (.Attribute l "values" apos) [] [] cpos) (aAL td):=by
 intro pins s σ H Q I h;refine mx hbase hline (thn (hl pins s σ H _ I h) ?_);rintro v s1 ⟨x,H1,I1,r1,q1⟩;obtain⟨a,kvs,rfl,hq,q⟩:=q1;cases r1;obtain⟨t1,t2,_⟩:=MQ I1 (.inl ⟨kvs,hq⟩);refine⟨"dict","dict.values",F.plainAttrs_dict,F.slot_dict_values,F.type_dict_values,t1,t2,jd rfl (ql ?_)⟩;obtain⟨z,y,vs,r,o,es,ep,h1,h2,h3,h4,h5,h6⟩:=pB I1.hok hq;refine call_meetsIn F.slot_dict_values t1 F.entry_dict_values (F.args_dict_values_1 _) (meets_dict_values (bZ X.prog X.w) a y) ⟨⟨vs,o,es,ep,h1,h2,h3,h4,h5,h6⟩,?_⟩;have hv:(s1.heap.push { cls:= .type "dict_values",data:= .fields #[.ref a] }).IsValuesView s1.heap.objs.size a:=⟨_,bg _ rfl,rfl,rfl⟩
 refine⟨.ref s1.heap.objs.size,_,I1.laid (t':=s1.toks) (λb u e=>aj _ e) (au _) (show ObjOk X.prog X.w _ _ _ (A6 s1.heap.objs.size a) from⟨hv,⟨_,bg _ rfl⟩,λg1 g2 p k=> ?_⟩),rfl,q _ (I1.hok.fresh (au _))⟩;obtain⟨o,e,c⟩:=p;exact⟨o,k o e,c⟩
theorem LQ(ns:List Int):∀j,j<=ns.length->preSum (λi=>ns.getD i 0) j=(ns.take j).sum
 | 0,_=>by simp[preSum]
 | j+1,h=>by
  rw[preSum,LQ ns j (by lia),nj,ao (by lia),gr];rw[bj,ao (by lia)];simp
theorem aB0(ns:List Int):preSum (λi=>ns.getD i 0) ns.length=ns.sum:=by rw[LQ ns _ (au _),cp]
def aAO:List V->Hp->VK->Prop:=λxs H Q=>∃(v d:Addr) (kvs:List (Key×V)) (ns:List Int),xs=[.ref v]/\H v=some (A6 v d)/\Rd H d (.dK kvs)/\kvs.map (·.2)=ns.map V.int/\Q (.int ns.sum) H
theorem WL(hc:X.calm=true):dQ X (.builtin "sum") aAO:=by
 intro pins s σ H xs us Q I r h;obtain⟨v,d,kvs,ns,rfl,hv,hq,hns,q⟩:=h;obtain⟨u,rfl,rx⟩:=mF r;cases rx;obtain⟨hview,_,_⟩:=(show ObjOk X.prog X.w H s.heap v (A6 v d) from I.hok v _ hv)
 have hview:s.heap.IsValuesView v d:=hview;obtain⟨z,y,rs,kv,o,es,ep,h1,h2,h3,h4,h5,h6⟩:=pB I.hok hq;have hl:=kv.length;have hln:kvs.length=ns.length:=by have:=congrArg lh hns;rwa [af,af]at this
 have ld:d<s.heap.objs.size:=bc h1;have hm:s.heap.DictAt (bZ X.prog X.w) d rs ep:=⟨o,es,h1,h2,h3,h4,h5,h6⟩
 refine call_sum_walkG (wpAny_pyIter_values hview hm ?_);refine⟨s.heap.objs.size,_,_,rs.length,_,_,λi=>ns.getD i 0,rfl,Walks.dictValues (knd:=bZ X.prog X.w) (show X.A.in1.handled=none from I.ok.hd hc) s.heap.objs.size d (cf ld) rs ep,⟨⟨_,bg _ rfl,rfl,rfl⟩,hm.at' λo e=>aj _ e⟩,?_,?_,?_⟩
 .intro b hb;simp only[aw,fz,or_false]at hb;have hsz:(s.heap.push { cls:= .type "dict_valueiterator",data:= .fields #[.ref d,.int 0 0,.int rs.length 0,.int ep 0] }).objs.size=s.heap.objs.size+1:=by simp[Heap.push]
  rcases hb with rfl|rfl
  .show s.heap.objs.size<_;rw[hsz];exact lx _
  .show b<_;rw[hsz];exact sk ld
 .rintro i u ⟨kk,hk⟩;have hi:i<kvs.length:=by rw[hl];exact(ax.mp hk).1
  obtain⟨k',v',u',f1,f2,f3⟩:=MM kv hi;rw[hk]at f2;cases f2;have e1:(kvs.map (·.2))[i]? =some v':=by rw[bu,f1];rfl
  rw[hns,bu]at e1;obtain⟨n,hn,rfl⟩:=cj.mp e1;obtain⟨t,rfl⟩:=f3;refine⟨t,?_⟩;show lq n t=lq (ns.getD i 0) t;rw[bj,hn];rfl
 .intro h' tk t' hk;have e2:preSum (λi=>ns.getD i 0) rs.length=ns.sum:=by
   rw[←hl,hln];exact aB0 ns
  rw[e2];have I1:Inv X pins σ H { s with heap:=s.heap.push { cls:= .type "dict_valueiterator",data:= .fields #[.ref d,.int 0 0,.int rs.length 0,.int ep 0] },toks:=s.toks }:=I.kept λb u e=>aj _ e;obtain⟨f0,f1,f2,f3,f4,f5⟩:=I.fpOk (au _) (I.hok.fresh (au _));exact⟨.int ns.sum,H,I1.turned (λb o hb e=>hk b o (by simpa using hb) e) f0 f1 f3 f4 f5,⟨t',rfl⟩,q⟩
def aEF(σ:St)(tv:TE)(rd:V->V->Hp->VK->Prop)(nx:St->Hp->Prop)(x:V):VK:=λy H2=>∃a v,x= .ref a/\DGet H2 a y (some v)/\tv σ H2 λy2 H3=>rd v y2 H3 λz H4=>∃H5,DPut H4 a y z H5/\nx σ H5
def aD6(σ:St)(p:Addr)(k:V)(nx:St->Hp->Prop):VK:=λz H4=>∃H5,DPut H4 p k z H5/\nx σ H5
section
variable {ty:TE}{bk:St->Hp->Prop}{R:It->Hp->Prop}
theorem aCD(h:td σ H λx H1=>ty σ H1 (aEF σ tv rd nx x)):aBc td ty tv rd ⟨nx,rt,bk,ct⟩ σ H:=h
theorem YA(e:Rd H p (.dK kvs))(hv:bA kvs (.inr z)=some v)(h:tv σ H λy2 H3=>rd v y2 H3 (aD6 σ p (.str z) nx)):aEF σ tv rd nx (.ref p) (.str z) H:=⟨p,v,rfl,.inl ⟨kvs,.inr z,e,rfl,hv.symm⟩,h⟩
theorem A8(e:H p=some (.dK kvs))(hl:kvs.length<sizeLine)(h:∀H',SameBut p H H'->H' p=some (.dK (cJ kvs (.inr z) v))->nx σ H'):aD6 σ p (.str z) nx v H:=⟨_,DPut.k (k:= .inr z) e hl,h _ SameBut.upd aR⟩
theorem ON(e:Rd H p (.dK kvs))(h:∀l H',H l=none->Same H H'->H' l=some (.lst (kvs.map λe=>kV e.1))->Q (.ref l) H'):XH [.ref p] H Q:=⟨p,kvs,rfl,e,gE h⟩
theorem JM{l:Addr}{zs:List V}(e:H l=some (.lst xs))(e2:H b=some (.lst zs))(hz:xs.length+zs.length<=sizeLine)(h:∀H',SameBut l H H'->H' l=some (.lst (xs++zs))->Q .non H'):RB (.ref l) [.ref b] H Q:=⟨l,b,xs,zs,rfl,rfl,e,e2,hz,h _ SameBut.upd aR⟩
theorem aCo(h:td σ H (TL Q)):aAL td σ H Q:=h
theorem YV(e:Rd H a (.dK kvs))(h:∀v H',H v=none->Same H H'->H' v=some (A6 v a)->Q (.ref v) H'):TL Q (.ref a) H :=
 ⟨a,kvs,rfl,e,λv hv=>h v _ hv (same_upd hv) aR⟩
theorem aCa{v d:Addr}{ns:List Int}(e:H v=some (A6 v d))(e2:Rd H d (.dK kvs))(hn:kvs.map (·.2)=ns.map V.int)(h:Q (.int ns.sum) H):aAO [.ref v] H Q:=⟨v,d,kvs,ns,rfl,e,e2,hn,h⟩
end
def cC(ps:List (Str×Int))(z:Str):Int:=((ps.filter λp=>decide (p.1=z)).map (·.2)).sum
theorem U5(ps:List (Str×Int))(p:Str×Int)(z:Str):cC (ps++[p]) z=cC ps z+if p.1=z then p.2 else 0:=by
 unfold cC;rw[dy,aq,gr]
 congr 1
 by_cases h:p.1=z
 .rw[if_pos h];simp[h]
 .rw[if_neg h];simp[h]
theorem XG{lo:Int}(P:Nat->V->Hp->Prop)(hm:∀x y H1 H2,P x y H1->Same H1 H2->P x y H2)(hn:n<=sizeLine)(hr:ci.map (λi=>(σ[i]?).join)=rest)
  (he:∀(i:Nat) H1,i<n->Same H H1->∀R:VK,(∀y H2,P i y H2->Same H1 H2->R y H2)->te (some (.int (lo+i))::rest) H1 R)
  (hf:∀ys H1,Same H H1->bo (λx y=>P x y H1) (fc n) ys->fin ys H1):dR (Itr lo n) (cG 0) DR te (cB 1 ci σ) fin H:=by
 rw[AE hr];refine oB (fc n) (λ_=>true) P hm (by rw[el];exact hn) (λi H1 s hi=>by rw[el]at hi;exact hi) (λH1 s=>by rw[el];exact au _) (λi x H1 hx s1 v H' y=> ?_) (λys H1 s1 h=>hf ys H1 s1 (by rw[dM]at h;exact h));obtain⟨rfl,rfl⟩:=y;obtain⟨hi,e⟩:=ax.mp hx;rw[el]at hi;rw[List.getElem_range]at e;subst e;refine⟨Same.refl _,some (.int (lo+(i:Nat)))::rest,rfl,λj v hv=> ?_,λR h=>h,λR h=>h _ (Same.refl _),λhc H2 s2 R h=>he i H2 hi (s1.trans s2) R h⟩;cases j with
 | zero=>cases hv
 | succ j=>exact hv
section
variable {d v:Addr}{es:Array lz}
end
theorem D1(h:X.K=K:=by rfl):IxR X (AM K):=by subst h;exact aW
section
variable {o:Expr}{t:TA}
theorem WW(k:Nat){pl:Sem Bool}(hr:Room k' X.A)(ho:PE X o ta)(ha:PA X (e::es) t)(hk:k<=k':=by decide)(hst:dg (e::es) X.env=(false,eval e X.env)::dg es X.env:=by rfl)(hpl:(jk pos (dg es X.env)).any (·.1)=false:=by rfl)
  (ht:eval (.Call (.Attribute o m apos) (e::es) [] pos) X.env=(do let ov ←eval o X.env;wg apos.atName;let (f,first) ←holding [ov] (qu ov m pl);callWith pos f first (jk pos (dg (e::es) X.env)) (uj pos (my [] X.env))):=by rfl)
  (h1:X.prog=P:=by rfl)(h2:X.w=w:=by rfl)(h3:X.K=K:=by rfl)(h4:X.mg=mg:=by rfl)(h5:X.base=base:=by rfl):PE X (.Call (.Attribute o m apos) (e::es) [] pos) (tMD (λC sp=>Mc P w K mg base C m k sp) m ta t):=by
 subst h1 h2 h3 h4 h5;exact cP k hr ho ha hk hst hpl ht
end
theorem Room.units9{k:Nat}(r:Room k A):A.units+9<rg:=by have:=r.un;have:rg=9900:=rfl;lia
section
variable {ty:TE}
end
def SameT(H H':Hp):Prop:=∀b u,H b=some u->(∀ps,u≠ .tbl ps)->H' b=some u
theorem SameT.refl(H:Hp):SameT H H:=λ_ _ e _=>e
theorem Same.t(s:Same H H'):SameT H H':=λb u e _=>s b u e
theorem SameT.trans(s:SameT H H1)(t:SameT H1 H2):SameT H H2:=λb u e n=>t b u (s b u e n) n
theorem SameT.snoc(s:SameT H H1)(a:Same H1 H2):SameT H H2:=λb u e n=>a b u (s b u e n)
theorem SameT.seq(T:SameT H H')(h:SqL K H a xs):SqL K H' a xs:=by
 rcases h with (h|⟨o,h⟩)|h
 .exact .inl (.inl (T _ _ h λps z=>by cases z))
 .exact .inl (.inr ⟨o,T _ _ h λps z=>by cases z⟩)
 .exact .inr h
theorem SameT.tup{H H':Hp}{a:Addr}{xs:List V}(T:SameT H H')(h:H a=some (.tup xs)):H' a=some (.tup xs):=T _ _ h λps z=>by cases z
theorem SameT.lst{H H':Hp}{a:Addr}{xs:List V}(T:SameT H H')(h:H a=some (.lst xs)):H' a=some (.lst xs):=T _ _ h λps z=>by cases z
def TabS(H:Hp)(PL:Addr)(pos:Pos)(qual:Str):Prop:=H PL=some (.tbl #[])∨∃(c':Addr) (oc:Obj) (fv:Array ah) (t:Tok),H PL=some (.tbl #[jl pos.line,jl pos.col,.ref c'])/\H c'=some (kn oc)/\oc.data= .fields fv/\fv[1]? =some (.str qual t)
theorem TabS.same(x:TabS H PL pos qual)(s:Same H H'):TabS H' PL pos qual:=by
 rcases x with h|⟨c',oc,fv,t,h1,h2,h3⟩
 .exact .inl (s _ _ h)
 .exact .inr ⟨c',oc,fv,t,s _ _ h1,s _ _ h2,h3⟩
section
variable {y:Str}
def aFN(qual:Str)(args:qy)(body:Expr)(lsc:qi)(y:Str)(c PL:Addr)(pos:Pos):TE:=λ_ H Q=>TabS H PL pos qual ∧
 ∀F fd H',H F=none->LamAt H' F fd qual args body lsc y c->SameT H H'->TabS H' PL pos qual->Q (.ref F) H'
theorem aCV(hcode:X.env.code= .ref cL)(C:W.CodeHd X.base cL PL)(B:X.base.BuiltinsAt X.mg PL)(hcl:closureFor lsc X.env=pure [(y,c)])(hdef:defaultsOf args X.env=([],[]):=by rfl):
  PE X (.Lambda args body lsc pos) (aFN (X.env.qual++ "<lambda>") args body lsc y c PL pos):=by
 intro pins s σ H Q I h;obtain⟨hT,h⟩:=h;refine W.kla_eval hdef ?_;have hg:s.heap.Ns bh X.mg:=I.mod.glob.keeps I.bk;obtain⟨bm,ob,b1,b2,b3,b4,b5,b6⟩:=B;rcases hT with hP|⟨c',oc,fv,t,hP,hc',hd,hv⟩
 .have gP:s.heap.get? PL=some (W.tabObj #[]):=I.hok PL _ hP;have hgP:bh≠PL:=λq=>by
   obtain⟨o,es,ep,e,hd,_⟩:=hg;rw[q,gP]at e;cases e;cases hd
  refine W.kla_makeFunction (mg:=X.mg) (ps:= #[]) hcl I.ok.glob hg hcode (C.keeps I.bk) gP trivial rfl hgP ⟨bm,ob,b1,b2,b3,b4,I.bk _ _ b5,b6⟩ λc' ctv h' tk hx hge hlt hrec htb=> ?_;obtain⟨c₂,oc,fv,t,e2,hoc,hd,hv⟩:=hrec;cases e2;have hps:(#[]++ #[jl pos.line,jl pos.col,cy c']:Array ah)= #[jl pos.line,jl pos.col,cy c']:=wy;rw[hps]at htb;generalize hps2:(#[jl pos.line,jl pos.col,cy c']:Array ah)=ps' at htb;generalize hoF:W.kla_obj "<lambda>" (X.env.qual++ "<lambda>") args body lsc [(y,c)] ((X.mg "__name__").getD .none) c' ctv=oF;have pu:∀b o,h'.get? b=some o->(h'.push oF).get? b=some o:=λb o e=>aj _ e;have gF:(h'.push oF).get? h'.objs.size=some oF:=bg _ (by subst hoF;rfl);have nPc:PL≠c':=cf (bt (bc gP) hge);have ncF:c'≠h'.objs.size:=cf hlt;have nPF:PL≠h'.objs.size:=cf (bc htb);have ltc:∀b u,H b=some u->b≠c':=λb u e=>cf (bt (I.hok.lt e) hge);have ltF:∀b u,H b=some u->b≠h'.objs.size:=λb u e=>cf (xj (bt (I.hok.lt e) hge) hlt);have at0:∀b,b≠PL->b≠c'->b≠h'.objs.size->upd (upd (upd H PL (.tbl ps')) c' (kn oc)) h'.objs.size (kn oF) b=H b:=λb n1 n2 n3=>by rw[aK n3,aK n2,aK n1]
  have atP:upd (upd (upd H PL (.tbl ps')) c' (kn oc)) h'.objs.size (kn oF) PL=some (.tbl ps'):=by rw[aK nPF,aK nPc,aR]
  have atc:upd (upd (upd H PL (.tbl ps')) c' (kn oc)) h'.objs.size (kn oF) c'=some (kn oc):=by rw[aK ncF,aR]
  have atF:upd (upd (upd H PL (.tbl ps')) c' (kn oc)) h'.objs.size (kn oF) h'.objs.size=some (kn oF):=aR;generalize upd (upd (upd H PL (.tbl ps')) c' (kn oc)) h'.objs.size (kn oF)=H3 at at0 atP atc atF;have keepH:∀b u,H b=some u->(∀ps,u≠ .tbl ps)->H3 b=some u:=λb u e nt=>by
   rw[at0 b (λz=>by rw[z,hP]at e;cases e;exact nt _ rfl) (ltc b u e) (ltF b u e)];exact e
  have sz:∀b o,s.heap.get? b=some o->b≠c'/\b≠h'.objs.size:=λb o e =>
   ⟨cf (bt (bc e) hge),cf (xj (bt (bc e) hge) hlt)⟩
  have nP:∀b,H b=none->b≠PL:=λb n z=>by rw[z,hP]at n;cases n
  have I':Inv X pins σ H3 { s with heap:=h'.push oF,toks:=tk }:=by
   refine I.un ⟨λb o e n _ _=>pu b o (hx b o (nP b n) e),λb o e n _ _=>⟨o.slots,pu b o (hx b o (nP b n) e)⟩,λb o e n _=> ?_,λb o e _=> ?_,λb xs e=>keepH b _ e (λps z=>by cases z),λb o u e=>keepH b _ e (λps z=>by cases z),λb ps e=> ?_⟩ λb o e=> ?_
   .rw[at0 b (nP b n) (sz b o e).1 (sz b o e).2];exact n
   .by_cases hb:b=PL
    .subst hb;exact⟨_,pu _ _ htb⟩
    .exact⟨o,pu b o (hx b o hb e)⟩
   .by_cases hb:b=PL
    .subst hb;rw[hP]at e;cases e;exact⟨ps',by rw[atP,wy]⟩
    .refine⟨#[],?_⟩;rw[at0 b hb (ltc b _ e) (ltF b _ e),e,wz]
   .by_cases hF:b=h'.objs.size
    .subst hF;rw[atF]at e;cases e;exact LD gF
    by_cases hc':b=c'
    .subst hc';rw[atc]at e;cases e;exact LD (pu _ _ hoc)
    by_cases hb:b=PL
    .subst hb;rw[atP]at e;cases e;exact pu _ _ htb
    rw[at0 b hb hc' hF]at e;refine(I.hok b o e).stay (λd u hd' q=>pu d u (hx d u ?_ q)) (λd q=>keepH d _ q λps z=>by cases z) λd xs q=>keepH d _ q λps z=>by cases z
    rcases hd' with z|z
    .rw[z];exact hb
    .intro z2;rw[z2,hP]at z;cases z
  refine⟨.ref h'.objs.size,H3,I',rfl,h _ _ H3 ?_ ⟨c',_,ctv,oc,fv,t,rfl,by rw[hoF];exact atF,atc,hd,hv⟩ keepH (.inr ⟨c',oc,fv,t,by rw[atP,hps2],atc,hd,hv⟩)⟩;exact I.hok.fresh (ee hge (ls hlt))
 .have gP:s.heap.get? PL=some (W.tabObj #[jl pos.line,jl pos.col,.ref c']):=I.hok PL _ hP;refine W.kla_makeFunctionHit (mg:=X.mg) (ps:= #[jl pos.line,jl pos.col,.ref c']) (cv:= .ref c') hcl I.ok.glob hg hcode (C.keeps I.bk) gP (by simp[TriplesOk,jl]) (by simp[codeAmong,jl]) ⟨bm,ob,b1,b2,b3,b4,I.bk _ _ b5,b6⟩ λctv h' tk hx hge=> ?_;generalize hoF:W.kla_obj "<lambda>" (X.env.qual++ "<lambda>") args body lsc [(y,c)] ((X.mg "__name__").getD .none) c' ctv=oF;have hoF':=hoF;unfold W.kla_obj at hoF';rw[hoF'];have pu:∀b o,h'.get? b=some o->(h'.push oF).get? b=some o:=λb o e=>aj _ e;have gF:(h'.push oF).get? h'.objs.size=some oF:=bg _ (by subst hoF;rfl);have ltF:∀b u,H b=some u->b≠h'.objs.size:=λb u e=>cf (bt (I.hok.lt e) hge);have sF:Same H (upd H h'.objs.size (kn oF)):=λb u e=>by rw[aK (ltF b u e)];exact e
  have I':Inv X pins σ (upd H h'.objs.size (kn oF)) { s with heap:=h'.push oF,toks:=tk }:=by
   refine I.un ⟨λb o e n _ _=>pu b o (hx b o e),λb o e n _ _=>⟨o.slots,pu b o (hx b o e)⟩,λb o e n _=> ?_,λb o e _=>⟨o,pu b o (hx b o e)⟩,λb xs e=>sF _ _ e,λb o u e=>sF _ _ e,λb ps e=>⟨#[],by rw[wz];exact sF _ _ e⟩⟩ λb o e=> ?_
   .rw[aK (cf (bt (bc e) hge))];exact n
   .by_cases hF:b=h'.objs.size
    .subst hF;rw[aR]at e;cases e;exact LD gF
    .rw[aK hF]at e;exact(I.hok b o e).stay (λd u hd' q=>pu d u (hx d u q)) (λd q=>sF _ _ q) λd xs q=>sF _ _ q
  refine⟨.ref h'.objs.size,_,I',rfl,h _ _ _ (I.hok.fresh hge) ⟨c',_,ctv,oc,fv,t,rfl,by rw[hoF];exact aR,sF _ _ hc',hd,hv⟩ (Same.t sF) (.inr ⟨c',oc,fv,t,sF _ _ hP,sF _ _ hc',hd,hv⟩)⟩
end
theorem UV(S:Hp->Hp->Prop)(sr:∀H,S H H)(st:∀H1 H2 H3,S H1 H2->S H2 H3->S H1 H3)(xs:List α)(c:α->Bool)(P:α->V->Hp->Prop)(hm:∀x y H1 H2,P x y H1->S H1 H2->P x y H2)(hn:xs.length<=sizeLine)
  (hgo:∀i H1,S H H1->i<xs.length->J.go i H1)(hst:∀H1,S H H1->J.stop xs.length H1)
  (hb:∀i x H1,xs[i]? =some x->S H H1->∀v H',J.yld i H1 v H'->S H1 H'/\∃σ2:St,σ2.length=σ0.length/\(∀(j:Nat) v,σ0[j]? =some (some v)->σ2[j]? =some (some v))/\(∀R:St->Hp->Prop,R σ2 H'->g v σ0 H' R) ∧
   (∀R:Bool->Hp->Prop,(∀H2,S H' H2->R (c x) H2)->ti σ2 H' R)/\(c x=true->∀H2,S H' H2->∀R:VK,(∀y H3,P x y H3->S H2 H3->R y H3)->te σ2 H2 R))
  (hf:∀ys H1,S H H1->bo (λx y=>P x y H1) (xs.filter c) ys->fin ys H1):dR J g ti te σ0 fin H:=by
 refine⟨λi m ys H1=>i+m=xs.length/\S H H1/\bo (λx y=>P x y H1) ((xs.take i).filter c) ys,⟨xs.length,by lia,sr _,.nil⟩,?_⟩;rintro i m ys H1 ⟨e1,s1,pr⟩;cases m with
 | zero =>
  have ei:i=xs.length:=by lia
  subst ei;rw[cp]at pr;exact .inl ⟨hst H1 s1,hf ys H1 s1 pr⟩
 | succ m =>
  have hi:i<xs.length:=by lia
  refine .inr ⟨hgo i H1 s1 hi,λv H' y=> ?_⟩;have ex:xs[i]? =some xs[i]:=ao hi;have etake:xs.take (i+1)=xs.take i++[xs[i]]:=by rw[nj,ex];rfl
  have hlen:ys.length<=i:=by
   rw[←bx pr];exact ee (fb _ _) (by rw[dh];lia)
  obtain⟨s2,σ2,l2,c2,hg,ht,he⟩:=hb i xs[i] H1 ex s1 v H' y;refine hg _ ⟨⟨l2,c2⟩,ht _ λH2 s3=> ?_⟩;have s13:=st _ _ _ s2 s3;cases hc:c xs[i] with
  | true =>
   show te σ2 H2 _;refine he hc H2 s3 _ λy H3 py s4=>⟨by lia,m,by lia,by lia,st _ _ _ s1 (st _ _ _ s13 s4),?_⟩
   rw[etake,dy,cq hc];exact Paired.snoc (Paired.imp' (λa b h=>hm a b _ _ h (st _ _ _ s13 s4)) pr) py
  | false =>
   show ∃m',_;refine⟨m,by lia,by lia,st _ _ _ s1 s13,?_⟩;rw[etake,dy,ck (by rw[hc];exact bw),List.filter_nil,df];exact Paired.imp' (λa b h=>hm a b _ _ h s13) pr
theorem RC{xs:List α}(S:Hp->Hp->Prop)(sr:∀H,S H H)(st:∀H1 H2 H3,S H1 H2->S H2 H3->S H1 H3)(F:V->α->Prop)(P:α->V->Hp->Prop)(hm:∀x y H1 H2,P x y H1->S H1 H2->P x y H2)(hn:xs.length<=sizeLine)(hr:ci.map (λi=>(σ[i]?).join)=rest)(hl:∀H1,S H H1->SqL K H1 a vs)(hv:bo F vs xs)
  (ht:∀v x H1,F v x->x∈xs->S H H1->∀R:Bool->Hp->Prop,(∀H2,S H1 H2->R true H2)->ti (some v::rest) H1 R)
  (he:∀v x H1,F v x->x∈xs->S H H1->∀R:VK,(∀y H2,P x y H2->S H1 H2->R y H2)->te (some v::rest) H1 R)
  (hf:∀ys H1,S H H1->bo (λx y=>P x y H1) xs ys->fin ys H1):dR (Itl K a) (cG 0) ti te (cB 1 ci σ) fin H:=by
 rw[AE hr];have hlen:vs.length=xs.length:=bx hv;refine UV S sr st xs (λ_=>true) P hm hn (λi H1 s hi=>⟨vs,vs[i],hl _ s,ao (by lia)⟩) (λH1 s=>⟨vs,hl _ s,by lia⟩) (λi x H1 hx s1 v H' y=> ?_) (λys H1 s h=>hf ys H1 s (by rw[dM]at h;exact h));obtain⟨rfl,e2⟩:=y;have ev:=e2 vs (hl _ s1);have hF:=Paired.at2 hv ev hx;have hmem:=ba hx;refine⟨sr _,some v::rest,rfl,λj v hv=> ?_,λR h=>h,λR h=>ht v x _ hF hmem s1 R h,λhc H2 s2 R h=>he v x H2 hF hmem (st _ _ _ s1 s2) R h⟩;cases j with
 | zero=>cases hv
 | succ j=>exact hv
open Classical in
open Classical in
open Classical in
open Classical in
section
variable {ek ev:Expr}{tk:TE}
def D1P(p:Addr)(Q:VK)(y:V):VK:=λv H2=>∃k,y=kV k/\H2 p=some (.dK [])/\Q (.ref p) (upd H2 p (.dK [(k,v)]))
def tD1(tk tv:TE):TE:=λσ H Q=>∀p,H p=none->tk σ (upd H p (.dK [])) λy H1=>tv σ H1 (D1P p Q y)
theorem aFq(hk:PE X ek tk)(hv:PE X ev tv):PE X (.Dict [some ek] [ev] pos) (tD1 tk tv):=by
 intro pins s σ H Q I h;have I0:=I.laid (a:=s.heap.objs.size) (o:= .dK []) (t':=s.toks) (λ_ _ q=>aj _ q) (au _) (OQ s.heap I.big);have h0:=h s.heap.objs.size (I.hok.fresh (au _));refine wpAny_Dict_walk (knd:=bZ X.prog X.w) rfl rfl (by simp) (by show 1<=15;decide) (pairTrees_cons_walk ?_);refine thn (hk pins _ σ _ _ I0 h0) λu s1 x1=> ?_;obtain⟨y,H1,I1,ry,q1⟩:=x1;refine thn (hv pins s1 σ H1 _ I1 q1) λr s2 x2=>pairTrees_nil_walk ?_;obtain⟨v,H2,I2,rv,k,ey,e,q⟩:=x2;subst ey;obtain⟨z,hd,vs,rel,dd⟩:=aBa I2.hok e;have hvs:vs=[]:=by cases rel;rfl
 subst hvs;refine⟨[(k,r)],⟨u6 ry,rfl,trivial⟩,dd,λh' dd' hs=> ?_⟩;have he:∃q,h'.get? s.heap.objs.size=some q:=let ⟨q,_,_,hq,_⟩:=dd';⟨q,hq⟩;exact⟨.ref _,_,G8 I2 (by rw[e];exact jf) hs he (zZ (by rw[sizeLine_eq];show 1<=16777216;decide) hd (.cons ⟨rfl,rv⟩ .nil) dd'),rfl,q⟩
theorem aFD(h:∀p H',H p=none->Same H H'->H' p=some (.dK [])->tk σ H' λy H1=>tv σ H1 (D1P p Q y)):tD1 tk tv σ H Q:=λp hp=>h p _ hp (same_upd hp) aR
theorem aEj(e:H p=some (.dK []))(h:∀H',SameBut p H H'->H' p=some (.dK [(.inl i,v)])->Q (.ref p) H'):D1P p Q (.int i) v H:=⟨.inl i,rfl,e,h _ SameBut.upd aR⟩
def aAF(K:W.Frag):V->V->Hp->VK->Prop:=λo i H Q=>∃(p:Addr) (xs:List V) (j:Nat) (v:V),o= .ref p/\i= .int (j:Int)/\SqL K H p xs/\xs[j]? =some v/\Q v H
theorem OD:aD9 X (aAF X.K):=by
 intro pins s σ H o i ov iv Q I ro ri h;obtain⟨p,xs,j,v,rfl,rfl,hq,he,q⟩:=h;cases ro;obtain⟨t,rfl⟩:=ri;obtain⟨its,r,pl,hz⟩:=I.list hq;obtain⟨w,ew,rw'⟩:=r.get he;have hl:=r.length;have hn:=tE;have hj:=(ax.mp he).1;have fin:EP X pins σ Q w s:=⟨v,H,I,rw',q⟩
 exact wpAny_getItem_list pl.isList (by lia) (by lia) (by rw[dw];simpa using ew) fin
theorem RM(e:SqL K H p xs)(l:xs[j]? =some v)(h:Q v H):aAF K (.ref p) (.int (j:Int)) H Q:=⟨p,xs,j,v,rfl,rfl,e,l,h⟩
end
structure FX(K:Frag)(nm qual:Str)(st:Stmt)(ps:List Str)(a:Addr) where
 d:gv
 F:FunV K nm qual st a d
 b:Binds K d ps []
inductive FnL(K:Frag)(nm qual:Str)(st:Stmt)(f:Addr):Prop
 | mk {oc:ah}{od an:Option Addr}{osl:Array (Option ah)}{kV doc pm cdv ct:ah} (l:K.lookup f=some ⟨oc,od,.func (fnOf nm qual (d6 st) (dG st) (aG st) .none kV doc pm an cdv ct),osl⟩) (c:codeIn K cdv qual=true) (k:keepIn K (.ref f)=true):FnL K nm qual st f
section
variable {K:Frag}{f:Addr}
abbrev fnB(x qual:Str)(st:Stmt)(kV doc pm cdv ct:ah)(an:Option Addr)(us:List ah):Sem (List (Str×ah)):=bindArgs (fnOf x qual (d6 st) (dG st) (aG st) .none kV doc pm an cdv ct) ⟨us,[]⟩
theorem FnL.ne{ps:List Str}(L:FnL K x qual st f)(h:∀kV doc pm cdv ct an (us:List ah),us.length=ps.length->fnB x qual st kV doc pm cdv ct an us=pure (ps.zip us)):Nonempty (FX K x qual st ps f):=by
 cases L with
 | mk l c k=>exact⟨⟨_,r6 l c k,.all λus hl=>h _ _ _ _ _ _ us hl⟩⟩
noncomputable def FnL.xn{ps:List Str}(L:FnL K x qual st f)(h:∀kV doc pm cdv ct an (us:List ah),us.length=ps.length->fnB x qual st kV doc pm cdv ct an us=pure (ps.zip us)):FX K x qual st ps f:=Classical.choice (L.ne h)
noncomputable def FnL.x1(L:FnL K x qual st f)(h:∀kV doc pm cdv ct an a,fnB x qual st kV doc pm cdv ct an [a]=pure [(p1,a)]):FX K x qual st [p1] f:=L.xn λkV doc pm cdv ct an us hl=>by
 obtain _|⟨a,_|⟨b,us⟩⟩:=us
 .cases hl
 .exact h ..
 .cases hl
noncomputable def FnL.x2(L:FnL K x qual st f)(h:∀kV doc pm cdv ct an a b,fnB x qual st kV doc pm cdv ct an [a,b]=pure [(p1,a),(p2,b)]):FX K x qual st [p1,p2] f:=L.xn λkV doc pm cdv ct an us hl=>by
 obtain _|⟨a,_|⟨b,_|⟨c,us⟩⟩⟩:=us
 .cases hl
 .cases hl
 .exact h ..
 .cases hl
noncomputable def FnL.x3{p3:Str}(L:FnL K x qual st f)(h:∀kV doc pm cdv ct an a b c,fnB x qual st kV doc pm cdv ct an [a,b,c]=pure [(p1,a),(p2,b),(p3,c)]):FX K x qual st [p1,p2,p3] f:=L.xn λkV doc pm cdv ct an us hl=>by
 obtain _|⟨a,_|⟨b,_|⟨c,_|⟨d,us⟩⟩⟩⟩:=us
 .cases hl
 .cases hl
 .cases hl
 .exact h ..
 .cases hl
noncomputable def FnL.x4{p3:Str}(L:FnL K x qual st f)(h:∀kV doc pm cdv ct an a b c d,fnB x qual st kV doc pm cdv ct an [a,b,c,d]=pure [(p1,a),(p2,b),(p3,c),(p4,d)]):FX K x qual st [p1,p2,p3,p4] f:=L.xn λkV doc pm cdv ct an us hl=>by
 obtain _|⟨a,_|⟨b,_|⟨c,_|⟨d,_|⟨e,us⟩⟩⟩⟩⟩:=us
 .cases hl
 .cases hl
 .cases hl
 .cases hl
 .exact h ..
 .cases hl
noncomputable def FnL.x5{p3:Str}(L:FnL K x qual st f)(h:∀kV doc pm cdv ct an a b c d e,fnB x qual st kV doc pm cdv ct an [a,b,c,d,e]=pure [(p1,a),(p2,b),(p3,c),(p4,d),(p5,e)]):FX K x qual st [p1,p2,p3,p4,p5] f:=L.xn λkV doc pm cdv ct an us hl=>by
 obtain _|⟨a,_|⟨b,_|⟨c,_|⟨d,_|⟨e,_|⟨g,us⟩⟩⟩⟩⟩⟩:=us
 .cases hl
 .cases hl
 .cases hl
 .cases hl
 .cases hl
 .exact h ..
 .cases hl
noncomputable def FnL.x6{p3 p6:Str}(L:FnL K x qual st f)(h:∀kV doc pm cdv ct an a b c d e g,fnB x qual st kV doc pm cdv ct an [a,b,c,d,e,g]=pure [(p1,a),(p2,b),(p3,c),(p4,d),(p5,e),(p6,g)]):FX K x qual st [p1,p2,p3,p4,p5,p6] f:=L.xn λkV doc pm cdv ct an us hl=>by
 obtain _|⟨a,_|⟨b,_|⟨c,_|⟨d,_|⟨e,_|⟨g,_|⟨i,us⟩⟩⟩⟩⟩⟩⟩:=us
 .cases hl
 .cases hl
 .cases hl
 .cases hl
 .cases hl
 .cases hl
 .exact h ..
 .cases hl
def noF(K:Frag)(C:Addr)(fs:List Str):Bool:=fs.all λx=>(findIn K (.ref C) x).any (·.isNone)
theorem cA{C:Addr}{fs:List Str}(h:noF K C fs=true)(i:Nat)(e:fs[i]? =some x):NoAttr K C x:=by
 have h2:=jt.mp h x (ba e);unfold NoAttr;cases h3:findIn K (.ref C) x with
 | none=>rw[h3]at h2;cases h2
 | some o =>
  rw[h3]at h2;cases o with
  | none=>rfl
  | some v=>cases h2
end
def aDA:Nat->(List α->Prop)->Prop
 | 0,p=>p []
 | n+1,p=>∀a,aDA n (λl=>p (a::l))
theorem QH:∀(n:Nat) (p:List α->Prop),aDA n p->∀us:List α,us.length=n->p us
 | 0,_,h,[],_=>h
 | n+1,_,h,a::us,e=>QH n _ (h a) us (by simpa using e)
 | 0,_,_,_::_,e=>by simp at e
 | _+1,_,_,[],e=>by simp at e
end L2
namespace Prf
open PySem L2
set_option hygiene false
local macro_rules| `(tactic| tm_at"c")=> `(tactic| exact⟨rfl,rfl,rfl,by decide +kernel,rfl,by decide +kernel,by decide +kernel⟩)
local macro_rules| `(tactic| tm_at"d")=> `(tactic| (have hu0:=Room.units0 hr;have hu1:=Room.units1 hr;have hu9:=Room.units9 hr))
set_option hygiene true
def top(i:Nat):Stmt:=PySem.Challenge.pw_firstout_k82_whole_more_never_hurts.main.body.getD i (.Pass ⟨0,0,0,0⟩)
abbrev xQ:Stmt:=top 10
theorem aH2:aM ["plan","going","turn","name","number"] ["plan"] (aG xQ):=by tm_at"c"
abbrev AS:Stmt:=top 11
theorem aH6:aM ["plan"] ["plan"] (aG AS):=by tm_at"c"
abbrev oO:Stmt:=bD (top 13) 0
theorem aHh:aM ["self"] ["self"] (aG oO):=by tm_at"c"
abbrev nR:Stmt:=bD (top 13) 1
theorem aHi:aM ["self"] ["self"] (aG nR):=by tm_at"c"
abbrev pW:Stmt:=bD (top 13) 2
theorem aHu:aM ["self","start","target","most","arc"] ["self","start","target","most"] (aG pW):=by tm_at"c"
abbrev xH:Stmt:=bD (top 13) 3
theorem aH3:aM ["self","arc"] ["self","arc"] (aG xH):=by tm_at"c"
abbrev l6:Stmt:=bD (top 13) 4
theorem aG7:aM ["self","source","ways","reached","at","node","arc","target"] ["self","source"] (aG l6):=by tm_at"c"
abbrev pY:Stmt:=bD (top 13) 5
theorem aHs:aM ["self","ways","node","path","arc"] ["self","ways","node"] (aG pY):=by tm_at"c"
abbrev k8:Stmt:=bD (top 13) 6
theorem aG3:aM ["self","path","number","arc"] ["self","path"] (aG k8):=by tm_at"c"
abbrev oG:Stmt:=bD (top 13) 7
theorem aHj:aM ["self","source","sink","number","ways"] ["self","source","sink"] (aG oG):=by tm_at"c"
abbrev iG:Stmt:=bD (top 14) 0
theorem aGO:aM ["self","house","room","node"] ["self","house"] (aG iG):=by tm_at"c"
abbrev jW:Stmt:=bD (top 14) 1
theorem aGU:aM ["self","room"] ["self","room"] (aG jW):=by tm_at"c"
abbrev iH:Stmt:=bD (top 14) 2
theorem aGP:aM ["self","door","target","number"] ["self","door","target"] (aG iH):=by tm_at"c"
abbrev iI:Stmt:=bD (top 14) 3
theorem aGN:aM ["self","outside","name","door"] ["self"] (aG iI):=by tm_at"c"
abbrev eW:Stmt:=bD (top 14) 4
theorem aGK:aM ["self","ways"] ["self"] (aG eW):=by tm_at"c"
abbrev fO:Stmt:=bD (top 14) 5
theorem aGM:aM ["self","entries","room"] ["self"] (aG fO):=by tm_at"c"
abbrev k5:Stmt:=bD (top 14) 6
theorem aG1:aM ["self","entries","name","door","room","node"] ["self"] (aG k5):=by tm_at"c"
abbrev fN:Stmt:=bD (top 14) 7
theorem aGL:aM ["self","inside","room"] ["self"] (aG fN):=by tm_at"c"
abbrev mK:Stmt:=bD (top 14) 8
theorem aHe:aM ["self"] ["self"] (aG mK):=by tm_at"c"
abbrev sI:Stmt:=top 15
theorem aHA:aM ["house","net"] ["house"] (aG sI):=by tm_at"c"
abbrev vH:Stmt:=top 17
theorem aHQ:aM ["house"] ["house"] (aG vH):=by tm_at"c"
abbrev AO:Stmt:=top 18
theorem aH7:aM ["house","turn"] ["house","turn"] (aG AO):=by tm_at"c"
abbrev yJ:Stmt:=top 20
theorem aH4:aM ["thing"] ["thing"] (aG yJ):=by tm_at"c"
abbrev zG:Stmt:=top 23
theorem aH8:aM ["thing"] ["thing"] (aG zG):=by tm_at"c"
abbrev vM:Stmt:=top 24
theorem aHW:aM ["part","thing"] ["part","thing"] (aG vM):=by tm_at"c"
abbrev sJ:Stmt:=top 25
theorem aHM:aM ["part","thing","least"] ["part","thing","least"] (aG sJ):=by tm_at"c"
abbrev fG:Stmt:=bD (top 26) 0
theorem aG6:aM ["self","name","start","end","wide"] ["self","name","start","end","wide"] (aG fG):=by tm_at"c"
abbrev vK:Stmt:=bD (top 26) 1
theorem aHX:aM ["self","turn"] ["self","turn"] (aG vK):=by tm_at"c"
abbrev nV:Stmt:=bD (top 26) 2
theorem aHf:aM ["self"] ["self"] (aG nV):=by tm_at"c"
abbrev k7:Stmt:=bD (top 27) 0
theorem aG5:aM ["self","name","start","end","wide","since"] ["self","name","start","end","wide","since"] (aG k7):=by tm_at"c"
abbrev tN:Stmt:=bD (top 27) 1
theorem aHJ:aM ["self","turn"] ["self","turn"] (aG tN):=by tm_at"c"
abbrev kS:Stmt:=bD (top 28) 0
theorem aGY:aM ["self","name","start","end","wide","until"] ["self","name","start","end","wide","until"] (aG kS):=by tm_at"c"
abbrev tM:Stmt:=bD (top 28) 1
theorem aHH:aM ["self","turn"] ["self","turn"] (aG tM):=by tm_at"c"
abbrev fH:Stmt:=bD (top 29) 0
theorem aHb:aM ["self","name","start","end","wide","every","since"] ["self","name","start","end","wide","every","since"] (aG fH):=by tm_at"c"
abbrev vG:Stmt:=bD (top 29) 1
theorem aHN:aM ["self","turn","waited"] ["self","turn"] (aG vG):=by tm_at"c"
abbrev jV:Stmt:=bD (top 30) 0
theorem aGW:aM ["self","name","start","end","wide","bits"] ["self","name","start","end","wide","bits"] (aG jV):=by tm_at"c"
abbrev qB:Stmt:=bD (top 30) 1
theorem aHr:aM ["self","turn"] ["self","turn"] (aG qB):=by tm_at"c"
abbrev mP:Stmt:=bD (top 31) 0
theorem aHd:aM ["self","name","start","end","letting"] ["self","name","start","end","letting"] (aG mP):=by tm_at"c"
abbrev vE:Stmt:=bD (top 31) 1
theorem aHY:aM ["self","turn","letting"] ["self","turn"] (aG vE):=by tm_at"c"
abbrev mB:Stmt:=bD (top 32) 0
theorem aG8:aM ["self","door","turn"] ["self","door","turn"] (aG mB):=by tm_at"c"
abbrev vC:Stmt:=bD (top 32) 1
theorem aHR:aM ["self","turn"] ["self","turn"] (aG vC):=by tm_at"c"
abbrev kX:Stmt:=bD (top 33) 0
theorem aG4:aM ["self","door","turn","more"] ["self","door","turn","more"] (aG kX):=by tm_at"c"
abbrev tF:Stmt:=bD (top 33) 1
theorem aHG:aM ["self","turn","number"] ["self","turn"] (aG tF):=by tm_at"c"
abbrev sZ:Stmt:=top 35
theorem aHB:aM ["first","last"] ["first","last"] (aG sZ):=by tm_at"c"
abbrev kZ:Stmt:=top 36
theorem aGZ:aM ["names","seen","name"] ["names"] (aG kZ):=by tm_at"c"
abbrev jT:Stmt:=top 37
theorem aGT:aM ["doors","people","names","door"] ["doors","people"] (aG jT):=by tm_at"c"
abbrev tO:Stmt:=top 38
theorem aHK:aM ["names","sizes","name"] ["names","sizes"] (aG tO):=by tm_at"c"
abbrev oI:Stmt:=top 39
theorem aHg:aM ["sizes","people","inside","room","number"] ["sizes","people"] (aG oI):=by tm_at"c"
abbrev sK:Stmt:=top 40
theorem aHD:aM ["sizes","people","inside"] ["sizes","people"] (aG sK):=by tm_at"c"
abbrev eY:Stmt:=bD (top 41) 0
theorem aG0:aM ["self","rooms","doors","people","last","first","sizes","door"] ["self","rooms","doors","people","last","first"] (aG eY):=by tm_at"c"
abbrev qG:Stmt:=bD (top 41) 1
theorem aHq:aM ["self"] ["self"] (aG qG):=by tm_at"c"
abbrev qC:Stmt:=bD (top 41) 2
theorem aHp:aM ["self"] ["self"] (aG qC):=by tm_at"c"
abbrev jS:Stmt:=bD (top 41) 3
theorem aGX:aM ["self","room"] ["self","room"] (aG jS):=by tm_at"c"
abbrev qD:Stmt:=bD (top 41) 4
theorem aHx:aM ["self","room"] ["self","room"] (aG qD):=by tm_at"c"
abbrev qA:Stmt:=bD (top 41) 5
theorem aHw:aM ["self","room"] ["self","room"] (aG qA):=by tm_at"c"
abbrev sW:Stmt:=bD (top 41) 8
theorem aHz:aM ["self","name"] ["self","name"] (aG sW):=by tm_at"c"
abbrev sG:Stmt:=bD (top 41) 9
theorem aHE:aM ["self","name","turn","door"] ["self","name","turn"] (aG sG):=by tm_at"c"
abbrev qI:Stmt:=bD (top 41) 10
theorem aHo:aM ["self"] ["self"] (aG qI):=by tm_at"c"
abbrev nZ:Stmt:=top 43
theorem aHk:aM ["_law_script","_law_k"] ["_law_script","_law_k"] (aG nZ):=by tm_at"c"
abbrev r9:Stmt:=top 44
theorem aHL:aM ["_law_cell","_law_k","_law_number"] ["_law_cell","_law_k"] (aG r9):=by tm_at"c"
abbrev vJ:Stmt:=top 45
theorem aHU:aM ["_law_cell","_law_k","_law_number","_law_word"] ["_law_cell","_law_k"] (aG vJ):=by tm_at"c"
abbrev tI:Stmt:=top 46
theorem aHC:aM ["_law_cells","_law_rooms_here","_law_k","_law_number","_law_holds","_law_found"] ["_law_cells"] (aG tI):=by tm_at"c"
abbrev vI:Stmt:=top 47
theorem aHV:aM ["_law_cell","_law_k","_law_rooms_here","_law_turns","_law_number","_law_wide","_law_start","_law_end","_law_kind","_law_first","_law_more"] ["_law_cell","_law_k","_law_rooms_here","_law_turns"] (aG vI):=by tm_at"c"
abbrev eS:Stmt:=top 49
theorem aHT:aM ["_law_spec_here","_law_name_here","_law_start","_law_end","_law_kind","_law_wide","_law_first","_law_more"] ["_law_spec_here"] (aG eS):=by tm_at"c"
abbrev qH:Stmt:=top 50
theorem aHt:aM ["_law_cell","_law_bases","_law_found","_law_base"] ["_law_cell","_law_bases"] (aG qH):=by tm_at"c"
abbrev j6:Stmt:=top 51
theorem aGS:aM ["_law_cells","_law_numbers","_law_rooms_here","_law_k"] ["_law_cells"] (aG j6):=by tm_at"c"
abbrev kU:Stmt:=top 52
theorem aG2:aM ["_law_cell","_law_k","_law_rooms_here","_law_turns","_law_many","_law_kind","_law_start","_law_end","_law_wide","_law_first","_law_more","_law_into"] ["_law_cell","_law_k","_law_rooms_here","_law_turns"] (aG kU):=by tm_at"c"
abbrev jZ:Stmt:=top 53
theorem aGV:aM ["_law_script","_law_cells","_law_rooms_here","_law_more","_law_first","_law_turns","_law_specs"] ["_law_script"] (aG jZ):=by tm_at"c"
abbrev sS:Stmt:=top 54
theorem aHF:aM ["_law_script","_law_cells","_law_rooms_here","_law_first","_law_turns","_law_specs"] ["_law_script"] (aG sS):=by tm_at"c"
abbrev sM:Stmt:=top 55
theorem aHI:aM ["_law_rooms_here","_law_specs","_law_turns","_law_people","_law_doors"] ["_law_rooms_here","_law_specs","_law_turns"] (aG sM):=by tm_at"c"
abbrev vF:Stmt:=top 56
theorem aHS:aM ["_law_rooms_here","_law_doors","_law_turns","_law_people"] ["_law_rooms_here","_law_doors","_law_turns"] (aG vF):=by tm_at"c"
abbrev qE:Stmt:=top 57
theorem aHv:aM ["_law_cell","_law_rooms_here","_law_specs","_law_turns","_law_doors","_law_more","_law_at","_law_wide","_law_less"] ["_law_cell","_law_rooms_here","_law_specs","_law_turns"] (aG qE):=by tm_at"c"
abbrev vD:Stmt:=top 58
theorem aHP:aM ["_law_house_here","_law_turns","_law_plan","_law_exits","_law_found","_law_turn"] ["_law_house_here","_law_turns"] (aG vD):=by tm_at"c"
abbrev uR:Stmt:=top 59
theorem aIq:aM ["_law_script","_law_rooms_here","_law_specs","_law_turns","_law_house_here","_law_less","_law_greater","_law_many","_law_fewer","_law_k","_law_other","_law_found"] ["_law_script"] (aG uR):=by tm_at"c"
theorem aAj:("" :Str).length=0:=by rw[cD];rfl
theorem ZS:("name" :Str).length=4:=by rw[cD];rfl
theorem aAp:("start" :Str).length=5:=by rw[cD];rfl
theorem ZG:("wide" :Str).length=4:=by rw[cD];rfl
theorem YR:("since" :Str).length=5:=by rw[cD];rfl
theorem aAr:("until" :Str).length=5:=by rw[cD];rfl
theorem aAa:("every" :Str).length=5:=by rw[cD];rfl
theorem ZV:("bits" :Str).length=4:=by rw[cD];rfl
theorem aAg:("turn" :Str).length=4:=by rw[cD];rfl
theorem Z9:("more" :Str).length=4:=by rw[cD];rfl
theorem SZ:("the first turn is below 0" :Str).length=25:=by rw[cD];rfl
theorem T9:("the last turn is below the first one" :Str).length=36:=by rw[cD];rfl
theorem R8:("a row of people is below 0" :Str).length=26:=by rw[cD];rfl
theorem TZ:("more are in a room than it holds" :Str).length=32:=by rw[cD];rfl
theorem UG:(" is no name" :Str).length=11:=by rw[cD];rfl
theorem TN:(" is no whole number from " :Str).length=25:=by rw[cD];rfl
theorem SC:(" on" :Str).length=3:=by rw[cD];rfl
theorem UB:("end" :Str).length=3:=by rw[cD];rfl
theorem R1:("abcdefghijklmnopqrstuvwxyz" :Str).length=26:=by rw[cD];rfl
theorem TV:("a" :Str).length=1:=by rw[cD];rfl
theorem RZ:("z" :Str).length=1:=by rw[cD];rfl
abbrev aGv:List Str:=["targets","spare","arcs","house","turn","outs","cuts","net","source","pair_nodes","door_arcs","plenty","name","start","end","wide","since","until","every","bits","letting","inner","more","first","last","sizes","people","named_doors"]
structure DCls(K:W.Frag)(C:Addr):Prop where
 ic:ICls K C
 nf:noF K C aGv=true
variable {K:W.Frag}{C CH CHo CN F PL a b c cL dx dxq hn p p3 q:Addr}
theorem DCls.n_targets(d:DCls K C):NoAttr K C "targets" :=cA d.nf 0 rfl
theorem DCls.n_spare(d:DCls K C):NoAttr K C "spare" :=cA d.nf 1 rfl
theorem DCls.n_arcs(d:DCls K C):NoAttr K C "arcs" :=cA d.nf 2 rfl
theorem DCls.n_house(d:DCls K C):NoAttr K C "house" :=cA d.nf 3 rfl
theorem DCls.n_turn(d:DCls K C):NoAttr K C "turn" :=cA d.nf 4 rfl
theorem DCls.n_outs(d:DCls K C):NoAttr K C "outs" :=cA d.nf 5 rfl
theorem DCls.n_cuts(d:DCls K C):NoAttr K C "cuts" :=cA d.nf 6 rfl
theorem DCls.n_net(d:DCls K C):NoAttr K C "net" :=cA d.nf 7 rfl
theorem DCls.n_source(d:DCls K C):NoAttr K C "source" :=cA d.nf 8 rfl
theorem DCls.n_pair_nodes(d:DCls K C):NoAttr K C "pair_nodes" :=cA d.nf 9 rfl
theorem DCls.n_door_arcs(d:DCls K C):NoAttr K C "door_arcs" :=cA d.nf 10 rfl
theorem DCls.n_plenty(d:DCls K C):NoAttr K C "plenty" :=cA d.nf 11 rfl
theorem DCls.n_name(d:DCls K C):NoAttr K C "name" :=cA d.nf 12 rfl
theorem DCls.n_start(d:DCls K C):NoAttr K C "start" :=cA d.nf 13 rfl
theorem DCls.n_end(d:DCls K C):NoAttr K C "end" :=cA d.nf 14 rfl
theorem DCls.n_wide(d:DCls K C):NoAttr K C "wide" :=cA d.nf 15 rfl
theorem DCls.n_since(d:DCls K C):NoAttr K C "since" :=cA d.nf 16 rfl
theorem DCls.n_until(d:DCls K C):NoAttr K C "until" :=cA d.nf 17 rfl
theorem DCls.n_every(d:DCls K C):NoAttr K C "every" :=cA d.nf 18 rfl
theorem DCls.n_bits(d:DCls K C):NoAttr K C "bits" :=cA d.nf 19 rfl
theorem DCls.n_letting(d:DCls K C):NoAttr K C "letting" :=cA d.nf 20 rfl
theorem DCls.n_inner(d:DCls K C):NoAttr K C "inner" :=cA d.nf 21 rfl
theorem DCls.n_more(d:DCls K C):NoAttr K C "more" :=cA d.nf 22 rfl
theorem DCls.n_first(d:DCls K C):NoAttr K C "first" :=cA d.nf 23 rfl
theorem DCls.n_last(d:DCls K C):NoAttr K C "last" :=cA d.nf 24 rfl
theorem DCls.n_sizes(d:DCls K C):NoAttr K C "sizes" :=cA d.nf 25 rfl
theorem DCls.n_people(d:DCls K C):NoAttr K C "people" :=cA d.nf 26 rfl
theorem DCls.n_named_doors(d:DCls K C):NoAttr K C "named_doors" :=cA d.nf 27 rfl
set_option genInjectivity false in set_option genSizeOf false in structure M (K:W.Frag) (mg:Str->Option Value) where
 yU:Addr
 rS:FX K "added_up" "added_up" xQ ["plan"] yU
 A0:Addr
 vA:FX K "as_told" "as_told" AS ["plan"] A0
 uE:Addr
 m9:FX K "filled_net" "filled_net" sI ["house"] uE
 vQ:Addr
 pG:FX K "first_out" "first_out" vH ["house"] vQ
 AV:Addr
 u9:FX K "most_by" "most_by" AO ["house","turn"] AV
 yV:Addr
 rT:FX K "is_whole" "is_whole" yJ ["thing"] yV
 AX:Addr
 vB:FX K "is_name" "is_name" zG ["thing"] AX
 v4:Addr
 pE:FX K "need_name" "need_name" vM ["part","thing"] v4
 tT:Addr
 nK:FX K "need_whole" "need_whole" sJ ["part","thing","least"] tT
 tW:Addr
 nL:FX K "need_turns" "need_turns" sZ ["first","last"] tW
 lK:Addr
 g8:FX K "need_each_once" "need_each_once" kZ ["names"] lK
 j9:Addr
 fZ:FX K "rooms_spoken_of" "rooms_spoken_of" jT ["doors","people"] j9
 tY:Addr
 mW:FX K "need_rooms" "need_rooms" tO ["names","sizes"] tY
 oV:Addr
 jQ:FX K "added_people" "added_people" oI ["sizes","people"] oV
 tX:Addr
 mS:FX K "need_space" "need_space" sK ["sizes","people"] tX
 o8:Addr
 jN:FX K "_law_cell_at" "_law_cell_at" nZ ["_law_script","_law_k"] o8
 uJ:Addr
 nH:FX K "_law_mixed" "_law_mixed" r9 ["_law_cell","_law_k"] uJ
 vZ:Addr
 pF:FX K "_law_name" "_law_name" vJ ["_law_cell","_law_k"] vZ
 tZ:Addr
 nE:FX K "_law_rooms" "_law_rooms" tI ["_law_cells"] tZ
 vX:Addr
 pI:FX K "_law_spec" "_law_spec" vI ["_law_cell","_law_k","_law_rooms_here","_law_turns"] vX
 vU:Addr
 dD:gv
 fT:FunV K "_law_door" "_law_door" eS vU dD
 QF:Binds K dD ["_law_spec_here"] []
 qW:Addr
 kQ:FX K "_law_digits" "_law_digits" qH ["_law_cell","_law_bases"] qW
 kA:Addr
 fY:FX K "_law_rooms_told" "_law_rooms_told" j6 ["_law_cells"] kA
 lA:Addr
 hU:FX K "_law_spec_told" "_law_spec_told" kU ["_law_cell","_law_k","_law_rooms_here","_law_turns"] lA
 kE:Addr
 fX:FX K "_law_drawn_told" "_law_drawn_told" jZ ["_law_script"] kE
 uI:Addr
 nO:FX K "_law_drawn" "_law_drawn" sS ["_law_script"] uI
 uH:Addr
 mZ:FX K "_law_house" "_law_house" sM ["_law_rooms_here","_law_specs","_law_turns"] uH
 vY:Addr
 pH:FX K "_law_made" "_law_made" vF ["_law_rooms_here","_law_doors","_law_turns"] vY
 qS:Addr
 kR:FX K "_law_others" "_law_others" qE ["_law_cell","_law_rooms_here","_law_specs","_law_turns"] qS
 vT:Addr
 pJ:FX K "_law_outs" "_law_outs" vD ["_law_house_here","_law_turns"] vT
 UI:Addr
 UL:gv
 aGb:FunV K "law" "law" uR UI UL
 aGz:Binds K UL ["_law_script"] []
 oW:Addr
 oZ:FX K "__init__" "Net.__init__" oO ["self"] oW
 oX:Addr
 o7:FX K "new_node" "Net.new_node" nR ["self"] oX
 qM:Addr
 qT:FX K "new_arc" "Net.new_arc" pW ["self","start","target","most"] qM
 yT:Addr
 yX:FX K "sent" "Net.sent" xH ["self","arc"] yT
 m3:Addr
 nI:FX K "ways_from" "Net.ways_from" l6 ["self","source"] m3
 qV:Addr
 rB:FX K "path_to" "Net.path_to" pY ["self","ways","node"] qV
 lG:Addr
 lJ:FX K "send_along" "Net.send_along" k8 ["self","path"] lG
 oY:Addr
 o0:FX K "send_all" "Net.send_all" oG ["self","source","sink"] oY
 iM:Addr
 iP:FX K "__init__" "HouseNet.__init__" iG ["self","house"] iM
 kG:Addr
 j8:FX K "now_in" "HouseNet.now_in" jW ["self","room"] kG
 iO:Addr
 iL:FX K "add_door" "HouseNet.add_door" iH ["self","door","target"] iO
 iN:Addr
 iK:FX K "send_out" "HouseNet.send_out" iI ["self"] iN
 fC:Addr
 fB:FX K "reached_pairs" "HouseNet.reached_pairs" eW ["self"] fC
 fS:Addr
 fR:FX K "new_entries" "HouseNet.new_entries" fO ["self"] fS
 lB:Addr
 lE:FX K "go_on" "HouseNet.go_on" k5 ["self"] lB
 fQ:Addr
 fU:FX K "keep_others" "HouseNet.keep_others" fN ["self"] fQ
 mU:Addr
 m7:FX K "rows" "HouseNet.rows" mK ["self"] mU
 iQ:Addr
 fL:gv
 nJ:FunV K "__init__" "Door.__init__" fG iQ fL
 u8:Binds K fL ["self","name","start","end","wide"] []
 vV:Addr
 v3:FX K "lets" "Door.lets" vK ["self","turn"] vV
 cM:Addr
 cK:FX K "is_exit" "Door.is_exit" nV ["self"] cM
 lM:Addr
 lH:FX K "__init__" "Since.__init__" k7 ["self","name","start","end","wide","since"] lM
 tQ:Addr
 uA:FX K "lets" "Since.lets" tN ["self","turn"] tQ
 lC:Addr
 lD:FX K "__init__" "Until.__init__" kS ["self","name","start","end","wide","until"] lC
 uD:Addr
 tS:FX K "lets" "Until.lets" tM ["self","turn"] uD
 mV:Addr
 iR:gv
 F1:FunV K "__init__" "Beat.__init__" fH mV iR
 F5:Binds K iR ["self","name","start","end","wide","every","since"] []
 vO:Addr
 vS:FX K "lets" "Beat.lets" vG ["self","turn"] vO
 kC:Addr
 kB:FX K "__init__" "Marked.__init__" jV ["self","name","start","end","wide","bits"] kC
 qK:Addr
 qU:FX K "lets" "Marked.lets" qB ["self","turn"] qK
 mT:Addr
 m8:FX K "__init__" "Told.__init__" mP ["self","name","start","end","letting"] mT
 vN:Addr
 vP:FX K "lets" "Told.lets" vE ["self","turn"] vN
 mR:Addr
 nF:FX K "__init__" "Shut.__init__" mB ["self","door","turn"] mR
 vR:Addr
 vW:FX K "lets" "Shut.lets" vC ["self","turn"] vR
 lL:Addr
 lF:FX K "__init__" "Wider.__init__" kX ["self","door","turn","more"] lL
 uF:Addr
 uG:FX K "lets" "Wider.lets" tF ["self","turn"] uF
 lI:Addr
 g7:gv
 EI:FunV K "__init__" "House.__init__" eY lI g7
 EJ:Binds K g7 ["self","rooms","doors","people","last","first"] []
 qX:Addr
 qY:FX K "rooms" "House.rooms" qG ["self"] qX
 qZ:Addr
 q0:FX K "doors" "House.doors" qC ["self"] qZ
 j7:Addr
 kF:FX K "need_room" "House.need_room" jS ["self","room"] j7
 qN:Addr
 qP:FX K "holds" "House.holds" qD ["self","room"] qN
 qO:Addr
 rA:FX K "found" "House.found" qA ["self","room"] qO
 uB:Addr
 tR:FX K "door" "House.door" sW ["self","name"] uB
 t8:Addr
 t0:FX K "lets" "House.lets" sG ["self","name","turn"] t8
 qR:Addr
 qQ:FX K "total" "House.total" qI ["self"] qR
 UN:mg "added_up" =some (.ref yU)
 X1:mg "as_told" =some (.ref A0)
 O5:mg "filled_net" =some (.ref uE)
 P8:mg "first_out" =some (.ref vQ)
 X2:mg "most_by" =some (.ref AV)
 UJ:mg "is_whole" =some (.ref yV)
 X0:mg "is_name" =some (.ref AX)
 QE:mg "need_name" =some (.ref v4)
 OT:mg "need_whole" =some (.ref tT)
 OZ:mg "need_turns" =some (.ref tW)
 EK:mg "need_each_once" =some (.ref lK)
 CO:mg "rooms_spoken_of" =some (.ref j9)
 O1:mg "need_rooms" =some (.ref tY)
 IJ:mg "added_people" =some (.ref oV)
 O4:mg "need_space" =some (.ref tX)
 IM:mg "_law_cell_at" =some (.ref o8)
 O0:mg "_law_mixed" =some (.ref uJ)
 QB:mg "_law_name" =some (.ref vZ)
 OU:mg "_law_rooms" =some (.ref tZ)
 P7:mg "_law_spec" =some (.ref vX)
 QD:mg "_law_door" =some (.ref vU)
 KS:mg "_law_digits" =some (.ref qW)
 CS:mg "_law_rooms_told" =some (.ref kA)
 EH:mg "_law_spec_told" =some (.ref lA)
 CT:mg "_law_drawn_told" =some (.ref kE)
 OY:mg "_law_drawn" =some (.ref uI)
 O2:mg "_law_house" =some (.ref uH)
 P9:mg "_law_made" =some (.ref vY)
 KU:mg "_law_others" =some (.ref qS)
 QA:mg "_law_outs" =some (.ref vT)
 aGA:mg "law" =some (.ref UI)
 AW:∃ds,Vals [.int 1] ds/\Binds K fL ["self","name","start","end","wide"] ds
 X5:∃ds,Vals [.non,.int 1] ds/\Binds K fL ["self","name","start","end","wide"] ds
 X4:∃ds,Vals [.int 0] ds/\Binds K iR ["self","name","start","end","wide","every","since"] ds
 UO:∃ds,Vals [.int 0] ds/\Binds K g7 ["self","rooms","doors","people","last","first"] ds
 aX:Addr
 aGa:mg "Net" =some (.ref aX)
 aP:Addr
 UK:mg "HouseNet" =some (.ref aP)
 iD:Addr
 O6:mg "Door" =some (.ref iD)
 jO:Addr
 aDr:mg "Since" =some (.ref jO)
 jR:Addr
 aDs:mg "Until" =some (.ref jR)
 mY:Addr
 aFm:mg "Beat" =some (.ref mY)
 g9:Addr
 aAw:mg "Marked" =some (.ref g9)
 mX:Addr
 aFl:mg "Told" =some (.ref mX)
 m6:Addr
 aFk:mg "Shut" =some (.ref m6)
 jP:Addr
 aDw:mg "Wider" =some (.ref jP)
 aO:Addr
 aDt:mg "House" =some (.ref aO)
 cR:DCls K aX
 aFi:Mk K aX oW
 F7:Meth K aX "new_node" oX
 IR:Meth K aX "new_arc" qM
 P6:Meth K aX "sent" yT
 EL:Meth K aX "ways_from" m3
 IN:Meth K aX "path_to" qV
 CP:Meth K aX "send_along" lG
 F8:Meth K aX "send_all" oY
 bN:DCls K aP
 QC:Mk K aP iM
 AZ:Meth K aP "now_in" kG
 yW:Meth K aP "add_door" iO
 yS:Meth K aP "send_out" iN
 rR:Meth K aP "reached_pairs" fC
 uO:Meth K aP "new_entries" fS
 CQ:Meth K aP "go_on" lB
 uP:Meth K aP "keep_others" fQ
 EM:Meth K aP "rows" mU
 wP:DCls K iD
 aDx:Mk K iD iQ
 OX:Meth K iD "lets" vV
 F2:Meth K iD "is_exit" cM
 tV:DCls K jO
 aAu:Mk K jO lM
 K0:Meth K jO "lets" tQ
 EG:Meth K jO "is_exit" cM
 t7:DCls K jR
 aAv:Mk K jR lC
 KW:Meth K jR "lets" uD
 EE:Meth K jR "is_exit" cM
 wS:DCls K mY
 aDq:Mk K mY mV
 OV:Meth K mY "lets" vO
 F6:Meth K mY "is_exit" cM
 pV:DCls K g9
 X3:Mk K g9 kC
 IO:Meth K g9 "lets" qK
 CU:Meth K g9 "is_exit" cM
 wR:DCls K mX
 aDv:Mk K mX mT
 O3:Meth K mX "lets" vN
 F4:Meth K mX "is_exit" cM
 wQ:DCls K m6
 aDu:Mk K m6 mR
 OW:Meth K m6 "lets" vR
 F3:Meth K m6 "is_exit" cM
 tU:DCls K jP
 aAt:Mk K jP lL
 KY:Meth K jP "lets" uF
 EF:Meth K jP "is_exit" cM
 bJ:DCls K aO
 aAs:Mk K aO lI
 IQ:Meth K aO "rooms" qX
 IK:Meth K aO "doors" qZ
 AU:Meth K aO "need_room" j7
 IL:Meth K aO "holds" qN
 IH:Meth K aO "found" qO
 KR:Meth K aO "door" uB
 KZ:Meth K aO "lets" t8
 II:Meth K aO "total" qR
 dP:W.specialIn K (.ref iD) "__getattribute__" =some (some (.builtin "type.__getattribute__"))/\W.readsIn K iD (.type "type")=true/\W.findCls K (.ref iD) (.type "type") "__init__" =some (.val (.ref iQ))
 OS:mg "sorted" =none
 UM:mg "sum" =none
 aBf:mg "any" =none
 jM:mg "range" =none
 hJ:mg "len" =none
 LF:mg "min" =none
 t9:mg "isinstance" =none
 aGd:mg "int" =none
 aGc:mg "str" =none
 aGe:mg "all" =none
 aFn:mg "dict" =none
 AY:mg "list" =none
 aFj:mg "bool" =none
 o6:∃t:Tok,mg "LONGEST_NAME" =some (.int 8 t)
theorem gl_{G:Prop}(h:∀G':Prop,G'=G->G'):G:=h G rfl
set_option hygiene false
local macro_rules| `(tactic| tm_at"g")=> `(tactic| (intro vs H Q E h;cases h;subst_vars;rfl))
local macro_rules| `(tactic| tm_at"h")=> `(tactic| (intro cdv A outer s H vs Q E hr h;refine gl_ ?_;intro G_ hG_))
local macro_rules| `(tactic| tm_at"r")=> `(tactic| (refine gl_ ?_;intro G_ hG_))
local macro_rules| `(tactic| tm_at"f")=> `(tactic| subst hG_)
local macro_rules|`(tactic|obtain $p:rcasesPatMed:=$e:term)=>`(tactic|(tm_at"r";rcases $e:term with $p:rcasesPatMed<;>tm_at"f"))
local macro_rules| `(tactic| tm_at"e")=> `(tactic| try dsimp only[cxK,cxP,cxW,cxM,cxB])
set_option hygiene true
local macro_rules| `(tactic| tm_at"k")=> `(tactic| first|assumption|(refine' Same.at ?s ?h;(case s=>assumption);(case h=>tm_at"k"))|(refine' SqL.of ?h;(case h=>tm_at"k"))|(refine' SqT.of ?h;(case h=>tm_at"k"))|(refine' Same.seq ?s ?h;(case s=>assumption);(case h=>tm_at"k"))|(refine' Same.sqT ?s ?h;(case s=>assumption);(case h=>tm_at"k")))
local macro_rules| `(tactic| tm_at"q")=> `(tactic| first|assumption|exact Same.refl _|(refine' Same.snoc ?s ?h;(case s=>assumption);(case h=>tm_at"q")))
local macro_rules| `(tactic| tm_at"m")=> `(tactic| first|assumption|exact SameBut.refl|(refine' SameBut.snoc ?s ?h;(case s=>assumption);(case h=>tm_at"m"))|(refine' SameBut.snocS ?s ?h;(case s=>assumption);(case h=>tm_at"m")))
local macro_rules| `(tactic| tm_at"i")=> `(tactic| first|assumption|(with_reducible exact XI)|(with_reducible exact aDk)|(refine' aFr ?d ?h;(case d=>decide +kernel);(case h=>tm_at"i"))|exact XI)
local macro_rules| `(tactic| tm_at"o")=> `(tactic| first|with_reducible assumption|lia|omega|(simp only[vL,IC,aAj,ZS,aAp,ZG,YR,aAr,aAa,ZV,aAg,Z9,SZ,T9,R8,TZ,UG,TN,SC,UB,R1,TV,RZ,sizeLine_eq,az,ml,ak,af];done)|(simp only[vL,IC,aAj,ZS,aAp,ZG,YR,aAr,aAa,ZV,aAg,Z9,SZ,T9,R8,TZ,UG,TN,SC,UB,R1,TV,RZ,sizeLine_eq,az,ml,ak,af];omega)|(simp only[vL,IC,aAj,ZS,aAp,ZG,YR,aAr,aAa,ZV,aAg,Z9,SZ,T9,R8,TZ,UG,TN,SC,UB,R1,TV,RZ,sizeLine_eq,az,ml,ak,af]at *;omega))
local macro_rules| `(tactic| tm_at"j")=> `(tactic| first|with_reducible assumption|lia|omega|decide)
local macro_rules| `(tactic| tm_at"p")=> `(tactic| first|((with_reducible refine ICls.cl (DCls.ic ?_));assumption)|((with_reducible refine DCls.ic ?_);assumption)|((with_reducible refine DCls.n_targets ?_);assumption)|((with_reducible refine DCls.n_spare ?_);assumption)|((with_reducible refine DCls.n_arcs ?_);assumption)|((with_reducible refine DCls.n_house ?_);assumption)|((with_reducible refine DCls.n_turn ?_);assumption)|((with_reducible refine DCls.n_outs ?_);assumption)|((with_reducible refine DCls.n_cuts ?_);assumption)|((with_reducible refine DCls.n_net ?_);assumption)|((with_reducible refine DCls.n_source ?_);assumption)|((with_reducible refine DCls.n_pair_nodes ?_);assumption)|((with_reducible refine DCls.n_door_arcs ?_);assumption)|((with_reducible refine DCls.n_plenty ?_);assumption)|((with_reducible refine DCls.n_name ?_);assumption)|((with_reducible refine DCls.n_start ?_);assumption)|((with_reducible refine DCls.n_end ?_);assumption)|((with_reducible refine DCls.n_wide ?_);assumption)|((with_reducible refine DCls.n_since ?_);assumption)|((with_reducible refine DCls.n_until ?_);assumption)|((with_reducible refine DCls.n_every ?_);assumption)|((with_reducible refine DCls.n_bits ?_);assumption)|((with_reducible refine DCls.n_letting ?_);assumption)|((with_reducible refine DCls.n_inner ?_);assumption)|((with_reducible refine DCls.n_more ?_);assumption)|((with_reducible refine DCls.n_first ?_);assumption)|((with_reducible refine DCls.n_last ?_);assumption)|((with_reducible refine DCls.n_sizes ?_);assumption)|((with_reducible refine DCls.n_people ?_);assumption)|((with_reducible refine DCls.n_named_doors ?_);assumption))
local macro_rules| `(tactic| tm_at"l")=> `(tactic| first|(with_reducible first|refine aEv ?_|refine aEc ?_|refine aGx ?_|refine aFw ?_|refine aFQ ?_|refine aFx ?_|refine aFV ?_|refine aFs ?_|refine aFJ ?_|refine aFp ?_|refine aFK ?_|refine aF2 ?_|refine aFT ?_|refine aF8 ?_|refine aDW ?_|refine aDY ?_|refine aCj ?_|refine aD2 ?_|refine aF0 ?_|refine aFS ?_|refine aBi ?_|refine aF6 ?_|refine aE6 ?_|refine aDn ?_|refine aFU ?_|refine aEw ?_|refine aFv ?_|refine NE ?_|refine LV ?_|refine aBz ?_|refine aCU ?_|refine aFY ?_|refine aFy ?_|refine aF5 ?_|refine aFF ?_|refine aFt ?_|refine aFE ?_|refine aFA ?_|refine aF4 ?_|refine aFZ ?_|refine aFL ?_|refine aFg ?_|refine aEO ?_|refine aD1 ?_|refine aC8 ?_|refine aCO ?_|refine aEM ?_|refine aEb ?_|refine aFM ?_|refine aBY ?_|refine aE8 ?_|refine aF7 ?_|refine aGs ?_|refine aE2 ?_|refine aEs ?_|refine aBL ?_|refine aBp ?_|refine aBT ?_|refine aCJ ?_|refine aB6 ?_|refine aBQ ?_|refine aE5 ?_|refine aEf ?_|refine aCp ?_|refine aCu ?_|refine aCS ?_|refine aFH ?_|refine aFO ?_|refine aDV ?_|refine aDe ?_|refine aBF ?_|refine VQ ?_|refine aBs ?_|refine aDQ ?_|refine aBm ?_|refine aCY ?_|refine ZX ?_|refine aED ?_|refine ZW ?_|refine aAd ?_|refine YM ?_|refine aEk ?_)|((with_reducible refine' aFh ?s ?_);(case s=>decide))|((with_reducible refine' aBU ?s ?_);(case s=>tm_at"j");intro h0' h1')|((with_reducible refine' aEy ?s ?r ?_);(case s=>tm_at"j");(case r=>tm_at"j"))|((with_reducible refine' aC7 ?s ?r ?_);(case s=>tm_at"j");(case r=>tm_at"j"))|((with_reducible refine' aCL ?s ?r ?_);(case s=>tm_at"j");(case r=>tm_at"j"))|((with_reducible refine' aBx ?s ?_);(case s=>tm_at"o");intro p' H' n' S' e')|((with_reducible refine' aBK ?s ?_);(case s=>tm_at"o");intro p' H' n' S' e')|((with_reducible refine aBE ?_);intro p' H' n' S' e')|((with_reducible refine' aCG ?e ?c ?n ?l ?_);(case e=>tm_at"k");(case c=>tm_at"p");(case n=>tm_at"p");(case l=>tm_at"i"))|((with_reducible refine' Y4 ?e ?c ?n ?l ?_);(case e=>tm_at"k");(case c=>tm_at"p");(case n=>tm_at"p");(case l=>kernel_rfl);intro H' B' e')|((with_reducible refine' aES ?e ?l ?F ?_);(case e=>tm_at"k");(case l=>tm_at"i");(case F=>assumption))|((with_reducible refine' MD ?e ?l ?_);(case e=>tm_at"k");(case l=>rfl))|((with_reducible refine' aBC ?e ?s ?r ?_);(case e=>tm_at"k");(case s=>tm_at"j");(case r=>tm_at"j");intro v' hv')|((with_reducible refine' nY ?e ?l ?_);(case e=>tm_at"k");(case l=>rfl);intro H' B' e')|((with_reducible refine' aCd ?e ?_);(case e=>tm_at"k"))|((with_reducible refine' aC2 ?e ?_);(case e=>tm_at"o"))|((with_reducible refine' aD0 ?e ?_);(case e=>tm_at"k");intro p' H' n' S' e')|((with_reducible refine' WJ ?e ?_);(case e=>tm_at"k");intro p' H' n' S' e')|((with_reducible refine' aC1 ?e ?f ?s ?_);(case e=>tm_at"k");(case f=>tm_at"k");(case s=>tm_at"o");intro p' H' n' S' e')|((with_reducible refine' W7 ?e ?_);(case e=>tm_at"k");intro p' H' n' S' e')|((with_reducible refine' aDK ?e ?_);(case e=>tm_at"k"))|((with_reducible refine' JR ?e ?_);(case e=>tm_at"k"))|((with_reducible refine' WY ?s ?r ?_);(case s=>tm_at"j");(case r=>tm_at"j"))|((with_reducible refine' WP ?s ?r ?t ?u ?_);(case s=>tm_at"j");(case r=>tm_at"j");(case t=>tm_at"j");(case u=>tm_at"j"))|((with_reducible refine' ZU ?e ?l ?_);(case e=>tm_at"k");(case l=>rfl))|((with_reducible refine' aB5 ?e ?l ?_);(case e=>tm_at"k");(case l=>rfl))|((with_reducible refine' aEN ?s ?_);(case s=>tm_at"j"))|((with_reducible refine' aDP ?s ?_);(case s=>tm_at"j"))|((with_reducible refine' aCz ?s ?_);(case s=>tm_at"j"))|((with_reducible refine' aCy ?s ?_);(case s=>tm_at"j")))
local macro_rules| `(tactic| tm_at"a")=> `(tactic| repeat tm_at"l")
local macro_rules| `(tactic| tm_at"n")=> `(tactic| repeat ((fail_if_success (with_reducible refine ZR ?_));tm_at"l"))
local macro_rules| `(tactic| tm_at"s")=> `(tactic| repeat first|exact nn_nil|refine nn_app ?_ ?_|refine nn_cons (by omega) ?_|exact nn_map (λn=>by omega))
variable {H H' H1:Hp}{Q rt:VK}{cell f i i0 i1 l pl wd:Int}{nm part qual x z:Str}{α β:Type}{cv dvs us vs ws xs:List V}{kL:Option Nat}{v y:V}{ps ps' rz rz':List (Str×Int)}{kvs nk:List (Key×V)}{j n:Nat}{fd:gv}{sc:qi}{args:qy}{body:Expr}{oa os outs rs sp' ts ts':List Int}{as as':List (List Int)}{tb:TS}{ct nx:St->Hp->Prop}{σ:St}{X:Cx}{dk pk:List (List Key×V)}{pn:Str->Nat}{tv:TE}{rd:V->V->Hp->VK->Prop}{fsq:List (Str×V)}{w:gh}{mg:Str->Option ah}
section
variable {P:fh}{w:gh}{K:W.Frag}{mg:Str->Option ah}{base:Heap}
def aD4:V->Bool
 | .int _=>true
 | _=>false
def DV(K:W.Frag):Sp:=λvs H Q _=>∃x n,vs=[x]/\BTy K H x n/\Q (.bl (aD4 x)) H
theorem Y6{E:XK}(h:Q (.bl true) H):DV K [.int i] H Q E:=⟨_,_,rfl,.int i,h⟩
theorem P2(m:M K mg):FnOk P w K mg base CX0 1 m.yV m.rT.d ["thing"] (DV K):=by
 refine m.rT.F.ok aH4 (λvs H Q E h=> ?_) (λcdv A outer s H vs Q E hr h=> ?_)
 .obtain⟨x,n,rfl,b,k⟩:=h;rfl
 .obtain⟨x,n,rfl,b,k⟩:=h;have nd:=aH4.nd;tm_at"d";refine⟨_,(aE (aT (OG (bI DQ rfl m.t9 pZ (aA (pv 0) (aA (UE rfl m.aGd aDN) aC))) (NO (aE0 (bI DQ rfl m.t9 pZ (aA (pv 0) (aA (UE rfl m.aFj aCt) aC)))))))),?_⟩;refine aL (σ:=[some (x)]) rfl ?_;tm_at"e";refine⟨_,rfl,_,_,_,_,_,rfl,b.ty,rfl,R6 b "int" (.inl rfl),_,rfl,?_⟩;refine F9 (λh1=>⟨_,rfl,_,_,_,_,_,rfl,b.ty,rfl,R6 b "bool" (.inr (.inl rfl)),_,rfl,?_⟩) (λh1=> ?_)
  .cases b<;>first|exact k|exact absurd h1 (by decide)
  .cases b<;>first|exact k|exact absurd (by decide) h1
theorem P1(m:M K mg):Fc P w K mg base "is_whole" 1 ["thing"] (DV K):=⟨_,_,m.UJ,m.rT.F.kp,m.rT.b,P2 m⟩
def nmB:V->Bool
 | .str z=>aY z
 | _=>false
def GK(K:W.Frag):Sp:=λvs H Q _=>∃x n,vs=[x]/\BTy K H x n/\(∀z,x= .str z->z.length<=1000)/\∀H',Same H H'->Q (.bl (nmB x)) H'
theorem aCs{E:XK}(hz:aY z=true)(h:∀H',Same H H'->Q (.bl true) H'):GK K [.str z] H Q E :=
 ⟨_,_,rfl,.str z,λy e=>by cases e;exact ee (VD hz) (by decide),λH' s=>by rw[show nmB (.str z)=true from hz];exact h H' s⟩
theorem le1(a c:Nat):(!decide ([c]<[a]))=decide (a<=c):=by
 have:([c]<[a])↔c<a:=by
  constructor
  .intro h;cases h with
   | rel h=>exact h
   | cons h=>cases h
  .exact λh=> .rel h
 by_cases h:c<a
 .rw[decide_eq_true (this.mpr h),decide_eq_false (by lia)];rfl
 .rw[decide_eq_false (λz=>h (this.mp z)),decide_eq_true (by lia)];rfl
theorem aFP:("a" :Str).cps.toList=[97]:=by decide +kernel
theorem aFR:("z" :Str).cps.toList=[122]:=by decide +kernel
theorem JF(p:α->Bool)(d:α):∀l:List α,((fc l.length).map λi=>p (l.getD i d)).all id=l.all p
 | []=>rfl
 | a::l=>by
  rw[az,ng,ay,ma,du,ma,←JF p d l];rfl
theorem ZP{o:HO}(h:H p=none):Same H (upd H p o):=λb u e=>by rw[aK (bB e h)];exact e
theorem RS(m:M K mg):FnOk P w K mg base CX0 1 m.AX m.vB.d ["thing"] (GK K):=by
 refine m.vB.F.ok aH8 (λvs H Q E h=> ?_) (λcdv A outer s H vs Q E hr h=> ?_)
 .obtain⟨x,n,rfl,b,hz,k⟩:=h;rfl
 .obtain⟨x,n,rfl,b,hz,k⟩:=h;have nd:=aH8.nd;tm_at"d";rcases m.o6 with⟨aIx,o6⟩;refine⟨_,(aB (b8 (z7 (pS (bI DQ rfl m.t9 pZ (aA (pv 0) (aA (UE rfl m.aGc aER) aC))))) (aE (aT K7)) bM)
   (aE (aT (OG (OR aAy aAy aD (bI VR rfl m.hJ eZ (aA (pv 0) aC)) (aCA rfl o6)) (NO (bI (ZT rfl) rfl m.aGe aDH (aA (d7 (N:=["sign"]) (nl:=1) (ci:=[]) rfl (blk (s.heap.objs.size+1) rfl rfl rfl (by kernel_rfl)) (aFc (pv 0)) (λ_ _ _ _=>(aN (i:=0) (show (["sign"]:List Str).Nodup by decide +kernel) rfl (by tm_at"b"))) (λ_ _ _ _=>dI) (λ_ _ _ _=>(OR WI WI dS (pv 0) dS))) aC))))))),?_⟩
  refine aL (σ:=[some (x)]) rfl ?_;tm_at"e";refine⟨_,rfl,_,_,_,_,_,rfl,b.ty,rfl,R6 b "str" (.inr (.inr rfl)),_,rfl,?_⟩;refine F9 (λh1=> ?_) (λh1=> ?_)
  .show Q (.bl false) H;cases b<;>first|exact k H (Same.refl H)|exact absurd h1 (by decide)
  .have hs:∃z,x= .str z:=by
    cases b<;>first|exact⟨_,rfl⟩|exact absurd (by decide) h1
   rcases hs with⟨z,rfl⟩;have hl:=hz z rfl;have hl':z.length<=sizeLine:=ls (VM hl);refine⟨_,rfl,z,rfl,hl',_,_,rfl,rfl,_,rfl,?_⟩;refine F9 (λh2=>⟨_,_,rfl,rfl,_,rfl,?_⟩) (λh2=>⟨_,rfl,?_⟩)
   .refine F9 (λh3=> ?_) (λh3=> ?_)
    .refine⟨_,rfl,z,rfl,?_⟩;refine aBS z.cps.size (λi=> .bl (sgB (z.cps.toList.getD i 0))) hl' (λH'=>H'=H) rfl (λ_ _=>rfl) (λi _ hi _=>hi) ?_ ?_ ?_ ?_ ?_
     .rintro i _ x H' hi rfl hq_;obtain⟨rfl,c,hc,rfl⟩:=hq_;refine⟨⟨rfl,λj v hv=> ?_⟩,rfl,?_⟩
      .match j,hv with
       | 0,hv=>cases hv
       | j+1,hv=>cases hv
      .have hc':z.cps.toList.getD i 0=c:=by
        rw[bj,Array.getElem?_toList,hc];rfl
       refine⟨_,rfl,_,_,rfl,rfl,_,rfl,?_⟩;rw[aFP,hc'];refine F9 (λh4=>⟨_,_,rfl,rfl,?_,rfl⟩) (λh4=>⟨?_,rfl⟩)
       .have h4':97<=c:=by rw[show (⟨#[c]⟩:Str).cps.toList=[c] from rfl,le1]at h4;exact of_decide_eq_true h4
        rw[aFR,show (⟨#[c]⟩:Str).cps.toList=[c] from rfl,le1];unfold sgB;rw[decide_eq_true h4',Bool.true_and]
       .have h4':¬97<=c:=by rw[show (⟨#[c]⟩:Str).cps.toList=[c] from rfl,le1]at h4;exact λz=>h4 (decide_eq_true z)
        unfold sgB;rw[decide_eq_false h4',vn]
     .exact λ_ _ _ _ f q=>f _ _ q
     .rintro σ H Q Q' f hq_;obtain⟨v,e,i,j,e1,e2,k,e3,q⟩:=hq_;refine⟨v,e,i,j,e1,e2,k,e3,?_⟩;revert q
      split
      .rintro hq_;obtain⟨i,j,e1,e2,q⟩:=hq_;exact⟨i,j,e1,e2,f _ _ q⟩
      .exact λq=>f _ _ q
     .exact λ_ _ _ _ _ f q=>f _ _ q
     .rintro _ rfl p hp;refine⟨p,(fc z.cps.size).map (λi=>sgB (z.cps.toList.getD i 0)),rfl,SqL.of ?_,?_⟩
      .rw[aR,du];rfl
      .have e:=JF sgB 0 z.cps.toList;rw[ir]at e;rw[e];have e2:nmB (.str z)=z.cps.toList.all sgB:=by
        show aY z=_;unfold aY;rw[show decide (1<=(z.length:Int))=true from h2,show decide ((z.length:Int)<=8)=true from h3];rfl
       rw[←e2];exact k _ (ZP hp)
    .have e2:nmB (.str z)=false:=by
      show aY z=_;unfold aY;rw[show decide ((z.length:Int)<=8)=false from by simpa using h3];simp
     have:=k H (Same.refl H);rw[e2]at this;exact this
   .have e2:nmB (.str z)=false:=by
     show aY z=_;unfold aY;rw[show decide (1<=(z.length:Int))=false from by simpa using h2];simp
    have:=k H (Same.refl H);rw[e2]at this;exact this
theorem UF(m:M K mg):Fc P w K mg base "is_name" 1 ["thing"] (GK K):=⟨_,_,m.X0,m.vB.F.kp,m.vB.b,RS m⟩
local macro_rules| `(tactic| tm_at"l")=> `(tactic| first|(with_reducible refine Y6 ?_)|((with_reducible refine' aCs ?s ?_);(case s=>assumption);intro H' S'))
inductive mE(K:W.Frag)(vs:List V)(H:Hp)(Q:VK)(E:XK):Prop
 | mk (part z:Str) (_:vs=[.str part,.str z]) (_:aY z=true) (_:∀H',Same H H'->Q .non H'):mE K vs H Q E
theorem O7{E:XK}(hz:aY z=true)(h:∀H',Same H H'->Q .non H'):mE K [.str part,.str z] H Q E:=⟨_,_,rfl,hz,h⟩
theorem LJ(m:M K mg):FnOk P w K mg base CX0 2 m.v4 m.pE.d ["part","thing"] (mE K):=by
 refine m.pE.F.ok aHW ?_ ?_;tm_at"g";tm_at"h";rcases h with⟨part,z,rfl,hz,k⟩;tm_at"f";have nd:=aHW.nd;tm_at"d";have aIn:= @UF P w K mg base m;refine⟨_,(aE (b8 (z7 (pS (bG aIn hr (aA (pv 1) aC)))) (aE gW) bM)),?_⟩;refine aL (σ:=[some (.str part),some (.str z)]) rfl ?_;tm_at"e";tm_at"a";exact k _ (by tm_at"q")
theorem N3(m:M K mg):Fc P w K mg base "need_name" 2 ["part","thing"] (mE K):=⟨_,_,m.QE,m.pE.F.kp,m.pE.b,LJ m⟩
inductive kP(K:W.Frag)(vs:List V)(H:Hp)(Q:VK)(E:XK):Prop
 | mk (part:Str) (i l:Int) (_:vs=[.str part,.int i,.int l]) (_:l<=i) (_:Q .non H):kP K vs H Q E
theorem N6{E:XK}(hz:l<=i)(h:Q .non H):kP K [.str part,.int i,.int l] H Q E:=⟨_,_,_,rfl,hz,h⟩
theorem J6(m:M K mg):FnOk P w K mg base CX0 2 m.tT m.nK.d ["part","thing","least"] (kP K):=by
 refine m.nK.F.ok aHM ?_ ?_;tm_at"g";tm_at"h";rcases h with⟨part,i,l,rfl,hz,k⟩;tm_at"f";have nd:=aHM.nd;tm_at"d";have aIk:= @P1 P w K mg base m;refine⟨_,(aE (b8 (PW.pt (SF (z7 (pS (bG aIk hr (aA (pv 1) aC)))) (MN (bC jG (pv 1) (pv 2) (bF _))))) (aE gW) bM)),?_⟩;refine aL (σ:=[some (.str part),some (.int i),some (.int l)]) rfl ?_;tm_at"e";tm_at"a";exact k
theorem eI(m:M K mg):Fc P w K mg base "need_whole" 2 ["part","thing","least"] (kP K):=⟨_,_,m.OT,m.nK.F.kp,m.nK.b,J6 m⟩
local macro_rules| `(tactic| tm_at"l")=> `(tactic| first|((with_reducible refine' O7 ?s ?_);(case s=>assumption);intro H' S')|((with_reducible refine' N6 ?s ?_);(case s=>tm_at"j")))
abbrev jA(n s e w:V):List (Str×V):=bO "wide" w (bO "end" e (bO "start" s (bO "name" n [])))
def cZ(e:V):Prop:=e= .non∨∃z,e= .str z/\aY z=true
inductive c9(K:W.Frag)(vs:List V)(H:Hp)(Q:VK)(E:XK):Prop
 | mk (p C dx:Addr) (n s:Str) (e:V) (wd:Int) (_:vs=[.ref p,.str n,.str s,e,.int wd]) (_:DCls K C) (_:H p=some (.ins C dx [])) (_:aY n=true) (_:aY s=true) (_:cZ e) (_:0<=wd) (_:∀H',SameBut p H H'->H' p=some (.ins C dx (jA (.str n) (.str s) e (.int wd)))->Q .non H'):c9 K vs H Q E
theorem o9{E:XK}{n s:Str}{e:V}(dc:DCls K C)(hp:H p=some (.ins C dx []))(hn:aY n=true)(hs:aY s=true)(he:cZ e)(hw:0<=wd)
  (k:∀H',SameBut p H H'->H' p=some (.ins C dx (jA (.str n) (.str s) e (.int wd)))->Q .non H'):c9 K [.ref p,.str n,.str s,e,.int wd] H Q E:=⟨_,_,_,_,_,_,_,rfl,dc,hp,hn,hs,he,hw,k⟩
theorem kW(m:M K mg):FnOk P w K mg base CX0 3 m.iQ m.fL ["self","name","start","end","wide"] (c9 K):=by
 refine m.nJ.ok aG6 ?_ ?_;tm_at"g";tm_at"h";rcases h with⟨p,C,dx,n,st,e,wd,rfl,dc,hp,hn,hs,he,hw,k⟩;tm_at"f";have nd:=aG6.nd;tm_at"d";have aHl:= @N3 P w K mg base m;have aGC:= @eI P w K mg base m;refine⟨_,(aB (aU (bG aHl hr (aA dS (aA (pv 1) aC))))
  (aB (aU (bG aHl hr (aA dS (aA (pv 2) aC))))
  (aB (b8 (bC RG (pv 3) tJ (bF _)) (aE (aU (bG aHl hr (aA dS (aA (pv 3) aC))))) bM)
  (aB (aU (bG aGC hr (aA dS (aA (pv 4) (aA aD aC)))))
  (aB (bU (pv 0) (pv 1) rfl)
  (aB (bU (pv 0) (pv 2) rfl)
  (aB (bU (pv 0) (pv 3) rfl)
  (aE (bU (pv 0) (pv 4) rfl))))))))),?_⟩
 refine aL (σ:=[some (.ref p),some (.str n),some (.str st),some (e),some (.int wd)]) rfl ?_;tm_at"e";rcases he with rfl|⟨z,rfl,hz⟩
 .tm_at"a";exact k _ (by tm_at"m") (by assumption)
 .tm_at"a";exact k _ (by tm_at"m") (by assumption)
theorem UW(m:M K mg):Kc P w K mg base "Door" m.iD 3 [] (c9 K):=⟨_,_,_,_,m.O6,m.aDx,.nil,m.u8,kW m⟩
theorem fD(m:M K mg):Dc P w K mg base "Door" "__init__" 3 (c9 K):=⟨_,_,_,_,m.O6,m.dP.1,m.dP.2.1,m.dP.2.2,m.nJ.kp,m.u8,kW m⟩
theorem fP(m:M K mg):DcD P w K mg base "Door" "__init__" 3 [.int 1] (c9 K):=by
 rcases m.AW with⟨ds,h1,h2⟩;exact⟨_,_,_,_,_,m.O6,m.dP.1,m.dP.2.1,m.dP.2.2,m.nJ.kp,h1,h2,kW m⟩
theorem YI{E:XK}{n s:Str}{e:V}(ev:vs++dvs=[.str n,.str s,e,.int wd])(dc:DCls K C)(hn:aY n=true)(hs:aY s=true)(he:cZ e)(hw:0<=wd)
  (k:∀p dx H',H p=none->Same H H'->H' p=some (.ins C dx (jA (.str n) (.str s) e (.int wd)))->Q (.ref p) H'):jK C (c9 K) dvs E Q vs H :=
 iY (λp dx H0 Q' h k' s0=>by rw[ev];exact o9 dc h hn hs he hw k') k
local macro_rules| `(tactic| tm_at"l")=> `(tactic| ((with_reducible refine' YI ?v ?d ?hn ?hs ?he ?hw ?_);(case v=>rfl);(case d=>assumption);(case hn=>assumption);(case hs=>assumption);(case he=>first|assumption|exact .inl rfl|exact .inr ⟨_,rfl,by assumption⟩);(case hw=>tm_at"j");intro p' dx' H' n' S' e'))
inductive d9(K:W.Frag)(vs:List V)(H:Hp)(Q:VK)(E:XK):Prop
 | mk (p C dx:Addr) (fs:List (Str×V)) (e:V) (_:vs=[.ref p]) (_:DCls K C) (_:H p=some (.ins C dx fs)) (_:fs.lookup ("end" :Str)=some e) (_:Q (.bl (decide (e= .non))) H):d9 K vs H Q E
theorem aBJ{E:XK}{fs:List (Str×V)}(hp:H p=some (.ins C dx fs))(dc:DCls K C)(l:fs.lookup ("end" :Str)=some .non)(k:Q (.bl true) H):d9 K [.ref p] H Q E:=⟨_,_,_,_,_,rfl,dc,hp,l,k⟩
theorem aBo{E:XK}{fs:List (Str×V)}(hp:H p=some (.ins C dx fs))(dc:DCls K C)(l:fs.lookup ("end" :Str)=some (.str z))(k:Q (.bl false) H):d9 K [.ref p] H Q E :=
 ⟨_,_,_,_,_,rfl,dc,hp,l,by rw[decide_eq_false (λz=>by cases z)];exact k⟩
theorem c8(m:M K mg):FnOk P w K mg base CX0 1 m.cM m.cK.d ["self"] (d9 K):=by
 refine m.cK.F.ok aHf ?_ ?_;tm_at"g";tm_at"h";rcases h with⟨p,C,dx,fs,e,rfl,dc,hp,l,k⟩;tm_at"f";have nd:=aHf.nd;tm_at"d";refine⟨_,(aE (aT (wD VU (aH (pv 0) rfl) tJ (bF _)))),?_⟩;refine aL (σ:=[some (.ref p)]) rfl ?_;tm_at"e";tm_at"a";exact k
theorem FU(m:M K mg):Mc P w K mg base m.iD "is_exit" 1 (d9 K):=⟨_,_,_,m.wP.ic.cl,m.F2,m.cK.b,c8 m⟩
theorem D2(m:M K mg):Mc P w K mg base m.jO "is_exit" 1 (d9 K):=⟨_,_,_,m.tV.ic.cl,m.EG,m.cK.b,c8 m⟩
theorem DI(m:M K mg):Mc P w K mg base m.jR "is_exit" 1 (d9 K):=⟨_,_,_,m.t7.ic.cl,m.EE,m.cK.b,c8 m⟩
theorem EZ(m:M K mg):Mc P w K mg base m.mY "is_exit" 1 (d9 K):=⟨_,_,_,m.wS.ic.cl,m.F6,m.cK.b,c8 m⟩
theorem CL(m:M K mg):Mc P w K mg base m.g9 "is_exit" 1 (d9 K):=⟨_,_,_,m.pV.ic.cl,m.CU,m.cK.b,c8 m⟩
theorem E1(m:M K mg):Mc P w K mg base m.mX "is_exit" 1 (d9 K):=⟨_,_,_,m.wR.ic.cl,m.F4,m.cK.b,c8 m⟩
theorem FI(m:M K mg):Mc P w K mg base m.m6 "is_exit" 1 (d9 K):=⟨_,_,_,m.wQ.ic.cl,m.F3,m.cK.b,c8 m⟩
theorem EA(m:M K mg):Mc P w K mg base m.jP "is_exit" 1 (d9 K):=⟨_,_,_,m.tU.ic.cl,m.EF,m.cK.b,c8 m⟩
local macro_rules| `(tactic| tm_at"l")=> `(tactic| first|((with_reducible refine' aBJ ?e ?d ?l ?_);(case e=>tm_at"k");(case d=>assumption);(case l=>tm_at"i"))|((with_reducible refine' aBo ?e ?d ?l ?_);(case e=>tm_at"k");(case d=>assumption);(case l=>tm_at"i")))
inductive mG(K:W.Frag)(vs:List V)(H:Hp)(Q:VK)(E:XK):Prop
 | mk (p C dx:Addr) (fs:List (Str×V)) (t wd:Int) (_:vs=[.ref p,.int t]) (_:DCls K C) (_:H p=some (.ins C dx fs)) (_:fs.lookup ("wide" :Str)=some (.int wd)) (_:Q (.int wd) H):mG K vs H Q E
theorem P4{E:XK}{fs:List (Str×V)}{t:Int}(hp:H p=some (.ins C dx fs))(dc:DCls K C)(l:fs.lookup ("wide" :Str)=some (.int wd))(k:Q (.int wd) H):mG K [.ref p,.int t] H Q E:=⟨_,_,_,_,_,_,rfl,dc,hp,l,k⟩
theorem MP(m:M K mg):FnOk P w K mg base CX0 1 m.vV m.v3.d ["self","turn"] (mG K):=by
 refine m.v3.F.ok aHX ?_ ?_;tm_at"g";tm_at"h";rcases h with⟨p,C,dx,fs,t,wd,rfl,dc,hp,l,k⟩;tm_at"f";have nd:=aHX.nd;tm_at"d";refine⟨_,(aE (aT (aH (pv 0) rfl))),?_⟩;refine aL (σ:=[some (.ref p),some (.int t)]) rfl ?_;tm_at"e";tm_at"a";exact k
theorem LO(m:M K mg):Mc P w K mg base m.iD "lets" 1 (mG K):=⟨_,_,_,m.wP.ic.cl,m.OX,m.v3.b,MP m⟩
local macro_rules| `(tactic| tm_at"l")=> `(tactic| ((with_reducible refine' o9 ?d ?e ?hn ?hs ?he ?hw ?_);(case d=>assumption);(case e=>tm_at"k");(case hn=>assumption);(case hs=>assumption);(case he=>assumption);(case hw=>tm_at"j");intro H' B' e'))
abbrev BN(n s e w i0:V):List (Str×V):=bO "since" i0 (jA n s e w)
inductive iA(K:W.Frag)(vs:List V)(H:Hp)(Q:VK)(E:XK):Prop
 | mk (p C dx:Addr) (n s:Str) (e:V) (wd i0:Int) (_:vs=[.ref p,.str n,.str s,e,.int wd,.int i0]) (_:DCls K C) (_:H p=some (.ins C dx [])) (_:aY n=true) (_:aY s=true) (_:cZ e) (_:0<=wd) (_:0<=i0) (_:∀H',SameBut p H H'->H' p=some (.ins C dx (BN (.str n) (.str s) e (.int wd) (.int i0)))->Q .non H'):iA K vs H Q E
theorem LH{E:XK}{n s:Str}{e:V}(dc:DCls K C)(hp:H p=some (.ins C dx []))(hn:aY n=true)(hs:aY s=true)(he:cZ e)(hw:0<=wd)(b0:0<=i0)
  (k:∀H',SameBut p H H'->H' p=some (.ins C dx (BN (.str n) (.str s) e (.int wd) (.int i0)))->Q .non H'):iA K [.ref p,.str n,.str s,e,.int wd,.int i0] H Q E:=⟨_,_,_,_,_,_,_,_,rfl,dc,hp,hn,hs,he,hw,b0,k⟩
theorem B0(m:M K mg):FnOk P w K mg base CX0 4 m.lM m.lH.d ["self","name","start","end","wide","since"] (iA K):=by
 refine m.lH.F.ok aG5 ?_ ?_;tm_at"g";tm_at"h";rcases h with⟨p,C,dx,n,st,e,wd,i0,rfl,dc,hp,hn,hs,he,hw,b0,k⟩;tm_at"f";have nd:=aG5.nd;tm_at"d";have aGF:= @fD P w K mg base m;have aGC:= @eI P w K mg base m;refine⟨_,(aB (aU (LE aGF hr (aA (pv 0) (aA (pv 1) (aA (pv 2) (aA (pv 3) (aA (pv 4) aC)))))))
  (aB (aU (bG aGC hr (aA dS (aA (pv 5) (aA aD aC)))))
  (aE (bU (pv 0) (pv 5) rfl)))),?_⟩
 refine aL (σ:=[some (.ref p),some (.str n),some (.str st),some (e),some (.int wd),some (.int i0)]) rfl ?_;tm_at"e";tm_at"a";exact k _ (by tm_at"m") (by assumption)
theorem TH(m:M K mg):Kc P w K mg base "Since" m.jO 4 [] (iA K):=⟨_,_,_,_,m.aDr,m.aAu,.nil,m.lH.b,B0 m⟩
theorem WG{E:XK}{n s:Str}{e:V}(ev:vs++dvs=[.str n,.str s,e,.int wd,.int i0])(dc:DCls K C)(hn:aY n=true)(hs:aY s=true)(he:cZ e)(hw:0<=wd)(b0:0<=i0)
  (k:∀p dx H',H p=none->Same H H'->H' p=some (.ins C dx (BN (.str n) (.str s) e (.int wd) (.int i0)))->Q (.ref p) H'):jK C (iA K) dvs E Q vs H :=
 iY (λp dx H0 Q' h k' s0=>by rw[ev];exact LH dc h hn hs he hw b0 k') k
local macro_rules| `(tactic| tm_at"l")=> `(tactic| ((with_reducible refine' WG ?v ?d ?hn ?hs ?he ?hw ?b0 ?_);(case v=>rfl);(case d=>assumption);(case hn=>assumption);(case hs=>assumption);(case he=>first|assumption|exact .inl rfl|exact .inr ⟨_,rfl,by assumption⟩);(case hw=>tm_at"j");(case b0=>tm_at"j");intro p' dx' H' n' S' e'))
def wM(wd i0 t:Int):Int:=if i0<=t then wd else 0
inductive kM(K:W.Frag)(vs:List V)(H:Hp)(Q:VK)(E:XK):Prop
 | mk (p C dx:Addr) (fs:List (Str×V)) (t wd i0:Int) (_:vs=[.ref p,.int t]) (_:DCls K C) (_:H p=some (.ins C dx fs)) (_:fs.lookup ("wide" :Str)=some (.int wd)) (_:fs.lookup ("since" :Str)=some (.int i0)) (_:0<=t) (_:0<=i0) (_:Q (.int (wM wd i0 t)) H):kM K vs H Q E
theorem z6{E:XK}{fs:List (Str×V)}{t:Int}(hp:H p=some (.ins C dx fs))(dc:DCls K C)(l:fs.lookup ("wide" :Str)=some (.int wd))(m0:fs.lookup ("since" :Str)=some (.int i0))(ht:0<=t)(b0:0<=i0)(k:Q (.int (wM wd i0 t)) H):kM K [.ref p,.int t] H Q E:=⟨_,_,_,_,_,_,_,rfl,dc,hp,l,m0,ht,b0,k⟩
theorem JZ(m:M K mg):FnOk P w K mg base CX0 1 m.tQ m.uA.d ["self","turn"] (kM K):=by
 refine m.uA.F.ok aHJ ?_ ?_;tm_at"g";tm_at"h";rcases h with⟨p,C,dx,fs,t,wd,i0,rfl,dc,hp,l,m0,ht,b0,k⟩;tm_at"f";have nd:=aHJ.nd;tm_at"d";refine⟨_,(aE (aT (oA (bC E6 (pv 1) (aH (pv 0) rfl) (bF _)) (aH (pv 0) rfl) aD))),?_⟩;refine aL (σ:=[some (.ref p),some (.int t)]) rfl ?_;tm_at"e";unfold wM at k;tm_at"a";refine bS (λhw=> ?_) (λhw=> ?_)
 .tm_at"a";rw[if_pos hw]at k;exact k
 .tm_at"a";rw[if_neg hw]at k;exact k
theorem J8(m:M K mg):Mc P w K mg base m.jO "lets" 1 (kM K):=⟨_,_,_,m.tV.ic.cl,m.K0,m.uA.b,JZ m⟩
local macro_rules| `(tactic| tm_at"l")=> `(tactic| ((with_reducible refine' z6 ?e ?d ?l ?m0 ?ht ?b0 ?_);(case e=>tm_at"k");(case d=>assumption);(case l=>tm_at"i");(case m0=>tm_at"i");(case ht=>tm_at"j");(case b0=>tm_at"j")))
abbrev BL(n s e w i0:V):List (Str×V):=bO "until" i0 (jA n s e w)
inductive iB(K:W.Frag)(vs:List V)(H:Hp)(Q:VK)(E:XK):Prop
 | mk (p C dx:Addr) (n s:Str) (e:V) (wd i0:Int) (_:vs=[.ref p,.str n,.str s,e,.int wd,.int i0]) (_:DCls K C) (_:H p=some (.ins C dx [])) (_:aY n=true) (_:aY s=true) (_:cZ e) (_:0<=wd) (_:0<=i0) (_:∀H',SameBut p H H'->H' p=some (.ins C dx (BL (.str n) (.str s) e (.int wd) (.int i0)))->Q .non H'):iB K vs H Q E
theorem OM{E:XK}{n s:Str}{e:V}(dc:DCls K C)(hp:H p=some (.ins C dx []))(hn:aY n=true)(hs:aY s=true)(he:cZ e)(hw:0<=wd)(b0:0<=i0)
  (k:∀H',SameBut p H H'->H' p=some (.ins C dx (BL (.str n) (.str s) e (.int wd) (.int i0)))->Q .non H'):iB K [.ref p,.str n,.str s,e,.int wd,.int i0] H Q E:=⟨_,_,_,_,_,_,_,_,rfl,dc,hp,hn,hs,he,hw,b0,k⟩
theorem BZ(m:M K mg):FnOk P w K mg base CX0 4 m.lC m.lD.d ["self","name","start","end","wide","until"] (iB K):=by
 refine m.lD.F.ok aGY ?_ ?_;tm_at"g";tm_at"h";rcases h with⟨p,C,dx,n,st,e,wd,i0,rfl,dc,hp,hn,hs,he,hw,b0,k⟩;tm_at"f";have nd:=aGY.nd;tm_at"d";have aGF:= @fD P w K mg base m;have aGC:= @eI P w K mg base m;refine⟨_,(aB (aU (LE aGF hr (aA (pv 0) (aA (pv 1) (aA (pv 2) (aA (pv 3) (aA (pv 4) aC)))))))
  (aB (aU (bG aGC hr (aA dS (aA (pv 5) (aA aD aC)))))
  (aE (bU (pv 0) (pv 5) rfl)))),?_⟩
 refine aL (σ:=[some (.ref p),some (.str n),some (.str st),some (e),some (.int wd),some (.int i0)]) rfl ?_;tm_at"e";tm_at"a";exact k _ (by tm_at"m") (by assumption)
theorem UA(m:M K mg):Kc P w K mg base "Until" m.jR 4 [] (iB K):=⟨_,_,_,_,m.aDs,m.aAv,.nil,m.lD.b,BZ m⟩
theorem VF{E:XK}{n s:Str}{e:V}(ev:vs++dvs=[.str n,.str s,e,.int wd,.int i0])(dc:DCls K C)(hn:aY n=true)(hs:aY s=true)(he:cZ e)(hw:0<=wd)(b0:0<=i0)
  (k:∀p dx H',H p=none->Same H H'->H' p=some (.ins C dx (BL (.str n) (.str s) e (.int wd) (.int i0)))->Q (.ref p) H'):jK C (iB K) dvs E Q vs H :=
 iY (λp dx H0 Q' h k' s0=>by rw[ev];exact OM dc h hn hs he hw b0 k') k
local macro_rules| `(tactic| tm_at"l")=> `(tactic| ((with_reducible refine' VF ?v ?d ?hn ?hs ?he ?hw ?b0 ?_);(case v=>rfl);(case d=>assumption);(case hn=>assumption);(case hs=>assumption);(case he=>first|assumption|exact .inl rfl|exact .inr ⟨_,rfl,by assumption⟩);(case hw=>tm_at"j");(case b0=>tm_at"j");intro p' dx' H' n' S' e'))
def wG(wd i0 t:Int):Int:=if t<i0 then wd else 0
inductive kO(K:W.Frag)(vs:List V)(H:Hp)(Q:VK)(E:XK):Prop
 | mk (p C dx:Addr) (fs:List (Str×V)) (t wd i0:Int) (_:vs=[.ref p,.int t]) (_:DCls K C) (_:H p=some (.ins C dx fs)) (_:fs.lookup ("wide" :Str)=some (.int wd)) (_:fs.lookup ("until" :Str)=some (.int i0)) (_:0<=t) (_:0<=i0) (_:Q (.int (wG wd i0 t)) H):kO K vs H Q E
theorem zP{E:XK}{fs:List (Str×V)}{t:Int}(hp:H p=some (.ins C dx fs))(dc:DCls K C)(l:fs.lookup ("wide" :Str)=some (.int wd))(m0:fs.lookup ("until" :Str)=some (.int i0))(ht:0<=t)(b0:0<=i0)(k:Q (.int (wG wd i0 t)) H):kO K [.ref p,.int t] H Q E:=⟨_,_,_,_,_,_,_,rfl,dc,hp,l,m0,ht,b0,k⟩
theorem KD(m:M K mg):FnOk P w K mg base CX0 1 m.uD m.tS.d ["self","turn"] (kO K):=by
 refine m.tS.F.ok aHH ?_ ?_;tm_at"g";tm_at"h";rcases h with⟨p,C,dx,fs,t,wd,i0,rfl,dc,hp,l,m0,ht,b0,k⟩;tm_at"f";have nd:=aHH.nd;tm_at"d";refine⟨_,(aE (aT (oA (bC jG (pv 1) (aH (pv 0) rfl) (bF _)) (aH (pv 0) rfl) aD))),?_⟩;refine aL (σ:=[some (.ref p),some (.int t)]) rfl ?_;tm_at"e";unfold wG at k;tm_at"a";refine bS (λhw=> ?_) (λhw=> ?_)
 .tm_at"a";rw[if_pos hw]at k;exact k
 .tm_at"a";rw[if_neg hw]at k;exact k
theorem KA(m:M K mg):Mc P w K mg base m.jR "lets" 1 (kO K):=⟨_,_,_,m.t7.ic.cl,m.KW,m.tS.b,KD m⟩
local macro_rules| `(tactic| tm_at"l")=> `(tactic| ((with_reducible refine' zP ?e ?d ?l ?m0 ?ht ?b0 ?_);(case e=>tm_at"k");(case d=>assumption);(case l=>tm_at"i");(case m0=>tm_at"i");(case ht=>tm_at"j");(case b0=>tm_at"j")))
abbrev FP(n s e w i0 i1:V):List (Str×V):=bO "since" i1 (bO "every" i0 (jA n s e w))
inductive iU(K:W.Frag)(vs:List V)(H:Hp)(Q:VK)(E:XK):Prop
 | mk (p C dx:Addr) (n s:Str) (e:V) (wd i0 i1:Int) (_:vs=[.ref p,.str n,.str s,e,.int wd,.int i0,.int i1]) (_:DCls K C) (_:H p=some (.ins C dx [])) (_:aY n=true) (_:aY s=true) (_:cZ e) (_:0<=wd) (_:1<=i0) (_:0<=i1) (_:∀H',SameBut p H H'->H' p=some (.ins C dx (FP (.str n) (.str s) e (.int wd) (.int i0) (.int i1)))->Q .non H'):iU K vs H Q E
theorem PH{E:XK}{n s:Str}{e:V}(dc:DCls K C)(hp:H p=some (.ins C dx []))(hn:aY n=true)(hs:aY s=true)(he:cZ e)(hw:0<=wd)(b0:1<=i0)(b1:0<=i1)
  (k:∀H',SameBut p H H'->H' p=some (.ins C dx (FP (.str n) (.str s) e (.int wd) (.int i0) (.int i1)))->Q .non H'):iU K [.ref p,.str n,.str s,e,.int wd,.int i0,.int i1] H Q E:=⟨_,_,_,_,_,_,_,_,_,rfl,dc,hp,hn,hs,he,hw,b0,b1,k⟩
theorem DG(m:M K mg):FnOk P w K mg base CX0 4 m.mV m.iR ["self","name","start","end","wide","every","since"] (iU K):=by
 refine m.F1.ok aHb ?_ ?_;tm_at"g";tm_at"h";rcases h with⟨p,C,dx,n,st,e,wd,i0,i1,rfl,dc,hp,hn,hs,he,hw,b0,b1,k⟩;tm_at"f";have nd:=aHb.nd;tm_at"d";have aGF:= @fD P w K mg base m;have aGC:= @eI P w K mg base m;refine⟨_,(aB (aU (LE aGF hr (aA (pv 0) (aA (pv 1) (aA (pv 2) (aA (pv 3) (aA (pv 4) aC)))))))
  (aB (aU (bG aGC hr (aA dS (aA (pv 5) (aA aD aC)))))
  (aB (aU (bG aGC hr (aA dS (aA (pv 6) (aA aD aC)))))
  (aB (bU (pv 0) (pv 5) rfl)
  (aE (bU (pv 0) (pv 6) rfl)))))),?_⟩
 refine aL (σ:=[some (.ref p),some (.str n),some (.str st),some (e),some (.int wd),some (.int i0),some (.int i1)]) rfl ?_;tm_at"e";tm_at"a";exact k _ (by tm_at"m") (by assumption)
theorem XR(m:M K mg):Kc P w K mg base "Beat" m.mY 4 [] (iU K):=⟨_,_,_,_,m.aFm,m.aDq,.nil,m.F5,DG m⟩
theorem Z4{E:XK}{n s:Str}{e:V}(ev:vs++dvs=[.str n,.str s,e,.int wd,.int i0,.int i1])(dc:DCls K C)(hn:aY n=true)(hs:aY s=true)(he:cZ e)(hw:0<=wd)(b0:1<=i0)(b1:0<=i1)
  (k:∀p dx H',H p=none->Same H H'->H' p=some (.ins C dx (FP (.str n) (.str s) e (.int wd) (.int i0) (.int i1)))->Q (.ref p) H'):jK C (iU K) dvs E Q vs H :=
 iY (λp dx H0 Q' h k' s0=>by rw[ev];exact PH dc h hn hs he hw b0 b1 k') k
local macro_rules| `(tactic| tm_at"l")=> `(tactic| ((with_reducible refine' Z4 ?v ?d ?hn ?hs ?he ?hw ?b0 ?b1 ?_);(case v=>rfl);(case d=>assumption);(case hn=>assumption);(case hs=>assumption);(case he=>first|assumption|exact .inl rfl|exact .inr ⟨_,rfl,by assumption⟩);(case hw=>tm_at"j");(case b0=>tm_at"j");(case b1=>tm_at"j");intro p' dx' H' n' S' e'))
def A2(wd i0 i1 t:Int):Int:=if 0<=t - i1/\(t - i1)%i0=0 then wd else 0
inductive l9(K:W.Frag)(vs:List V)(H:Hp)(Q:VK)(E:XK):Prop
 | mk (p C dx:Addr) (fs:List (Str×V)) (t wd i0 i1:Int) (_:vs=[.ref p,.int t]) (_:DCls K C) (_:H p=some (.ins C dx fs)) (_:fs.lookup ("wide" :Str)=some (.int wd)) (_:fs.lookup ("every" :Str)=some (.int i0)) (_:fs.lookup ("since" :Str)=some (.int i1)) (_:0<=t) (_:1<=i0) (_:0<=i1) (_:Q (.int (A2 wd i0 i1 t)) H):l9 K vs H Q E
theorem CW{E:XK}{fs:List (Str×V)}{t:Int}(hp:H p=some (.ins C dx fs))(dc:DCls K C)(l:fs.lookup ("wide" :Str)=some (.int wd))(m0:fs.lookup ("every" :Str)=some (.int i0))(m1:fs.lookup ("since" :Str)=some (.int i1))(ht:0<=t)(b0:1<=i0)(b1:0<=i1)(k:Q (.int (A2 wd i0 i1 t)) H):l9 K [.ref p,.int t] H Q E:=⟨_,_,_,_,_,_,_,_,rfl,dc,hp,l,m0,m1,ht,b0,b1,k⟩
theorem L9(m:M K mg):FnOk P w K mg base CX0 1 m.vO m.vS.d ["self","turn"] (l9 K):=by
 refine m.vS.F.ok aHN ?_ ?_;tm_at"g";tm_at"h";rcases h with⟨p,C,dx,fs,t,wd,i0,i1,rfl,dc,hp,l,m0,m1,ht,b0,b1,k⟩;tm_at"f";have nd:=aHN.nd;tm_at"d";refine⟨_,(aB (aQ (i:=2) nd rfl (by tm_at"b") (aI zY (pv 1) (aH (pv 0) rfl)))
  (aE (aT (oA (PW.pt (EQ (bC E6 (pv 2) aD (bF _)) (A1 (bC fV (aI bK (pv 2) (aH (pv 0) rfl)) aD (bF _))))) (aH (pv 0) rfl) aD)))),?_⟩
 refine aL (σ:=[some (.ref p),some (.int t),none]) rfl ?_;tm_at"e";unfold A2 at k;tm_at"a";refine bS (λhw=> ?_) (λhw=> ?_)
 .tm_at"a";refine bS (λhv=> ?_) (λhv=> ?_)
  .tm_at"a";rw[if_pos ⟨hw,hv⟩]at k;exact k
  .tm_at"a";rw[if_neg (λz=>hv z.2)]at k;exact k
 .tm_at"a";rw[if_neg (λz=>hw z.1)]at k;exact k
theorem NX(m:M K mg):Mc P w K mg base m.mY "lets" 1 (l9 K):=⟨_,_,_,m.wS.ic.cl,m.OV,m.vS.b,L9 m⟩
local macro_rules| `(tactic| tm_at"l")=> `(tactic| ((with_reducible refine' CW ?e ?d ?l ?m0 ?m1 ?ht ?b0 ?b1 ?_);(case e=>tm_at"k");(case d=>assumption);(case l=>tm_at"i");(case m0=>tm_at"i");(case m1=>tm_at"i");(case ht=>tm_at"j");(case b0=>tm_at"j");(case b1=>tm_at"j")))
local macro_rules| `(tactic| tm_at"l")=> `(tactic| first|(with_reducible refine VP ?_)|((with_reducible refine' V1 ?s ?_);(case s=>tm_at"j")) )
abbrev yH(n s e w i0:V):List (Str×V):=bO "bits" i0 (jA n s e w)
inductive gG(K:W.Frag)(vs:List V)(H:Hp)(Q:VK)(E:XK):Prop
 | mk (p C dx:Addr) (n s:Str) (e:V) (wd i0:Int) (_:vs=[.ref p,.str n,.str s,e,.int wd,.int i0]) (_:DCls K C) (_:H p=some (.ins C dx [])) (_:aY n=true) (_:aY s=true) (_:cZ e) (_:0<=wd) (_:0<=i0) (_:∀H',SameBut p H H'->H' p=some (.ins C dx (yH (.str n) (.str s) e (.int wd) (.int i0)))->Q .non H'):gG K vs H Q E
theorem KP{E:XK}{n s:Str}{e:V}(dc:DCls K C)(hp:H p=some (.ins C dx []))(hn:aY n=true)(hs:aY s=true)(he:cZ e)(hw:0<=wd)(b0:0<=i0)
  (k:∀H',SameBut p H H'->H' p=some (.ins C dx (yH (.str n) (.str s) e (.int wd) (.int i0)))->Q .non H'):gG K [.ref p,.str n,.str s,e,.int wd,.int i0] H Q E:=⟨_,_,_,_,_,_,_,_,rfl,dc,hp,hn,hs,he,hw,b0,k⟩
theorem zE(m:M K mg):FnOk P w K mg base CX0 4 m.kC m.kB.d ["self","name","start","end","wide","bits"] (gG K):=by
 refine m.kB.F.ok aGW ?_ ?_;tm_at"g";tm_at"h";rcases h with⟨p,C,dx,n,st,e,wd,i0,rfl,dc,hp,hn,hs,he,hw,b0,k⟩;tm_at"f";have nd:=aGW.nd;tm_at"d";have aGF:= @fD P w K mg base m;have aGC:= @eI P w K mg base m;refine⟨_,(aB (aU (LE aGF hr (aA (pv 0) (aA (pv 1) (aA (pv 2) (aA (pv 3) (aA (pv 4) aC)))))))
  (aB (aU (bG aGC hr (aA dS (aA (pv 5) (aA aD aC)))))
  (aE (bU (pv 0) (pv 5) rfl)))),?_⟩
 refine aL (σ:=[some (.ref p),some (.str n),some (.str st),some (e),some (.int wd),some (.int i0)]) rfl ?_;tm_at"e";tm_at"a";exact k _ (by tm_at"m") (by assumption)
theorem PY(m:M K mg):Kc P w K mg base "Marked" m.g9 4 [] (gG K):=⟨_,_,_,_,m.aAw,m.X3,.nil,m.kB.b,zE m⟩
theorem T8{E:XK}{n s:Str}{e:V}(ev:vs++dvs=[.str n,.str s,e,.int wd,.int i0])(dc:DCls K C)(hn:aY n=true)(hs:aY s=true)(he:cZ e)(hw:0<=wd)(b0:0<=i0)
  (k:∀p dx H',H p=none->Same H H'->H' p=some (.ins C dx (yH (.str n) (.str s) e (.int wd) (.int i0)))->Q (.ref p) H'):jK C (gG K) dvs E Q vs H :=
 iY (λp dx H0 Q' h k' s0=>by rw[ev];exact KP dc h hn hs he hw b0 k') k
local macro_rules| `(tactic| tm_at"l")=> `(tactic| ((with_reducible refine' T8 ?v ?d ?hn ?hs ?he ?hw ?b0 ?_);(case v=>rfl);(case d=>assumption);(case hn=>assumption);(case hs=>assumption);(case he=>first|assumption|exact .inl rfl|exact .inr ⟨_,rfl,by assumption⟩);(case hw=>tm_at"j");(case b0=>tm_at"j");intro p' dx' H' n' S' e'))
def rV(wd i0 t:Int):Int:=if i0/2^t.toNat%2=1 then wd else 0
inductive jF(K:W.Frag)(vs:List V)(H:Hp)(Q:VK)(E:XK):Prop
 | mk (p C dx:Addr) (fs:List (Str×V)) (t wd i0:Int) (_:vs=[.ref p,.int t]) (_:DCls K C) (_:H p=some (.ins C dx fs)) (_:fs.lookup ("wide" :Str)=some (.int wd)) (_:fs.lookup ("bits" :Str)=some (.int i0)) (_:0<=t) (_:0<=i0) (_:Q (.int (rV wd i0 t)) H):jF K vs H Q E
theorem yZ{E:XK}{fs:List (Str×V)}{t:Int}(hp:H p=some (.ins C dx fs))(dc:DCls K C)(l:fs.lookup ("wide" :Str)=some (.int wd))(m0:fs.lookup ("bits" :Str)=some (.int i0))(ht:0<=t)(b0:0<=i0)(k:Q (.int (rV wd i0 t)) H):jF K [.ref p,.int t] H Q E:=⟨_,_,_,_,_,_,_,rfl,dc,hp,l,m0,ht,b0,k⟩
theorem IE(m:M K mg):FnOk P w K mg base CX0 1 m.qK m.qU.d ["self","turn"] (jF K):=by
 refine m.qU.F.ok aHr ?_ ?_;tm_at"g";tm_at"h";rcases h with⟨p,C,dx,fs,t,wd,i0,rfl,dc,hp,l,m0,ht,b0,k⟩;tm_at"f";have nd:=aHr.nd;tm_at"d";refine⟨_,(aB (b8 (bC E6 (pv 1) (aD8 PySem.F.plainAttrs_int PySem.F.slot_int_bit_length PySem.F.type_int_bit_length WV (aH (pv 0) rfl)) (bF _)) (aE (aT aD)) bM)
  (aE (aT (oA (bC fV (aI bK (aI aDT (aH (pv 0) rfl) (pv 1)) aD) aD (bF _)) (aH (pv 0) rfl) aD)))),?_⟩
 refine aL (σ:=[some (.ref p),some (.int t)]) rfl ?_;tm_at"e";unfold rV at k;tm_at"a";refine bS (λhw=> ?_) (λhw=> ?_)
 .tm_at"a";rw[if_neg (by rw[XX b0 hw];decide)]at k;exact k
 .tm_at"a";refine bS (λhv=> ?_) (λhv=> ?_)
  .tm_at"a";rw[if_pos hv]at k;exact k
  .tm_at"a";rw[if_neg hv]at k;exact k
theorem GQ(m:M K mg):Mc P w K mg base m.g9 "lets" 1 (jF K):=⟨_,_,_,m.pV.ic.cl,m.IO,m.qU.b,IE m⟩
local macro_rules| `(tactic| tm_at"l")=> `(tactic| ((with_reducible refine' yZ ?e ?d ?l ?m0 ?ht ?b0 ?_);(case e=>tm_at"k");(case d=>assumption);(case l=>tm_at"i");(case m0=>tm_at"i");(case ht=>tm_at"j");(case b0=>tm_at"j")))
abbrev aF:=Str×Str×V×(Int->Int)
def aAe:HO->Prop
 | .lst _=>True
 | .dK _=>True
 | .dT _=>True
 | .tbl _=>True
 | .ins _ _ fs=>fs=[]
 | _=>False
structure bH where
 at':Hp->V->aF->Prop
 same:∀{H H' v d},at' H v d->Same H H'->at' H' v d
 but:∀{H H' v d p o},at' H v d->H p=some o->aAe o->SameBut p H H'->at' H' v d
def aAI(P:fh)(w:gh)(K:W.Frag)(mg:Str->Option ah)(base:Heap)(kL:Option Nat)(p C dx:Addr)(fs:List (Str×V))(fp:List (Addr×HO))(lt:Int->Int):Prop:=∀kl,kL=some kl →
 ∃sp,Mc P w K mg base C "lets" kl sp/\∀(H':Hp) (t:Int) (Q:VK),H' p=some (.ins C dx fs)->(∀x∈fp,H' x.1=some x.2)->0<=t->(∀H'',Same H' H''->Q (.int (lt t)) H'')->sp [.ref p,.int t] H' Q E0
inductive DoorAt(P:fh)(w:gh)(K:W.Frag)(mg:Str->Option ah)(base:Heap)(kL:Option Nat)(H:Hp)(v:V)(d:aF):Prop
 | mk (p C dx:Addr) (fs:List (Str×V)) (fp:List (Addr×HO)) (_:v= .ref p) (_:H p=some (.ins C dx fs)) (_:DCls K C) (_:fs.lookup ("name" :Str)=some (.str d.1)) (_:fs.lookup ("start" :Str)=some (.str d.2.1)) (_:fs.lookup ("end" :Str)=some d.2.2.1) (_:fs.lookup ("is_exit" :Str)=none) (_:fs.lookup ("lets" :Str)=none) (_:Mc P w K mg base C "is_exit" 1 (d9 K)) (_:∀x∈fp,H x.1=some x.2/\¬aAe x.2) (_:aAI P w K mg base kL p C dx fs fp d.2.2.2):DoorAt P w K mg base kL H v d
inductive aA7(P:fh)(w:gh)(K:W.Frag)(mg:Str->Option ah)(base:Heap)(kL:Option Nat)(H:Hp)(v:V)(n st:Str)(e:V)(lt:Int->Int):Prop
 | mk (p C dx:Addr) (fs:List (Str×V)) (fp:List (Addr×HO)) (_:v= .ref p) (_:H p=some (.ins C dx fs)) (_:DCls K C) (_:fs.lookup ("name" :Str)=some (.str n)) (_:fs.lookup ("start" :Str)=some (.str st)) (_:fs.lookup ("end" :Str)=some e) (_:fs.lookup ("is_exit" :Str)=none) (_:fs.lookup ("lets" :Str)=none) (_:Mc P w K mg base C "is_exit" 1 (d9 K)) (_:∀x∈fp,H x.1=some x.2/\¬aAe x.2) (_:aAI P w K mg base kL p C dx fs fp lt):aA7 P w K mg base kL H v n st e lt
theorem DoorAt.ex{n st:Str}{e:V}{lt:Int->Int}(h:DoorAt P w K mg base kL H v (n,st,e,lt)):aA7 P w K mg base kL H v n st e lt:=by
 obtain⟨p,C,dx,fs,fp,h1,h2,h3,h4,h5,h6,h7,h8,h9,h10,h11⟩:=h;exact⟨p,C,dx,fs,fp,h1,h2,h3,h4,h5,h6,h7,h8,h9,h10,h11⟩
def aJ(P:fh)(w:gh)(K:W.Frag)(mg:Str->Option ah)(base:Heap)(kL:Option Nat):bH where
 at':=DoorAt P w K mg base kL
 same:=λ⟨p,C,dx,fs,fp,e,hp,dc,l1,l2,l3,l4,l5,mc,hf,lt⟩ s=>⟨p,C,dx,fs,fp,e,s _ _ hp,dc,l1,l2,l3,l4,l5,mc,λx hx=>⟨s _ _ (hf x hx).1,(hf x hx).2⟩,lt⟩
 but:=λ{H H' v d q o} ⟨p,C,dx,fs,fp,e,hp,dc,l1,l2,l3,l4,l5,mc,hf,lt⟩ ho so sb=>⟨p,C,dx,fs,fp,e,sb _ _ hp (λz=>by
   rw[z,ho]at hp;cases hp;have h:fs=[]:=so;rw[h]at l1;cases l1),dc,l1,l2,l3,l4,l5,mc,λx hx=>⟨sb _ _ (hf x hx).1 (λz=>by
   have h:=(hf x hx).1;rw[z,ho]at h;cases h;exact(hf x hx).2 so),(hf x hx).2⟩,lt⟩
local macro_rules| `(tactic| tm_at"l")=> `(tactic| first|(with_reducible refine aCB ?_)|(with_reducible refine aBg ?_)|(with_reducible refine aEi ?_)|(with_reducible refine VB ?_)|(with_reducible refine W8 ?_)|(with_reducible refine SG ?_)|(with_reducible refine YH ?_)|((with_reducible refine YO ?_);intro p' H' n' S' e')|((with_reducible refine Y7 ?_);intro p' H' n' S' e'))
theorem cW{l:Addr}(e:H l=some (.lst xs))(hz:xs.length<sizeLine)(h:∀H',SameBut l H H'->H' l=some (.lst (xs++[y]))->Q .non H'):Q3 (.ref l) [y] H Q :=
 ⟨l,xs,y,rfl,rfl,e,hz,h _ SameBut.upd aR⟩
inductive xS(vs:List V)(H:Hp)(Q:VK)(E:XK):Prop
 | mk (f l:Int) (_:vs=[.int f,.int l]) (_:0<=f) (_:f<=l) (_:Q .non H):xS vs H Q E
theorem aCT{E:XK}(h0:0<=f)(h1:f<=l)(h:Q .non H):xS [.int f,.int l] H Q E:=⟨_,_,rfl,h0,h1,h⟩
theorem KJ(m:M K mg):FnOk P w K mg base CX0 1 m.tW m.nL.d ["first","last"] (xS):=by
 refine m.nL.F.ok aHB ?_ ?_;tm_at"g";tm_at"h";rcases h with⟨f,l,rfl,h0,h1,k⟩;tm_at"f";have nd:=aHB.nd;tm_at"d";refine⟨_,(aB (b8 (bC jG (pv 0) aD (bF _)) (aE gW) bM)
  (aE (b8 (bC jG (pv 1) (pv 0) (bF _)) (aE gW) bM))),?_⟩
 refine aL (σ:=[some (.int f),some (.int l)]) rfl ?_;tm_at"e";tm_at"a";exact k
theorem KM(m:M K mg):Fc P w K mg base "need_turns" 1 ["first","last"] (xS):=⟨_,_,m.OZ,m.nL.F.kp,m.nL.b,KJ m⟩
inductive BR(K:W.Frag)(vs:List V)(H:Hp)(Q:VK)(E:XK):Prop
 | mk (a:Addr) (ss:List Str) (_:vs=[.ref a]) (_:SqL K H a (ss.map V.str)) (_:ss.Nodup) (_:ss.length<=100) (_:∀H',Same H H'->Q .non H'):BR K vs H Q E
theorem WD{E:XK}{ss:List Str}(hS:SqL K H a (ss.map V.str))(nd:ss.Nodup)(hl:ss.length<=100)(h:∀H',Same H H'->Q .non H'):BR K [.ref a] H Q E:=⟨_,_,rfl,hS,nd,hl,h⟩
theorem C7{α:Type}{ss:List α}(nd:ss.Nodup){i:Nat}{z:α}(hz:ss[i]? =some z):z∉ss.take i:=λh=>by
 rcases ax.mp hz with⟨hi,e⟩;rcases wq h with⟨j,hj,ej⟩;rw[dh]at hj;rw[List.getElem_take]at ej;exact(List.pairwise_iff_getElem.mp nd) j i (by lia) hi (by lia) (ej.trans e.symm)
theorem aV{α:Type}{ss:List α}{i:Nat}{z:α}(hz:ss[i]? =some z):ss.take (i+1)=ss.take i++[z]:=by rw[nj,hz];rfl
theorem CG(m:M K mg):FnOk P w K mg base CX0 1 m.lK m.g8.d ["names"] (BR K):=by
 refine m.g8.F.ok aGZ ?_ ?_;tm_at"g";tm_at"h";rcases h with⟨a,ss,rfl,hS,hnd,hlen,k⟩;tm_at"f";have nd:=aGZ.nd;tm_at"d";refine⟨_,(aB (aQ (i:=1) nd rfl (by tm_at"b") wT)
  (aE (c4 cx rfl (bP (pv 0)) (aN (i:=2) nd rfl (by tm_at"b")) (aB (b8 (wF (OB hu1 (pv 2) (pv 1)) (by with_unfolding_all rfl)) (aE gW) bM)
  (aE (jI hu1 (pv 1) (pv 2) K7 rfl)))))),?_⟩
 refine aL (σ:=[some (.ref a),none,none]) rfl ?_;tm_at"e";tm_at"a";rename_i p H1 n1 S1 e1;let Pv1:Nat->St->Hp->Prop:=λi σ' H'=>SameBut p H1 H'/\∃kvs,H' p=some (.dK kvs)/\kvs.length<=i/\(∀z,(bA kvs (.inr z)).isSome=true->z∈ss.take i)/\∃x,σ'=[some (.ref a),some (.ref p),x];refine dH (ss.map V.str) Pv1 ⟨SameBut.refl,[],e1,au _,(λz h=>by cases h),_,rfl⟩ (λi σ' H' _ q=>(SameBut.same n1 S1 q.1).seq hS) ?_ ?_
 .rintro i x _ H' hx hq_;obtain⟨sb,kvs,ek,hk,hin,y,rfl⟩:=hq_;rw[bu]at hx;rcases cj.mp hx with⟨z,hz,rfl⟩;have hi:i<ss.length:=(ax.mp hz).1;have hno:(bA kvs (.inr z)).isSome=false:=by
   cases e:(bA kvs (.inr z)).isSome with
   | false=>rfl
   | true=>exact absurd (hin z e) (C7 hnd hz)
  tm_at"a";refine aB1 (.inl ek) ?_;rw[hno];tm_at"a";refine x9 ek (by rw[sizeLine_eq];lia) λH9 B9 e9=> ?_;refine⟨by tm_at"m",_,e9,ee (kI _ _ _) (by lia),λy hy=> ?_,_,rfl⟩;rw[DW]at hy;rw[aV hz]
  by_cases e:(jx y:Key)= .inr z
  .cases e;exact be _ (.head _)
  .rw[if_neg e]at hy;exact dz _ (hin y hy)
 .rintro _ H' hq_;obtain⟨sb,kvs,ek,hk,hin,y,rfl⟩:=hq_;exact k _ (SameBut.same n1 S1 sb)
theorem CI(m:M K mg):Fc P w K mg base "need_each_once" 1 ["names"] (BR K):=⟨_,_,m.EK,m.g8.F.kp,m.g8.b,CG m⟩
def cQ(rs:List Str)(d:aF):Prop:=d.2.1∈rs/\(d.2.2.1= .non∨∃z,d.2.2.1= .str z/\z∈rs)
def cO(H:Hp)(v:V)(p:Str×Int):Prop:=∃q,v= .ref q/\H q=some (.tup [.str p.1,.int p.2])
theorem pK(h:bo (cO H) vs ps)(s:Same H H'):bo (cO H') vs ps:=Paired.imp' (λv z ⟨q,e,h⟩=>⟨q,e,s _ _ h⟩) h
inductive uW(K:W.Frag)(D:bH)(vs:List V)(H:Hp)(Q:VK)(E:XK):Prop
 | mk (a b:Addr) (us:List V) (ds:List aF) (rs:List Str) (ws:List V) (ps:List (Str×Int)) (_:vs=[.ref a,.ref b]) (_:SqL K H a us) (_:bo (D.at' H) us ds) (_:(∀d∈ds,cQ rs d)) (_:ds.length<=20) (_:SqL K H b ws) (_:bo (cO H) ws ps) (_:(∀p∈ps,p.1∈rs)) (_:ps.length<=40) (_:∀p (ss:List Str) H',Same H H'->H' p=some (.lst (ss.map V.str))->(∀z∈ss,z∈rs)->ss.length<=80->Q (.ref p) H'):uW K D vs H Q E
theorem Z0{D:bH}{E:XK}{ds:List aF}{rs:List Str}(hS:SqL K H a us)(hd:bo (D.at' H) us ds)(hr:∀d∈ds,cQ rs d)(hl:ds.length<=20)(hb:SqL K H b ws)(hw:bo (cO H) ws ps)(hwr:∀p∈ps,p.1∈rs)(hwl:ps.length<=40)(h:∀p (ss:List Str) H',Same H H'->H' p=some (.lst (ss.map V.str))->(∀z∈ss,z∈rs)->ss.length<=80->Q (.ref p) H'):uW K D [.ref a,.ref b] H Q E:=⟨_,_,_,_,_,_,_,rfl,hS,hd,hr,hl,hb,hw,hwr,hwl,h⟩
theorem zU(m:M K mg):FnOk P w K mg base CX0 2 m.j9 m.fZ.d ["doors","people"] (uW K (aJ P w K mg base (some 5))):=by
 refine m.fZ.F.ok aGT ?_ ?_;tm_at"g";tm_at"h";rcases h with⟨a,b,us,ds,rs,ws,ps,rfl,hS,hd,hr',hlen,hb,hw,hwr,hwl,k⟩;tm_at"f";have nd:=aGT.nd;tm_at"d";refine⟨_,(aB (aQ (i:=2) nd rfl (by tm_at"b") (cI aC))
  (aB (c4 cx rfl (bP (pv 0)) (aN (i:=3) nd rfl (by tm_at"b")) (aB (aU (fW da dj dm cV (pv 2) (aA (aH (pv 3) rfl) aC)))
  (aE (b8 (z7 (pS (cU 1 hr (pv 3)))) (aE (aU (fW da dj dm cV (pv 2) (aA (aH (pv 3) rfl) aC)))) bM))))
  (aE (aT (aI aDL (pv 2) (d7 (N:=["room","number"]) (nl:=2) (ci:=[]) rfl (blk (s.heap.objs.size+1) rfl rfl rfl (by kernel_rfl)) (bP (pv 1)) (λ_ _ _ _=>(oJ (K:=K) (n:=2) rfl (aZ (aN (i:=0) (show (["room","number"]:List Str).Nodup by decide +kernel) rfl (by tm_at"b")) (aZ (aN (i:=1) (show (["room","number"]:List Str).Nodup by decide +kernel) rfl (by tm_at"b")) d8)))) (λ_ _ _ _=>dI) (λ_ _ _ _=>(pv 0)))))))),?_⟩
 refine aL (σ:=[some (.ref a),some (.ref b),none,none]) rfl ?_;tm_at"e";have hul:us.length=ds.length:=bx hd;tm_at"a";rename_i p H1 n1 S1 e1;let Pv2:Nat->St->Hp->Prop:=λi σ' H'=>SameBut p H1 H'/\(∃ss:List Str,H' p=some (.lst (ss.map V.str))/\(∀z∈ss,z∈rs)/\ss.length<=2 * i)/\∃x,σ'=[some (.ref a),some (.ref b),some (.ref p),x];refine dH us Pv2 ⟨SameBut.refl,⟨[],e1,(λ_ z=>nomatch z),au _⟩,_,rfl⟩ (λi σ' H' _ q=>(SameBut.same n1 S1 q.1).seq hS) ?_ ?_
 .rintro i x _ H' hx hq_;obtain⟨sb,⟨ss,es,hin,hsl⟩,y,rfl⟩:=hq_;have hi:i<us.length:=(ax.mp hx).1;obtain⟨d,hdx⟩:∃d,ds[i]? =some d:=⟨_,ao (by lia)⟩
  obtain⟨n,st,e,lt⟩:=d;obtain⟨q,C9,dx,fs,fp,rfl,hq,dcC,l1,l2,l3,l4,l5,mcE,hfp,hlt⟩:=DoorAt.ex (Paired.at2 hd hx hdx);rcases hr' _ (ba hdx) with⟨r1,r2⟩;have hqp:q≠p:=λz=>by rw[z,n1]at hq;cases hq
  have hq':H' q=some (.ins C9 dx fs):=sb _ _ (S1 _ _ hq) hqp;rcases r2 with r2|⟨z,r2,r3⟩
  .have r2:e= .non:=r2;subst r2;tm_at"a";refine cW es (by rw[sizeLine_eq,af];lia) λH8 B8 e8=> ?_;have hq8:=B8 _ _ hq' hqp;tm_at"a";exact⟨by tm_at"m",⟨ss++[st],by rw[e8,aq];rfl,λz hz=>(bf.mp hz).elim (hin z) (λw=>by cases bq.mp w;exact r1),by rw[ak];show ss.length+1<=_;lia⟩,_,rfl⟩
  .have r2:e= .str z:=r2;subst r2;tm_at"a";refine cW es (by rw[sizeLine_eq,af];lia) λH8 B8 e8=> ?_;have hq8:=B8 _ _ hq' hqp;tm_at"a";refine cW e8 (by rw[sizeLine_eq,ak,af];show ss.length+1<_;lia) λH9 B9 e9=> ?_;tm_at"a";refine⟨by tm_at"m",⟨ss++[st]++[z],by rw[e9,aq,aq];rfl,λz hz=> ?_,by rw[ak,ak];show ss.length+1+1<=_;lia⟩,_,rfl⟩;rcases bf.mp hz with hz|hz
   .exact(bf.mp hz).elim (hin z) (λw=>by cases bq.mp w;exact r1)
   .cases bq.mp hz;exact r3
 .rintro _ H' hq_;obtain⟨sb,⟨ss,es,hin,hsl⟩,y,rfl⟩:=hq_;have sH:Same H H':=SameBut.same n1 S1 sb;have hb':=sH.seq hb;tm_at"a";refine G3 (α:=Str×Int) (xs:=ps) (vs:=ws) (λp=> .str p.1) (λp=> .int p.2) (λ_=>true) (λp y _=>y= .str p.1) (λ_ _ _ _ h _=>h) (by rw[sizeLine_eq];lia) (rest:=[]) (by rfl) hb' (pK hw sH) (λx H1 hx s1 R hR=>hR _ (Same.refl _)) (λx H1 hx _ s1 R hR=> ?_) ?_
  .tm_at"a";exact hR _ _ rfl (Same.refl _)
  intro ys H2 s2 hys;rw[dM]at hys;obtain rfl:=lT hys;tm_at"a";rename_i q3 H3 n3 S3 e3 q4 H4 n4 S4 e4;refine k _ (ss++ps.map (·.1)) _ (by tm_at"q") (by rw[e4,aq,du];rfl) (λz hz=> ?_) (by rw[ak,af];lia);rcases bf.mp hz with hz|hz
  .exact hin z hz
  .rcases ag.mp hz with⟨p,hp,rfl⟩;exact hwr p hp
theorem AG(m:M K mg):Fc P w K mg base "rooms_spoken_of" 2 ["doors","people"] (uW K (aJ P w K mg base (some 5))):=⟨_,_,m.CO,m.fZ.F.kp,m.fZ.b,zU m⟩
inductive wZ(K:W.Frag)(vs:List V)(H:Hp)(Q:VK)(E:XK):Prop
 | mk (a b:Addr) (ss:List Str) (kvs:List (Key×V)) (_:vs=[.ref a,.ref b]) (_:SqL K H a (ss.map V.str)) (_:Rd H b (.dK kvs)) (_:(∀z∈ss,(bA kvs (.inr z)).isSome=true)) (_:∀H',Same H H'->Q .non H'):wZ K vs H Q E
theorem RF{E:XK}{ss:List Str}(hS:SqL K H a (ss.map V.str))(hb:Rd H b (.dK kvs))(hk:∀z∈ss,(bA kvs (.inr z)).isSome=true)(h:∀H',Same H H'->Q .non H'):wZ K [.ref a,.ref b] H Q E:=⟨_,_,_,_,rfl,hS,hb,hk,h⟩
theorem aCX{u:HO}(s:Same H H')(r:Rd H a u):Rd H' a u:=r.elim (λe=> .inl (s _ _ e)) λ⟨o,e⟩=> .inr ⟨o,s _ _ e⟩
theorem KN(m:M K mg):FnOk P w K mg base CX0 1 m.tY m.mW.d ["names","sizes"] (wZ K):=by
 refine m.mW.F.ok aHK ?_ ?_;tm_at"g";tm_at"h";rcases h with⟨a,b,ss,kvs,rfl,hS,hb,hk,k⟩;tm_at"f";have nd:=aHK.nd;tm_at"d";refine⟨_,(aE (c4 cx rfl (bP (pv 0)) (aN (i:=2) nd rfl (by tm_at"b")) (aE (b8 (wF (zH hu1 (pv 2) (pv 1)) (by with_unfolding_all rfl)) (aE gW) bM)))),?_⟩;refine aL (σ:=[some (.ref a),some (.ref b),none]) rfl ?_;tm_at"e";tm_at"a";let Pv3:Nat->St->Hp->Prop:=λi σ' H'=>Same H H'/\∃x,σ'=[some (.ref a),some (.ref b),x];refine dH (ss.map V.str) Pv3 ⟨Same.refl _,_,rfl⟩ (λi σ' H' _ q=>q.1.seq hS) ?_ ?_
 .rintro i x _ H' hx ⟨s1,y,rfl⟩;rw[bu]at hx;rcases cj.mp hx with⟨z,hz,rfl⟩;have hz':=hk z (ba hz);tm_at"a";refine FE (aCX s1 hb) ?_;rw[hz'];tm_at"a";exact⟨s1,_,rfl⟩
 .rintro _ H' ⟨s1,y,rfl⟩;exact k _ s1
theorem zC(m:M K mg):Fc P w K mg base "need_rooms" 1 ["names","sizes"] (wZ K):=⟨_,_,m.O1,m.mW.F.kp,m.mW.b,KN m⟩
theorem YY{j:Int}(h:Q (.int (i+j)) H):aE3 (.int i) (.int j) H Q:=by
 first|exact h|exact⟨_,_,rfl,rfl,h⟩|exact .inl ⟨_,_,rfl,rfl,h⟩
theorem M0(h:SqL K H c xs)(hp:H p=some (.dK kvs))(sb:SameBut p H H'):SqL K H' c xs:=by
 rcases h with (h|⟨o,h⟩)|h
 .exact .inl (.inl (sb _ _ h λz=>by rw[z,hp]at h;cases h))
 .exact .inl (.inr ⟨o,sb _ _ h λz=>by rw[z,hp]at h;cases h⟩)
 .exact .inr h
def szK(rz:List (Str×Int)):List (Key×V):=rz.map λe=>((.inr e.1:Key),V.int e.2)
theorem QI(rz:List (Str×Int)):(szK rz).map (·.1)=(rz.map (·.1)).map (jx:Str->Key):=by unfold szK;rw[du,du];rfl
theorem pN{rs:List Str}(nd:rs.Nodup):(rs.map (jx:Str->Key)).Nodup:=by
 rw[oq,iq];exact xk (λh z=>h (jw z)) nd
theorem C6(nd:(rz.map (·.1)).Nodup):((szK rz).map (·.1)).Nodup:=by rw[QI];exact pN nd
theorem G7(nd:(rz.map (·.1)).Nodup){e:Str×Int}(h:e∈rz):bA (szK rz) (.inr e.1)=some (.int e.2) :=
 gB (e:=((.inr e.1:Key),V.int e.2)) (C6 nd) (ag.mpr ⟨e,h,rfl⟩)
theorem NZ(nd:(rz.map (·.1)).Nodup)(h:z∈rz.map (·.1)):∃i,(z,i)∈rz/\bA (szK rz) (.inr z)=some (.int i):=by
 rcases ag.mp h with⟨e,he,rfl⟩;exact⟨e.2,he,G7 nd he⟩
theorem zO{k:Key}(h:∀e∈kvs,e.1≠k):bA kvs k=none:=by
 induction kvs with
 | nil=>rfl
 | cons a l ih =>
  rw[dL (h a (.head _))];exact ih λe he=>h e (ab _ he)
theorem JC:∀(ps kvs:List (Key×V)),(ps.map (·.1)).Nodup->(∀e∈kvs,∀q∈ps,e.1≠q.1)->lZ kvs ps=kvs++ps
 | [],kvs,_,_=>(df _).symm
 | (k,v)::ps,kvs,nd,h=>by
  have nd':=List.pairwise_cons.mp nd;show lZ (cJ kvs k v) ps=_;rw[eX v (zO λe he=>h e he _ (.head _)),JC ps _ nd'.2,cw]
  .rfl
  .intro e he q hq;rcases bf.mp he with he|he
   .exact h e he q (ab _ hq)
   .cases bq.mp he;exact nd'.1 q.1 (ag.mpr ⟨q,hq,rfl⟩)
theorem YU(nd:(rz.map (·.1)).Nodup):lZ [] (szK rz)=szK rz:=by
 rw[JC _ _ (C6 nd) (λe he=>absurd he (fz))];rfl
theorem aBb:∀(o:Obj) (x:HO),HO.dK kvs≠ .frz o x:=λ_ _ z=>by cases z
def FQ(rz:List (Str×Int))(ps:List (Str×Int))(kvs:List (Key×V)):Prop:=∀z∈rz.map (·.1),bA kvs (.inr z)=some (.int (cC ps z))
inductive xF(K:W.Frag)(vs:List V)(H:Hp)(Q:VK)(E:XK):Prop
 | mk (a b:Addr) (rz:List (Str×Int)) (ws:List V) (ps:List (Str×Int)) (_:vs=[.ref a,.ref b]) (_:H a=some (.dK (szK rz))) (_:SqL K H b ws) (_:bo (cO H) ws ps) (_:(∀p∈ps,p.1∈rz.map (·.1))) (_:(rz.map (·.1)).Nodup) (_:rz.length<=100) (_:∀p H' kvs,H p=none->Same H H'->H' p=some (.dK kvs)->kvs.map (·.1)=(szK rz).map (·.1)->FQ rz ps kvs->Q (.ref p) H'):xF K vs H Q E
theorem RE{E:XK}(ha:H a=some (.dK (szK rz)))(hb:SqL K H b ws)(hw:bo (cO H) ws ps)(hwr:∀p∈ps,p.1∈rz.map (·.1))(nd:(rz.map (·.1)).Nodup)(hl:rz.length<=100)(h:∀p H' kvs,H p=none->Same H H'->H' p=some (.dK kvs)->kvs.map (·.1)=(szK rz).map (·.1)->FQ rz ps kvs->Q (.ref p) H'):xF K [.ref a,.ref b] H Q E:=⟨_,_,_,_,_,rfl,ha,hb,hw,hwr,nd,hl,h⟩
theorem aAc{k:Key}(h:(bA kvs k).isSome=true):(cJ kvs k v).map (·.1)=kvs.map (·.1):=by
 unfold cJ;rw[oU,if_pos h,du]
 apply gy
 intro x _;show (if x.1=k then (x.1,v) else x).1=x.1
 split<;>rfl
theorem E8(m:M K mg):FnOk P w K mg base CX0 1 m.oV m.jQ.d ["sizes","people"] (xF K):=by
 refine m.jQ.F.ok aHg ?_ ?_;tm_at"g";tm_at"h";rcases h with⟨a,b,rz,ws,ps,rfl,ha,hb,hw,hwr,ndz,hlen,k⟩;tm_at"f";have nd:=aHg.nd;tm_at"d";refine⟨_,(aB (aQ (i:=2) nd rfl (by tm_at"b") wT)
  (aB (aBt (c4 cx rfl (NL (pv 0)) (aN (i:=3) nd rfl (by tm_at"b")) (aE (jI hu1 (pv 2) (pv 3) aD rfl))))
  (aB (c4 cx rfl (bP (pv 1)) (v8 (n:=2) rfl (aZ (aN (i:=3) nd rfl (by tm_at"b")) (aZ (aN (i:=4) nd rfl (by tm_at"b")) d8))) (aE (aCC hu1 (pv 2) (pv 3) (pv 4) UX (λ_ _ _=>rfl))))
  (aE (aT (pv 2)))))),?_⟩
 refine aL (σ:=[some (.ref a),some (.ref b),none,none,none]) rfl ?_;tm_at"e";tm_at"a";rename_i p H1 n1 S1 e1;have hap:a≠p:=λz=>by rw[z,n1]at ha;cases ha
 have ha1:=S1 _ _ ha;have hl2:(szK rz).length=rz.length:=by unfold szK;rw[af]
 refine ZQ ha1 aBb ?_;tm_at"a";refine NV ha1 λo H2 B2 e2=> ?_;have ep2:H2 p=some (.dK []):=B2 _ _ e1 (eh hap);have hwl:ws.length=ps.length:=bx hw;let Pv4:Nat->St->Hp->Prop:=λi σ' H'=>SameBut p H2 H'/\H' p=some (.dK ((rz.take i).map λe=>((.inr e.1:Key),V.int 0)))/\∃x,σ'=[some (.ref a),some (.ref b),some (.ref p),x,none];refine aAi (szK rz) Pv4 ⟨SameBut.refl,ep2,_,rfl⟩ (λi σ' H' q=>q.1 _ _ e2 hap) ?_ ?_
 .rintro i kk v _ H' hx hq_;obtain⟨sb,ek,y,rfl⟩:=hq_;unfold szK at hx;rw[bu]at hx;obtain⟨⟨z,sz⟩,hz,ez⟩:=cj.mp hx;cases ez;have hi:i<rz.length:=(ax.mp hz).1;have hnone:bA ((rz.take i).map λe=>((.inr e.1:Key),V.int 0)) (.inr z)=none:=zO λe he=>by
   rcases ag.mp he with⟨d,hd,rfl⟩;intro zz;have hn:z∉(rz.map (·.1)).take i:=C7 ndz (by rw[bu,hz];rfl)
   apply hn
   rw[←wt];exact ag.mpr ⟨d,hd,jw zz⟩
  show (_:TG) (.str z) _ _ _;tm_at"a";refine x9 ek (by rw[sizeLine_eq,af,dh];lia) λH9 B9 e9=> ?_;refine⟨by tm_at"m",?_,_,rfl⟩;rw[e9,eX _ hnone,aV hz,aq];rfl
 .rintro _ H' hq_;obtain⟨sb,ek,y,rfl⟩:=hq_;rw[hl2,cp]at ek;refine u5 (sb _ _ e2 hap) λH3 B3 e3=> ?_;have ep3:=B3 _ _ ek (eh hap);have sH:Same H H3:=λx u hx=>by
   by_cases ex:x=a
   .subst ex;rw[ha]at hx;cases hx;exact e3
   .have hxp:x≠p:=λz=>by rw[z,n1]at hx;cases hx
    exact B3 _ _ (sb _ _ (B2 _ _ (S1 _ _ hx) ex) hxp) ex
  have hb3:=sH.seq hb;have hw3:=pK hw sH;have hnb:∀{H':Hp}{v:V}{r:Str×Int},SameBut p H3 H'->cO H3 v r->cO H' v r:=λsb ⟨q,e,hq⟩=>⟨q,e,sb _ _ hq λz=>by rw[z,ep3]at hq;cases hq⟩
  tm_at"a";let Pv5:Nat->St->Hp->Prop:=λi σ' H'=>SameBut p H3 H'/\(∃kvs,H' p=some (.dK kvs)/\kvs.map (·.1)=(szK rz).map (·.1)/\FQ rz (ps.take i) kvs)/\∃x y,σ'=[some (.ref a),some (.ref b),some (.ref p),x,y];refine dH ws Pv5 ⟨SameBut.refl,⟨_,ep3,?_,?_⟩,_,_,rfl⟩ (λi σ' H' _ q=>M0 hb3 ep3 q.1) ?_ ?_
  .unfold szK;rw[du,du];rfl
  .intro z hz;rcases ag.mp hz with⟨e,he,rfl⟩;exact gB (e:=((.inr e.1:Key),V.int 0)) (by rw[show (rz.map λe=>((.inr e.1:Key),V.int 0)).map (·.1)=(szK rz).map (·.1) from by unfold szK;rw[du,du];rfl];exact C6 ndz) (ag.mpr ⟨e,he,rfl⟩)
  .rintro i x _ H' hx hq_;obtain⟨sb',⟨kvs,ek',hkk,hin⟩,x1,x2,rfl⟩:=hq_;have hi:i<ws.length:=(ax.mp hx).1;obtain⟨⟨z,nn⟩,hpx⟩:∃d,ps[i]? =some d:=⟨_,ao (by lia)⟩
   rcases Paired.at2 hw3 hx hpx with⟨q,rfl,hq⟩;have hq':H' q=some (.tup [.str z,.int nn]):=sb' _ _ hq λzz=>by rw[zz,ep3]at hq;cases hq
   have hzr:z∈rz.map (·.1):=hwr _ (ba hpx);have hkl:kvs.length=rz.length:=by rw[←af (f:=λe:Key×V=>e.1),hkk,af,hl2]
   tm_at"a";refine aCD ?_;tm_at"a";refine YA (.inl ek') (hin z hzr) ?_;tm_at"a";refine YY ?_;refine A8 ek' (by rw[sizeLine_eq];lia) λH9 B9 e9=> ?_;refine⟨by tm_at"m",⟨_,e9,?_,λy hy=> ?_⟩,_,_,rfl⟩
   .rw[aAc (by rw[hin z hzr];rfl)];exact hkk
   .rw[DW,aV hpx,U5]
    by_cases e:(jx y:Key)= .inr z
    .cases e;rw[if_pos rfl,if_pos rfl]
    .rw[if_neg e,if_neg (λzz=>e (by rw[show z=y from zz])),ia];exact hin y hy
  .rintro _ H' hq_;obtain⟨sb',⟨kvs,ek',hkk,hin⟩,x1,x2,rfl⟩:=hq_;rw[hwl,cp]at hin;tm_at"a";exact k _ _ _ n1 (SameBut.same n1 (λx u hx=>sH x u hx) sb') ek' hkk hin
theorem uX(m:M K mg):Fc P w K mg base "added_people" 1 ["sizes","people"] (xF K):=⟨_,_,m.IJ,m.jQ.F.kp,m.jQ.b,E8 m⟩
def D3(rz ps:List (Str×Int)):Prop:=(∀p∈ps,0<=p.2)/\∀e∈rz,cC ps e.1<=e.2
inductive yE(K:W.Frag)(vs:List V)(H:Hp)(Q:VK)(E:XK):Prop
 | mk (a b:Addr) (rz:List (Str×Int)) (ws:List V) (ps:List (Str×Int)) (_:vs=[.ref a,.ref b]) (_:H a=some (.dK (szK rz))) (_:SqL K H b ws) (_:bo (cO H) ws ps) (_:(∀p∈ps,p.1∈rz.map (·.1))) (_:(rz.map (·.1)).Nodup) (_:rz.length<=100) (_:ps.length<=100) (_:D3 rz ps) (_:∀H',Same H H'->Q .non H'):yE K vs H Q E
theorem aB8{E:XK}(ha:H a=some (.dK (szK rz)))(hb:SqL K H b ws)(hw:bo (cO H) ws ps)(hwr:∀p∈ps,p.1∈rz.map (·.1))(nd:(rz.map (·.1)).Nodup)(hl:rz.length<=100)(hpl:ps.length<=100)(hf:D3 rz ps)(h:∀H',Same H H'->Q .non H'):yE K [.ref a,.ref b] H Q E:=⟨_,_,_,_,_,rfl,ha,hb,hw,hwr,nd,hl,hpl,hf,h⟩
theorem AI:∀{l:List α}{ys:List V},bo (λ_ y=>y=V.bl false) l ys->ys=(l.map λ_=>false).map V.bl
 | _,_,.nil=>rfl
 | _,_,.cons h t=>by rw[h,AI t];rfl
theorem JG(l:List α):(l.map λ_=>false).any id=false:=by simp
theorem KQ(m:M K mg):FnOk P w K mg base CX0 2 m.tX m.mS.d ["sizes","people"] (yE K):=by
 refine m.mS.F.ok aHD ?_ ?_;tm_at"g";tm_at"h";rcases h with⟨a,b,rz,ws,ps,rfl,ha,hb,hw,hwr,ndz,hlen,hpl,hf,k⟩;tm_at"f";have nd:=aHD.nd;tm_at"d";have aGQ:= @uX P w K mg base m;refine⟨_,(aB (b8 (pS (bI (IS rfl) rfl m.aBf VI (aA (d7 (N:=["room","number"]) (nl:=2) (ci:=[]) rfl (blk (s.heap.objs.size+1) rfl rfl rfl (by kernel_rfl)) (bP (pv 1)) (λ_ _ _ _=>(oJ (K:=K) (n:=2) rfl (aZ (aN (i:=0) (show (["room","number"]:List Str).Nodup by decide +kernel) rfl (by tm_at"b")) (aZ (aN (i:=1) (show (["room","number"]:List Str).Nodup by decide +kernel) rfl (by tm_at"b")) d8)))) (λ_ _ _ _=>dI) (λ_ _ _ _=>(wD jG (pv 1) aD (bF _)))) aC))) (aE gW) bM)
  (aB (aQ (i:=2) nd rfl (by tm_at"b") (bG aGQ hr (aA (pv 0) (aA (pv 1) aC))))
  (aE (b8 (pS (bI (IS rfl) rfl m.aBf VI (aA (HH (d7 (N:=["room","inside","sizes"]) (nl:=1) (ci:=[2,0]) rfl (blk (s.heap.objs.size+1) rfl rfl rfl (by kernel_rfl)) (NL (pv 0)) (λ_ _ _ _=>(aN (i:=0) (show (["room","inside","sizes"]:List Str).Nodup by decide +kernel) rfl (by tm_at"b"))) (λ_ _ _ _=>dI) (λ_ _ _ _=>(wD rO (gH hu1 (pv 1) (pv 0) (λ_ _=>rfl)) (gH hu1 (pv 2) (pv 0) (λ_ _=>rfl)) (bF _))))) aC))) (aE gW) bM)))),?_⟩
 refine aL (σ:=[some (.ref a),some (.ref b),none]) rfl ?_;tm_at"e";tm_at"a";refine G3 (α:=Str×Int) (xs:=ps) (vs:=ws) (λp=> .str p.1) (λp=> .int p.2) (λ_=>true) (λp y _=>y= .bl false) (λ_ _ _ _ h _=>h) (by rw[sizeLine_eq];lia) (rest:=[]) (by rfl) hb hw (λx H1 hx s1 R hR=>hR _ (Same.refl _)) (λx H1 hx _ s1 R hR=> ?_) ?_
 .have h0:=hf.1 x hx;tm_at"a";exact hR _ _ (by rw[decide_eq_false (by lia)]) (Same.refl _)
 intro ys H2 s2 hys;rw[dM]at hys;obtain rfl:=AI hys;tm_at"a";rename_i q H3 n3 S3 e3;refine XC (SqL.of e3) ?_;rw[JG];tm_at"a";have sA:Same H H3:=s2.trans S3;refine RE (sA _ _ ha) (sA.seq hb) (pK hw sA) hwr ndz hlen λp H4 kvs n4 S4 e4 hkk hv=> ?_;have ha4:=S4 _ _ (sA _ _ ha);tm_at"a";refine D8 ha4 aBb ?_;tm_at"a";refine NV ha4 λo H5 B5 e5=> ?_;have hpa:p≠a:=λz=>by rw[z,sA _ _ ha]at n4;cases n4
 have ep5:=B5 _ _ e4 hpa;refine aD3 (λ_=>true) (λ_ y _=>y= .bl false) (λ_ _ _ _ h _=>h) (by rw[sizeLine_eq];unfold szK;rw[af];lia) (rest:=[some (.ref p),some (.ref a)]) (by rfl) e5 (λx H6 hx s6 R hR=>hR _ (Same.refl _)) ?_ ?_
 .rintro x H6 hx - s6 R hR;rcases ag.mp hx with⟨e,he,rfl⟩;have hfe:=hf.2 e he;show (_:TE) (some (V.str e.1)::[some (.ref p),some (.ref a)]) H6 R;tm_at"a";refine iX (.inl (s6 _ _ ep5)) (hv e.1 (ag.mpr ⟨e,he,rfl⟩)) ?_;tm_at"a";refine iX (.inr ⟨o,s6 _ _ e5⟩) (G7 ndz he) ?_;tm_at"a";exact hR _ _ (by rw[decide_eq_false (by lia)]) (Same.refl _)
 intro ys H6 s6 hys;rw[dM]at hys;obtain rfl:=AI hys;tm_at"a";rename_i q7 H7 n7 S7 e7;refine u5 (S7 _ _ (s6 _ _ e5)) λH8 B8 e8=> ?_;have hq7:q7≠a:=λz=>by rw[z,s6 _ _ e5]at n7;cases n7
 have e78:=B8 _ _ e7 hq7;tm_at"a";refine XC (SqL.of e78) ?_;rw[JG];tm_at"a";exact k _ (V7 (ha) (λx u hx hxa=>B5 _ _ (S4 _ _ (sA _ _ hx)) hxa) (Same.but (s6.trans S7)) B8 e8)
theorem J9(m:M K mg):Fc P w K mg base "need_space" 2 ["sizes","people"] (yE K):=⟨_,_,m.O4,m.mS.F.kp,m.mS.b,KQ m⟩
def RoomsAt(H:Hp)(vs:List V)(rz:List (Str×Int)):Prop:=bo (cO H) vs rz
theorem RoomsAt.sm{rs:List (Str×Int)}(h:RoomsAt H vs rs)(s:Same H H'):RoomsAt H' vs rs:=Paired.imp' (λv z ⟨q,e,h⟩=>⟨q,e,s _ _ h⟩) h
theorem CY:∀{vs:List V}{rs:List (Str×Int)},RoomsAt H vs rs->LC H vs (szK rs)
 | _,_,.nil=> .nil
 | _,_,.cons h t=> .cons h (CY t)
theorem fA{D:bH}{ds:List aF}(h:bo (D.at' H) us ds)(s:Same H H'):bo (D.at' H') us ds:=Paired.imp' (λv d h=>D.same h s) h
abbrev Q0(f l:Int)(qs qp qd:Addr):List (Str×V):=bO "named_doors" (.ref qd) (bO "people" (.ref qp) (bO "sizes" (.ref qs) (bO "last" (.int l) (bO "first" (.int f) []))))
def xI(D:bH)(H:Hp)(nk:List (Key×V))(ds:List aF):Prop:=bo (λe d=>e.1= .inr d.1/\D.at' H e.2 d) nk ds
theorem aAk{D:bH}{ds:List aF}(h:xI D H nk ds)(s:Same H H'):xI D H' nk ds:=Paired.imp' (λe d h=>⟨h.1,D.same h.2 s⟩) h
structure bW(C:Addr)(D:bH)(H:Hp)(h:Addr)(f l:Int)(rz ps:List (Str×Int))(ds:List aF):Prop where
 ex:∃dx qs qp qd nk kvs,H h=some (.ins C dx (Q0 f l qs qp qd))/\H qs=some (.dK (szK rz))/\H qp=some (.dK kvs)/\kvs.map (·.1)=(szK rz).map (·.1)/\FQ rz ps kvs/\H qd=some (.dK nk)/\xI D H nk ds
theorem MS{D:bH}{h:Addr}{ds:List aF}(x:bW C D H h f l rz ps ds)(s:Same H H'):bW C D H' h f l rz ps ds:=by
 obtain⟨dx,qs,qp,qd,nk,kvs,e1,e2,e3,e4,e5,e6,e7⟩:=x.ex;exact⟨dx,qs,qp,qd,nk,kvs,s _ _ e1,s _ _ e2,s _ _ e3,e4,e5,s _ _ e6,aAk e7 s⟩
theorem QJ{fs:List (Str×V)}(h:SqL K H c xs)(hp:H p=some (.ins C dx fs))(sb:SameBut p H H'):SqL K H' c xs:=by
 rcases h with (h|⟨o,h⟩)|h
 .exact .inl (.inl (sb _ _ h λz=>by rw[z,hp]at h;cases h))
 .exact .inl (.inr ⟨o,sb _ _ h λz=>by rw[z,hp]at h;cases h⟩)
 .exact .inr h
theorem gT{F:α->β->Prop}:∀{l:List α}{m:List β}{x:α},bo F l m->x∈l->∃y∈m,F x y
 | _,_,_,.cons r t,h=>by
  rcases aw.mp h with rfl|h
  .exact⟨_,.head _,r⟩
  .rcases gT t h with⟨y,hy,f⟩;exact⟨y,ab _ hy,f⟩
 | _,_,_,.nil,h=>nomatch h
inductive hZ(K:W.Frag)(D:bH)(vs:List V)(H:Hp)(Q:VK)(E:XK):Prop
 | mk (p C dx a b c:Addr) (ws us cs:List V) (rz ps:List (Str×Int)) (ds:List aF) (f l:Int) (_:vs=[.ref p,.ref a,.ref b,.ref c,.int l,.int f]) (_:DCls K C) (_:H p=some (.ins C dx [])) (_:H a=some (.lst ws)) (_:RoomsAt H ws rz) (_:SqL K H b us) (_:bo (D.at' H) us ds) (_:SqL K H c cs) (_:bo (cO H) cs ps) (_:(rz.map (·.1)).Nodup) (_:(ds.map (·.1)).Nodup) (_:(∀d∈ds,cQ (rz.map (·.1)) d)) (_:(∀p∈ps,p.1∈rz.map (·.1))) (_:D3 rz ps) (_:rz.length<=20) (_:ds.length<=20) (_:ps.length<=40) (_:0<=f) (_:f<=l) (_:∀H',SameBut p H H'->bW C D H' p f l rz ps ds->Q .non H'):hZ K D vs H Q E
theorem MG{D:bH}{E:XK}{cs:List V}{ds:List aF}(dc:DCls K C)(hp:H p=some (.ins C dx []))(ha:H a=some (.lst ws))(hr:RoomsAt H ws rz)(hb:SqL K H b us)(hd:bo (D.at' H) us ds)(hc:SqL K H c cs)(hcp:bo (cO H) cs ps)(nr:(rz.map (·.1)).Nodup)(nd:(ds.map (·.1)).Nodup)(hin:∀d∈ds,cQ (rz.map (·.1)) d)(hpr:∀p∈ps,p.1∈rz.map (·.1))(hf:D3 rz ps)(lr:rz.length<=20)(ld:ds.length<=20)(lp:ps.length<=40)(h0:0<=f)(h1:f<=l)
  (k:∀H',SameBut p H H'->bW C D H' p f l rz ps ds->Q .non H'):hZ K D [.ref p,.ref a,.ref b,.ref c,.int l,.int f] H Q E:=⟨_,_,_,_,_,_,_,_,_,_,_,_,_,_,rfl,dc,hp,ha,hr,hb,hd,hc,hcp,nr,nd,hin,hpr,hf,lr,ld,lp,h0,h1,k⟩
theorem CC(m:M K mg):FnOk P w K mg base CX0 4 m.lI m.g7 ["self","rooms","doors","people","last","first"] (hZ K (aJ P w K mg base (some 5))):=by
 refine m.EI.ok aG0 ?_ ?_;tm_at"g";tm_at"h";rcases h with⟨p,C,dx,a,b,c,ws,us,cs,rz,ps,ds,f,l,rfl,dc,hp,ha,hra,hb,hd,hc,hcp,nr,nd',hin,hpr,hf,lr,ld,lp,h0,h1,k⟩;tm_at"f";have nd:=aG0.nd;tm_at"d";have aGQ:= @uX P w K mg base m;have aHa:= @CI P w K mg base m;have aG9:= @zC P w K mg base m;have aIf:= @J9 P w K mg base m;have aId:= @KM P w K mg base m;have aH0:= @AG P w K mg base m;refine⟨_,(aB (aU (bG aId hr (aA (pv 5) (aA (pv 4) aC))))
  (aB (aU (bG aHa hr (aA (d7 (N:=["name","size"]) (nl:=2) (ci:=[]) rfl (blk (s.heap.objs.size+1) rfl rfl rfl (by kernel_rfl)) (bP (pv 1)) (λ_ _ _ _=>(oJ (K:=K) (n:=2) rfl (aZ (aN (i:=0) (show (["name","size"]:List Str).Nodup by decide +kernel) rfl (by tm_at"b")) (aZ (aN (i:=1) (show (["name","size"]:List Str).Nodup by decide +kernel) rfl (by tm_at"b")) d8)))) (λ_ _ _ _=>dI) (λ_ _ _ _=>(pv 0))) aC)))
  (aB (aU (bG aHa hr (aA (d7 (N:=["door"]) (nl:=1) (ci:=[]) rfl (blk (s.heap.objs.size+1) rfl rfl rfl (by kernel_rfl)) (bP (pv 2)) (λ_ _ _ _=>(aN (i:=0) (show (["door"]:List Str).Nodup by decide +kernel) rfl (by tm_at"b"))) (λ_ _ _ _=>dI) (λ_ _ _ _=>(A3 (K:=K) (pv 0) rfl))) aC)))
  (aB (aQ (i:=6) nd rfl (by tm_at"b") (lU (TB rfl) rfl m.aFn aBr (aA (pv 1) aC)))
  (aB (aU (bG aG9 hr (aA (bG aH0 hr (aA (pv 2) (aA (pv 3) aC))) (aA (pv 6) aC))))
  (aB (aU (bG aIf hr (aA (pv 6) (aA (pv 3) aC))))
  (aB (bU (pv 0) (pv 5) rfl)
  (aB (bU (pv 0) (pv 4) rfl)
  (aB (bU (pv 0) (pv 6) rfl)
  (aB (bU (pv 0) (bG aGQ hr (aA (pv 6) (aA (pv 3) aC))) rfl)
  (aB (bU (pv 0) wT rfl)
  (aE (c4 cx rfl (bP (pv 2)) (aN (i:=7) nd rfl (by tm_at"b")) (aE (jI hu1 (aH (pv 0) rfl) (aH (pv 7) rfl) (pv 7) rfl))))))))))))))),?_⟩
 refine aL (σ:=[some (.ref p),some (.ref a),some (.ref b),some (.ref c),some (.int l),some (.int f),none,none]) rfl ?_;tm_at"e";have hul:us.length=ds.length:=bx hd;have hwl:ws.length=rz.length:=bx hra;tm_at"a";refine aCT h0 h1 ?_;tm_at"a";refine G3 (α:=Str×Int) (xs:=rz) (vs:=ws) (λe=> .str e.1) (λe=> .int e.2) (λ_=>true) (λz y _=>y= .str z.1) (λ_ _ _ _ h _=>h) (by rw[sizeLine_eq];lia) (rest:=[]) (by rfl) (SqL.of ha) hra (λx H1 hx s1 R hR=>hR _ (Same.refl _)) (λx H1 hx _ s1 R hR=> ?_) ?_
 .tm_at"a";exact hR _ _ rfl (Same.refl _)
 intro ys H1 s1 hys;rw[dM]at hys;obtain rfl:=lT hys;tm_at"a";rename_i q1 H2 n2 S2 e2;refine WD (ss:=rz.map (·.1)) (SqL.of (by rw[e2,du];rfl)) nr (by rw[af];lia) λH3 S3=> ?_;have sA:Same H H3:=(s1.trans S2).trans S3;tm_at"a";refine lP (α:=aF) (xs:=ds) (vs:=us) ((aJ P w K mg base (some 5)).at' H3) (λ_=>true) (λd y _=>y= .str d.1) (λ_ _ _ _ h _=>h) (by rw[sizeLine_eq];lia) (rest:=[]) (by rfl) (sA.seq hb) (fA hd sA) (λv x H1 _ hx s1 R hR=>hR _ (Same.refl _)) ?_ ?_
 .rintro v ⟨n,st,e,lt⟩ H4 hv hm - s4 R hR;obtain⟨q,C9,dx',fs,fp,rfl,hq,dcC,l1,l2,l3,l4,l5,mcE,hfp,hlt⟩:=DoorAt.ex hv;have hq':=s4 _ _ hq;tm_at"a";exact hR _ _ rfl (Same.refl _)
 intro ys H4 s4 hys;rw[dM]at hys;obtain rfl:=lT hys;tm_at"a";rename_i q5 H5 n5 S5 e5;refine WD (ss:=ds.map (·.1)) (SqL.of (by rw[e5,du];rfl)) nd' (by rw[af];lia) λH6 S6=> ?_;have sB:Same H H6:=((sA.trans s4).trans S5).trans S6;tm_at"a";refine ZC (sB _ _ ha) (CY (hra.sm sB)) λqs H7 n7 S7 e7=> ?_;rw[YU nr]at e7;have sC:Same H H7:=sB.trans S7;tm_at"a";refine Z0 (sC.seq hb) (fA hd sC) hin ld (sC.seq hc) (pK hcp sC) hpr lp λq8 ss H8 S8 e8 hss lss=> ?_;tm_at"a";refine RF (SqL.of e8) (.inl (S8 _ _ e7)) (λz hz=>by rcases NZ nr (hss z hz) with⟨i,_,e⟩;rw[e];rfl) λH9 S9=> ?_;have sD:Same H7 H9:=S8.trans S9;tm_at"a";refine aB8 (sD _ _ e7) ((sC.trans sD).seq hc) (pK hcp (sC.trans sD)) hpr nr (by lia) (by lia) hf λH10 S10=> ?_;have sE:Same H H10:=(sC.trans sD).trans S10;have es:H10 qs=some (.dK (szK rz)):=S10 _ _ (sD _ _ e7);have hp10:=sE _ _ hp;have hqp:qs≠p:=λz=>by rw[z,hp10]at es;cases es
 tm_at"a";rename_i H11 B11 e11 H12 B12 e12 H13 B13 e13;have sb13:SameBut p H10 H13:=by tm_at"m"
 have es13:=sb13 _ _ es hqp;have hc13:SqL K H13 c cs:=QJ (sE.seq hc) hp10 sb13;have hcp13:bo (cO H13) cs ps:=Paired.imp' (λv r ⟨q,e,hq⟩=>⟨q,e,sb13 _ _ (sE _ _ hq) λz=>by rw[z,hp]at hq;cases hq⟩) hcp;refine RE es13 hc13 hcp13 hpr nr (by lia) λqp H14 kvs n14 S14 e14 hkk hv14=> ?_;have hp14:=S14 _ _ e13;tm_at"a";rename_i H15 B15 e15 qd H16 n16 S16 e16 H17 B17 e17;have hqd:qd≠p:=λz=>by rw[z,e15]at n16;cases n16
 have sb17:SameBut p H10 H17:=((((sb13.trans S14.but).trans B15).trans S16.but).trans B17)
 have es17:=sb17 _ _ es hqp;have ed17:=B17 _ _ e16 hqd;have hqpp:qp≠p:=λz=>by rw[z,e13]at n14;cases n14
 have eq17:H17 qp=some (.dK kvs):=B17 _ _ (S16 _ _ (B15 _ _ e14 hqpp)) hqpp;have hqpd:qp≠qd:=λz=>by rw[←z,B15 _ _ e14 hqpp]at n16;cases n16
 have fresh:∀x u,H10 x=some u->x≠p->x≠qd:=λx u hx hxp z=>by
  have h15:H15 x=some u:=B15 _ _ (S14 _ _ (sb13 _ _ hx hxp)) hxp;rw[z,n16]at h15;cases h15
 have hb17:SqL K H17 b us:=QJ (sE.seq hb) hp10 sb17;have hd17:bo ((aJ P w K mg base (some 5)).at' H17) us ds:=Paired.imp' (λv d h=>(aJ P w K mg base (some 5)).but ((aJ P w K mg base (some 5)).same h sE) hp10 rfl sb17) hd;have ddq:∀{H':Hp}{v:V}{d:aF},SameBut qd H17 H'->(aJ P w K mg base (some 5)).at' H17 v d->(aJ P w K mg base (some 5)).at' H' v d:=λsb h=>(aJ P w K mg base (some 5)).but h ed17 trivial sb;refine JR hb17 ?_;let Pv6:Nat->St->Hp->Prop:=λi σ' H'=>SameBut qd H17 H'/\(∃nk,H' qd=some (.dK nk)/\nk.length<=i/\bo (λe d=>e.1= .inr d.1/\(aJ P w K mg base (some 5)).at' H17 e.2 d) nk (ds.take i))/\∃x,σ'=[some (.ref p),some (.ref a),some (.ref b),some (.ref c),some (.int l),some (.int f),some (.ref qs),x];refine dH us Pv6 ⟨SameBut.refl,⟨[],ed17,au _,.nil⟩,_,rfl⟩ (λi σ' H' _ q=>M0 hb17 ed17 q.1) ?_ ?_
 .rintro i x _ H' hx hq_;obtain⟨sb,⟨nk,ek,hk,pr⟩,y,rfl⟩:=hq_;have hi:i<us.length:=(ax.mp hx).1;obtain⟨d,hdx⟩:∃d,ds[i]? =some d:=⟨_,ao (by lia)⟩
  have hD:=Paired.at2 hd17 hx hdx;obtain⟨n,st,e,lt⟩:=d;have hD':=ddq sb hD;obtain⟨q,C9,dx',fs,fp,rfl,hq',dcC,l1,l2,l3,l4,l5,mcE,hfp,hlt⟩:=DoorAt.ex hD';have hpp:H' p=some (.ins C dx (Q0 f l qs qp qd)):=sb _ _ e17 (eh hqd);have hnone:bA nk (.inr n)=none:=zO λe he=>by
   obtain⟨d',hd',h1,_⟩:=gT pr he;rw[h1];intro z;have hn:n∉(ds.map (·.1)).take i:=C7 nd' (by rw[bu,hdx];rfl)
   apply hn
   rw[←wt];exact ag.mpr ⟨d',hd',jw z⟩
  tm_at"a";refine x9 ek (by rw[sizeLine_eq];lia) λH9' B9' e9'=> ?_;rw[eX _ hnone]at e9';refine⟨by tm_at"m",⟨_,e9',by rw[ak];show nk.length+1<=_;lia,?_⟩,_,rfl⟩;rw[aV hdx];exact L2.Paired.snoc pr ⟨rfl,hD⟩
 .rintro _ H' hq_;obtain⟨sb,⟨nk,ek,hk,pr⟩,y,rfl⟩:=hq_;rw[hul,cp]at pr;refine k _ (λx u hx hxp=>sb _ _ (sb17 _ _ (sE _ _ hx) hxp) (fresh x u (sE _ _ hx) hxp)) ⟨dx,qs,qp,qd,nk,kvs,sb _ _ e17 (eh hqd),sb _ _ es17 (fresh _ _ es hqp),sb _ _ eq17 hqpd,hkk,hv14,ek,?_⟩;exact Paired.imp' (λe d h=>⟨h.1,ddq sb h.2⟩) pr
theorem F0(m:M K mg):Kc P w K mg base "House" m.aO 4 [] (hZ K (aJ P w K mg base (some 5))):=⟨_,_,_,_,m.aDt,m.aAs,.nil,m.EJ,CC m⟩
theorem JK{D:bH}{E:XK}{cs:List V}{ds:List aF}(ev:vs++dvs=[.ref a,.ref b,.ref c,.int l,.int f])(dc:DCls K C)(ha:H a=some (.lst ws))(hr:RoomsAt H ws rz)(hb:SqL K H b us)(hd:bo (D.at' H) us ds)(hc:SqL K H c cs)(hcp:bo (cO H) cs ps)(nr:(rz.map (·.1)).Nodup)(nd:(ds.map (·.1)).Nodup)(hin:∀d∈ds,cQ (rz.map (·.1)) d)(hpr:∀p∈ps,p.1∈rz.map (·.1))(hf:D3 rz ps)(lr:rz.length<=20)(ld:ds.length<=20)(lp:ps.length<=40)(h0:0<=f)(h1:f<=l)
  (k:∀p H',H p=none->Same H H'->bW C D H' p f l rz ps ds->Q (.ref p) H'):jK C (hZ K D) dvs E Q vs H:=by
 intro x dx nx nd0 ne;have s0:Same H (upd (upd H dx (.own x)) x (.ins C dx [])):=λb o e=>by
  rw[aK (bB e nx),aK (bB e nd0)];exact e
 rw[ev];exact MG dc aR (s0 _ _ ha) (hr.sm s0) (s0.seq hb) (fA hd s0) (s0.seq hc) (pK hcp s0) nr nd hin hpr hf lr ld lp h0 h1 λH' sb hh=>⟨rfl,k x H' nx (λb o q=>sb b o (s0 b o q) (bB q nx)) hh⟩
theorem aCH(rz:List (Str×Int)):((szK rz).map λe=>kV e.1)=(rz.map (·.1)).map V.str:=by unfold szK;rw[du,du];rfl
theorem E5{D:bH}:∀{nk:List (Key×V)}{ds:List aF},xI D H nk ds->(nk.map λe=>kV e.1)=(ds.map (·.1)).map V.str
 | _,_,.nil=>rfl
 | (k,v)::_,_,.cons h t=>by
  rw[ay,E5 t,ay,ay];have:k= .inr _:=h.1;rw[this];rfl
theorem ET{D:bH}:∀{nk:List (Key×V)}{ds:List aF},xI D H nk ds->nk.map (·.1)=(ds.map (·.1)).map (jx:Str->Key)
 | _,_,.nil=>rfl
 | (k,v)::_,_,.cons h t=>by
  rw[ay,ET t,ay,ay];have:k= .inr _:=h.1;rw[this]
theorem U8{D:bH}{ds:List aF}(h:xI D H nk ds):nk.length=ds.length:=bx h
theorem Z8{D:bH}{ds:List aF}(h:xI D H nk ds)(nd:(ds.map (·.1)).Nodup){d:aF}(hd:d∈ds):∃v,bA nk (.inr d.1)=some v/\D.at' H v d:=by
 rcases wq hd with⟨i,hi,e⟩;have hl:=U8 h;have hx:nk[i]? =some nk[i]:=ao (by lia);obtain⟨h1,h2⟩:=Paired.at2 h hx (show ds[i]? =some d by rw[ao hi,e]);refine⟨_,?_,h2⟩;rw[←h1];exact gB (by rw[ET h];exact pN nd) (ba hx)
inductive oK(C:Addr)(D:bH)(g:List (Str×Int)->List aF->List Str)(vs:List V)(H:Hp)(Q:VK)(E:XK):Prop
 | mk (h:Addr) (f l:Int) (rz ps:List (Str×Int)) (ds:List aF) (_:vs=[.ref h]) (_:bW C D H h f l rz ps ds) (_:∀p H',H p=none->Same H H'->H' p=some (.lst ((g rz ds).map V.str))->Q (.ref p) H'):oK C D g vs H Q E
theorem nW{D:bH}{g:List (Str×Int)->List aF->List Str}{E:XK}{h:Addr}{ds:List aF}(hh:bW C D H h f l rz ps ds)(k:∀p H',H p=none->Same H H'->H' p=some (.lst ((g rz ds).map V.str))->Q (.ref p) H'):oK C D g [.ref h] H Q E:=⟨_,_,_,_,_,_,rfl,hh,k⟩
theorem G6(m:M K mg):FnOk P w K mg base CX0 1 m.qX m.qY.d ["self"] (oK m.aO (aJ P w K mg base (some 5)) λrz _=>rz.map (·.1)):=by
 refine m.qY.F.ok aHq ?_ ?_;tm_at"g";tm_at"h";rcases h with⟨h,f,l,rz,ps,ds,rfl,hh,k⟩;tm_at"f";have nd:=aHq.nd;tm_at"d";have aGB:=m.bJ;refine⟨_,(aE (aT (lU (FO rfl) rfl m.AY wL (aA (aH (pv 0) rfl) aC)))),?_⟩;refine aL (σ:=[some (.ref h)]) rfl ?_;tm_at"e";obtain⟨dx,qs,qp,qd,nk,kvs,e1,e2,e3,e4,e5,e6,e7⟩:=hh.ex;tm_at"a";refine ON (.inl e2) λp H1 n1 S1 e8=> ?_;rw[aCH]at e8;tm_at"a";exact k _ _ n1 S1 e8
theorem jJ(m:M K mg):Mc P w K mg base m.aO "rooms" 1 (oK m.aO (aJ P w K mg base (some 5)) λrz _=>rz.map (·.1)):=⟨_,_,_,m.bJ.ic.cl,m.IQ,m.qY.b,G6 m⟩
theorem GD(m:M K mg):FnOk P w K mg base CX0 1 m.qZ m.q0.d ["self"] (oK m.aO (aJ P w K mg base (some 5)) λ_ ds=>ds.map (·.1)):=by
 refine m.q0.F.ok aHp ?_ ?_;tm_at"g";tm_at"h";rcases h with⟨h,f,l,rz,ps,ds,rfl,hh,k⟩;tm_at"f";have nd:=aHp.nd;tm_at"d";have aGB:=m.bJ;refine⟨_,(aE (aT (lU (FO rfl) rfl m.AY wL (aA (aH (pv 0) rfl) aC)))),?_⟩;refine aL (σ:=[some (.ref h)]) rfl ?_;tm_at"e";obtain⟨dx,qs,qp,qd,nk,kvs,e1,e2,e3,e4,e5,e6,e7⟩:=hh.ex;tm_at"a";refine ON (.inl e6) λp H1 n1 S1 e8=> ?_;rw[E5 e7]at e8;tm_at"a";exact k _ _ n1 S1 e8
theorem nS(m:M K mg):Mc P w K mg base m.aO "doors" 1 (oK m.aO (aJ P w K mg base (some 5)) λ_ ds=>ds.map (·.1)):=⟨_,_,_,m.bJ.ic.cl,m.IK,m.q0.b,GD m⟩
inductive mI(C:Addr)(D:bH)(vs:List V)(H:Hp)(Q:VK)(E:XK):Prop
 | mk (h:Addr) (z:Str) (f l:Int) (rz ps:List (Str×Int)) (ds:List aF) (_:vs=[.ref h,.str z]) (_:bW C D H h f l rz ps ds) (_:(rz.map (·.1)).Nodup) (_:z∈rz.map (·.1)) (_:∀H',Same H H'->Q .non H'):mI C D vs H Q E
theorem C3{D:bH}{E:XK}{h:Addr}{ds:List aF}(hh:bW C D H h f l rz ps ds)(nr:(rz.map (·.1)).Nodup)(hz:z∈rz.map (·.1))(k:∀H',Same H H'->Q .non H'):mI C D [.ref h,.str z] H Q E:=⟨_,_,_,_,_,_,_,rfl,hh,nr,hz,k⟩
theorem AF(m:M K mg):FnOk P w K mg base CX0 2 m.j7 m.kF.d ["self","room"] (mI m.aO (aJ P w K mg base (some 5))):=by
 refine m.kF.F.ok aGX ?_ ?_;tm_at"g";tm_at"h";rcases h with⟨h,z,f,l,rz,ps,ds,rfl,hh,nr,hz,k⟩;tm_at"f";have nd:=aGX.nd;tm_at"d";have aG9:= @zC P w K mg base m;have aGB:=m.bJ;refine⟨_,(aE (aU (bG aG9 hr (aA (cI (aA (pv 1) aC)) (aA (aH (pv 0) rfl) aC))))),?_⟩;refine aL (σ:=[some (.ref h),some (.str z)]) rfl ?_;tm_at"e";obtain⟨dx,qs,qp,qd,nk,kvs,e1,e2,e3,e4,e5,e6,e7⟩:=hh.ex;rcases NZ nr hz with⟨i,hi,ev⟩;tm_at"a";rename_i p H1 n1 S1 e8;refine RF (ss:=[z]) (SqL.of e8) (.inl (S1 _ _ e2)) (λy hy=>by cases bq.mp hy;rw[ev];rfl) λH2 S2=> ?_;tm_at"a";exact k _ (S1.trans S2)
theorem pP(m:M K mg):Mc P w K mg base m.aO "need_room" 2 (mI m.aO (aJ P w K mg base (some 5))):=⟨_,_,_,m.bJ.ic.cl,m.AU,m.kF.b,AF m⟩
inductive x8(C:Addr)(D:bH)(vs:List V)(H:Hp)(Q:VK)(E:XK):Prop
 | mk (h:Addr) (z:Str) (i f l:Int) (rz ps:List (Str×Int)) (ds:List aF) (_:vs=[.ref h,.str z]) (_:bW C D H h f l rz ps ds) (_:(rz.map (·.1)).Nodup) (_:(z,i)∈rz) (_:∀H',Same H H'->Q (.int i) H'):x8 C D vs H Q E
theorem aBG{D:bH}{E:XK}{h:Addr}{ds:List aF}(hh:bW C D H h f l rz ps ds)(nr:(rz.map (·.1)).Nodup)(hz:(z,i)∈rz)(k:∀H',Same H H'->Q (.int i) H'):x8 C D [.ref h,.str z] H Q E:=⟨_,_,_,_,_,_,_,_,rfl,hh,nr,hz,k⟩
theorem HV(m:M K mg):FnOk P w K mg base CX0 3 m.qN m.qP.d ["self","room"] (x8 m.aO (aJ P w K mg base (some 5))):=by
 refine m.qP.F.ok aHx ?_ ?_;tm_at"g";tm_at"h";rcases h with⟨h,z,i,f,l,rz,ps,ds,rfl,hh,nr,hz,k⟩;tm_at"f";have nd:=aHx.nd;tm_at"d";have aGB:=m.bJ;have aHy:= @pP P w K mg base m;refine⟨_,(aB (aU (cP 2 hr (pv 0) (aA (pv 1) aC)))
  (aE (aT (gH hu1 (aH (pv 0) rfl) (pv 1) (λ_ _=>rfl))))),?_⟩
 refine aL (σ:=[some (.ref h),some (.str z)]) rfl ?_;tm_at"e";obtain⟨dx,qs,qp,qd,nk,kvs,e1,e2,e3,e4,e5,e6,e7⟩:=hh.ex;tm_at"a";refine C3 hh nr (ag.mpr ⟨_,hz,rfl⟩) λH1 S1=> ?_;have e11:=S1 _ _ e1;tm_at"a";refine iX (.inl (S1 _ _ e2)) (G7 nr hz) ?_;tm_at"a";exact k _ S1
theorem HG(m:M K mg):Mc P w K mg base m.aO "holds" 3 (x8 m.aO (aJ P w K mg base (some 5))):=⟨_,_,_,m.bJ.ic.cl,m.IL,m.qP.b,HV m⟩
inductive xB(C:Addr)(D:bH)(vs:List V)(H:Hp)(Q:VK)(E:XK):Prop
 | mk (h:Addr) (z:Str) (f l:Int) (rz ps:List (Str×Int)) (ds:List aF) (_:vs=[.ref h,.str z]) (_:bW C D H h f l rz ps ds) (_:(rz.map (·.1)).Nodup) (_:z∈rz.map (·.1)) (_:∀H',Same H H'->Q (.int (cC ps z)) H'):xB C D vs H Q E
theorem aBy{D:bH}{E:XK}{h:Addr}{ds:List aF}(hh:bW C D H h f l rz ps ds)(nr:(rz.map (·.1)).Nodup)(hz:z∈rz.map (·.1))(k:∀H',Same H H'->Q (.int (cC ps z)) H'):xB C D [.ref h,.str z] H Q E:=⟨_,_,_,_,_,_,_,rfl,hh,nr,hz,k⟩
theorem ID(m:M K mg):FnOk P w K mg base CX0 3 m.qO m.rA.d ["self","room"] (xB m.aO (aJ P w K mg base (some 5))):=by
 refine m.rA.F.ok aHw ?_ ?_;tm_at"g";tm_at"h";rcases h with⟨h,z,f,l,rz,ps,ds,rfl,hh,nr,hz,k⟩;tm_at"f";have nd:=aHw.nd;tm_at"d";have aGB:=m.bJ;have aHy:= @pP P w K mg base m;refine⟨_,(aB (aU (cP 2 hr (pv 0) (aA (pv 1) aC)))
  (aE (aT (gH hu1 (aH (pv 0) rfl) (pv 1) (λ_ _=>rfl))))),?_⟩
 refine aL (σ:=[some (.ref h),some (.str z)]) rfl ?_;tm_at"e";obtain⟨dx,qs,qp,qd,nk,kvs,e1,e2,e3,e4,e5,e6,e7⟩:=hh.ex;tm_at"a";refine C3 hh nr hz λH1 S1=> ?_;have e11:=S1 _ _ e1;tm_at"a";refine iX (.inl (S1 _ _ e3)) (e5 z hz) ?_;tm_at"a";exact k _ S1
theorem HX(m:M K mg):Mc P w K mg base m.aO "found" 3 (xB m.aO (aJ P w K mg base (some 5))):=⟨_,_,_,m.bJ.ic.cl,m.IH,m.rA.b,ID m⟩
inductive BA(C:Addr)(D:bH)(vs:List V)(H:Hp)(Q:VK)(E:XK):Prop
 | mk (h:Addr) (d:aF) (f l:Int) (rz ps:List (Str×Int)) (ds:List aF) (_:vs=[.ref h,.str d.1]) (_:bW C D H h f l rz ps ds) (_:(ds.map (·.1)).Nodup) (_:d∈ds) (_:∀v,D.at' H v d->Q v H):BA C D vs H Q E
theorem FR{D:bH}{E:XK}{h:Addr}{d:aF}{ds:List aF}(hh:bW C D H h f l rz ps ds)(nd:(ds.map (·.1)).Nodup)(hd:d∈ds)(k:∀v,D.at' H v d->Q v H):BA C D [.ref h,.str d.1] H Q E:=⟨_,_,_,_,_,_,_,rfl,hh,nd,hd,k⟩
theorem KO(m:M K mg):FnOk P w K mg base CX0 1 m.uB m.tR.d ["self","name"] (BA m.aO (aJ P w K mg base (some 5))):=by
 refine m.tR.F.ok aHz ?_ ?_;tm_at"g";tm_at"h";rcases h with⟨h,d,f,l,rz,ps,ds,rfl,hh,ndd,hd,k⟩;tm_at"f";have nd:=aHz.nd;tm_at"d";have aGB:=m.bJ;refine⟨_,(aB (b8 (wF (zH hu1 (pv 1) (aH (pv 0) rfl)) (by with_unfolding_all rfl)) (aE gW) bM)
  (aE (aT (gH hu1 (aH (pv 0) rfl) (pv 1) (λ_ _=>rfl))))),?_⟩
 refine aL (σ:=[some (.ref h),some (.str d.1)]) rfl ?_;tm_at"e";obtain⟨dx,qs,qp,qd,nk,kvs,e1,e2,e3,e4,e5,e6,e7⟩:=hh.ex;rcases Z8 e7 ndd hd with⟨v,ev,hv⟩;tm_at"a";refine FE (.inl e6) ?_;rw[show (bA nk (.inr d.1)).isSome=true by rw[ev];rfl];tm_at"a";refine iX (.inl e6) ev ?_;tm_at"a";exact k _ hv
theorem kN(m:M K mg):Mc P w K mg base m.aO "door" 1 (BA m.aO (aJ P w K mg base (some 5))):=⟨_,_,_,m.bJ.ic.cl,m.KR,m.tR.b,KO m⟩
theorem gS{F:α->β->Prop}:∀{l l2:List α}{m m2:List β},bo F l m->bo F l2 m2->bo F (l++l2) (m++m2)
 | _,_,_,_,.nil,h=>h
 | _,_,_,_,.cons r t,h=> .cons r (gS t h)
local macro_rules| `(tactic| tm_at"l")=> `(tactic| first|(with_reducible refine aCo ?_) )
def bE(rz ps:List (Str×Int)):Int:=(rz.map λe=>cC ps e.1).sum
theorem C4{rz ps:List (Str×Int)}:∀{kvs:List (Key×V)}{l:List (Str×Int)},(kvs.map (·.1)).Nodup->kvs.map (·.1)=(szK l).map (·.1)->(∀e∈l,∀v,(jx e.1,v)∈kvs->v= .int (cC ps e.1))->kvs.map (·.2)=(l.map λe=>cC ps e.1).map V.int
 | [],[],_,_,_=>rfl
 | [],_::_,_,h,_=>by cases h
 | _::_,[],_,h,_=>by cases h
 | (k,v)::kvs,e::l,nd,h,hv=>by
  have h1:=(tw h).1;have h2:=(tw h).2;have nd2:=(cn.mp nd).2;have ih:=C4 (rz:=rz) (ps:=ps) (kvs:=kvs) (l:=l) nd2 h2 λe' he' v' hv'=>hv e' (ab _ he') v' (ab _ hv');have hk:k= .inr e.1:=h1;rw[ay,ay,ay,ih]
  congr 1
  exact hv e (.head _) v (by rw[hk];exact .head _)
inductive yF(C:Addr)(D:bH)(vs:List V)(H:Hp)(Q:VK)(E:XK):Prop
 | mk (h:Addr) (f l:Int) (rz ps:List (Str×Int)) (ds:List aF) (_:vs=[.ref h]) (_:bW C D H h f l rz ps ds) (_:(rz.map (·.1)).Nodup) (_:∀H',Same H H'->Q (.int (bE rz ps)) H'):yF C D vs H Q E
theorem aCM{D:bH}{E:XK}{h:Addr}{ds:List aF}(hh:bW C D H h f l rz ps ds)(nr:(rz.map (·.1)).Nodup)(k:∀H',Same H H'->Q (.int (bE rz ps)) H'):yF C D [.ref h] H Q E:=⟨_,_,_,_,_,_,rfl,hh,nr,k⟩
theorem GN(m:M K mg):FnOk P w K mg base CX0 1 m.qR m.qQ.d ["self"] (yF m.aO (aJ P w K mg base (some 5))):=by
 refine m.qQ.F.ok aHo ?_ ?_;tm_at"g";tm_at"h";rcases h with⟨h,f,l,rz,ps,ds,rfl,hh,nr,k⟩;tm_at"f";have nd:=aHo.nd;tm_at"d";have aGB:=m.bJ;refine⟨_,(aE (aT (bI (WL rfl) rfl m.UM MH (aA (SJ (aH (pv 0) rfl)) aC)))),?_⟩;refine aL (σ:=[some (.ref h)]) rfl ?_;tm_at"e";obtain⟨dx,qs,qp,qd,nk,kvs,e1,e2,e3,e4,e5,e6,e7⟩:=hh.ex;have ndk:(kvs.map (·.1)).Nodup:=by rw[e4,QI];exact pN nr
 have hv:kvs.map (·.2)=(rz.map λe=>cC ps e.1).map V.int:=C4 (rz:=rz) ndk e4 λe he v hm=>by
  have h1:=gB ndk hm;have h2:=e5 e.1 (ag.mpr ⟨e,he,rfl⟩);have h3:bA kvs (.inr e.1)=some v:=h1;rw[h2]at h3;exact(dq h3).symm
 tm_at"a";refine YV (.inl e3) λv H1 n1 S1 ev=> ?_;tm_at"a";refine aCa ev (.inl (S1 _ _ e3)) hv ?_;exact k _ S1
theorem GV(m:M K mg):Mc P w K mg base m.aO "total" 1 (yF m.aO (aJ P w K mg base (some 5))):=⟨_,_,_,m.bJ.ic.cl,m.II,m.qQ.b,GN m⟩
def bX(f l:Int)(d:aF)(t:Int):Int:=if f<=t/\t<l then d.2.2.2 t else 0
inductive yI(C:Addr)(D:bH)(vs:List V)(H:Hp)(Q:VK)(E:XK):Prop
 | mk (h:Addr) (d:aF) (t f l:Int) (rz ps:List (Str×Int)) (ds:List aF) (_:vs=[.ref h,.str d.1,.int t]) (_:bW C D H h f l rz ps ds) (_:(ds.map (·.1)).Nodup) (_:d∈ds) (_:0<=f) (_:∀H',Same H H'->Q (.int (bX f l d t)) H'):yI C D vs H Q E
theorem aBN{D:bH}{E:XK}{h:Addr}{d:aF}{t:Int}{ds:List aF}(hh:bW C D H h f l rz ps ds)(nd:(ds.map (·.1)).Nodup)(hd:d∈ds)(hf:0<=f)(k:∀H',Same H H'->Q (.int (bX f l d t)) H'):yI C D [.ref h,.str d.1,.int t] H Q E:=⟨_,_,_,_,_,_,_,_,rfl,hh,nd,hd,hf,k⟩
theorem J5(m:M K mg):FnOk P w K mg base CX0 7 m.t8 m.t0.d ["self","name","turn"] (yI m.aO (aJ P w K mg base (some 5))):=by
 refine m.t0.F.ok aHE ?_ ?_;tm_at"g";tm_at"h";rcases h with⟨h,d,t,f,l,rz,ps,ds,rfl,hh,ndd,hd,hf,k⟩;tm_at"f";have nd:=aHE.nd;tm_at"d";have aGB:=m.bJ;have aIz:= @kN P w K mg base m;refine⟨_,(aB (aQ (i:=3) nd rfl (by tm_at"b") (cP 1 hr (pv 0) (aA (pv 1) aC)))
  (aB (b8 (PW.pt (SF (bC jG (pv 2) (aH (pv 0) rfl) (bF _)) (MN (bC E6 (pv 2) (aH (pv 0) rfl) (bF _))))) (aE (aT aD)) bM)
  (aE (aT (cP 5 hr (pv 3) (aA (pv 2) aC)))))),?_⟩
 refine aL (σ:=[some (.ref h),some (.str d.1),some (.int t),none]) rfl ?_;tm_at"e";obtain⟨dx,qs,qp,qd,nk,kvs,e1,_⟩:=hh.ex;obtain⟨n,st,e,lt⟩:=d;tm_at"a";refine FR (d:=(n,st,e,lt)) hh ndd hd λv hv=> ?_;obtain⟨q2,C2,dx2,fs2,fp2,rfl,hq2,dcC,l1,l2,l3,l4,l5,mcE,hfp,hlt⟩:=DoorAt.ex hv;rcases hlt _ rfl with⟨sp,mcL,hsp⟩;tm_at"a";refine bS (λhc=> ?_) (λhc=> ?_)
 .have hk:bX f l (n,st,e,lt) t=0:=by unfold bX;rw[if_neg (by lia)]
  rw[hk]at k;tm_at"a";exact k _ (Same.refl _)
 .tm_at"a";refine bS (λhc2=> ?_) (λhc2=> ?_)
  .have hk:bX f l (n,st,e,lt) t=0:=by unfold bX;rw[if_neg (by lia)]
   rw[hk]at k;tm_at"a";exact k _ (Same.refl _)
  .have hk:bX f l (n,st,e,lt) t=lt t:=by unfold bX;rw[if_pos (by lia)]
   rw[hk]at k;tm_at"a";exact hsp _ _ _ hq2 (λx hx=>(hfp x hx).1) (by lia) k
theorem J7(m:M K mg):Mc P w K mg base m.aO "lets" 7 (yI m.aO (aJ P w K mg base (some 5))):=⟨_,_,_,m.bJ.ic.cl,m.KZ,m.t0.b,J5 m⟩
def jL(ns:List Int)(k:Int):Int:=ns.getD k.toNat 0
inductive BB(K:W.Frag)(vs:List V)(H:Hp)(Q:VK)(E:XK):Prop
 | mk (a:Addr) (ns:List Int) (k:Int) (_:vs=[.ref a,.int k]) (_:SqL K H a (ns.map V.int)) (_:0<=k) (_:Q (.int (jL ns k)) H):BB K vs H Q E
theorem aFb{E:XK}{ns:List Int}(hS:SqL K H a (ns.map V.int))(hi:0<=i)(h:Q (.int (jL ns i)) H):BB K [.ref a,.int i] H Q E:=⟨_,_,_,rfl,hS,hi,h⟩
theorem FB(m:M K mg):FnOk P w K mg base CX0 1 m.o8 m.jN.d ["_law_script","_law_k"] (BB K):=by
 refine m.jN.F.ok aHk ?_ ?_;tm_at"g";tm_at"h";rcases h with⟨a,ns,i,rfl,hS,hi,k⟩;tm_at"f";have nd:=aHk.nd;tm_at"d";refine⟨_,(aB (b8 (bC jG (pv 1) (bI c7 rfl m.hJ eZ (aA (pv 0) aC)) (bF _)) (aE (aT (aS aW (pv 0) (pv 1) (λ_ _=>rfl)))) bM)
  (aE (aT aD))),?_⟩
 refine aL (σ:=[some (.ref a),some (.int i)]) rfl ?_;tm_at"e";tm_at"a";rw[af];refine bS (λh1=> ?_) (λh1=> ?_)
 .have hlt:i.toNat<ns.length:=by lia
  have e:=rW (xs:=ns.map V.int) (j:=i.toNat) (v:= .int (jL ns i)) (by
   rw[bu,ao hlt];unfold jL;rw[bj,ao hlt];rfl)
  rw[show ((i.toNat:Nat):Int)=i by lia]at e;exact⟨_,rfl,_,rfl,a,_,i,_,rfl,rfl,hS,e,k⟩
 .have e:jL ns i=0:=by
   unfold jL;rw[bj,vk (by lia)];rfl
  rw[e]at k;exact k
theorem mD(m:M K mg):Fc P w K mg base "_law_cell_at" 1 ["_law_script","_law_k"] (BB K):=⟨_,_,m.IM,m.jN.F.kp,m.jN.b,FB m⟩
local macro_rules| `(tactic| tm_at"l")=> `(tactic| first|((with_reducible refine' aFb ?e ?s ?_);(case e=>tm_at"k");(case s=>tm_at"j")))
inductive yA(vs:List V)(H:Hp)(Q:VK)(E:XK):Prop
 | mk (c k:Int) (_:vs=[.int c,.int k]) (_:∀n,0<=n->n<2147483648->Q (.int n) H):yA vs H Q E
theorem aCF{E:XK}{c k:Int}(h:∀n,0<=n->n<2147483648->Q (.int n) H):yA [.int c,.int k] H Q E:=⟨_,_,rfl,h⟩
theorem KK(m:M K mg):FnOk P w K mg base CX0 1 m.uJ m.nH.d ["_law_cell","_law_k"] (yA):=by
 refine m.nH.F.ok aHL ?_ ?_;tm_at"g";tm_at"h";rcases h with⟨c,j,rfl,k⟩;tm_at"f";have nd:=aHL.nd;tm_at"d";refine⟨_,(aB (aQ (i:=2) nd rfl (by tm_at"b") (aI bK (aI kJ (aI bQ (aI bQ (pv 0) (aI kJ aD (pv 1))) aD) aD) aD))
  (aB (aQ (i:=2) nd rfl (by tm_at"b") (aI bK (aI kJ (pv 2) (aI bQ (aI b7 (pv 2) aD) aD)) aD))
  (aE (aT (aI bK (aI kJ (pv 2) (aI bQ (aI b7 (pv 2) aD) aD)) aD))))),?_⟩
 refine aL (σ:=[some (.int c),some (.int j),none]) rfl ?_;tm_at"e";tm_at"a";refine k _ ?_ ?_
 .exact gp _ (by decide)
 .exact Int.lt_trans (jh _ (by decide)) (by decide)
theorem qJ(m:M K mg):Fc P w K mg base "_law_mixed" 1 ["_law_cell","_law_k"] (yA):=⟨_,_,m.O0,m.nH.F.kp,m.nH.b,KK m⟩
local macro_rules| `(tactic| tm_at"l")=> `(tactic| ((with_reducible refine aCF ?_);intro n' h0' h1'))
theorem WE{b:Nat}(hx:x.cps.toList=List.range' b n)(h0:0<=i)(h1:i<n):atI x.cps.toList i=some (b+i.toNat):=by
 have e:=rW (xs:=x.cps.toList) (j:=i.toNat) (v:=b+i.toNat) (by rw[hx,List.getElem?_range' (by lia)];simp);rw[show ((i.toNat:Nat):Int)=i by lia]at e;exact e
theorem iT{γ:Type}{F:α->γ->Prop}(g:β->γ):∀{l:List β}{m:List α},bo (λx y=>F y (g x)) l m->bo F m (l.map g)
 | _,_,.nil=> .nil
 | _,_,.cons r t=> .cons r (iT g t)
theorem gI(e:SqL K H p xs)(hx:xs[j]? =some v)(h:Q v H):AM K (.ref p) (.int (j:Int)) H Q:=⟨p,xs,_,v,rfl,rfl,e,rW hx,h⟩
def wdL(n:Nat):List Nat:=if n<26 then [97+n] else wdL (n/26)++[97+n%26]
termination_by n
decreasing_by lia
def wdV(l:List Nat):Nat:=l.foldl (λa x=>a * 26+(x - 97)) 0
theorem U9(n:Nat):wdV (wdL n)=n:=by
 induction n using qg with
 | _ n ih =>
  rw[wdL]
  by_cases h:n<26
  .rw[if_pos h];show 0 * 26+(97+n - 97)=n;lia
  .rw[if_neg h];have:=ih (n/26) (by lia);unfold wdV at this ⊢;rw[tm,this];show n/26 * 26+(97+n%26 - 97)=n
   lia
theorem aCl{a b:Nat}(h:wdL a=wdL b):a=b:=by rw[←U9 a,←U9 b,h]
theorem aDg(n:Nat):∀x∈wdL n,97<=x/\x<123:=by
 induction n using qg with
 | _ n ih =>
  rw[wdL]
  by_cases h:n<26
  .rw[if_pos h];intro x hx;rw[bq.mp hx];lia
  .rw[if_neg h];intro x hx;rcases bf.mp hx with hx|hx
   .exact ih (n/26) (by lia) x hx
   .rw[bq.mp hx];lia
theorem QN(k:Nat):∀n:Nat,n<26^(k+1)->(wdL n).length<=k+1:=by
 induction k with
 | zero=>intro n h;rw[wdL,if_pos (by simpa using h)];exact au _
 | succ k ih =>
  intro n h;rw[wdL]
  by_cases h2:n<26
  .rw[if_pos h2];show 1<=_;lia
  .rw[if_neg h2,ak];have:=ih (n/26) (by rw[Nat.div_lt_iff_lt_mul (by decide)];rw[←Nat.pow_succ];exact h);show _+1<=_;lia
theorem aCK(n:Nat):0<(wdL n).length:=by
 rw[wdL]
 by_cases h:n<26
 .rw[if_pos h];exact Nat.one_pos
 .rw[if_neg h,ak];show 0<_+1;lia
def wdS(n:Nat):Str:=⟨⟨wdL n⟩⟩
theorem aDD(h:n<26^8):aY (wdS n)=true:=by
 refine Y8 ?_ ?_ ?_
 .exact aCK n
 .exact QN 7 n h
 .show (wdL n).all sgB=true;rw[jt];intro x hx;have:=aDg n x hx;unfold sgB;simp only[ie,decide_eq_true_eq]
  lia
theorem aBW{a b:Nat}(h:wdS a=wdS b):a=b:=aCl (congrArg (λz:Str=>z.cps.toList) h)
def wnF(c k:Int):Str:=wdS (c%3000000007 * 61+k).toNat
theorem EX{c k:Int}(h0:0<=k)(h1:k<61):aY (wnF c k)=true:=aDD (by
 have:=gp c (show (3000000007:Int)≠0 by decide);have:=jh c (show (0:Int)<3000000007 by decide);have:(26:Nat)^8=208827064576:=by decide
 lia)
theorem GI{c d k j:Int}(h0:0<=k)(h1:k<61)(h2:0<=j)(h3:j<61)(h:wnF c k=wnF d j):k=j:=by
 have h':=aBW h;have:=gp c (show (3000000007:Int)≠0 by decide);have:=gp d (show (3000000007:Int)≠0 by decide)
 lia
theorem MK:("abcdefghijklmnopqrstuvwxyz" :Str).cps.toList=List.range' 97 26:=by decide +kernel
theorem aBu:("abcdefghijklmnopqrstuvwxyz" :Str).length=26:=by rw[cD];decide
inductive xN(vs:List V)(H:Hp)(Q:VK)(E:XK):Prop
 | mk (c k:Int) (_:vs=[.int c,.int k]) (_:0<=k) (_:k<61) (_:Q (.str (wnF c k)) H):xN vs H Q E
theorem aBR{E:XK}{c k:Int}(h0:0<=k)(h1:k<61)(h:Q (.str (wnF c k)) H):xN [.int c,.int k] H Q E:=⟨_,_,rfl,h0,h1,h⟩
theorem DP(a:Nat)(z:Str):(⟨#[a]⟩++z:Str)≠ "" :=λh=>by
 have h':=congrArg (λz:Str=>z.cps.toList) h;simp only[C0]at h';rw[show ("" :Str).cps.toList=[] by decide +kernel]at h';cases h'
def WdI(N0:Nat)(nu:Int)(z:Str):Prop:=(nu=0/\z≠ "" /\z.cps.toList=wdL N0)∨((0<nu∨z= "")/\wdL N0=wdL nu.toNat++z.cps.toList)
theorem RI{N0:Nat}{nu:Int}(hnu:0<=nu)(hor:WdI N0 nu z)(hc:0<nu∨z= ""):0<=nu/26/\(nu/26).toNat+0<nu.toNat+(if z= "" then 1 else 0)/\WdI N0 (nu/26) (⟨#[97+(nu%26).toNat]⟩++z):=by
 have h2:wdL N0=wdL nu.toNat++z.cps.toList:=by
  rcases hor with⟨h1,h2,_⟩|⟨_,h⟩
  .exact absurd hc (by rintro (h|h);lia;exact h2 h)
  .exact h
 have hl:(⟨#[97+(nu%26).toNat]⟩++z:Str).cps.toList=(97+(nu%26).toNat)::z.cps.toList:=by rw[C0];rfl
 refine⟨by lia,?_,?_⟩
 .rcases hc with hc|hc
  .have:(nu/26).toNat<nu.toNat:=by lia
   lia
  .rw[if_pos hc];lia
 .by_cases h26:nu.toNat<26
  .refine .inl ⟨by lia,DP _ _,?_⟩;rw[hl,h2,wdL,if_pos h26,show (nu%26).toNat=nu.toNat by lia];rfl
  .refine .inr ⟨.inl (by lia),?_⟩;rw[hl,h2,wdL,if_neg h26,show (nu/26).toNat=nu.toNat/26 by lia,show (nu%26).toNat=nu.toNat%26 by lia,cw];rfl
theorem NR(m:M K mg):FnOk P w K mg base CX0 1 m.vZ m.pF.d ["_law_cell","_law_k"] (xN):=by
 refine m.pF.F.ok aHU ?_ ?_;tm_at"g";tm_at"h";rcases h with⟨c,j,rfl,h0,h1,k⟩;tm_at"f";have nd:=aHU.nd;tm_at"d";refine⟨_,(aB (aQ (i:=2) nd rfl (by tm_at"b") (aI bQ (aI kJ (aI bK (pv 0) aD) aD) (pv 1)))
  (aB (aQ (i:=3) nd rfl (by tm_at"b") dS)
  (aB (sV cx (PW.pt (SF (bC rO (pv 2) aD (bF _)) (MN (bC fV (pv 3) dS (bF _))))) (aB (aQ (i:=3) nd rfl (by tm_at"b") (aI aCN (aS aDy dS (aI bK (pv 2) aD) (λ_ _=>rfl)) (pv 3)))
  (aE (aQ (i:=2) nd rfl (by tm_at"b") (aI b7 (pv 2) aD)))))
  (aE (aT (pv 3)))))),?_⟩
 refine aL (σ:=[some (.int c),some (.int j),none,none]) rfl ?_;tm_at"e";have hla:=aBu;have hc0:=gp c (show (3000000007:Int)≠0 by decide);have hc1:=jh c (show (0:Int)<3000000007 by decide);unfold wnF at k;tm_at"a";have hN:(c%3000000007 * 61+j).toNat<26^8:=by
  have:(26:Nat)^8=208827064576:=by decide
  lia
 have hNl:=QN 7 _ hN;have hn0:0<=c%3000000007 * 61+j:=by lia
 generalize c%3000000007 * 61+j=N0 at k hNl hn0;have hem:("" :Str).cps.toList=[]:=by decide +kernel
 have hbody:∀(nu:Int) (z:Str) (mm:Nat),0<=nu->mm=nu.toNat+(if z= "" then 1 else 0)->WdI N0.toNat nu z->(0<nu∨z= "")->z.length<=8:=λnu z mm h1 h2 h3 h4=>by
  rcases h3 with⟨h5,h6,_⟩|⟨_,h⟩
  .exact absurd h4 (by rintro (h|h);lia;exact h6 h)
  .have:=congrArg lh h;rw[ak]at this;show z.cps.size<=8;rw[←ir];lia
 refine⟨λmm σ' H'=>H'=H/\∃(nu:Int) (z:Str),0<=nu/\mm=nu.toNat+(if z= "" then 1 else 0)/\WdI N0.toNat nu z/\σ'=[some (.int c),some (.int j),some (.int nu),some (.str z)],⟨_,rfl,N0,"",hn0,rfl,.inr ⟨.inr rfl,by rw[hem,df]⟩,rfl⟩,?_⟩;rintro mm _ H0 hq_;obtain⟨hH0,nu,z,hnu,hmm,hor,rfl⟩:=hq_;subst hH0;tm_at"a";refine bS (λhc=> ?_) (λhc=> ?_)
 .have hs:=RI hnu hor (.inl hc);have hzl:=hbody nu z mm hnu hmm hor (.inl hc);rw[if_pos rfl];refine⟨λσ' H'=>H'=H0/\σ'=[some (.int c),some (.int j),some (.int (nu/26)),some (.str (⟨#[97+(nu%26).toNat]⟩++z))],?_,?_⟩
  .rintro _ _ ⟨rfl,rfl⟩;exact⟨(nu/26).toNat+0,by rw[hmm];exact hs.2.1,rfl,_,_,hs.1,by rw[if_neg (DP _ _)],hs.2.2,rfl⟩
  .tm_at"a";refine⟨_,_,_,rfl,rfl,(by tm_at"o"),WE MK (by lia) (by lia),?_⟩;have h1':(⟨#[97+(nu%26).toNat]⟩:Str).length=1:=rfl;tm_at"a";exact⟨rfl,rfl⟩
 .tm_at"a";refine bS (λhc2=> ?_) (λhc2=> ?_)
  .have hs:=RI hnu hor (.inr hc2);have hzl:=hbody nu z mm hnu hmm hor (.inr hc2);refine⟨λσ' H'=>H'=H0/\σ'=[some (.int c),some (.int j),some (.int (nu/26)),some (.str (⟨#[97+(nu%26).toNat]⟩++z))],?_,?_⟩
   .rintro _ _ ⟨rfl,rfl⟩;exact⟨(nu/26).toNat+0,by rw[hmm];exact hs.2.1,rfl,_,_,hs.1,by rw[if_neg (DP _ _)],hs.2.2,rfl⟩
   .tm_at"a";refine⟨_,_,_,rfl,rfl,(by tm_at"o"),WE MK (by lia) (by lia),?_⟩;have h1':(⟨#[97+(nu%26).toNat]⟩:Str).length=1:=rfl;tm_at"a";exact⟨rfl,rfl⟩
  .have he:z=wdS N0.toNat:=by
    rcases hor with⟨_,_,h⟩|⟨h,_⟩
    .exact aCc h
    .exact absurd h (by rintro (h|h);exact hc h;exact hc2 h)
   tm_at"a";rw[he];exact k
theorem mO(m:M K mg):Fc P w K mg base "_law_name" 1 ["_law_cell","_law_k"] (xN):=⟨_,_,m.QB,m.pF.F.kp,m.pF.b,NR m⟩
local macro_rules| `(tactic| tm_at"l")=> `(tactic| ((with_reducible refine' aBR ?a ?b ?_);(case a=>tm_at"j");(case b=>tm_at"j")))
abbrev bR:=Str×Int×Int
def cH(H:Hp)(v:V)(r:bR):Prop:=∃q,v= .ref q/\H q=some (.tup [.str r.1,.int r.2.1,.int r.2.2])
theorem eF{rs:List bR}(h:bo (cH H) us rs)(s:Same H H'):bo (cH H') us rs:=Paired.imp' (λv d ⟨q,e,h⟩=>⟨q,e,s _ _ h⟩) h
structure gJ(rs:List bR):Prop where
 nd:(rs.map (·.1)).Nodup
 nm:∀r∈rs,aY r.1=true
 ok:∀r∈rs,0<=r.2.2/\r.2.2<=r.2.1
 l0:0<rs.length
 l1:rs.length<=4
 wn:∀r∈rs,∃c k:Int,0<=k/\k<20/\r.1=wnF c k
theorem MB(c:Int)(n:Nat)(h:n<=61):((fc n).map λi:Nat=>wnF c (i:Int)).Nodup:=by
 rw[oq,iq];refine ue ?_ (ot (n:=n));intro i j hi hj hne z;have hi':=gm.mp hi;have hj':=gm.mp hj;have:=GI (by lia) (by lia) (by lia) (by lia) z
 lia
inductive lR(vs:List V)(H:Hp)(Q:VK)(E:XK):Prop
 | mk (a:Addr) (c0 c1 c2 c3:Int) (_:vs=[.ref a]) (_:H a=some (.lst [.int c0,.int c1,.int c2,.int c3])) (_:∀p us rs H',H p=none->Same H H'->H' p=some (.lst us)->bo (cH H') us rs->gJ rs->Q (.ref p) H'):lR vs H Q E
theorem MZ{E:XK}{c0 c1 c2 c3:Int}(ea:H a=some (.lst [.int c0,.int c1,.int c2,.int c3]))(k:∀p us rs H',H p=none->Same H H'->H' p=some (.lst us)->bo (cH H') us rs->gJ rs->Q (.ref p) H'):lR [.ref a] H Q E:=⟨_,_,_,_,_,rfl,ea,k⟩
theorem KC(m:M K mg):FnOk P w K mg base CX0 2 m.tZ m.nE.d ["_law_cells"] (lR):=by
 refine m.nE.F.ok aHC ?_ ?_;tm_at"g";tm_at"h";rcases h with⟨a,c0,c1,c2,c3,rfl,ea,k⟩;tm_at"f";have nd:=aHC.nd;tm_at"d";have aGH:= @qJ P w K mg base m;have aGI:= @mO P w K mg base m;refine⟨_,(aB (aQ (i:=1) nd rfl (by tm_at"b") (cI aC))
  (aB (c4 cx rfl (gN rfl m.jM (aA (aI bQ aD (aI bK (bG aGH hr (aA (aS aW (pv 0) aD (λ_ _=>rfl)) (aA aD aC))) aD)) aC)) (aN (i:=2) nd rfl (by tm_at"b")) (aB (aQ (i:=3) nd rfl (by tm_at"b") (bG aGH hr (aA (aS aW (pv 0) aD (λ_ _=>rfl)) (aA (pv 2) aC))))
  (aB (aQ (i:=4) nd rfl (by tm_at"b") (aI bQ aD (aI bK (pv 3) aD)))
  (aB (b8 (bC fV (aI bK (aI b7 (pv 3) aD) aD) aD (bF _)) (aE (aQ (i:=4) nd rfl (by tm_at"b") (aI bQ aD (aI bK (aI bQ (aS aW (pv 0) aD (λ_ _=>rfl)) (aI kJ aD (pv 2))) (eV 100000000000 (by decide) ⟨by decide,by decide,by decide⟩))))) bM)
  (aB (b8 (bC fV (aI bK (aI b7 (pv 3) aD) aD) aD (bF _)) (aE (aQ (i:=4) nd rfl (by tm_at"b") aD)) bM)
  (aB (aQ (i:=5) nd rfl (by tm_at"b") (aS aW (cI (aA aD (aA (pv 4) (aA (aI bK (aI b7 (pv 3) aD) (aI bQ (pv 4) aD)) (aA (aI b7 (aI bQ (pv 4) aD) aD) aC))))) (aI bK (aI b7 (pv 3) aD) aD) (λ_ _=>rfl)))
  (aE (aU (fW da dj dm cV (pv 1) (aA (cY (aA (bG aGI hr (aA (aS aW (pv 0) aD (λ_ _=>rfl)) (aA (pv 2) aC))) (aA (pv 4) (aA (pv 5) aC)))) aC))))))))))
  (aE (aT (pv 1))))),?_⟩
 refine aL (σ:=[some (.ref a),none,none,none,none,none]) rfl ?_;tm_at"e";tm_at"a";rename_i p H1 n1 S1 e1 nn hn0 hn1;have fr:∀x u,H x=some u->x≠p:=λx u hx z=>by rw[z,n1]at hx;cases hx
 let Pv1:Nat->St->Hp->Prop:=λi σ' H'=>SameBut p H1 H'/\(∃us rs,H' p=some (.lst us)/\bo (cH H') us rs/\rs.map (·.1)=(fc i).map (λi:Nat=>wnF c2 (i:Int))/\∀r∈rs,0<=r.2.2/\r.2.2<=r.2.1)/\∃x y z u,σ'=[some (.ref a),some (.ref p),x,y,z,u];refine wA Pv1 ⟨SameBut.refl,⟨[],[],e1,.nil,rfl,(λ_ z=>nomatch z)⟩,_,_,_,_,rfl⟩ ?_ ?_
 .rintro i _ H' hi hq_;obtain⟨sb,⟨us,rs,eu,hrs,hnm,hok⟩,x1,x2,x3,x4,rfl⟩:=hq_;have hul:us.length=i:=by
   have h5:rs.length=i:=by rw[←af (f:=λd:bR=>d.1),hnm,af,el]
   rw[bx hrs];exact h5
  have ea':H' a=some (.lst [.int c0,.int c1,.int c2,.int c3]):=(SameBut.same n1 S1 sb) _ _ ea;tm_at"n";rename_i nu hu0' hu1';refine lO (λσ' G=>H'=G/\∃hh,0<=hh/\σ'=[some (.ref a),some (.ref p),some (.int (0+(i:Int))),some (.int nu),some (.int hh),x4]) ?_ ?_
  rotate_left
  .intro nx' hnx;tm_at"a";refine bS (λhc=> ?_) (λhc=> ?_)
   .tm_at"a";exact hnx _ _ ⟨rfl,_,by lia,rfl⟩
   .tm_at"a";exact hnx _ _ ⟨rfl,_,by lia,rfl⟩
  rintro _ G hq_;obtain⟨hG,h1,hh1,rfl⟩:=hq_;subst hG;tm_at"n";refine lO (λσ' G=>H'=G/\∃hh,0<=hh/\σ'=[some (.ref a),some (.ref p),some (.int (0+(i:Int))),some (.int nu),some (.int hh),x4]) ?_ ?_
  rotate_left
  .intro nx' hnx;tm_at"a";refine bS (λhc=> ?_) (λhc=> ?_)
   .tm_at"a";exact hnx _ _ ⟨rfl,_,by lia,rfl⟩
   .tm_at"a";exact hnx _ _ ⟨rfl,_,hh1,rfl⟩
  rintro _ G hq_;obtain⟨hG,h2,hh2,rfl⟩:=hq_;subst hG;tm_at"a";rename_i hr0 hr1 p5 H5 n5 S5 e5;refine tD (SqL.of e5) (by lia) (by show _<(4:Int);lia) λv hv=> ?_;obtain⟨ff,rfl,hf0,hf1⟩:∃ff,v= .int ff/\0<=ff/\ff<=h2:=by
   simp only[aw,fz,or_false]at hv;rcases hv with rfl|rfl|rfl|rfl
   .exact⟨_,rfl,by lia,by lia⟩
   .exact⟨_,rfl,by lia,by lia⟩
   .exact⟨_,rfl,hr0,by lia⟩
   .exact⟨_,rfl,by lia,by lia⟩
  have ea5:=S5 _ _ ea';tm_at"a";rename_i q6 H6 n6 S6 e6;have eu6:H6 p=some (.lst us):=S6 _ _ (S5 _ _ eu);refine cW eu6 (by rw[sizeLine_eq];lia) λH7 B7 e7=> ?_;have hq6:q6≠p:=λz=>by rw[z,S5 _ _ eu]at n6;cases n6
  refine⟨(sb.trans (S5.trans S6).but).trans B7,⟨us++[.ref q6],rs++[(wnF c2 (0+(i:Int)),h2,ff)],e7,?_,?_,?_⟩,_,_,_,_,rfl⟩
  .exact L2.Paired.snoc (Paired.imp' (λw d ⟨q,e,h⟩=>⟨q,e,B7 _ _ (S6 _ _ (S5 _ _ h)) λz=>by rw[z,eu]at h;cases h⟩) hrs) ⟨q6,rfl,B7 _ _ e6 hq6⟩
  .rw[aq,hnm,mj,aq,gd];rfl
  .intro r hr;rcases bf.mp hr with hr|hr
   .exact hok r hr
   .cases bq.mp hr;exact⟨hf0,hf1⟩
 .rintro _ H' hq_;obtain⟨sb,⟨us,rs,eu,hrs,hnm,hok⟩,x1,x2,x3,x4,rfl⟩:=hq_;have hrl:rs.length=(1+nn%4).toNat:=by rw[←af (f:=λd:bR=>d.1),hnm,af,el]
  tm_at"a";have hwn:∀r∈rs,∃c k:Int,0<=k/\k<20/\r.1=wnF c k:=λr hr=>by
   have hm:r.1∈rs.map (·.1):=ag.mpr ⟨r,hr,rfl⟩;rw[hnm]at hm;rcases ag.mp hm with⟨i,hi,e⟩;have:=gm.mp hi;exact⟨c2,(i:Int),by lia,by lia,e.symm⟩
  refine k _ _ _ _ n1 (SameBut.same n1 S1 sb) eu hrs ⟨by rw[hnm];exact MB _ _ (by lia),λr hr=> ?_,hok,by lia,by lia,hwn⟩;have hm:r.1∈rs.map (·.1):=ag.mpr ⟨r,hr,rfl⟩;rw[hnm]at hm;rcases ag.mp hm with⟨i,hi,e⟩;have:=gm.mp hi;rw[←e];exact EX (by lia) (by lia)
theorem KB(m:M K mg):Fc P w K mg base "_law_rooms" 2 ["_law_cells"] (lR):=⟨_,_,m.OU,m.nE.F.kp,m.nE.b,KC m⟩
inductive rF(K:W.Frag)(vs:List V)(H:Hp)(Q:VK)(E:XK):Prop
 | mk (c:Int) (b:Addr) (bs:List Int) (_:vs=[.int c,.ref b]) (_:SqL K H b (bs.map V.int)) (_:(∀x∈bs,0<x/\x<1000000000000)) (_:bs.length<=20) (_:∀p (ns:List Int) H',H p=none->Same H H'->H' p=some (.lst (ns.map V.int))->bo (λ(n x:Int)=>0<=n/\n<x) ns bs->Q (.ref p) H'):rF K vs H Q E
theorem zQ{E:XK}{c:Int}{bs:List Int}(hS:SqL K H b (bs.map V.int))(hb:∀x∈bs,0<x/\x<1000000000000)(hl:bs.length<=20)(k:∀p (ns:List Int) H',H p=none->Same H H'->H' p=some (.lst (ns.map V.int))->bo (λ(n x:Int)=>0<=n/\n<x) ns bs->Q (.ref p) H'):rF K [.int c,.ref b] H Q E:=⟨_,_,_,rfl,hS,hb,hl,k⟩
theorem IB(m:M K mg):FnOk P w K mg base CX0 1 m.qW m.kQ.d ["_law_cell","_law_bases"] (rF K):=by
 refine m.kQ.F.ok aHt ?_ ?_;tm_at"g";tm_at"h";rcases h with⟨c,b,bs,rfl,hS,hb,hl,k⟩;tm_at"f";have nd:=aHt.nd;tm_at"d";refine⟨_,(aB (aQ (i:=2) nd rfl (by tm_at"b") (cI aC))
  (aB (c4 cx rfl (bP (pv 1)) (aN (i:=3) nd rfl (by tm_at"b")) (aB (aU (fW da dj dm cV (pv 2) (aA (aI bK (pv 0) (pv 3)) aC)))
  (aE (aQ (i:=0) nd rfl (by tm_at"b") (aI ZN (pv 0) (pv 3))))))
  (aE (aT (pv 2))))),?_⟩
 refine aL (σ:=[some (.int c),some (.ref b),none,none]) rfl ?_;tm_at"e";tm_at"a";rename_i p H1 n1 S1 e1;let Pv1:Nat->St->Hp->Prop:=λi σ' H'=>SameBut p H1 H'/\(∃ns:List Int,H' p=some (.lst (ns.map V.int))/\bo (λ(n x:Int)=>0<=n/\n<x) ns (bs.take i))/\∃c' x,σ'=[some (.int c'),some (.ref b),some (.ref p),x];refine dH (bs.map V.int) Pv1 ⟨SameBut.refl,⟨[],e1,.nil⟩,_,_,rfl⟩ (λi σ' H' _ q=>(SameBut.same n1 S1 q.1).seq hS) ?_ ?_
 .rintro i x _ H' hx hq_;obtain⟨sb,⟨ns,ek,hns⟩,c',y,rfl⟩:=hq_;rw[bu]at hx;rcases cj.mp hx with⟨d,hd,rfl⟩;rcases hb d (ba hd) with⟨hd0,hd1⟩;have hi:i<bs.length:=(ax.mp hd).1;have hnl:ns.length=i:=by rw[bx hns,dh];lia
  tm_at"a";rename_i hm0 hm1;refine cW ek (by rw[sizeLine_eq,af];lia) λH2 B2 e2=> ?_;tm_at"a";refine aCZ hd0 (Int.lt_trans hd1 (by decide)) ?_;tm_at"a";refine⟨sb.trans B2,⟨ns++[c'%d],by rw[e2,aq];rfl,?_⟩,_,_,rfl⟩;rw[aV hd];exact L2.Paired.snoc hns ⟨hm0,hm1⟩
 .rintro _ H' hq_;obtain⟨sb,⟨ns,ek,hns⟩,c',y,rfl⟩:=hq_;rw[af,cp]at hns;tm_at"a";exact k _ _ _ n1 (SameBut.same n1 S1 sb) ek hns
theorem nX(m:M K mg):Fc P w K mg base "_law_digits" 1 ["_law_cell","_law_bases"] (rF K):=⟨_,_,m.KS,m.kQ.F.kp,m.kQ.b,IB m⟩
theorem AR(m:M K mg):FnOk P w K mg base CX0 3 m.kA m.fY.d ["_law_cells"] (lR):=by
 refine m.fY.F.ok aGS ?_ ?_;tm_at"g";tm_at"h";rcases h with⟨a,c0,c1,c2,c3,rfl,ea,k⟩;tm_at"f";have nd:=aGS.nd;tm_at"d";have aGJ:= @nX P w K mg base m;have aGI:= @mO P w K mg base m;refine⟨_,(aB (aQ (i:=1) nd rfl (by tm_at"b") (bG aGJ hr (aA (aS aW (pv 0) aD (λ_ _=>rfl)) (aA (cI (aA (eV 100000000000 (by decide) ⟨by decide,by decide,by decide⟩) (aA (eV 100000000000 (by decide) ⟨by decide,by decide,by decide⟩) (aA (eV 100000000000 (by decide) ⟨by decide,by decide,by decide⟩) (aA (eV 100000000000 (by decide) ⟨by decide,by decide,by decide⟩) (aA (eV 100000000000 (by decide) ⟨by decide,by decide,by decide⟩) (aA (eV 100000000000 (by decide) ⟨by decide,by decide,by decide⟩) (aA (eV 100000000000 (by decide) ⟨by decide,by decide,by decide⟩) (aA (eV 100000000000 (by decide) ⟨by decide,by decide,by decide⟩) aC))))))))) aC))))
  (aB (aQ (i:=2) nd rfl (by tm_at"b") (cI aC))
  (aB (c4 cx rfl (gN rfl m.jM (aA (aI bQ aD (aI bK (aI b7 (aS aW (pv 0) aD (λ_ _=>rfl)) aD) aD)) aC)) (aN (i:=3) nd rfl (by tm_at"b")) (aE (aU (fW da dj dm cV (pv 2) (aA (cY (aA (bG aGI hr (aA (aS aW (pv 0) aD (λ_ _=>rfl)) (aA (pv 3) aC))) (aA (aS aW (pv 1) (aI kJ aD (pv 3)) (λ_ _=>rfl)) (aA (bI (zN rfl) rfl m.LF E3 (aA (aS aW (pv 1) (aI kJ aD (pv 3)) (λ_ _=>rfl)) (aA (aS aW (pv 1) (aI bQ (aI kJ aD (pv 3)) aD) (λ_ _=>rfl)) aC))) aC)))) aC)))))
  (aE (aT (pv 2)))))),?_⟩
 refine aL (σ:=[some (.ref a),none,none,none]) rfl ?_;tm_at"e";tm_at"a";rename_i b1 H1 n1 S1 f1;refine zQ (bs:=rk 8 100000000000) (SqL.of f1) (λx hx=>by rw[List.eq_of_mem_replicate hx];decide) (by decide) λp2 ns H2 n2 S2 f2 hns=> ?_;have hnl:ns.length=8:=bx hns;have hnn:∀(i:Nat) (x:Int),ns[i]? =some x->0<=x:=λi x hx=>by
  have hi:i<ns.length:=(ax.mp hx).1;exact(Paired.at2 hns hx (ao (by rw[nv];lia))).1
 have ea2:=S2 _ _ (S1 _ _ ea);tm_at"a";rename_i p H3 n3 S3 e3;have s03:Same H H3:=(S1.trans S2).trans S3;have fr:∀x u,H2 x=some u->x≠p:=λx u hx z=>by rw[z,n3]at hx;cases hx
 let Pv2:Nat->St->Hp->Prop:=λi σ' H'=>SameBut p H3 H'/\(∃us rs,H' p=some (.lst us)/\bo (cH H') us rs/\rs.map (·.1)=(fc i).map (λi:Nat=>wnF c2 (i:Int))/\∀r∈rs,0<=r.2.2/\r.2.2<=r.2.1)/\∃x,σ'=[some (.ref a),some (.ref p2),some (.ref p),x];refine wA Pv2 ⟨SameBut.refl,⟨[],[],e3,.nil,rfl,(λ_ z=>nomatch z)⟩,_,rfl⟩ ?_ ?_
 .rintro i _ H' hi hq_;obtain⟨sb,⟨us,rs,eu,hrs,hnm,hok⟩,x1,rfl⟩:=hq_;have hul:us.length=i:=by
   have h5:rs.length=i:=by rw[←af (f:=λd:bR=>d.1),hnm,af,el]
   rw[bx hrs];exact h5
  have s2':Same H2 H':=SameBut.same n3 S3 sb;have ea':=s2' _ _ ea2;have f2':=s2' _ _ f2;have hA:ns[2 * i]? =some ns[2 * i]:=ao (by lia);have hB:ns[2 * i+1]? =some ns[2 * i+1]:=ao (by lia);have hA0:=hnn _ _ hA;have hB0:=hnn _ _ hB;have hA':(ns.map V.int)[2 * i]? =some (.int ns[2 * i]):=by rw[bu,hA];rfl
  have hB':(ns.map V.int)[2 * i+1]? =some (.int ns[2 * i+1]):=by rw[bu,hB];rfl
  generalize ns[2 * i]=xa at hA0 hA';generalize ns[2 * i+1]=xb at hB0 hB';tm_at"a";rw[gd,show (2:Int) * (i:Int)=((2 * i:Nat):Int) by lia];refine gI (SqL.of f2') hA' ?_;tm_at"a";rw[show (2:Int) * (i:Int)=((2 * i:Nat):Int) by lia];refine gI (SqL.of f2') hA' ?_;tm_at"a";rw[show (2:Int) * (i:Int)+1=((2 * i+1:Nat):Int) by lia];refine gI (SqL.of f2') hB' ?_;tm_at"a";rename_i q6 H6 n6 S6 e6;have eu6:H6 p=some (.lst us):=S6 _ _ eu;refine cW eu6 (by rw[sizeLine_eq];lia) λH7 B7 e7=> ?_;have hq6:q6≠p:=λz=>by rw[z,eu]at n6;cases n6
  refine⟨(sb.trans S6.but).trans B7,⟨us++[.ref q6],rs++[(wnF c2 (i:Int),xa,min xa xb)],e7,?_,?_,?_⟩,_,rfl⟩
  .exact L2.Paired.snoc (Paired.imp' (λw d ⟨q,e,h⟩=>⟨q,e,B7 _ _ (S6 _ _ h) λz=>by rw[z,eu]at h;cases h⟩) hrs) ⟨q6,rfl,B7 _ _ e6 hq6⟩
  .rw[aq,hnm,mj,aq];rfl
  .intro r hr;rcases bf.mp hr with hr|hr
   .exact hok r hr
   .cases bq.mp hr;show 0<=min xa xb/\min xa xb<=xa
    lia
 .rintro _ H' hq_;obtain⟨sb,⟨us,rs,eu,hrs,hnm,hok⟩,x1,rfl⟩:=hq_;have hrl:rs.length=(1+c0/2%4).toNat:=by rw[←af (f:=λd:bR=>d.1),hnm,af,el]
  have hp:H p=none:=by
   cases hq:H p with
   | none=>rfl
   | some u=>rw[S2 _ _ (S1 _ _ hq)]at n3;cases n3
  tm_at"a";have hwn:∀r∈rs,∃c k:Int,0<=k/\k<20/\r.1=wnF c k:=λr hr=>by
   have hm:r.1∈rs.map (·.1):=ag.mpr ⟨r,hr,rfl⟩;rw[hnm]at hm;rcases ag.mp hm with⟨i,hi,e⟩;have:=gm.mp hi;exact⟨c2,(i:Int),by lia,by lia,e.symm⟩
  refine k _ _ _ _ hp (λx u hx=>(SameBut.same n3 S3 sb) _ _ (S2 _ _ (S1 _ _ hx))) eu hrs ⟨by rw[hnm];exact MB _ _ (by lia),λr hr=> ?_,hok,by lia,by lia,hwn⟩;have hm:r.1∈rs.map (·.1):=ag.mpr ⟨r,hr,rfl⟩;rw[hnm]at hm;rcases ag.mp hm with⟨i,hi,e⟩;have:=gm.mp hi;rw[←e];exact EX (by lia) (by lia)
theorem zW(m:M K mg):Fc P w K mg base "_law_rooms_told" 3 ["_law_cells"] (lR):=⟨_,_,m.CS,m.fY.F.kp,m.fY.b,AR m⟩
structure cF where
 n:Str
 st:Str
 e:V
 kd:Int
 wd:Int
 fi:Int
 mo:Int
def dX(H:Hp)(v:V)(s:cF):Prop:=∃q,v= .ref q/\H q=some (.tup [.str s.n,.str s.st,s.e,.int s.kd,.int s.wd,.int s.fi,.int s.mo])
structure jE(rs:List bR)(f:Int)(s:cF):Prop where
 nm:aY s.n=true
 sm:aY s.st=true
 sin:s.st∈rs.map (·.1)
 eo:cZ s.e
 ein:s.e= .non∨∃z,s.e= .str z/\z∈rs.map (·.1)
 k0:0<=s.kd
 k1:s.kd<6
 w0:0<=s.wd
 f0:f<=s.fi
 m0:0<=s.mo
 m1:s.kd=3->1<=s.mo
 w1:s.wd<1000000000000
theorem yR{rs:List bR}(hr:bo (cH H) us rs)(hv:v∈us):∃z i j q,v= .ref q/\H q=some (.tup [.str z,.int i,.int j])/\(z,i,j)∈rs:=by
 obtain⟨e,he,q,rfl,hq⟩:=gT hr hv;exact⟨e.1,e.2.1,e.2.2,q,rfl,hq,he⟩
inductive oT(K:W.Frag)(vs:List V)(H:Hp)(Q:VK)(E:XK):Prop
 | mk (c j f l:Int) (a b:Addr) (us:List V) (rs:List bR) (_:vs=[.int c,.int j,.ref a,.ref b]) (_:0<=j) (_:j<20) (_:SqL K H a us) (_:bo (cH H) us rs) (_:gJ rs) (_:H b=some (.tup [.int f,.int l])) (_:∀q s H',Same H H'->dX H' (.ref q) s->jE rs f s->s.n=wnF c (20+j)->Q (.ref q) H'):oT K vs H Q E
theorem IA{E:XK}{c j:Int}{rs:List bR}(h0:0<=j)(h1:j<20)(hS:SqL K H a us)(hr:bo (cH H) us rs)(ro:gJ rs)(eb:H b=some (.tup [.int f,.int l]))(k:∀q s H',Same H H'->dX H' (.ref q) s->jE rs f s->s.n=wnF c (20+j)->Q (.ref q) H'):oT K [.int c,.int j,.ref a,.ref b] H Q E:=⟨_,_,_,_,_,_,_,_,rfl,h0,h1,hS,hr,ro,eb,k⟩
theorem NJ(m:M K mg):FnOk P w K mg base CX0 2 m.vX m.pI.d ["_law_cell","_law_k","_law_rooms_here","_law_turns"] (oT K):=by
 refine m.pI.F.ok aHV ?_ ?_;tm_at"g";tm_at"h";rcases h with⟨c,j,f,l,a,b,us,rs,rfl,h0,h1,hS,hr',ro,eb,k⟩;tm_at"f";have nd:=aHV.nd;tm_at"d";have aGH:= @qJ P w K mg base m;have aGI:= @mO P w K mg base m;refine⟨_,(aB (aQ (i:=4) nd rfl (by tm_at"b") (bG aGH hr (aA (pv 0) (aA (pv 1) aC))))
  (aB (aQ (i:=5) nd rfl (by tm_at"b") (aI bK (pv 4) aD))
  (aB (b8 (bC fV (aI bK (aI b7 (pv 4) aD) aD) aD (bF _)) (aE (aQ (i:=5) nd rfl (by tm_at"b") (aI bK (aI bQ (pv 0) (aI kJ aD (pv 1))) (eV 100000000000 (by decide) ⟨by decide,by decide,by decide⟩)))) bM)
  (aB (aQ (i:=6) nd rfl (by tm_at"b") (aS dA (aS aW (pv 2) (aI bK (aI b7 (pv 4) aD) (bI c7 rfl m.hJ eZ (aA (pv 2) aC))) (λ_ _=>rfl)) aD (λ_ _=>rfl)))
  (aB (aQ (i:=7) nd rfl (by tm_at"b") tJ)
  (aB (b8 (bC rO (aI bK (aI b7 (pv 4) aD) aD) aD (bF _)) (aE (aQ (i:=7) nd rfl (by tm_at"b") (aS dA (aS aW (pv 2) (aI bK (aI b7 (pv 4) aD) (bI c7 rfl m.hJ eZ (aA (pv 2) aC))) (λ_ _=>rfl)) aD (λ_ _=>rfl)))) bM)
  (aB (aQ (i:=8) nd rfl (by tm_at"b") (aI bK (aI b7 (pv 4) aD) aD))
  (aB (aQ (i:=9) nd rfl (by tm_at"b") (aI bQ (aS dA (pv 3) aD (λ_ _=>rfl)) (aI bK (aI b7 (pv 4) aD) aD)))
  (aB (aQ (i:=10) nd rfl (by tm_at"b") (aS aW (cI (aA (aI bQ aD (aI bK (aI b7 (pv 4) aD) aD)) (aA (aI bK (pv 0) aD) aC))) (aI bK (aI b7 (pv 8) aD) aD) (λ_ _=>rfl)))
  (aE (aT (cY (aA (bG aGI hr (aA (pv 0) (aA (aI bQ aD (pv 1)) aC))) (aA (pv 6) (aA (pv 7) (aA (pv 8) (aA (pv 5) (aA (pv 9) (aA (pv 10) aC))))))))))))))))))),?_⟩
 refine aL (σ:=[some (.int c),some (.int j),some (.ref a),some (.ref b),none,none,none,none,none,none,none]) rfl ?_;tm_at"e";have hul:us.length=rs.length:=bx hr';have hu0':0<us.length:=by have:=ro.l0;lia
 tm_at"n";rename_i nu hn0 hn1;refine lO (λσ' G=>H=G/\∃wd,0<=wd/\wd<1000000000000/\σ'=[some (.int c),some (.int j),some (.ref a),some (.ref b),some (.int nu),some (.int wd),none,none,none,none,none]) ?_ ?_
 rotate_left
 .intro nx' hnx;tm_at"a";refine bS (λhc=> ?_) (λhc=> ?_)
  .tm_at"a";exact hnx _ _ ⟨rfl,_,by lia,by lia,rfl⟩
  .tm_at"a";exact hnx _ _ ⟨rfl,_,by lia,by lia,rfl⟩
 rintro _ G hq_;obtain⟨hG,wd,hwd,hwd1,rfl⟩:=hq_;subst hG;tm_at"n";rename_i hm0 hm1;refine tD hS hm0 hm1 λv1 hv1=> ?_;obtain⟨z1,i1,j1,q1,rfl,hq1,hz1⟩:=yR hr' hv1;tm_at"n";refine⟨q1,_,0,_,rfl,rfl,SqT.of hq1,rfl,?_⟩;tm_at"n";refine lO (λσ' G=>H=G/\∃e,cZ e/\(e= .non∨∃z,e= .str z/\z∈rs.map (·.1))/\σ'=[some (.int c),some (.int j),some (.ref a),some (.ref b),some (.int nu),some (.int wd),some (.str z1),some e,none,none,none]) ?_ ?_
 rotate_left
 .intro nx' hnx;tm_at"a";refine bS (λhc=> ?_) (λhc=> ?_)
  .tm_at"a";rename_i ha0 ha1;refine tD hS ha0 ha1 λv2 hv2=> ?_;obtain⟨z2,i2,j2,q2,rfl,hq2,hz2⟩:=yR hr' hv2;tm_at"a";refine⟨q2,_,0,_,rfl,rfl,SqT.of hq2,rfl,?_⟩;tm_at"a";exact hnx _ _ ⟨rfl,_,.inr ⟨z2,rfl,ro.nm _ hz2⟩,.inr ⟨z2,rfl,ag.mpr ⟨_,hz2,rfl⟩⟩,rfl⟩
  .tm_at"a";exact hnx _ _ ⟨rfl,_,.inl rfl,.inl rfl,rfl⟩
 rintro _ G hq_;obtain⟨hG,e,he,hei,rfl⟩:=hq_;subst hG;tm_at"a";refine⟨b,_,0,_,rfl,rfl,SqT.of eb,rfl,?_⟩;tm_at"a";rename_i p5 H5 n5 S5 e5 mo hmo q6 H6 n6 S6 e6;exact k q6 ⟨wnF c (20+j),z1,e,nu/2000%6,wd,f+nu/12000%4,mo⟩ _ (S5.trans S6) ⟨q6,rfl,e6⟩ ⟨EX (by lia) (by lia),ro.nm _ hz1,ag.mpr ⟨_,hz1,rfl⟩,he,hei,by show 0<=nu/2000%6;lia,by show nu/2000%6<6;lia,hwd,by show f<=f+nu/12000%4;lia,by show 0<=mo;lia,(λh3=>by
  have h3:nu/2000%6=3:=h3;show 1<=mo
  lia),hwd1⟩ rfl
theorem AN(m:M K mg):Fc P w K mg base "_law_spec" 2 ["_law_cell","_law_k","_law_rooms_here","_law_turns"] (oT K):=⟨_,_,m.P7,m.pI.F.kp,m.pI.b,NJ m⟩
theorem gM{α:Type}{F:α->β->Prop}{l:List α}{b:β}{m:List β}(h:bo F l (b::m)):∃a l',l=a::l'/\F a b/\bo F l' m:=by
 cases h with
 | cons r t=>exact⟨_,_,rfl,r,t⟩
theorem LT{α:Type}{F:α->β->Prop}{l:List α}(h:bo F l ([]:List β)):l=[]:=by cases h;rfl
theorem CJ(m:M K mg):FnOk P w K mg base CX0 3 m.lA m.hU.d ["_law_cell","_law_k","_law_rooms_here","_law_turns"] (oT K):=by
 refine m.hU.F.ok aG2 ?_ ?_;tm_at"g";tm_at"h";rcases h with⟨c,j,f,l,a,b,us,rs,rfl,h0,h1,hS,hr',ro,eb,k⟩;tm_at"f";have nd:=aG2.nd;tm_at"d";have aGJ:= @nX P w K mg base m;have aGI:= @mO P w K mg base m;refine⟨_,(aB (aQ (i:=4) nd rfl (by tm_at"b") (bI c7 rfl m.hJ eZ (aA (pv 2) aC)))
  (aB (pQ (bG aGJ hr (aA (pv 0) (aA (cI (aA aD (aA (pv 4) (aA (aI bQ (pv 4) aD) (aA (eV 100000000000 (by decide) ⟨by decide,by decide,by decide⟩) (aA aD (aA aD aC))))))) aC))) (QU (n:=6) rfl (aZ (aN (i:=5) nd rfl (by tm_at"b")) (aZ (aN (i:=6) nd rfl (by tm_at"b")) (aZ (aN (i:=7) nd rfl (by tm_at"b")) (aZ (aN (i:=8) nd rfl (by tm_at"b")) (aZ (aN (i:=9) nd rfl (by tm_at"b")) (aZ (aN (i:=10) nd rfl (by tm_at"b")) d8))))))))
  (aB (aQ (i:=11) nd rfl (by tm_at"b") tJ)
  (aB (b8 (bC jG (pv 7) (pv 4) (bF _)) (aE (aQ (i:=11) nd rfl (by tm_at"b") (aS dA (aS aW (pv 2) (pv 7) (λ_ _=>rfl)) aD (λ_ _=>rfl)))) bM)
  (aB (b8 (bC fV (pv 5) aD (bF _)) (aE (aQ (i:=10) nd rfl (by tm_at"b") (aI bQ aD (aI bK (pv 10) aD)))) bM)
  (aE (aT (cY (aA (bG aGI hr (aA (pv 0) (aA (aI bQ aD (pv 1)) aC))) (aA (aS dA (aS aW (pv 2) (pv 6) (λ_ _=>rfl)) aD (λ_ _=>rfl)) (aA (pv 11) (aA (pv 5) (aA (pv 8) (aA (aI bQ (aS dA (pv 3) aD (λ_ _=>rfl)) (pv 9)) (aA (pv 10) aC))))))))))))))),?_⟩
 refine aL (σ:=[some (.int c),some (.int j),some (.ref a),some (.ref b),none,none,none,none,none,none,none,none]) rfl ?_;tm_at"e";have hul:us.length=rs.length:=bx hr';have hu0':0<us.length:=by have:=ro.l0;lia
 have hu4:us.length<=4:=by have:=ro.l1;lia
 tm_at"n";rename_i p1 H1 n1 S1 e1;refine zQ (bs:=[6,(us.length:Int),(us.length:Int)+1,100000000000,30,4096]) (SqL.of e1) (λx hx=>by
  simp only[aw,fz,or_false]at hx;rcases hx with rfl|rfl|rfl|rfl|rfl|rfl<;>lia) (show 6<=20 by decide) λp2 ns H2 n2 S2 e2 hns=> ?_
 obtain⟨kd,t1,rfl,hk,hns⟩:=gM hns;obtain⟨sx,t2,rfl,hs,hns⟩:=gM hns;obtain⟨ex,t3,rfl,hx,hns⟩:=gM hns;obtain⟨wd,t4,rfl,hw,hns⟩:=gM hns;obtain⟨fi,t5,rfl,hfi,hns⟩:=gM hns;obtain⟨mo,t6,rfl,hmo,hns⟩:=gM hns;obtain rfl:=LT hns;have e2':H2 p2=some (.lst [.int kd,.int sx,.int ex,.int wd,.int fi,.int mo]):=e2;have s02:=S1.trans S2;have hS2:=s02.seq hS;have hr2:=eF hr' s02;have eb2:=s02 _ _ eb;tm_at"n";refine lO (λσ' G=>H2=G/\∃e,cZ e/\(e= .non∨∃z,e= .str z/\z∈rs.map (·.1))/\σ'=[some (.int c),some (.int j),some (.ref a),some (.ref b),some (.int (us.length:Int)),some (.int kd),some (.int sx),some (.int ex),some (.int wd),some (.int fi),some (.int mo),some e]) ?_ ?_
 rotate_left
 .intro nx' hnx;tm_at"a";refine bS (λhc=> ?_) (λhc=> ?_)
  .tm_at"a";refine tD hS2 hx.1 hc λv2 hv2=> ?_;obtain⟨z2,i2,j2,q2,rfl,hq2,hz2⟩:=yR hr2 hv2;tm_at"a";refine⟨q2,_,0,_,rfl,rfl,SqT.of hq2,rfl,?_⟩;tm_at"a";exact hnx _ _ ⟨rfl,_,.inr ⟨z2,rfl,ro.nm _ hz2⟩,.inr ⟨z2,rfl,ag.mpr ⟨_,hz2,rfl⟩⟩,rfl⟩
  .tm_at"a";exact hnx _ _ ⟨rfl,_,.inl rfl,.inl rfl,rfl⟩
 rintro _ G hq_;obtain⟨hG,e,he,hei,rfl⟩:=hq_;subst hG;tm_at"n";refine lO (λσ' G=>H2=G/\∃m2,0<=m2/\(kd=3->1<=m2)/\σ'=[some (.int c),some (.int j),some (.ref a),some (.ref b),some (.int (us.length:Int)),some (.int kd),some (.int sx),some (.int ex),some (.int wd),some (.int fi),some (.int m2),some e]) ?_ ?_
 rotate_left
 .intro nx' hnx;tm_at"a";refine bS (λhc=> ?_) (λhc=> ?_)
  .tm_at"a";exact hnx _ _ ⟨rfl,_,by lia,by lia,rfl⟩
  .tm_at"a";exact hnx _ _ ⟨rfl,_,hmo.1,(λh=>absurd h hc),rfl⟩
 rintro _ G hq_;obtain⟨hG,m2,hm2,hm3,rfl⟩:=hq_;subst hG;tm_at"a";refine tD hS2 hs.1 hs.2 λv1 hv1=> ?_;obtain⟨z1,i1,j1,q1,rfl,hq1,hz1⟩:=yR hr2 hv1;tm_at"a";refine⟨q1,_,0,_,rfl,rfl,SqT.of hq1,rfl,?_⟩;tm_at"a";refine⟨b,_,0,_,rfl,rfl,SqT.of eb2,rfl,?_⟩;tm_at"a";rename_i q6 H6 n6 S6 e6;exact k q6 ⟨wnF c (20+j),z1,e,kd,wd,f+fi,m2⟩ _ (s02.trans S6) ⟨q6,rfl,e6⟩ ⟨EX (by lia) (by lia),ro.nm _ hz1,ag.mpr ⟨_,hz1,rfl⟩,he,hei,hk.1,hk.2,hw.1,by have:=hfi.1;show f<=f+fi;lia,hm2,hm3,by have:=hw.2;show wd<_;lia⟩ rfl
theorem CM(m:M K mg):Fc P w K mg base "_law_spec_told" 3 ["_law_cell","_law_k","_law_rooms_here","_law_turns"] (oT K):=⟨_,_,m.EH,m.hU.F.kp,m.hU.b,CJ m⟩
def dY(s:cF)(t:Int):Int:=if s.kd=1/\t<s.fi∨s.kd=2/\s.fi<=t then 0 else if s.kd=3/\(t<s.fi∨0<(t - s.fi)%s.mo) then 0 else if s.kd=4/\s.mo/2^t.toNat%2=0 then 0 else s.wd
theorem Mc.mono{k:Nat}{sp:Sp}(F:Mc P w K mg base C nm j sp)(h:j<=k):Mc P w K mg base C nm k sp:=by
 obtain⟨f,fd,ps,h1,h2,h3,h4⟩:=F.ex;exact⟨f,fd,ps,h1,h2,h3,h4.mono h⟩
abbrev FC(n s e l:V):List (Str×V):=bO "letting" l (jA n s e (.int 1))
inductive i7(K:W.Frag)(vs:List V)(H:Hp)(Q:VK)(E:XK):Prop
 | mk (p C dx:Addr) (n s:Str) (e l:V) (_:vs=[.ref p,.str n,.str s,e,l]) (_:DCls K C) (_:H p=some (.ins C dx [])) (_:aY n=true) (_:aY s=true) (_:cZ e) (_:∀H',SameBut p H H'->H' p=some (.ins C dx (FC (.str n) (.str s) e l))->Q .non H'):i7 K vs H Q E
theorem PX{E:XK}{n s:Str}{e l:V}(dc:DCls K C)(hp:H p=some (.ins C dx []))(hn:aY n=true)(hs:aY s=true)(he:cZ e)
  (k:∀H',SameBut p H H'->H' p=some (.ins C dx (FC (.str n) (.str s) e l))->Q .non H'):i7 K [.ref p,.str n,.str s,e,l] H Q E:=⟨_,_,_,_,_,_,_,rfl,dc,hp,hn,hs,he,k⟩
theorem EB(m:M K mg):FnOk P w K mg base CX0 4 m.mT m.m8.d ["self","name","start","end","letting"] (i7 K):=by
 refine m.m8.F.ok aHd ?_ ?_;tm_at"g";tm_at"h";rcases h with⟨p,C,dx,n,st,e,l,rfl,dc,hp,hn,hs,he,k⟩;tm_at"f";have nd:=aHd.nd;tm_at"d";have DD_Door___init___1:=fP (P:=P) (w:=w) (base:=base) m;refine⟨_,(aB (aU (LR DD_Door___init___1 hr (aA (pv 0) (aA (pv 1) (aA (pv 2) (aA (pv 3) aC))))))
  (aE (bU (pv 0) (pv 4) rfl))),?_⟩
 refine aL (σ:=[some (.ref p),some (.str n),some (.str st),some (e),some (l)]) rfl ?_;tm_at"e";tm_at"a";refine DM ?_;tm_at"a";show c9 K [.ref p,.str n,.str st,e,.int 1] _ _ _;tm_at"a";exact k _ (by tm_at"m") (by assumption)
theorem VG(m:M K mg):Kc P w K mg base "Told" m.mX 4 [] (i7 K):=⟨_,_,_,_,m.aFl,m.aDv,.nil,m.m8.b,EB m⟩
theorem Z6{E:XK}{n s:Str}{e l:V}(ev:vs++dvs=[.str n,.str s,e,l])(dc:DCls K C)(hn:aY n=true)(hs:aY s=true)(he:cZ e)
  (k:∀p dx H',H p=none->Same H H'->H' p=some (.ins C dx (FC (.str n) (.str s) e l))->Q (.ref p) H'):jK C (i7 K) dvs E Q vs H :=
 iY (λp dx H0 Q' h k' s0=>by rw[ev];exact PX dc h hn hs he k') k
inductive mL(P:fh)(w:gh)(K:W.Frag)(mg:Str->Option ah)(base:Heap)(vs:List V)(H:Hp)(Q:VK)(E:XK):Prop
 | mk (p C dx:Addr) (fs:List (Str×V)) (t:Int) (F:Addr) (o:Obj) (fd:gv) (ps:List Str) (sp:Sp) (_:vs=[.ref p,.int t]) (_:DCls K C) (_:H p=some (.ins C dx fs)) (_:fs.lookup ("letting" :Str)=some (.ref F)) (_:H F=some (kn o)) (_:o.data= .func fd) (_:Binds K fd ps []) (_:FnOk P w K mg base CX0 3 F fd ps sp) (_:sp [.int t] H Q E0):mL P w K mg base vs H Q E
theorem PZ{E:XK}{fs:List (Str×V)}{t:Int}{o:Obj}{ps:List Str}{sp:Sp}(hp:H p=some (.ins C dx fs))(dc:DCls K C)(l:fs.lookup ("letting" :Str)=some (.ref F))(hF:H F=some (kn o))(hd:o.data= .func fd)
  (hb:Binds K fd ps [])(hf:FnOk P w K mg base CX0 3 F fd ps sp)(k:sp [.int t] H Q E0):mL P w K mg base [.ref p,.int t] H Q E:=⟨_,_,_,_,_,_,_,_,_,_,rfl,dc,hp,l,hF,hd,hb,hf,k⟩
theorem MV(m:M K mg):FnOk P w K mg base CX0 4 m.vN m.vP.d ["self","turn"] (mL P w K mg base):=by
 refine m.vP.F.ok aHY ?_ ?_;tm_at"g";tm_at"h";rcases h with⟨p,C,dx,fs,t,F,o,fd,ps,sp,rfl,dc,hp,l,hF,hd,hb,hf,k⟩;tm_at"f";have nd:=aHY.nd;tm_at"d";refine⟨_,(aB (aQ (i:=2) nd rfl (by tm_at"b") (aH (pv 0) rfl))
  (aE (aT (YS 3 2 hr (aA (pv 1) aC))))),?_⟩
 refine aL (σ:=[some (.ref p),some (.int t),none]) rfl ?_;tm_at"e";tm_at"a";refine⟨F,o,fd,rfl,hF,hd,?_⟩;tm_at"a";exact⟨ps,sp,hF,hb,hf,k⟩
theorem MX(m:M K mg):Mc P w K mg base m.mX "lets" 4 (mL P w K mg base):=⟨_,_,_,m.wR.ic.cl,m.O3,m.vP.b,MV m⟩
theorem aCf{n st:Str}{e:V}(m:M K mg)(h:H p=some (.ins m.iD dx (jA (.str n) (.str st) e (.int wd)))):(aJ P w K mg base (some 4)).at' H (.ref p) (n,st,e,λ_=>wd) :=
 ⟨p,_,dx,_,[],rfl,h,m.wP,by tm_at"i",by tm_at"i",by tm_at"i",by tm_at"i",by tm_at"i",FU m,(λ_ z=>nomatch z),λkl hk=>by
  cases hk;exact⟨_,Mc.mono (LO m) (by decide),λH' t Q hp _ ht k=>P4 hp m.wP (by tm_at"i") (k _ (Same.refl _))⟩⟩
theorem aAo{n st:Str}{e:V}(m:M K mg)(b0:0<=i0)(h:H p=some (.ins m.jO dx (BN (.str n) (.str st) e (.int wd) (.int i0)))):(aJ P w K mg base (some 4)).at' H (.ref p) (n,st,e,wM wd i0) :=
 ⟨p,_,dx,_,[],rfl,h,m.tV,by tm_at"i",by tm_at"i",by tm_at"i",by tm_at"i",by tm_at"i",D2 m,(λ_ z=>nomatch z),λkl hk=>by
  cases hk;exact⟨_,Mc.mono (J8 m) (by decide),λH' t Q hp _ ht k=>z6 hp m.tV (by tm_at"i") (by tm_at"i") ht b0 (k _ (Same.refl _))⟩⟩
theorem X6{n st:Str}{e:V}(m:M K mg)(b0:0<=i0)(h:H p=some (.ins m.jR dx (BL (.str n) (.str st) e (.int wd) (.int i0)))):(aJ P w K mg base (some 4)).at' H (.ref p) (n,st,e,wG wd i0) :=
 ⟨p,_,dx,_,[],rfl,h,m.t7,by tm_at"i",by tm_at"i",by tm_at"i",by tm_at"i",by tm_at"i",DI m,(λ_ z=>nomatch z),λkl hk=>by
  cases hk;exact⟨_,Mc.mono (KA m) (by decide),λH' t Q hp _ ht k=>zP hp m.t7 (by tm_at"i") (by tm_at"i") ht b0 (k _ (Same.refl _))⟩⟩
theorem aCr{n st:Str}{e:V}(m:M K mg)(b0:1<=i0)(b1:0<=i1)(h:H p=some (.ins m.mY dx (FP (.str n) (.str st) e (.int wd) (.int i0) (.int i1)))):(aJ P w K mg base (some 4)).at' H (.ref p) (n,st,e,A2 wd i0 i1) :=
 ⟨p,_,dx,_,[],rfl,h,m.wS,by tm_at"i",by tm_at"i",by tm_at"i",by tm_at"i",by tm_at"i",EZ m,(λ_ z=>nomatch z),λkl hk=>by
  cases hk;exact⟨_,Mc.mono (NX m) (by decide),λH' t Q hp _ ht k=>CW hp m.wS (by tm_at"i") (by tm_at"i") (by tm_at"i") ht b0 b1 (k _ (Same.refl _))⟩⟩
theorem XZ{n st:Str}{e:V}(m:M K mg)(b0:0<=i0)(h:H p=some (.ins m.g9 dx (yH (.str n) (.str st) e (.int wd) (.int i0)))):(aJ P w K mg base (some 4)).at' H (.ref p) (n,st,e,rV wd i0) :=
 ⟨p,_,dx,_,[],rfl,h,m.pV,by tm_at"i",by tm_at"i",by tm_at"i",by tm_at"i",by tm_at"i",CL m,(λ_ z=>nomatch z),λkl hk=>by
  cases hk;exact⟨_,Mc.mono (GQ m) (by decide),λH' t Q hp _ ht k=>yZ hp m.pV (by tm_at"i") (by tm_at"i") ht b0 (k _ (Same.refl _))⟩⟩
theorem zT{d:aF}(h:DoorAt P w K mg base kL H v d)(T:SameT H H'):DoorAt P w K mg base kL H' v d:=by
 obtain⟨p,C,dx,fs,fp,e,hp,dc,l1,l2,l3,l4,l5,mc,hf,lt⟩:=h;exact⟨p,C,dx,fs,fp,e,T _ _ hp (λps z=>by cases z),dc,l1,l2,l3,l4,l5,mc,λx hx=>⟨T _ _ (hf x hx).1 (λps z=>(hf x hx).2 (by rw[z];trivial)),(hf x hx).2⟩,lt⟩
theorem aDl{y:Str}(h:∀q∈sc.names,q.2= .free->q.1=y):∀z,sc.names.lookup z=some .free->z=y:=λz e=>h (z,.free) (gx e) rfl
inductive NQ(F c:Addr)(fd:gv)(qual:Str)(args:qy)(body:Expr)(sc:qi)(cell:Int)(vs:List V)(H:Hp)(Q:VK)(E:XK):Prop
 | mk (t:Int) (_:vs=[.int t]) (_:LamAt H F fd qual args body sc "_law_wide" c) (_:K4 H c (.int cell)) (_:Q (.int cell) H):NQ F c fd qual args body sc cell vs H Q E
theorem aEo{G:Hp}(hL:LamAt G F fd qual args body sc "_law_wide" c)(hk:sc.kind= .function)(hco:sc.isCoroutine=false)(hgen:sc.isGenerator=false)(hcell:∀z∈sc.names,z.2≠ .cell)
  (hx:sc.names.lookup ("_law_turn" :Str)=some .local)(hfree:∀z,sc.names.lookup z=some .free->z= "_law_wide")(hy:sc.names.lookup ("_law_wide" :Str)=some .free)
  (hb:∀(cdv:ah) (A:jy) (outer:List Env) (s:bb) (H:Hp) (E:XK),PE (cxL CX0 P w K mg base ["_law_turn","_law_wide"] qual sc F cdv [("_law_wide",c)] A outer s H E).nox body (jU 1)) :
  FnOk P w K mg base CX0 3 F fd ["_law_turn"] (NQ F c fd qual args body sc cell):=by
 refine aBl (qual:=qual) (args:=args) (body:=body) (c:=c) (v:= .int cell) hk hco hgen hcell hx hfree hy (λvs H Q E h=> ?_) λcdv A outer s H a Q E hr h=> ?_
 .obtain⟨t,e,L,kc,_⟩:=h;exact⟨.int t,e,L,kc⟩
 .obtain⟨t,e,L,kc,k⟩:=h;cases e;refine⟨_,hb cdv A outer s (off H c) E,λo ho=> ?_⟩;tm_at"a";rw[YX ho];exact k
theorem aB7(m:M K mg){st:Str}{e:V}(hp:H p=some (.ins m.mX dx (FC (.str nm) (.str st) e (.ref F))))
  (hL:LamAt H F fd qual args body sc "_law_wide" c)(kc:K4 H c (.int cell))(hbd:Binds K fd ["_law_turn"] [])(FL:FnOk P w K mg base CX0 3 F fd ["_law_turn"] (NQ F c fd qual args body sc cell)) :
  (aJ P w K mg base (some 4)).at' H (.ref p) (nm,st,e,λ_=>cell):=by
 obtain⟨c',pm,ctv,oc,fv,tt,hfd,hF,hc',hdc,hfv⟩:=id hL;obtain⟨oC,uC,hC,hdC,rC⟩:=id kc;refine⟨p,_,dx,_,[(F,kn (W.kla_obj "<lambda>" qual args body sc [("_law_wide",c)] pm c' ctv)),(c',kn oc),(c,kn oC)],rfl,hp,m.wR,by tm_at"i",by tm_at"i",by tm_at"i",by tm_at"i",by tm_at"i",E1 m,?_,λkl hk=> ?_⟩
 .intro x hx;simp only[aw,fz,or_false]at hx;rcases hx with rfl|rfl|rfl
  .exact⟨hF,λz=>z⟩
  .exact⟨hc',λz=>z⟩
  .exact⟨hC,λz=>z⟩
 .cases hk;refine⟨_,Mc.mono (MX m) (by decide),λH' t Q hp' hfp ht k=> ?_⟩;have gF:=hfp _ (.head _);have gc':=hfp _ (.tail _ (.head _));have gC:=hfp _ (.tail _ (.tail _ (.head _)));exact PZ hp' m.wR (by tm_at"i") gF (by rw[hfd]) hbd FL ⟨t,rfl,⟨c',pm,ctv,oc,fv,tt,hfd,gF,gc',hdc,hfv⟩,⟨oC,uC,gC,hdC,rC⟩,k _ (Same.refl _)⟩
theorem let0{s:cF}(h:s.kd=0∨s.kd=5):dY s=λ_=>s.wd:=funext λt=>by
 unfold dY;rw[if_neg (by lia),if_neg (λz=>by have:=z.1;lia),if_neg (λz=>by have:=z.1;lia)]
theorem aGh{s:cF}(h:s.kd=1):dY s=wM s.wd s.fi:=funext λt=>by
 unfold dY wM
 by_cases c:t<s.fi
 .rw[if_pos (.inl ⟨h,c⟩),if_neg (by lia)]
 .rw[if_neg (by lia),if_neg (λz=>by have:=z.1;lia),if_neg (λz=>by have:=z.1;lia),if_pos (by lia)]
theorem aGp{s:cF}(h:s.kd=2):dY s=wG s.wd s.fi:=funext λt=>by
 unfold dY wG
 by_cases c:t<s.fi
 .rw[if_neg (by lia),if_neg (λz=>by have:=z.1;lia),if_neg (λz=>by have:=z.1;lia),if_pos (by lia)]
 .rw[if_pos (.inr ⟨h,by lia⟩),if_neg (by lia)]
theorem aGk{s:cF}(h:s.kd=3)(hm:1<=s.mo):dY s=A2 s.wd s.mo s.fi:=funext λt=>by
 unfold dY A2;have h0:=gp (t - s.fi) (show s.mo≠0 by lia);rw[if_neg (by lia)]
 by_cases c:t<s.fi∨0<(t - s.fi)%s.mo
 .rw[if_pos ⟨h,c⟩,if_neg (by lia)]
 .rw[if_neg (λz=>c z.2),if_neg (λz=>by have:=z.1;lia),if_pos (by lia)]
theorem aGn{s:cF}(h:s.kd=4):dY s=rV s.wd s.mo:=funext λt=>by
 unfold dY rV;rw[if_neg (by lia),if_neg (λz=>by have:=z.1;lia)]
 by_cases c:s.mo/2^t.toNat%2=0
 .rw[if_pos ⟨h,c⟩,if_neg (by lia)]
 .rw[if_neg (λz=>c z.2),if_pos (by lia)]
def bL(s:cF):aF:=(s.n,s.st,s.e,dY s)
abbrev qL:Str:=("_law_door" :Str)++ ".<locals>." ++ "<lambda>"
abbrev pL:Pos:=⟨452,54,452,81⟩
inductive xX(P:fh)(w:gh)(K:W.Frag)(mg:Str->Option ah)(base:Heap)(PL:Addr)(vs:List V)(H:Hp)(Q:VK)(E:XK):Prop
 | mk (q:Addr) (s:cF) (rs:List bR) (f:Int) (_:vs=[.ref q]) (_:dX H (.ref q) s) (_:jE rs f s) (_:0<=f) (_:TabS H PL pL qL) (_:∀v H',SameT H H'->TabS H' PL pL qL->(aJ P w K mg base (some 4)).at' H' v (bL s)->Q v H'):xX P w K mg base PL vs H Q E
theorem GO{E:XK}{s:cF}{rs:List bR}(hs:dX H (.ref q) s)(so:jE rs f s)(hf:0<=f)(ht:TabS H PL pL qL)(k:∀v H',SameT H H'->TabS H' PL pL qL->(aJ P w K mg base (some 4)).at' H' v (bL s)->Q v H'):xX P w K mg base PL [.ref q] H Q E:=⟨_,_,_,_,rfl,hs,so,hf,ht,k⟩
local macro_rules| `(tactic| tm_at"l")=> `(tactic| first|(with_reducible refine aCP ?_)|(with_reducible refine aDi ?_))
theorem L3(m:M K mg)(hcL:m.dD.code= .ref cL)(hCL:W.CodeHd base cL PL)(hBL:base.BuiltinsAt mg PL):FnOk P w K mg base CX0 6 m.vU m.dD ["_law_spec_here"] (xX P w K mg base PL):=by
 refine m.fT.okR aHT (i:=5) (y:= "_law_wide") rfl (by kernel_rfl) (λvs H Q E h=> ?_) (λcdv A outer s H vs Q E c hcd hc hr h=> ?_)
 .obtain⟨q,s',rs,f,rfl,hs,so,hf,hPL,k⟩:=h;rfl
 .obtain⟨q,s',rs,f,rfl,hs,so,hf,hPL,k⟩:=h;have nd:=aHT.nd;tm_at"d";obtain rfl:=hcd.symm.trans hcL;obtain rfl:s.heap.objs.size+1=c:=dq ((show _=some (s.heap.objs.size+1) from by kernel_rfl).symm.trans hc);have aIy:= @XR P w K mg base m;have aIv:= @UW P w K mg base m;have aIl:= @PY P w K mg base m;have aIp:= @TH P w K mg base m;have aIu:= @VG P w K mg base m;have aIs:= @UA P w K mg base m;have aIE:=m.wP;have aID:=m.tV;have aIC:=m.t7;have aIF:=m.wS;have aIB:=m.pV;have aIo:=m.wR;refine⟨_,(oH (pQ (pv 0) (v8 (n:=7) rfl (aZ (aN (i:=1) nd rfl (by tm_at"b")) (aZ (aN (i:=2) nd rfl (by tm_at"b")) (aZ (aN (i:=3) nd rfl (by tm_at"b")) (aZ (aN (i:=4) nd rfl (by tm_at"b")) (aZ (aN (i:=5) nd rfl (by tm_at"b")) (aZ (aN (i:=6) nd rfl (by tm_at"b")) (aZ (aN (i:=7) nd rfl (by tm_at"b")) d8)))))))))
   (oH (b8 (bC fV (pv 4) aD (bF _)) (aE (aT (mN aIv hr (aA (pv 1) (aA (pv 2) (aA (pv 3) (aA (pv 5) aC))))))) bM)
   (oH (b8 (bC fV (pv 4) aD (bF _)) (aE (aT (mN aIp hr (aA (pv 1) (aA (pv 2) (aA (pv 3) (aA (pv 5) (aA (pv 6) aC)))))))) bM)
   (oH (b8 (bC fV (pv 4) aD (bF _)) (aE (aT (mN aIs hr (aA (pv 1) (aA (pv 2) (aA (pv 3) (aA (pv 5) (aA (pv 6) aC)))))))) bM)
   (oH (b8 (bC fV (pv 4) aD (bF _)) (aE (aT (mN aIy hr (aA (pv 1) (aA (pv 2) (aA (pv 3) (aA (pv 5) (aA (pv 7) (aA (pv 6) aC))))))))) bM)
   (oH (b8 (bC fV (pv 4) aD (bF _)) (aE (aT (mN aIl hr (aA (pv 1) (aA (pv 2) (aA (pv 3) (aA (pv 5) (aA (pv 7) aC)))))))) bM)
   (aBv (mN aIu hr (aA (pv 1) (aA (pv 2) (aA (pv 3) (aA (aCV (y:= "_law_wide") (c:=s.heap.objs.size+1) rfl hCL hBL rfl) aC)))))))))))),?_⟩
  refine UR (σ:=[some (.ref q),none,none,none,none,none,none,none]) rfl ?_;obtain⟨hnm,hsm,-,heo,-,hk0,hk1,hw0,hf0,hm0,hm1,-⟩:=so;have fx0:=let0 (s:=s');have fx1:=aGh (s:=s');have fx2:=aGp (s:=s');have fx3:=aGk (s:=s');have fx4:=aGn (s:=s');unfold bL at k;generalize dY s'=LS at k fx0 fx1 fx2 fx3 fx4;obtain⟨n,st,e,kd,wd,fi,mo⟩:=s';rcases hs with⟨q',hq',eq'⟩;cases hq';have eq:H q=some (.tup [.str n,.str st,e,.int kd,.int wd,.int fi,.int mo]):=eq';clear eq';simp only[]at hnm hsm heo hk0 hk1 hw0 hf0 hm0 hm1 k fx0 fx1 fx2 fx3 fx4;tm_at"a";refine bS (λh0=> ?_) (λh0=> ?_)
  .rw[fx0 (.inl h0)]at k;tm_at"a";rename_i p dx H2 n2 S2 e2;exact k _ _ (Same.t S2) (hPL.same S2) (aCf (P:=P) (w:=w) (base:=base) m e2)
  tm_at"a";refine bS (λh1=> ?_) (λh1=> ?_)
  .rw[fx1 h1]at k;tm_at"a";rename_i p dx H2 n2 S2 e2;exact k _ _ (Same.t S2) (hPL.same S2) (aAo (P:=P) (w:=w) (base:=base) m (by lia) e2)
  tm_at"a";refine bS (λh2=> ?_) (λh2=> ?_)
  .rw[fx2 h2]at k;tm_at"a";rename_i p dx H2 n2 S2 e2;exact k _ _ (Same.t S2) (hPL.same S2) (X6 (P:=P) (w:=w) (base:=base) m (by lia) e2)
  tm_at"a";refine bS (λh3=> ?_) (λh3=> ?_)
  .rw[fx3 h3 (hm1 h3)]at k;have hm1':=hm1 h3;tm_at"a";rename_i p dx H2 n2 S2 e2;exact k _ _ (Same.t S2) (hPL.same S2) (aCr (P:=P) (w:=w) (base:=base) m (hm1 h3) (by lia) e2)
  tm_at"a";refine bS (λh4=> ?_) (λh4=> ?_)
  .rw[fx4 h4]at k;tm_at"a";rename_i p dx H2 n2 S2 e2;exact k _ _ (Same.t S2) (hPL.same S2) (XZ (P:=P) (w:=w) (base:=base) m hm0 e2)
  tm_at"a";refine⟨hPL,λF fd G4 hFn hL T hT4=> ?_⟩;have FL:=λ(cell:Int)=>aEo (P:=P) (w:=w) (K:=K) (mg:=mg) (base:=base) (cell:=cell) hL rfl rfl rfl (by decide +kernel) (by kernel_rfl) (aDl (by decide +kernel)) (by kernel_rfl) (λcdv A outer s H E=>pv 1);have hbd:Binds K fd ["_law_turn"] []:=by
   obtain⟨c',pm,ctv,oc,fv,tt,rfl,_⟩:=id hL;exact Binds.all<|QH 1 _ λ_=>rfl
  tm_at"a";refine Z6 rfl aIo hnm hsm heo λp5 dx5 G5 n5 S5 e5=> ?_;refine⟨_,rfl,λH6 S6 nc kc=> ?_⟩;rw[fx0 (by lia)]at k;exact k _ _ ((T.snoc S5).snoc S6) ((hT4.same S5).same S6) (aB7 (P:=P) (w:=w) (base:=base) m (S6 _ _ e5) ((hL.same S5).same S6) kc hbd (FL wd))
theorem AB(m:M K mg)(hcL:m.dD.code= .ref cL)(hCL:W.CodeHd base cL PL)(hBL:base.BuiltinsAt mg PL):Fc P w K mg base "_law_door" 6 ["_law_spec_here"] (xX P w K mg base PL):=⟨_,_,m.QD,m.fT.kp,m.QF,L3 m hcL hCL hBL⟩
structure iE(H:Hp)(q p1 p2 p3:Addr)(us ws:List V)(rs:List bR)(ss:List cF)(f l:Int):Prop where
 eq:H q=some (.tup [.ref p1,.ref p2,.ref p3])
 e1:H p1=some (.lst us)
 e2:H p2=some (.lst ws)
 e3:H p3=some (.tup [.int f,.int l])
 ru:bo (cH H) us rs
 sw:bo (dX H) ws ss
 ro:gJ rs
 so:∀s∈ss,jE rs f s
 nd:(ss.map (·.n)).Nodup
 wn:∀s∈ss,∃i:Nat,i<7/\∃c,s.n=wnF c (20+(i:Nat))
 l7:ss.length<=7
 f0:0<=f
 f1:f<100000000000
 fl:f<=l
 fl7:l<=f+7
theorem QV{ss:List cF}(h:bo (dX H) us ss)(s:Same H H'):bo (dX H') us ss:=Paired.imp' (λv d ⟨q,e,h⟩=>⟨q,e,s _ _ h⟩) h
theorem aEt{ss:List cF}(h:bo (dX H) us ss)(s:SameT H H'):bo (dX H') us ss:=Paired.imp' (λv d ⟨q,e,h⟩=>⟨q,e,s.tup h⟩) h
theorem WT{ss:List bR}(h:bo (cH H) us ss)(s:SameT H H'):bo (cH H') us ss:=Paired.imp' (λv d ⟨q,e,h⟩=>⟨q,e,s.tup h⟩) h
theorem DK{rs:List bR}:∀{l:List Nat}{ys:List V},bo (λi y=>∃s c,dX H y s/\jE rs f s/\s.n=wnF c (20+(i:Nat))) l ys->(∀i∈l,i<7)->l.Nodup →
  ∃ss,bo (dX H) ys ss/\(∀s∈ss,jE rs f s)/\(ss.map (·.n)).Nodup/\(∀s∈ss,∃i∈l,∃c,s.n=wnF c (20+(i:Nat)))/\ss.length=l.length
 | _,_,.nil,_,_=>⟨[],.nil,(λ_ z=>nomatch z),nh,(λ_ z=>nomatch z),rfl⟩
 | i::l,_,.cons ⟨s,c,h1,h2,h3⟩ t,h7,nd=>by
  obtain⟨ss,g1,g2,g3,g4,g5⟩:=DK t (λj hj=>h7 j (ab _ hj)) (cn.mp nd).2;refine⟨s::ss,.cons h1 g1,λx hx=> ?_,?_,λx hx=> ?_,by rw[az,az,g5]⟩
  .rcases aw.mp hx with rfl|hx
   .exact h2
   .exact g2 x hx
  .rw[ay,cn];refine⟨λz=> ?_,g3⟩;rcases ag.mp z with⟨x,hx,e⟩;obtain⟨j,hj,c',e'⟩:=g4 x hx;have hi7:=h7 i (.head _);have hj7:=h7 j (ab _ hj);have e:=e'.symm.trans (e.trans h3);have:=GI (by lia) (by lia) (by lia) (by lia) e;have hij:i=j:=by lia
   exact(cn.mp nd).1 (hij▸hj)
  .rcases aw.mp hx with rfl|hx
   .exact⟨i,.head _,c,h3⟩
   .rcases g4 x hx with⟨j,hj,r⟩;exact⟨j,ab _ hj,r⟩
inductive lQ(K:W.Frag)(vs:List V)(H:Hp)(Q:VK)(E:XK):Prop
 | mk (a:Addr) (ns:List Int) (_:vs=[.ref a]) (_:SqL K H a (ns.map V.int)) (_:ns.length<=63) (_:∀q p1 p2 p3 us ws rs ss f l H',Same H H'->iE H' q p1 p2 p3 us ws rs ss f l->Q (.ref q) H'):lQ K vs H Q E
theorem N9{E:XK}{ns:List Int}(hS:SqL K H a (ns.map V.int))(hl:ns.length<=63)(k:∀q p1 p2 p3 us ws rs ss f l H',Same H H'->iE H' q p1 p2 p3 us ws rs ss f l->Q (.ref q) H'):lQ K [.ref a] H Q E:=⟨_,_,rfl,hS,hl,k⟩
theorem XU(ns:List Int):(fc (Int.toNat 4)).map (λi:Nat=>V.int (jL ns (i:Int)))=[.int (jL ns 0),.int (jL ns 1),.int (jL ns 2),.int (jL ns 3)]:=rfl
theorem wn7{ns:List Int}{ss:List cF}(g:∀s∈ss,∃i∈fc (min ((ns.length:Int) - 4) 7).toNat,∃c,s.n=wnF c (20+(i:Nat))){x:cF}(hx:x∈ss):∃i:Nat,i<7/\∃c,x.n=wnF c (20+(i:Nat)):=by
 obtain⟨i,hi,c,e⟩:=g x hx;have:=gm.mp hi;exact⟨i,by lia,c,e⟩
theorem K8{ns:List Int}{i:Nat}(h:i<(min ((ns.length:Int) - 4) 7).toNat):4+i<ns.length/\i<7:=by lia
theorem zK(m:M K mg):FnOk P w K mg base CX0 4 m.kE m.fX.d ["_law_script"] (lQ K):=by
 refine m.fX.F.ok aGV ?_ ?_;tm_at"g";tm_at"h";rcases h with⟨a,ns,rfl,hS,hlen,k⟩;tm_at"f";have nd:=aGV.nd;tm_at"d";have aGG:= @mD P w K mg base m;have aGJ:= @nX P w K mg base m;have aHZ:= @zW P w K mg base m;have aH5:= @CM P w K mg base m;refine⟨_,(aB (eQ (i:=1) nd rfl (by tm_at"b") (N:=["_law_k","_law_script"]) (nl:=1) (ci:=[0]) rfl (blk (s.heap.objs.size+1) rfl rfl rfl (by kernel_rfl)) (gN rfl m.jM (aA aD aC)) (λ_ _ _ _=>(aN (i:=0) (show (["_law_k","_law_script"]:List Str).Nodup by decide +kernel) rfl (by tm_at"b"))) (λ_ _ _ _=>dI) (λ_ _ _ _=>(bG aGG hr (aA (pv 1) (aA (pv 0) aC)))))
  (aB (aQ (i:=2) nd rfl (by tm_at"b") (bG aHZ hr (aA (pv 1) aC)))
  (aB (pQ (bG aGJ hr (aA (aS aW (pv 1) aD (λ_ _=>rfl)) (aA (cI (aA aD (aA (eV 100000000000 (by decide) ⟨by decide,by decide,by decide⟩) aC))) aC))) (QU (n:=2) rfl (aZ (aN (i:=3) nd rfl (by tm_at"b")) (aZ (aN (i:=4) nd rfl (by tm_at"b")) d8))))
  (aB (aQ (i:=5) nd rfl (by tm_at"b") (cY (aA (pv 4) (aA (aI bQ (pv 4) (pv 3)) aC))))
  (aB (eQ (i:=6) nd rfl (by tm_at"b") (N:=["_law_k","_law_rooms_here","_law_turns","_law_script"]) (nl:=1) (ci:=[2,5,0]) rfl (blk (s.heap.objs.size+1) rfl rfl rfl (by kernel_rfl)) (gN rfl m.jM (aA (bI (zN rfl) rfl m.LF E3 (aA (aI zY (bI c7 rfl m.hJ eZ (aA (pv 0) aC)) aD) (aA aD aC))) aC)) (λ_ _ _ _=>(aN (i:=0) (show (["_law_k","_law_rooms_here","_law_turns","_law_script"]:List Str).Nodup by decide +kernel) rfl (by tm_at"b"))) (λ_ _ _ _=>dI) (λ_ _ _ _=>(bG aH5 hr (aA (aS (D1 (K:=K)) (pv 3) (aI bQ aD (pv 0)) (λ_ _=>rfl)) (aA (pv 0) (aA (pv 1) (aA (pv 2) aC)))))))
  (aE (aT (cY (aA (pv 2) (aA (pv 6) (aA (pv 5) aC))))))))))),?_⟩
 refine aL (σ:=[some (.ref a),none,none,none,none,none,none]) rfl ?_;tm_at"e";tm_at"a";refine MI (λi=> .int (jL ns (i:Int))) (by decide) (rest:=[some (.ref a)]) (by rfl) ?_ ?_
 .intro i H1 hi s1 R hR;tm_at"a";rw[gd];exact hR _ (Same.refl _)
 intro H1 S1;rw[XU];tm_at"a";rename_i p2 H2 n2 S2 e2;refine MZ e2 λp4 us rs H4 n4 S4 e4 hr4 ro=> ?_;have e24:=S4 _ _ e2;tm_at"a";rename_i p5 H5 n5 S5 e5;refine zQ (bs:=[8,100000000000]) (SqL.of e5) (λx hx=>by
  simp only[aw,fz,or_false]at hx;rcases hx with rfl|rfl<;>lia) (show 2<=20 by decide) λp6 ds H6 n6 S6 e6 hds=> ?_
 obtain⟨mo,t1,rfl,hm,hds⟩:=gM hds;obtain⟨fi,t2,rfl,hf,hds⟩:=gM hds;obtain rfl:=LT hds;have e6':H6 p6=some (.lst [.int mo,.int fi]):=e6;tm_at"a";rename_i p7 H7 n7 S7 e7;have s07:Same H H7:=(S1.trans S2).trans (S4.trans (S5.trans (S6.trans S7)));have s47:Same H4 H7:=S5.trans (S6.trans S7);have hS7:=s07.seq hS;have e47:=s47 _ _ e4;have hr7:=eF hr4 s47;tm_at"a";rw[af];refine XG (λi y H=>∃s c,dX H y s/\jE rs fi s/\s.n=wnF c (20+(i:Nat))) (λ_ _ _ _ ⟨s,c,⟨q,h1,h2⟩,h3⟩ s2=>⟨s,c,⟨q,h1,s2 _ _ h2⟩,h3⟩) (by rw[sizeLine_eq];lia) (rest:=[some (.ref p4),some (.ref p7),some (.ref a)]) (by rfl) ?_ ?_
 .intro i H8 hi s8 R hR;have h47:=K8 hi;have hS8:=s8.seq hS7;have e48:=s8 _ _ e47;have e78:=s8 _ _ e7;have hr8:=eF hr7 s8;tm_at"a";refine tD hS8 (by lia) (by rw[af];lia) λv hv=> ?_;rcases ag.mp hv with⟨c,hc,rfl⟩;tm_at"a";refine IA (by lia) (by lia) (SqL.of e48) hr8 ro e78 λq s H9 S9 hs so hn=> ?_;rw[gd]at hn;exact hR _ _ ⟨s,c,hs,so,hn⟩ S9
 intro ys H8 s8 hys;obtain⟨ss,g1,g2,g3,g4,g5⟩:=DK hys (λi hi=>(K8 (gm.mp hi)).2) ot;rw[el]at g5;tm_at"a";rename_i p9 H9 n9 S9 e9 pA HA nA SA eA;have s79:Same H7 HA:=s8.trans (S9.trans SA);refine k _ _ _ _ _ _ _ _ _ _ _ (s07.trans s79) ⟨eA,s79 _ _ e47,SA _ _ e9,s79 _ _ e7,eF hr7 s79,QV g1 (S9.trans SA),ro,g2,g3,(λx hx=>wn7 g4 hx),by lia,hf.1,hf.2,by lia,by lia⟩
theorem zV(m:M K mg):Fc P w K mg base "_law_drawn_told" 4 ["_law_script"] (lQ K):=⟨_,_,m.CT,m.fX.F.kp,m.fX.b,zK m⟩
theorem J3(m:M K mg):FnOk P w K mg base CX0 5 m.uI m.nO.d ["_law_script"] (lQ K):=by
 refine m.nO.F.ok aHF ?_ ?_;tm_at"g";tm_at"h";rcases h with⟨a,ns,rfl,hS,hlen,k⟩;tm_at"f";have nd:=aHF.nd;tm_at"d";have aGG:= @mD P w K mg base m;have aH1:= @zV P w K mg base m;have aGH:= @qJ P w K mg base m;have aIe:= @KB P w K mg base m;have aHn:= @AN P w K mg base m;refine⟨_,(aB (b8 (bC fV (aI bK (bG aGG hr (aA (pv 0) (aA aD aC))) aD) aD (bF _)) (aE (aT (bG aH1 hr (aA (pv 0) aC)))) bM)
  (aB (eQ (i:=1) nd rfl (by tm_at"b") (N:=["_law_k","_law_script"]) (nl:=1) (ci:=[0]) rfl (blk (s.heap.objs.size+1) rfl rfl rfl (by kernel_rfl)) (gN rfl m.jM (aA aD aC)) (λ_ _ _ _=>(aN (i:=0) (show (["_law_k","_law_script"]:List Str).Nodup by decide +kernel) rfl (by tm_at"b"))) (λ_ _ _ _=>dI) (λ_ _ _ _=>(bG aGG hr (aA (pv 1) (aA (pv 0) aC)))))
  (aB (aQ (i:=2) nd rfl (by tm_at"b") (bG aIe hr (aA (pv 1) aC)))
  (aB (aQ (i:=3) nd rfl (by tm_at"b") (aS aW (cI (aA aD (aA (aI bK (bG aGH hr (aA (aS aW (pv 1) aD (λ_ _=>rfl)) (aA aD aC))) aD) aC))) (aI bK (aS aW (pv 1) aD (λ_ _=>rfl)) aD) (λ_ _=>rfl)))
  (aB (b8 (bC fV (aI bK (aI b7 (aS aW (pv 1) aD (λ_ _=>rfl)) aD) aD) aD (bF _)) (aE (aQ (i:=3) nd rfl (by tm_at"b") (aI bK (aI b7 (aS aW (pv 1) aD (λ_ _=>rfl)) aD) (eV 100000000000 (by decide) ⟨by decide,by decide,by decide⟩)))) bM)
  (aB (aQ (i:=4) nd rfl (by tm_at"b") (cY (aA (pv 3) (aA (aI bQ (pv 3) (aI bK (bG aGH hr (aA (aS aW (pv 1) aD (λ_ _=>rfl)) (aA aD aC))) aD)) aC))))
  (aB (eQ (i:=5) nd rfl (by tm_at"b") (N:=["_law_k","_law_rooms_here","_law_turns","_law_script"]) (nl:=1) (ci:=[2,4,0]) rfl (blk (s.heap.objs.size+1) rfl rfl rfl (by kernel_rfl)) (gN rfl m.jM (aA (bI (zN rfl) rfl m.LF E3 (aA (aI zY (bI c7 rfl m.hJ eZ (aA (pv 0) aC)) aD) (aA aD aC))) aC)) (λ_ _ _ _=>(aN (i:=0) (show (["_law_k","_law_rooms_here","_law_turns","_law_script"]:List Str).Nodup by decide +kernel) rfl (by tm_at"b"))) (λ_ _ _ _=>dI) (λ_ _ _ _=>(bG aHn hr (aA (aS (D1 (K:=K)) (pv 3) (aI bQ aD (pv 0)) (λ_ _=>rfl)) (aA (pv 0) (aA (pv 1) (aA (pv 2) aC)))))))
  (aE (aT (cY (aA (pv 2) (aA (pv 5) (aA (pv 4) aC))))))))))))),?_⟩
 refine aL (σ:=[some (.ref a),none,none,none,none,none]) rfl ?_;tm_at"e";tm_at"a";refine bS (λhc=> ?_) (λhc=> ?_)
 .tm_at"a";refine N9 hS hlen λq p1 p2 p3 us ws rs ss f l H1 S1 dr=> ?_;exact k _ _ _ _ _ _ _ _ _ _ _ S1 dr
 tm_at"a";refine MI (λi=> .int (jL ns (i:Int))) (by decide) (rest:=[some (.ref a)]) (by rfl) ?_ ?_
 .intro i H1 hi s1 R hR;tm_at"a";rw[gd];exact hR _ (Same.refl _)
 intro H1 S1;rw[XU];tm_at"n";rename_i p2 H2 n2 S2 e2;refine MZ e2 λp4 us rs H4 n4 S4 e4 hr4 ro=> ?_;have e24:=S4 _ _ e2;tm_at"n";rename_i n5 h50 h51 p5 H5 m5 S5 e5 v5 hv5;refine lO (λσ' G=>H5=G/\∃f6,0<=f6/\f6<100000000000/\σ'=[some (.ref a),some (.ref p2),some (.ref p4),some (.int f6),none,none]) ?_ ?_
 rotate_left
 .intro nx' hnx;have e25:=S5 _ _ e24;tm_at"a";refine bS (λhc=> ?_) (λhc=> ?_)
  .tm_at"a";exact hnx _ _ ⟨rfl,_,by lia,by lia,rfl⟩
  .tm_at"a";exact hnx _ _ ⟨rfl,_,by lia,by lia,rfl⟩
 rintro _ G hq_;obtain⟨hG,f6,hf0,hf1,rfl⟩:=hq_;subst hG;have e25:=S5 _ _ e24;tm_at"a";rename_i n6 h60 h61 p7 H7 n7 S7 e7;have s07:Same H H7:=(S1.trans S2).trans (S4.trans (S5.trans S7));have s47:Same H4 H7:=S5.trans S7;have hS7:=s07.seq hS;have e47:=s47 _ _ e4;have hr7:=eF hr4 s47;tm_at"a";rw[af];refine XG (λi y H=>∃s c,dX H y s/\jE rs f6 s/\s.n=wnF c (20+(i:Nat))) (λ_ _ _ _ ⟨s,c,⟨q,h1,h2⟩,h3⟩ s2=>⟨s,c,⟨q,h1,s2 _ _ h2⟩,h3⟩) (by rw[sizeLine_eq];lia) (rest:=[some (.ref p4),some (.ref p7),some (.ref a)]) (by rfl) ?_ ?_
 .intro i H8 hi s8 R hR;have h47:=K8 hi;have hS8:=s8.seq hS7;have e48:=s8 _ _ e47;have e78:=s8 _ _ e7;have hr8:=eF hr7 s8;tm_at"a";refine tD hS8 (by lia) (by rw[af];lia) λv hv=> ?_;rcases ag.mp hv with⟨c,hc,rfl⟩;tm_at"a";refine IA (by lia) (by lia) (SqL.of e48) hr8 ro e78 λq s H9 S9 hs so hn=> ?_;rw[gd]at hn;exact hR _ _ ⟨s,c,hs,so,hn⟩ S9
 intro ys H8 s8 hys;obtain⟨ss,g1,g2,g3,g4,g5⟩:=DK hys (λi hi=>(K8 (gm.mp hi)).2) ot;rw[el]at g5;tm_at"a";rename_i p9 H9 n9 S9 e9 pA HA nA SA eA;have s79:Same H7 HA:=s8.trans (S9.trans SA);refine k _ _ _ _ _ _ _ _ _ _ _ (s07.trans s79) ⟨eA,s79 _ _ e47,SA _ _ e9,s79 _ _ e7,eF hr7 s79,QV g1 (S9.trans SA),ro,g2,g3,(λx hx=>wn7 g4 hx),by lia,hf0,hf1,by lia,by lia⟩
theorem KI(m:M K mg):Fc P w K mg base "_law_drawn" 5 ["_law_script"] (lQ K):=⟨_,_,m.OY,m.nO.F.kp,m.nO.b,J3 m⟩
def cX(rs:List bR):List (Str×Int):=rs.map λr=>(r.1,r.2.1)
def eJ(rs:List bR):List (Str×Int):=(rs.filter λr=>decide (0<r.2.2)).map λr=>(r.1,r.2.2)
theorem iZ(rs:List bR):(cX rs).map (·.1)=rs.map (·.1):=by unfold cX;rw[du];rfl
theorem yQ(ss:List cF):(ss.map bL).map (·.1)=ss.map (·.n):=by rw[du];rfl
theorem AJ{rs:List bR}(h:z∉rs.map (·.1)):cC (eJ rs) z=0:=by
 have e:(eJ rs).filter (λp=>decide (p.1=z))=[]:=by
  rw[kf];intro p hp;unfold eJ at hp;rcases ag.mp hp with⟨r,hr,rfl⟩;have hr':=(cu.mp hr).1;intro hz;exact h (ag.mpr ⟨r,hr',by simpa using hz⟩)
 unfold cC;rw[e];rfl
theorem BW{r:bR}:∀{rs:List bR},(rs.map (·.1)).Nodup->(∀r∈rs,0<=r.2.2)->r∈rs->cC (eJ rs) r.1=r.2.2
 | a::rs,nd,h0,hm=>by
  have nd':=cn.mp nd;have ha:=h0 a (.head _);have hz:=AJ nd'.1;rcases aw.mp hm with rfl|hm
  .by_cases hc:0<r.2.2
   .unfold cC eJ at hz ⊢;rw[cq (by simpa using hc),ay,cq (by simp),ay,cm,hz];exact ia _
   .have:r.2.2=0:=by lia
    rw[this];unfold cC eJ at hz ⊢;rw[ck (by simpa using hc)];exact hz
  .have ih:=BW nd'.2 (λx hx=>h0 x (ab _ hx)) hm;have hne:¬a.1=r.1:=λz=>nd'.1 (show a.1∈_ by rw[z];exact ag.mpr ⟨r,hm,rfl⟩)
   by_cases hc:0<a.2.2
   .unfold cC eJ at ih ⊢;rw[cq (by simpa using hc),ay,ck (by simpa using hne)];exact ih
   .unfold cC eJ at ih ⊢;rw[ck (by simpa using hc)];exact ih
theorem aCg{rs:List bR}(ro:gJ rs):D3 (cX rs) (eJ rs):=by
 refine⟨λp hp=> ?_,λe he=> ?_⟩
 .unfold eJ at hp;rcases ag.mp hp with⟨r,hr,rfl⟩;exact(ro.ok r (cu.mp hr).1).1
 .unfold cX at he;rcases ag.mp he with⟨r,hr,rfl⟩;rw[show ((r.1,r.2.1):Str×Int).1=r.1 from rfl,BW ro.nd (λx hx=>(ro.ok x hx).1) hr];exact(ro.ok r hr).2
theorem wC{p1 p2:Addr}{rs:List bR}{ss:List cF}(x:iE H q p1 p2 p3 us ws rs ss f l)(T:SameT H H'):iE H' q p1 p2 p3 us ws rs ss f l :=
 ⟨T.tup x.eq,T.lst x.e1,T.lst x.e2,T.tup x.e3,WT x.ru T,aEt x.sw T,x.ro,x.so,x.nd,x.wn,x.l7,x.f0,x.f1,x.fl,x.fl7⟩
theorem gR{p1 p2:Addr}{rs:List bR}{ss:List cF}(x:iE H q p1 p2 p3 us ws rs ss f l)(s:Same H H'):iE H' q p1 p2 p3 us ws rs ss f l:=wC x s.t
def TabR(PL:Addr)(A B:Hp):Prop:=SameT A B/\(TabS A PL pL qL->TabS B PL pL qL)
theorem TabR.refl(PL:Addr)(H:Hp):TabR PL H H:=⟨SameT.refl _,id⟩
theorem TabR.trans{A B C:Hp}(x:TabR PL A B)(y:TabR PL B C):TabR PL A C:=⟨x.1.trans y.1,λh=>y.2 (x.2 h)⟩
theorem pR{k:Nat}{d:aF}(h:DoorAt P w K mg base (some j) H v d)(hjk:j<=k):DoorAt P w K mg base (some k) H v d:=by
 obtain⟨p,C,dx,fs,fp,e,hp,dc,l1,l2,l3,l4,l5,mc,hf,lt⟩:=h;refine⟨p,C,dx,fs,fp,e,hp,dc,l1,l2,l3,l4,l5,mc,hf,λkl hk=> ?_⟩;cases hk;rcases lt j rfl with⟨sp,m1,m2⟩;exact⟨sp,Mc.mono m1 hjk,m2⟩
theorem aFz{ss:List (Str×Int)}(h:bo (cO H) us ss)(s:SameT H H'):bo (cO H') us ss:=Paired.imp' (λv d ⟨q,e,h⟩=>⟨q,e,s.tup h⟩) h
inductive uU(P:fh)(w:gh)(base:Heap)(m:M K mg)(PL:Addr)(vs:List V)(H:Hp)(Q:VK)(E:XK):Prop
 | mk (q p1 p2 p3:Addr) (us ws:List V) (rs:List bR) (ss:List cF) (f l:Int) (_:vs=[.ref p1,.ref p2,.ref p3]) (_:iE H q p1 p2 p3 us ws rs ss f l) (_:TabS H PL pL qL) (_:∀h H',SameT H H'->TabS H' PL pL qL->bW m.aO (aJ P w K mg base (some 5)) H' h f l (cX rs) (eJ rs) (ss.map bL)->Q (.ref h) H'):uU P w base m PL vs H Q E
theorem ZB{m:M K mg}{E:XK}{p1 p2:Addr}{rs:List bR}{ss:List cF}(x:iE H q p1 p2 p3 us ws rs ss f l)(ht:TabS H PL pL qL)(k:∀h H',SameT H H'->TabS H' PL pL qL->bW m.aO (aJ P w K mg base (some 5)) H' h f l (cX rs) (eJ rs) (ss.map bL)->Q (.ref h) H'):uU P w base m PL [.ref p1,.ref p2,.ref p3] H Q E:=⟨_,_,_,_,_,_,_,_,_,_,rfl,x,ht,k⟩
theorem KH(m:M K mg)(hcL:m.dD.code= .ref cL)(hCL:W.CodeHd base cL PL)(hBL:base.BuiltinsAt mg PL):FnOk P w K mg base CX0 7 m.uH m.mZ.d ["_law_rooms_here","_law_specs","_law_turns"] (uU P w base m PL):=by
 refine m.mZ.F.ok aHI ?_ ?_;tm_at"g";tm_at"h";rcases h with⟨q,p1,p2,p3,us,ws,rs,ss,f,l,rfl,dr,hPL,k⟩;tm_at"f";have nd:=aHI.nd;tm_at"d";have fT:=AB (P:=P) (w:=w) (base:=base) m hcL hCL hBL;have aHO:= @F0 P w K mg base m;have aGB:=m.bJ;refine⟨_,(aB (eQ (i:=3) nd rfl (by tm_at"b") (N:=["_law_room"]) (nl:=1) (ci:=[]) rfl (blk (s.heap.objs.size+1) rfl rfl rfl (by kernel_rfl)) (bP (pv 0)) (λ_ _ _ _=>(aN (i:=0) (show (["_law_room"]:List Str).Nodup by decide +kernel) rfl (by tm_at"b"))) (λ_ _ _ _=>(zJ (bC rO (aS (dF (K:=K)) (pv 0) aD (λ_ _=>rfl)) aD (bF _)))) (λ_ _ _ _=>(cY (aA (aS (dF (K:=K)) (pv 0) aD (λ_ _=>rfl)) (aA (aS (dF (K:=K)) (pv 0) aD (λ_ _=>rfl)) aC)))))
  (aB (eQ (i:=4) nd rfl (by tm_at"b") (N:=["_law_spec_here"]) (nl:=1) (ci:=[]) rfl (blk (s.heap.objs.size+1) rfl rfl rfl (by kernel_rfl)) (bP (pv 1)) (λ_ _ _ _=>(aN (i:=0) (show (["_law_spec_here"]:List Str).Nodup by decide +kernel) rfl (by tm_at"b"))) (λ_ _ _ _=>dI) (λ_ _ _ _=>(bG fT hr (aA (pv 0) aC))))
  (aE (aT (mN aHO hr (aA (d7 (N:=["_law_room"]) (nl:=1) (ci:=[]) rfl (blk (s.heap.objs.size+1) rfl rfl rfl (by kernel_rfl)) (bP (pv 0)) (λ_ _ _ _=>(aN (i:=0) (show (["_law_room"]:List Str).Nodup by decide +kernel) rfl (by tm_at"b"))) (λ_ _ _ _=>dI) (λ_ _ _ _=>(cY (aA (aS (dF (K:=K)) (pv 0) aD (λ_ _=>rfl)) (aA (aS (dF (K:=K)) (pv 0) aD (λ_ _=>rfl)) aC))))) (aA (pv 4) (aA (pv 3) (aA (aS dA (pv 2) aD (λ_ _=>rfl)) (aA (aS dA (pv 2) aD (λ_ _=>rfl)) aC)))))))))),?_⟩
 refine aL (σ:=[some (.ref p1),some (.ref p2),some (.ref p3),none,none]) rfl ?_;tm_at"e";have ro:=dr.ro;have hrl:rs.length<=4:=ro.l1;have e1:=dr.e1;have e2:=dr.e2;have e3:=dr.e3;have hul:us.length=rs.length:=bx dr.ru;have hwl:ws.length=ss.length:=bx dr.sw;tm_at"a";refine lP (α:=bR) (xs:=rs) (vs:=us) (cH H) (λr=>decide (0<r.2.2)) (λr y H=>cO H y (r.1,r.2.2)) (λ_ _ _ _ ⟨q,h1,h2⟩ s=>⟨q,h1,s _ _ h2⟩) (by rw[sizeLine_eq];lia) (rest:=[]) (by rfl) (SqL.of e1) dr.ru ?_ ?_ ?_
 .rintro v ⟨z,i,j⟩ H2 ⟨q2,rfl,hq2⟩ hm s2 R hR;have hq2:H2 q2=some (.tup [.str z,.int i,.int j]):=s2 _ _ hq2;tm_at"a";refine⟨q2,_,2,_,rfl,rfl,SqT.of hq2,rfl,?_⟩;tm_at"a";exact hR _ (Same.refl _)
 .rintro v ⟨z,i,j⟩ H2 ⟨q2,rfl,hq2⟩ hm - s2 R hR;have hq2:H2 q2=some (.tup [.str z,.int i,.int j]):=s2 _ _ hq2;tm_at"a";refine⟨q2,_,0,_,rfl,rfl,SqT.of hq2,rfl,?_⟩;tm_at"a";refine⟨q2,_,2,_,rfl,rfl,SqT.of hq2,rfl,?_⟩;tm_at"a";rename_i q3 H3 n3 S3 e3';exact hR _ _ ⟨q3,rfl,e3'⟩ S3
 intro ys H2 s2 hys;have hyp:bo (cO H2) ys (eJ rs):=iT (F:=cO H2) (λr:bR=>(r.1,r.2.2)) hys;tm_at"a";rename_i p4 H4 n4 S4 e4;have s04:=s2.trans S4;have dr4:=gR dr s04;have hPL4:=hPL.same s04;refine RC (α:=cF) (xs:=ss) (vs:=ws) (TabR PL) (TabR.refl PL) (λ_ _ _=>TabR.trans) (dX H4) (λs y H=>(aJ P w K mg base (some 4)).at' H y (bL s)) (λ_ _ _ _ h s=>zT h s.1) (by have:=dr.l7;rw[sizeLine_eq];lia) (rest:=[]) (by rfl) (λH1 s=>s.1.seq (SqL.of dr4.e2)) dr4.sw (λv x H1 _ _ _ R hR=>hR _ (TabR.refl _ _)) ?_ ?_
 .rintro v s5 H5 ⟨q5,rfl,h5⟩ hm t5 R hR;have hs5:dX H5 (.ref q5) s5:=⟨q5,rfl,t5.1.tup h5⟩
  tm_at"a";refine GO hs5 (dr.so s5 hm) dr.f0 (t5.2 hPL4) λv6 H6 T6 hT6 hd6=> ?_;exact hR _ _ hd6 ⟨T6,λ_=>hT6⟩
 intro zs H5 t5 hzs;have dr5:=wC dr4 t5.1;have hPL5:=t5.2 hPL4;have e45:=t5.1.lst e4;have e15:=dr5.e1;have e35:=dr5.e3;have hyp5:=aFz hyp ((Same.t S4).trans t5.1);have hzd:bo ((aJ P w K mg base (some 5)).at' H5) zs (ss.map bL):=iT (F:=(aJ P w K mg base (some 5)).at' H5) bL (Paired.imp' (λs y h=>pR h (by decide)) hzs);tm_at"a";rename_i p6 H6 n6 S6 e6;have e16:=S6 _ _ e15;refine lP (α:=bR) (xs:=rs) (vs:=us) (cH H6) (λ_=>true) (λr y H=>cO H y (r.1,r.2.1)) (λ_ _ _ _ ⟨q,h1,h2⟩ s=>⟨q,h1,s _ _ h2⟩) (by rw[sizeLine_eq];lia) (rest:=[]) (by rfl) (SqL.of e16) (eF dr5.ru S6) (λv x H1 _ hx s1 R hR=>hR _ (Same.refl _)) ?_ ?_
 .rintro v ⟨z,i,j⟩ H7 ⟨q2,rfl,hq2⟩ hm - s7 R hR;have hq2:H7 q2=some (.tup [.str z,.int i,.int j]):=s7 _ _ hq2;tm_at"a";refine⟨q2,_,0,_,rfl,rfl,SqT.of hq2,rfl,?_⟩;tm_at"a";refine⟨q2,_,1,_,rfl,rfl,SqT.of hq2,rfl,?_⟩;tm_at"a";rename_i q3 H3 n3 S3 e3';exact hR _ _ ⟨q3,rfl,e3'⟩ S3
 intro xs H7 s7 hxs;rw[dM]at hxs;have hxr:bo (cO H7) xs (cX rs):=iT (F:=cO H7) (λr:bR=>(r.1,r.2.1)) hxs;tm_at"a";rename_i p8 H8 n8 S8 e8;have s58:Same H5 H8:=S6.trans (s7.trans S8);have e38:=s58 _ _ e35;refine⟨p3,_,1,_,rfl,rfl,SqT.of e38,rfl,?_⟩;tm_at"a";refine⟨p3,_,0,_,rfl,rfl,SqT.of e38,rfl,?_⟩;tm_at"a";have hin:∀d∈ss.map bL,cQ ((cX rs).map (·.1)) d:=λd hd=>by
  rcases ag.mp hd with⟨s,hs,rfl⟩;rw[iZ];exact⟨(dr.so s hs).sin,(dr.so s hs).ein⟩
 have hpr:∀p∈eJ rs,p.1∈(cX rs).map (·.1):=λp hp=>by
  unfold eJ at hp;rcases ag.mp hp with⟨r,hr,rfl⟩;rw[iZ];exact ag.mpr ⟨r,(cu.mp hr).1,rfl⟩
 have hlp:(eJ rs).length<=40:=by
  have h1:(rs.filter λr=>decide (0<r.2.2)).length<=rs.length:=fb _ _;unfold eJ;rw[af];lia
 have hl7:=dr.l7;refine JK (f:=f) (l:=l) (rz:=cX rs) (ps:=eJ rs) (ds:=ss.map bL) rfl aGB e8 (RoomsAt.sm hxr S8) (SqL.of (S8 _ _ (s7 _ _ e6))) (fA hzd s58) (SqL.of (s58 _ _ e45)) (pK hyp5 s58) (by rw[iZ];exact ro.nd) (by rw[yQ];exact dr.nd) hin hpr (aCg ro) (by unfold cX;rw[af];lia) (by rw[af];lia) hlp dr.f0 dr.fl λh H9 n9 S9 hh=> ?_;exact k _ _ (((s04.t).trans t5.1).snoc (s58.trans S9)) (hPL5.same (s58.trans S9)) hh
theorem JY(m:M K mg)(hcL:m.dD.code= .ref cL)(hCL:W.CodeHd base cL PL)(hBL:base.BuiltinsAt mg PL):Fc P w K mg base "_law_house" 7 ["_law_rooms_here","_law_specs","_law_turns"] (uU P w base m PL):=⟨_,_,m.O2,m.mZ.F.kp,m.mZ.b,KH m hcL hCL hBL⟩
def at0(l:List Int)(k:Nat):Int:=l.getD k 0
def xr(k:Nat):Nat:=if k%2=0 then k+1 else k - 1
theorem SK(k:Nat):xr k≠k:=by unfold xr;split<;>lia
theorem UD(k:Nat):xr (xr k)=k:=by
 unfold xr
 by_cases h:k%2=0
 .rw[if_pos h,if_neg (by lia)];lia
 .rw[if_neg h,if_pos (by lia)];lia
theorem EW{k:Nat}(h:k<2 * n):xr k<2 * n:=by unfold xr;split<;>lia
theorem HF(l:List Int)(k m:Nat)(x:Int)(h:k<l.length):at0 (l.set k x) m=if m=k then x else at0 l m:=by
 unfold at0;rw[bj,bj,List.getElem?_set]
 by_cases e:k=m
 .subst e;rw[if_pos rfl,if_pos h,if_pos rfl];rfl
 .rw[if_neg e,if_neg (eh e)]
def mJ(sp:List Int)(k:Nat)(x:Int):List Int:=(sp.set k (at0 sp k - x)).set (xr k) (at0 sp (xr k)+x)
theorem z5(sp:List Int)(k:Nat)(x:Int):(mJ sp k x).length=sp.length:=by unfold mJ;rw[kh,kh]
theorem L4{sp:List Int}{k:Nat}(x:Int)(hl:sp.length=2 * n)(hk:k<2 * n)(m:Nat):at0 (mJ sp k x) m=at0 sp m - (if m=k then x else 0)+if m=xr k then x else 0:=by
 have h2:=EW hk;have h3:=SK k;unfold mJ;rw[HF _ _ _ _ (by rw[kh];lia),HF _ _ _ _ (by lia)]
 by_cases h:m=xr k
 .rw[if_pos h,if_pos h,if_neg (by lia),h];lia
 .rw[if_neg h,if_neg h]
  by_cases h':m=k
  .rw[if_pos h',if_pos h',h'];lia
  .rw[if_neg h',if_neg h'];lia
def c6(ts sp:List Int)(v:Int):Nat->Int
 | 0=>0
 | n+1=>c6 ts sp v n+((if at0 ts (2 * n)=v then at0 sp (2 * n+1) else 0) - if at0 ts (2 * n+1)=v then at0 sp (2 * n+1) else 0)
theorem FS{sp:List Int}{v:Int}:∀n:Nat,(∀m,m<n->at0 ts (2 * m)=at0 ts' (2 * m)/\at0 ts (2 * m+1)=at0 ts' (2 * m+1)/\at0 sp (2 * m+1)=at0 sp' (2 * m+1))->c6 ts sp v n=c6 ts' sp' v n
 | 0,_=>rfl
 | n+1,h=>by
  unfold c6;obtain⟨h1,h2,h3⟩:=h n (by lia);rw[FS n λm hm=>h m (by lia),h1,h2,h3]
theorem VX(A B:Prop)[Decidable A][Decidable B](E s x:Int):E+0+((if A then s - 0+x else 0) - if B then s - 0+x else 0)=E+((if A then s else 0) - if B then s else 0)+((if A then x else 0) - if B then x else 0):=by
 split<;>split<;>lia
theorem U7(A B:Prop)[Decidable A][Decidable B](E s x:Int):E+0+((if B then s - x+0 else 0) - if A then s - x+0 else 0)=E+((if B then s else 0) - if A then s else 0)+((if A then x else 0) - if B then x else 0):=by
 split<;>split<;>lia
theorem N1{sp:List Int}{k:Nat}(x v:Int)(hl:sp.length=2 * n)(hk:k<2 * n):∀j:Nat,j<=n->c6 ts (mJ sp k x) v j=c6 ts sp v j+if k<2 * j then (if at0 ts k=v then x else 0) - (if at0 ts (xr k)=v then x else 0) else 0
 | 0,_=>by rw[if_neg (by lia)];rfl
 | j+1,hj=>by
  unfold c6;rw[N1 x v hl hk j (by lia),L4 x hl hk]
  by_cases h:k=2 * j
  .have hx:xr k=2 * j+1:=by unfold xr;rw[if_pos (by lia),h]
   rw[if_neg (show ¬k<2 * j by lia),if_pos (show k<2 * (j+1) by lia),if_neg (show ¬2 * j+1=k by lia),if_pos hx.symm,hx,h];exact VX _ _ _ _ _
  .by_cases h':k=2 * j+1
   .have hx:xr k=2 * j:=by unfold xr;rw[if_neg (by lia),h'];lia
    rw[if_neg (show ¬k<2 * j by lia),if_pos (show k<2 * (j+1) by lia),if_pos h'.symm,if_neg (show ¬2 * j+1=xr k by lia),hx,h'];exact U7 _ _ _ _ _
   .have hx:¬2 * j+1=xr k:=by unfold xr;split<;>lia
    rw[if_neg (show ¬2 * j+1=k by lia),if_neg hx,Int.sub_zero,ia]
    by_cases hlt:k<2 * j
    .rw[if_pos hlt,if_pos (show k<2 * (j+1) by lia)];exact Int.add_right_comm _ _ _
    .rw[if_neg hlt,if_neg (show ¬k<2 * (j+1) by lia),ia,ia]
inductive Pth(ts:List Int)(s:Int):Int->List Nat->Prop
 | nil:Pth ts s s []
 | cons {v:Int}{k:Nat}{p:List Nat}:at0 ts k=v->Pth ts s (at0 ts (xr k)) p->Pth ts s v (k::p)
def dZ(sp:List Int)(p:List Nat)(x:Int):List Int:=p.foldl (λs k=>mJ s k x) sp
theorem xM(x:Int):∀(p:List Nat) (sp:List Int),(dZ sp p x).length=sp.length
 | [],_=>rfl
 | k::p,sp=>by
  show (dZ (mJ sp k x) p x).length=_;rw[xM x p,z5]
theorem FD{s:Int}(x u:Int):∀{p:List Nat}{v:Int}{sp:List Int},Pth ts s v p->sp.length=2 * n->(∀k∈p,k<2 * n)->c6 ts (dZ sp p x) u n=c6 ts sp u n+((if v=u then x else 0) - if s=u then x else 0)
 | _,_,sp,.nil,_,_=>by
  show c6 ts sp u n=_
  lia
 | k::p,v,sp,.cons hv t,hl,hk=>by
  show c6 ts (dZ (mJ sp k x) p x) u n=_;have hk0:=hk k (.head _);rw[FD x u t (by rw[z5];exact hl) λm hm=>hk m (ab _ hm),N1 x u hl hk0 n (au _),if_pos hk0,hv]
  split<;>split<;>split<;>lia
def oP(p:List Nat)(m:Nat):Int:=((p.filter λk=>decide (k=m)).length:Int)
theorem rK(x:Int)(m:Nat):∀{p:List Nat}{sp:List Int},sp.length=2 * n->(∀k∈p,k<2 * n)->at0 (dZ sp p x) m=at0 sp m - x * oP p m+x * oP p (xr m)
 | [],sp,_,_=>by
  show at0 sp m=at0 sp m - x * 0+x * 0
  lia
 | k::p,sp,hl,hk=>by
  show at0 (dZ (mJ sp k x) p x) m=_;rw[rK x m (by rw[z5];exact hl) λm hm=>hk m (ab _ hm),L4 x hl (hk k (.head _))];have c:∀j,oP (k::p) j=oP p j+if j=k then 1 else 0:=λj=>by
   unfold oP
   by_cases h:k=j
   .rw[cq (by simpa using h),if_pos h.symm,az];lia
   .rw[ck (by simpa using h),if_neg (eh h)];lia
  have hx:(m=xr k)=(xr m=k):=propext ⟨λh=>by rw[h,UD],λh=>by rw[←h,UD]⟩;rw[c,c,Int.mul_add,Int.mul_add]
  by_cases h1:m=k
  .by_cases h2:m=xr k
   .exact absurd (h1▸h2) (eh (SK k))
   .rw[if_pos h1,if_neg h2,if_pos h1,if_neg (by rw[←hx];exact h2)];lia
  .by_cases h2:m=xr k
   .rw[if_neg h1,if_pos h2,if_neg h1,if_pos (by rw[←hx];exact h2)];lia
   .rw[if_neg h1,if_neg h2,if_neg h1,if_neg (by rw[←hx];exact h2)];lia
theorem aDh(p:List Nat)(m:Nat):0<=oP p m:=by unfold oP;lia
theorem aDc{p:List Nat}(h:p.Nodup)(m:Nat):oP p m<=1:=by
 unfold oP
 induction p with
 | nil=>exact(show (0:Int)<=1 by decide)
 | cons a p ih =>
  rcases cn.mp h with⟨h1,h2⟩
  by_cases e:a=m
  .subst e;rw[cq (by simp),kf.mpr λk hk=>by
    have:k≠a:=λz=>h1 (z▸hk)
    simpa using this]
   exact(show (1:Int)<=1 by decide)
  .rw[ck (by simpa using e)];exact ih h2
theorem VW{p:List Nat}{m:Nat}(h:m∉p):oP p m=0:=by
 unfold oP;rw[kf.mpr λk hk=>by
  have:k≠m:=λz=>h (z▸hk)
  simpa using this]
 rfl
theorem UU{x:Int}{p:List Nat}{sp:List Int}(hl:sp.length=2 * n)(hk:∀k∈p,k<2 * n)(nd:p.Nodup)(x0:0<=x)(hx:∀k∈p,x<=at0 sp k)(h0:∀m,0<=at0 sp m)(m:Nat):0<=at0 (dZ sp p x) m:=by
 rw[rK x m hl hk];have h2:0<=x * oP p (xr m):=Int.mul_nonneg x0 (aDh _ _)
 by_cases h:m∈p
 .have h1:=hx m h;have h3:x * oP p m<=x * 1:=Int.mul_le_mul_of_nonneg_left (aDc nd m) x0
  lia
 .have:=h0 m;rw[VW h];lia
theorem SW{x:Int}{p:List Nat}{sp:List Int}(hl:sp.length=2 * n)(hk:∀k∈p,k<2 * n)(m:Nat):at0 (dZ sp p x) m+at0 (dZ sp p x) (xr m)=at0 sp m+at0 sp (xr m):=by
 rw[rK x m hl hk,rK x (xr m) hl hk,UD];lia
def jX(ts sp:List Int)(rs:List Int)(n:Nat):Int:=(rs.map λv=>c6 ts sp v n).sum
def pX(ts sp:List Int)(rs:List Int):Nat->Int
 | 0=>0
 | n+1=>pX ts sp rs n+if at0 ts (2 * n+1)∈rs/\at0 ts (2 * n)∉rs then at0 sp (2 * n)+at0 sp (2 * n+1) else 0
theorem uT(ts sp rs:List Int)(n:Nat):pX ts sp rs (n+1)=pX ts sp rs n+if at0 ts (2 * n+1)∈rs/\at0 ts (2 * n)∉rs then at0 sp (2 * n)+at0 sp (2 * n+1) else 0:=rfl
theorem iF(nd:rs.Nodup)(a x:Int):(rs.map λv=>if a=v then x else 0).sum=if a∈rs then x else 0:=by
 induction rs with
 | nil=>rw[if_neg (λz=>nomatch z)];rfl
 | cons b l ih =>
  rcases cn.mp nd with⟨h1,h2⟩;rw[ay,cm,ih h2]
  by_cases h:a=b
  .rw[if_pos h,if_neg (by rw[h];exact h1),if_pos (by rw[h];exact .head _),ia]
  .rw[if_neg h,gd]
   by_cases h3:a∈l
   .rw[if_pos h3,if_pos (ab _ h3)]
   .rw[if_neg h3,if_neg];intro z;rcases aw.mp z with z|z
    .exact h z
    .exact h3 z
theorem rX(l:List Int)(f g h:Int->Int):(l.map λv=>f v+(g v - h v)).sum=(l.map f).sum+((l.map g).sum - (l.map h).sum):=by
 induction l with
 | nil=>rfl
 | cons a l ih=>rw[ay,cm,ih,ay,cm,ay,cm,ay,cm];lia
theorem HZ{sp:List Int}(nd:rs.Nodup):∀{n:Nat},(∀k,k<2 * n->0<=at0 sp k)->(∀k,k<2 * n->at0 ts (xr k)∈rs->at0 ts k∉rs->at0 sp k<=0)->jX ts sp rs n= - pX ts sp rs n
 | 0,_,_=>by
  have e:∀l:List Int,(l.map λv=>c6 ts sp v 0).sum=0:=λl=>by
   induction l with
   | nil=>rfl
   | cons a l ih=>rw[ay,cm,ih];rfl
  exact e rs
 | n+1,h0,hc=>by
  have ih:=HZ nd (n:=n) (λk hk=>h0 k (by lia)) λk hk=>hc k (by lia);unfold jX at ih ⊢;have e:(rs.map λv=>c6 ts sp v (n+1)).sum=(rs.map λv=>c6 ts sp v n).sum+((rs.map λv=>if at0 ts (2 * n)=v then at0 sp (2 * n+1) else 0).sum - (rs.map λv=>if at0 ts (2 * n+1)=v then at0 sp (2 * n+1) else 0).sum):=rX rs _ _ _;rw[e,ih,iF nd,iF nd,uT];have x0:xr (2 * n)=2 * n+1:=by unfold xr;rw[if_pos (by lia)]
  have x1:xr (2 * n+1)=2 * n:=by unfold xr;rw[if_neg (by lia)];lia
  have a0:=h0 (2 * n) (by lia);have a1:=h0 (2 * n+1) (by lia);have c0:=hc (2 * n) (by lia);have c1:=hc (2 * n+1) (by lia);rw[x0]at c0;rw[x1]at c1
  by_cases ht:at0 ts (2 * n+1)∈rs
  .by_cases hh:at0 ts (2 * n)∈rs
   .rw[if_pos hh,if_pos ht,if_neg (λz=>z.2 hh)];lia
   .have:=c0 ht hh;rw[if_neg hh,if_pos ht,if_pos ⟨ht,hh⟩];lia
  .by_cases hh:at0 ts (2 * n)∈rs
   .have:=c1 hh ht;rw[if_pos hh,if_neg ht,if_neg (λz=>ht z.1)];lia
   .rw[if_neg hh,if_neg ht,if_neg (λz=>ht z.1)];lia
structure Ways(ts sp:List Int)(s:Int)(ws:List (Int×Nat)):Prop where
 nd:(s::ws.map (·.1)).Nodup
 ok:∀(i:Nat) (v:Int) (k:Nat),ws[i]? =some (v,k)->at0 ts k=v/\0<at0 sp k/\k<sp.length/\at0 ts (xr k)∈s::(ws.take i).map (·.1)
theorem Ways.nil(ts sp:List Int)(s:Int):Ways ts sp s []:=⟨by simp,λi v k h=>by simp at h⟩
theorem Ways.snoc{sp:List Int}{s:Int}{ws:List (Int×Nat)}(x:Ways ts sp s ws){k:Nat}(hk:k<sp.length)(h0:0<at0 sp k)(ht:at0 ts (xr k)∈s::ws.map (·.1))(hn:at0 ts k∉s::ws.map (·.1)):Ways ts sp s (ws++[(at0 ts k,k)]):=by
 refine⟨?_,λi v j h=> ?_⟩
 .rw[aq];show (s::(ws.map (·.1)++[at0 ts k])).Nodup;rw[←ig];exact L2.nd_snoc x.nd hn
 .by_cases hi:i<ws.length
  .rw[fq hi]at h;obtain⟨h1,h2,h3,h4⟩:=x.ok i v j h;refine⟨h1,h2,h3,?_⟩;rw[ja (by lia)];exact h4
  .have he:i=ws.length:=by
    have:=(ax.mp h).1;rw[ak]at this;have:i<ws.length+1:=this
    lia
   subst he;rw[fg (au _),xl]at h;have h:(at0 ts k,k)=(v,j):=dq h;cases h;refine⟨rfl,h0,hk,?_⟩;rw[ja (au _),cp];exact ht
def Frm(fp:List Addr)(H H':Hp):Prop:=∀b u,H b=some u->b∉fp->H' b=some u
theorem Frm.same{fp:List Addr}(s:Same H H'):Frm fp H H':=λb u h _=>s b u h
theorem Frm.trans{fp fp':List Addr}{H2:Hp}(a:Frm fp H H1)(b:Frm fp' H1 H2)(hf:∀x∈fp',x∈fp∨H x=none):Frm fp H H2:=λc u e hc=>b c u (a c u e hc) λz=>by
 rcases hf c z with h|h
 .exact hc h
 .rw[e]at h;cases h
abbrev aAz(q1 q2 q3:Addr):List (Str×V):=bO "arcs" (.ref q3) (bO "spare" (.ref q2) (bO "targets" (.ref q1) []))
inductive NetE(C:Addr)(H:Hp)(n:Addr)(fp:List Addr)(ts sp:List Int)(as:List (List Int)):Prop
 | mk (dx q1 q2 q3:Addr) (rs:List Addr) (_:fp=q1::q2::q3::rs) (_:H n=some (.ins C dx (aAz q1 q2 q3))) (_:H q1=some (.lst (ts.map V.int))) (_:H q2=some (.lst (sp.map V.int))) (_:H q3=some (.lst (rs.map V.ref))) (_:bo (λr a=>H r=some (.lst (a.map V.int))) rs as) (_:(q1::q2::q3::rs).Nodup):NetE C H n fp ts sp as
theorem NetE.same{n:Addr}{fp:List Addr}{sp:List Int}(x:NetE C H n fp ts sp as)(s:Same H H'):NetE C H' n fp ts sp as:=by
 obtain⟨dx,q1,q2,q3,rs,ef,e0,e1,e2,e3,e4,e5⟩:=x;exact⟨dx,q1,q2,q3,rs,ef,s _ _ e0,s _ _ e1,s _ _ e2,s _ _ e3,Paired.imp' (λ_ _ h=>s _ _ h) e4,e5⟩
theorem GC{l:List Int}{k:Nat}(h:k<l.length):(l.map V.int)[k]? =some (.int (at0 l k)):=by
 rw[bu,ao h];unfold at0;rw[bj,ao h];rfl
theorem FM(e:SqL K H p xs)(hx:xs[j]? =some v)(h:Q v H):AM K (.ref p) (.int (j:Int)) H Q:=⟨p,xs,_,v,rfl,rfl,e,rW hx,h⟩
theorem AC{l:List Int}{k:Nat}(e:SqL K H p (l.map V.int))(hk:k<l.length)(h:Q (.int (at0 l k)) H):AM K (.ref p) (.int (k:Int)) H Q:=⟨p,_,_,_,rfl,rfl,e,rW (GC hk),h⟩
inductive yP(C:Addr)(vs:List V)(H:Hp)(Q:VK)(E:XK):Prop
 | mk (n:Addr) (k:Nat) (fp:List Addr) (ts sp:List Int) (as:List (List Int)) (_:vs=[.ref n,.int (k:Int)]) (_:NetE C H n fp ts sp as) (_:k+1<sp.length) (_:Q (.int (at0 sp (k+1))) H):yP C vs H Q E
theorem aCQ{E:XK}{n:Addr}{k:Nat}{fp:List Addr}{sp:List Int}(hn:NetE C H n fp ts sp as)(hk:k+1<sp.length)(h:Q (.int (at0 sp (k+1))) H):yP C [.ref n,.int (k:Int)] H Q E:=⟨_,_,_,_,_,_,rfl,hn,hk,h⟩
theorem PB(m:M K mg):FnOk P w K mg base CX0 1 m.yT m.yX.d ["self","arc"] (yP m.aX):=by
 refine m.yX.F.ok aH3 ?_ ?_;tm_at"g";tm_at"h";rcases h with⟨n,k,fp,ts,sp,as,rfl,hn,hk,h⟩;tm_at"f";have nd:=aH3.nd;tm_at"d";have aGE:=m.cR;refine⟨_,(aE (aT (aS aW (aH (pv 0) rfl) (aI bQ (pv 1) aD) (λ_ _=>rfl)))),?_⟩;refine aL (σ:=[some (.ref n),some (.int (k:Int))]) rfl ?_;tm_at"e";obtain⟨dx,q1,q2,q3,rs,ef,e0,e1,e2,e3,e4,e5⟩:=hn;tm_at"a";rw[show ((k:Int)+1)=((k+1:Nat):Int) by lia];exact AC (SqL.of e2) hk h
theorem PD(m:M K mg):Mc P w K mg base m.aX "sent" 1 (yP m.aX):=⟨_,_,_,m.cR.ic.cl,m.P6,m.yX.b,PB m⟩
theorem eR{F G:α->β->Prop}:∀{l:List α}{m:List β},bo F l m->(∀a b,a∈l->F a b->G a b)->bo G l m
 | _,_,.nil,_=> .nil
 | _,_,.cons h t,k=> .cons (k _ _ (.head _) h) (eR t λa b ha=>k a b (ab _ ha))
inductive sY(C:Addr)(vs:List V)(H:Hp)(Q:VK)(E:XK):Prop
 | mk (n:Addr) (fp:List Addr) (ts sp:List Int) (as:List (List Int)) (_:vs=[.ref n]) (_:NetE C H n fp ts sp as) (_:as.length<100000) (_:∀r H',H r=none->Frm fp H H'->NetE C H' n (fp++[r]) ts sp (as++[[]])->Q (.int (as.length:Int)) H'):sY C vs H Q E
theorem QO{E:XK}{n:Addr}{fp:List Addr}{sp:List Int}(hn:NetE C H n fp ts sp as)(hl:as.length<100000)(k:∀r H',H r=none->Frm fp H H'->NetE C H' n (fp++[r]) ts sp (as++[[]])->Q (.int (as.length:Int)) H'):sY C [.ref n] H Q E:=⟨_,_,_,_,_,rfl,hn,hl,k⟩
theorem FN(m:M K mg):FnOk P w K mg base CX0 1 m.oX m.o7.d ["self"] (sY m.aX):=by
 refine m.o7.F.ok aHi ?_ ?_;tm_at"g";tm_at"h";rcases h with⟨n,fp,ts,sp,as,rfl,hn,hl,k⟩;tm_at"f";have nd:=aHi.nd;tm_at"d";have aGE:=m.cR;refine⟨_,(aB (aU (fW da dj dm cV (aH (pv 0) rfl) (aA (cI aC) aC)))
  (aE (aT (aI zY (bI c7 rfl m.hJ eZ (aA (aH (pv 0) rfl) aC)) aD)))),?_⟩
 refine aL (σ:=[some (.ref n)]) rfl ?_;tm_at"e";obtain⟨dx,q1,q2,q3,rs,ef,e0,e1,e2,e3,e4,e5⟩:=hn;have hrl:rs.length=as.length:=bx e4;tm_at"a";rename_i r H1 n1 S1 er;refine cW (S1 _ _ e3) (by rw[sizeLine_eq,af];lia) λH2 B2 e2'=> ?_;have hq:∀x u,H x=some u->x≠q3->H2 x=some u:=λx u h h'=>B2 _ _ (S1 _ _ h) h';have nd:=cn.mp e5;have nd2:=cn.mp nd.2;have nd3:=cn.mp nd2.2;have h13:q1≠q3:=λz=>nd.1 (by rw[z];exact ab _ (.head _));have h23:q2≠q3:=λz=>nd2.1 (by rw[z];exact .head _);have hn3:n≠q3:=λz=>by rw[z,e3]at e0;cases e0
 have hr3:r≠q3:=λz=>by rw[z,e3]at n1;cases n1
 have e02:=hq _ _ e0 hn3;tm_at"a";rw[show ((List.map V.ref rs++[V.ref r]).length:Int) - 1=(as.length:Int) by rw[ak,af,hrl];show ((as.length+1:Nat):Int) - 1=_;lia];subst ef;have hfr:∀x∈q1::q2::q3::rs,x≠r:=λx hx z=>by
  have:∃u,H x=some u:=by
   rcases aw.mp hx with rfl|hx
   .exact⟨_,e1⟩
   .rcases aw.mp hx with rfl|hx
    .exact⟨_,e2⟩
    .rcases aw.mp hx with rfl|hx
     .exact⟨_,e3⟩
     .rcases gT e4 hx with⟨a,_,ha⟩;exact⟨_,ha⟩
  rcases this with⟨u,hu⟩;rw[z,n1]at hu;cases hu
 refine k r H2 n1 (λb u h hb=>hq b u h λz=>hb (by rw[z];exact ab _ (ab _ (.head _)))) ⟨dx,q1,q2,q3,rs++[r],rfl,e02,hq _ _ e1 h13,hq _ _ e2 h23,by rw[e2',aq];rfl,L2.Paired.snoc ?_ (B2 _ _ er hr3),?_⟩
 .exact eR e4 λx a hx h=>hq _ _ h λz=>nd3.1 (z▸hx)
 .exact L2.nd_snoc (l:=q1::q2::q3::rs) e5 λz=>hfr _ z rfl
theorem fJ(m:M K mg):Mc P w K mg base m.aX "new_node" 1 (sY m.aX):=⟨_,_,_,m.cR.ic.cl,m.F7,m.o7.b,FN m⟩
def fM(as:List (List Int))(i:Nat)(x:Int):List (List Int):=as.modify i (·++[x])
theorem sP(as:List (List Int))(i:Nat)(x:Int):(fM as i x).length=as.length:=List.length_modify _ _ _
theorem wX{x:Int}:∀{rs:List Addr}{as:List (List Int)}{i:Nat}{r:Addr}{a:List Int},bo (λr a=>H r=some (.lst (a.map V.int))) rs as->rs.Nodup->rs[i]? =some r->as[i]? =some a->SameBut r H H'->H' r=some (.lst (a.map V.int++[.int x]))->bo (λr a=>H' r=some (.lst (a.map V.int))) rs (fM as i x)
 | _,_,_,_,_,.nil,_,h,_,_,_=>by simp at h
 | r0::rs,a0::as,0,r,a,.cons h t,nd,hr,ha,B,e=>by
  have hr:r0=r:=by simpa using hr
  have ha:a0=a:=by simpa using ha
  subst hr ha;refine .cons ?_ (eR t λb c hb h=>B _ _ h λz=>(cn.mp nd).1 (z▸hb));rw[e,aq];rfl
 | r0::rs,a0::as,i+1,r,a,.cons h t,nd,hr,ha,B,e=>by
  have hr:rs[i]? =some r:=by simpa using hr
  have ha:as[i]? =some a:=by simpa using ha
  refine .cons (B _ _ h λz=>(cn.mp nd).1 (z▸ba hr)) (wX t (cn.mp nd).2 hr ha B e)
inductive wK(C:Addr)(vs:List V)(H:Hp)(Q:VK)(E:XK):Prop
 | mk (n:Addr) (s t:Nat) (most:Int) (fp:List Addr) (ts sp:List Int) (as:List (List Int)) (_:vs=[.ref n,.int (s:Int),.int (t:Int),.int most]) (_:NetE C H n fp ts sp as) (_:s<as.length) (_:t<as.length) (_:ts.length<100000) (_:sp.length<100000) (_:(∀a∈as,a.length<100000)) (_:∀H',Frm fp H H'->NetE C H' n fp (ts++[(t:Int),(s:Int)]) (sp++[most,0]) (fM (fM as s (ts.length:Int)) t ((ts.length:Int)+1))->Q (.int (ts.length:Int)) H'):wK C vs H Q E
theorem aFd{E:XK}{n:Addr}{s t:Nat}{most:Int}{fp:List Addr}{sp:List Int}(hn:NetE C H n fp ts sp as)(hs:s<as.length)(ht:t<as.length)(l1:ts.length<100000)(l2:sp.length<100000)(l3:∀a∈as,a.length<100000)(k:∀H',Frm fp H H'->NetE C H' n fp (ts++[(t:Int),(s:Int)]) (sp++[most,0]) (fM (fM as s (ts.length:Int)) t ((ts.length:Int)+1))->Q (.int (ts.length:Int)) H'):wK C [.ref n,.int (s:Int),.int (t:Int),.int most] H Q E:=⟨_,_,_,_,_,_,_,_,rfl,hn,hs,ht,l1,l2,l3,k⟩
theorem G0(m:M K mg):FnOk P w K mg base CX0 1 m.qM m.qT.d ["self","start","target","most"] (wK m.aX):=by
 refine m.qT.F.ok aHu ?_ ?_;tm_at"g";tm_at"h";rcases h with⟨n,s',t',most,fp,ts,sp,as,rfl,hn,hs',ht',hl1,hl2,hl3,k⟩;tm_at"f";have nd:=aHu.nd;tm_at"d";have aGE:=m.cR;refine⟨_,(aB (aQ (i:=4) nd rfl (by tm_at"b") (bI c7 rfl m.hJ eZ (aA (aH (pv 0) rfl) aC)))
  (aB (aU (fW da uf ug IU (aH (pv 0) rfl) (aA (cI (aA (pv 2) (aA (pv 1) aC))) aC)))
  (aB (aU (fW da uf ug IU (aH (pv 0) rfl) (aA (cI (aA (pv 3) (aA aD aC))) aC)))
  (aB (aU (fW da dj dm cV (aS aW (aH (pv 0) rfl) (pv 1) (λ_ _=>rfl)) (aA (pv 4) aC)))
  (aB (aU (fW da dj dm cV (aS aW (aH (pv 0) rfl) (pv 2) (λ_ _=>rfl)) (aA (aI bQ (pv 4) aD) aC)))
  (aE (aT (pv 4)))))))),?_⟩
 refine aL (σ:=[some (.ref n),some (.int (s':Int)),some (.int (t':Int)),some (.int most),none]) rfl ?_;tm_at"e";obtain⟨dx,q1,q2,q3,rs,ef,e0,e1,e2,e3,e4,e5⟩:=hn;have hrl:rs.length=as.length:=bx e4;have nd:=cn.mp e5;have nd2:=cn.mp nd.2;have nd3:=cn.mp nd2.2;obtain⟨r1,hr1⟩:∃r,rs[s']? =some r:=⟨_,ao (by lia)⟩
 obtain⟨r2,hr2⟩:∃r,rs[t']? =some r:=⟨_,ao (by lia)⟩
 rcases ⟨_,ao hs'⟩ with⟨a1,ha1⟩:∃a,as[s']? =some a
 have hm1:=ba hr1;have hm2:=ba hr2;have hn1:n≠q1:=λz=>by rw[z,e1]at e0;cases e0
 have hn2:n≠q2:=λz=>by rw[z,e2]at e0;cases e0
 have h12:q1≠q2:=λz=>nd.1 (by rw[z];exact .head _);have h13:q1≠q3:=λz=>nd.1 (by rw[z];exact ab _ (.head _));have h1r:∀x∈rs,x≠q1:=λx hx z=>nd.1 (by rw[←z];exact ab _ (ab _ hx));have h23:q2≠q3:=λz=>nd2.1 (by rw[z];exact .head _);have h2r:∀x∈rs,x≠q2:=λx hx z=>nd2.1 (by rw[←z];exact ab _ hx);have h3r:∀x∈rs,x≠q3:=λx hx z=>nd3.1 (by rw[←z];exact hx);have hnr:∀x∈rs,n≠x:=λx hx z=>by
  rcases gT e4 hx with⟨a,_,ha⟩;rw[z,ha]at e0;cases e0
 tm_at"a";rename_i p1 H1 n1 S1 ep1;refine JM (S1 _ _ e1) ep1 (by rw[sizeLine_eq,af];show _+2<=_;lia) λH2 B2 f1=> ?_;have f0:=B2 _ _ (S1 _ _ e0) hn1;have f2:=B2 _ _ (S1 _ _ e2) (eh h12);have f3:=B2 _ _ (S1 _ _ e3) (eh h13);have f4:=eR (G:=λr a=>H2 r=some (.lst (a.map V.int))) e4 λx a hx h=>B2 _ _ (S1 _ _ h) (h1r x hx);tm_at"a";rename_i p3 H3 n3 S3 ep3;refine JM (S3 _ _ f2) ep3 (by rw[sizeLine_eq,af];show _+2<=_;lia) λH4 B4 g2=> ?_;have g0:=B4 _ _ (S3 _ _ f0) hn2;have g1:=B4 _ _ (S3 _ _ f1) h12;have g3:=B4 _ _ (S3 _ _ f3) (eh h23);have g4:=eR (G:=λr a=>H4 r=some (.lst (a.map V.int))) f4 λx a hx h=>B4 _ _ (S3 _ _ h) (h2r x hx);tm_at"a";refine FM (SqL.of g3) (show (rs.map V.ref)[s']? =some (.ref r1) by rw[bu,hr1];rfl) ?_;have hg1:H4 r1=some (.lst (a1.map V.int)):=by have z:=Paired.at2 g4 hr1 ha1;exact z
 tm_at"a";refine cW hg1 (by rw[sizeLine_eq,af];have:=hl3 a1 (ba ha1);lia) λH5 B5 i1=> ?_;have i0:=B5 _ _ g0 (hnr r1 hm1);have i2:=B5 _ _ g1 (eh (h1r r1 hm1));have i3:=B5 _ _ g2 (eh (h2r r1 hm1));have i4:=B5 _ _ g3 (eh (h3r r1 hm1));rw[af]at i1;have i5:=wX g4 nd3.2 hr1 ha1 B5 i1;obtain⟨a2,ha2⟩:∃a,(fM as s' (ts.length:Int))[t']? =some a:=⟨_,ao (by rw[sP];exact ht')⟩
 tm_at"a";refine FM (SqL.of i4) (show (rs.map V.ref)[t']? =some (.ref r2) by rw[bu,hr2];rfl) ?_;have hi1:H5 r2=some (.lst (a2.map V.int)):=by have z:=Paired.at2 i5 hr2 ha2;exact z
 have hl4:a2.length<200000:=by
  have hm:=ba ha2;unfold fM at hm;rcases gi.mp hm with⟨j,hj⟩;rw[wa]at hj;rcases cj.mp hj with⟨b,hb,e⟩;have:=hl3 b (ba hb);rw[←e]
  by_cases h:s'=j
  .rw[if_pos h,ak];show b.length+1<_;lia
  .rw[if_neg h];show b.length<_;lia
 tm_at"a";refine cW hi1 (by rw[sizeLine_eq,af];lia) λH6 B6 j1=> ?_;have j0:=B6 _ _ i0 (hnr r2 hm2);have j2:=B6 _ _ i2 (eh (h1r r2 hm2));have j3:=B6 _ _ i3 (eh (h2r r2 hm2));have j4:=B6 _ _ i4 (eh (h3r r2 hm2));rw[af]at j1;have j5:=wX i5 nd3.2 hr2 ha2 B6 j1;tm_at"a";rw[af];refine k H6 (λb u h hb=> ?_) ⟨dx,q1,q2,q3,rs,ef,j0,by rw[j2,aq];rfl,by rw[j3,aq];rfl,j4,j5,e5⟩;subst ef;have b1:b≠q1:=λz=>hb (by rw[z];exact .head _);have b2:b≠q2:=λz=>hb (by rw[z];exact ab _ (.head _));have br:∀x∈rs,b≠x:=λx hx z=>hb (by rw[z];exact ab _ (ab _ (ab _ hx)));exact B6 _ _ (B5 _ _ (B4 _ _ (S3 _ _ (B2 _ _ (S1 _ _ h) b1)) b2) (br _ hm1)) (br _ hm2)
theorem gD(m:M K mg):Mc P w K mg base m.aX "new_arc" 1 (wK m.aX):=⟨_,_,_,m.cR.ic.cl,m.IR,m.qT.b,G0 m⟩
def WhB(Wl:Nat->St->Hp->Prop)(m:Nat)(tb:TS)(nx:St->Hp->Prop)(rt:VK)(σ:St)(H:Hp):Prop:=∃N:St->Hp->Prop,(∀σ' H',N σ' H'->∃m',m'<m/\Wl m' σ' H')/\tb ⟨N,rt,nx,N⟩ σ H
theorem xK{c:TT}{bk:St->Hp->Prop}(Wl:Nat->St->Hp->Prop)(m0:Nat)(h0:Wl m0 σ H)(hs:∀m σ H,Wl m σ H->c σ H λb H1=>if b=true then WhB Wl m tb nx rt σ H1 else nx σ H1):V5 c tb ⟨nx,rt,bk,ct⟩ σ H:=⟨Wl,⟨m0,h0⟩,hs⟩
theorem E7{Wl:Nat->St->Hp->Prop}{m:Nat}(h:tb ⟨λσ' H'=>∃m',m'<m/\Wl m' σ' H',rt,nx,λσ' H'=>∃m',m'<m/\Wl m' σ' H'⟩ σ H):WhB Wl m tb nx rt σ H:=⟨_,λ_ _ z=>z,h⟩
structure NetOk(ts sp:List Int)(as:List (List Int)):Prop where
 len:∃n,ts.length=2 * n
 eq:sp.length=ts.length
 nd:∀k,k<ts.length->∃v:Nat,at0 ts k=(v:Int)/\v<as.length
 inn:∀(u:Nat) (a:List Int),as[u]? =some a->∀x∈a,∃k:Nat,x=(k:Int)/\k<ts.length/\at0 ts (xr k)=(u:Int)
 all:∀(k u:Nat) (a:List Int),k<ts.length->at0 ts (xr k)=(u:Int)->as[u]? =some a->(k:Int)∈a
 l0:as.length<100000
 l1:ts.length<100000
def d0(s:Int)(ws:List (Int×Nat)):List (Key×V):=(.inl s,.non)::ws.map λx=>(.inl x.1,.int (x.2:Int))
theorem rG(s:Int)(ws:List (Int×Nat)):(d0 s ws).map (·.1)=(s::ws.map (·.1)).map mh:=by
 unfold d0;rw[ay,du,ay,du];rfl
theorem xC(s v:Int)(ws:List (Int×Nat)):(bA (d0 s ws) (.inl v)).isSome=decide (v∈s::ws.map (·.1)):=by
 cases hv:bA (d0 s ws) (.inl v) with
 | some x =>
  have hm:(mh v:Key)∈(d0 s ws).map (·.1):=ag.mpr ⟨_,uY hv,rfl⟩;rw[rG]at hm;rcases ag.mp hm with⟨y,hy,e⟩;rw[←oz e,decide_eq_true hy];rfl
 | none =>
  have hn:v∉s::ws.map (·.1):=λh=>by
   have hm:(mh v:Key)∈(d0 s ws).map (·.1):=by rw[rG];exact ag.mpr ⟨v,h,rfl⟩
   rcases ag.mp hm with⟨e,he,e1⟩;unfold bA at hv;have:=List.find?_eq_none.mp (Option.map_eq_none_iff.mp hv) e he;exact this (decide_eq_true e1)
  rw[decide_eq_false hn];rfl
theorem U1(s:Int)(ws:List (Int×Nat))(v:Int)(k:Nat)(h:v∉s::ws.map (·.1)):cJ (d0 s ws) (.inl v) (.int (k:Int))=d0 s (ws++[(v,k)]):=by
 rw[eX _ (by
  have:=xC s v ws;rw[decide_eq_false h]at this;cases hv:bA (d0 s ws) (.inl v) with
  | none=>rfl
  | some x=>rw[hv]at this;cases this)]
 unfold d0;rw[aq];rfl
theorem GZ:∀(N:Nat) (l:List Nat),l.Nodup->(∀x∈l,x<N)->l.length<=N
 | 0,l,_,h=>by
  cases l with
  | nil=>exact au _
  | cons a l=>exact absurd (h a (.head _)) (ko _)
 | N+1,l,nd,h=>by
  by_cases hm:N∈l
  .have h1:=GZ N (l.erase N) (nd.erase _) λx hx=>by
    have h2:=(nd.mem_erase_iff).mp hx;have h3:=h x h2.2;have:=h2.1
    lia
   rw[List.length_erase_of_mem hm]at h1
   lia
  .have:=GZ N l nd λx hx=>by
    have h3:=h x hx;have:x≠N:=λz=>hm (z▸hx)
    lia
   lia
theorem C8{N:Nat}{l:List Int}(nd:l.Nodup)(h:∀x∈l,∃v:Nat,x=(v:Int)/\v<N):l.length<=N:=by
 rw[←af (f:=Int.toNat)];refine GZ N _ ?_ λx hx=> ?_
 .rw[oq,iq];refine ue (λ{a b} ha hb hne z=> ?_) nd;rcases h a ha with⟨v,rfl,_⟩;rcases h b hb with⟨w,rfl,_⟩;rw[dw,dw]at z;exact hne (by rw[z])
 .rcases ag.mp hx with⟨a,ha,rfl⟩;rcases h a ha with⟨v,rfl,hv⟩;rw[dw];exact hv
theorem xD{sp:List Int}(ok:NetOk ts sp as){s:Nat}(hs:s<as.length){ws:List (Int×Nat)}(w:Ways ts sp (s:Int) ws):∀x∈(s:Int)::ws.map (·.1),∃v:Nat,x=(v:Int)/\v<as.length:=λx hx=>by
 rcases aw.mp hx with rfl|hx
 .exact⟨s,rfl,hs⟩
 .obtain⟨⟨v,k⟩,hm,rfl⟩:=ag.mp hx;rcases gi.mp hm with⟨i,hi⟩;obtain⟨h1,_,h3,_⟩:=w.ok i v k hi;rw[ok.eq]at h3;rcases ok.nd k h3 with⟨z,hz,hl⟩;exact⟨z,by rw[←hz];exact h1.symm,hl⟩
theorem R0{z:Int}(e:Rd H p (.dK kvs))(h:Q (.bl (!(bA kvs (.inl z)).isSome)) H):GM Q (.int z) (.ref p) H:=⟨p,_,rfl,.inl ⟨kvs,.inl z,e,rfl,rfl⟩,h⟩
theorem Q2{z:Int}(e:Rd H p (.dK kvs))(h:Q (.bl (bA kvs (.inl z)).isSome) H):Y1 Q (.int z) (.ref p) H:=⟨p,_,rfl,.inl ⟨kvs,.inl z,e,rfl,rfl⟩,h⟩
theorem ZA{z:Int}(e:H p=some (.dK kvs))(hl:kvs.length<sizeLine)(h:∀H',SameBut p H H'->H' p=some (.dK (cJ kvs (.inl z) v))->nx σ H'):K5 nx σ (.ref p) v (.int z) H:=⟨p,_,rfl,.inl ⟨kvs,.inl z,e,rfl,hl,rfl⟩,h _ SameBut.upd aR⟩
theorem DN{z:Int}(e:Rd H p (.dK kvs))(hv:bA kvs (.inl z)=some v)(h:Q v H):LB Q (.ref p) (.int z) H:=⟨p,v,rfl,.inl ⟨kvs,.inl z,e,rfl,hv.symm⟩,h⟩
inductive DH(C:Addr)(vs:List V)(H:Hp)(Q:VK)(E:XK):Prop
 | mk (n:Addr) (s:Nat) (fp:List Addr) (ts sp:List Int) (as:List (List Int)) (_:vs=[.ref n,.int (s:Int)]) (_:NetE C H n fp ts sp as) (_:NetOk ts sp as) (_:s<as.length) (_:∀p ws H',H p=none->Same H H'->H' p=some (.dK (d0 (s:Int) ws))->Ways ts sp (s:Int) ws->(∀k,k<ts.length->at0 ts (xr k)∈(s:Int)::ws.map (·.1)->0<at0 sp k->at0 ts k∈(s:Int)::ws.map (·.1))->Q (.ref p) H'):DH C vs H Q E
theorem D9(m:M K mg):FnOk P w K mg base CX0 1 m.m3 m.nI.d ["self","source"] (DH m.aX):=by
 refine m.nI.F.ok aG7 ?_ ?_;tm_at"g";tm_at"h";rcases h with⟨n,s',fp,ts,sp,as,rfl,hn,ok,hs',k⟩;tm_at"f";have nd:=aG7.nd;tm_at"d";have aGE:=m.cR;refine⟨_,(aB (aQ (i:=2) nd rfl (by tm_at"b") (aFq (pv 1) tJ))
  (aB (aQ (i:=3) nd rfl (by tm_at"b") (cI (aA (pv 1) aC)))
  (aB (aQ (i:=4) nd rfl (by tm_at"b") aD)
  (aB (sV cx (bC jG (pv 4) (bI c7 rfl m.hJ eZ (aA (pv 3) aC)) (bF _)) (aB (aQ (i:=5) nd rfl (by tm_at"b") (aS aW (pv 3) (pv 4) (λ_ _=>rfl)))
  (aB (c4 cx rfl (bP (aS aW (aH (pv 0) rfl) (pv 5) (λ_ _=>rfl))) (aN (i:=6) nd rfl (by tm_at"b")) (aB (aQ (i:=7) nd rfl (by tm_at"b") (aS aW (aH (pv 0) rfl) (pv 6) (λ_ _=>rfl)))
  (aE (b8 (PW.pt (EQ (bC rO (aS aW (aH (pv 0) rfl) (pv 6) (λ_ _=>rfl)) aD (bF _)) (A1 (wF (zH hu1 (pv 7) (pv 2)) (by with_unfolding_all rfl))))) (aB (jI hu1 (pv 2) (pv 7) (pv 6) rfl)
  (aE (aU (fW da dj dm cV (pv 3) (aA (pv 7) aC))))) bM))))
  (aE (W6 (i:=4) nd rfl (by tm_at"b") aD LI)))))
  (aE (aT (pv 2))))))),?_⟩
 refine aL (σ:=[some (.ref n),some (.int (s':Int)),none,none,none,none,none,none]) rfl ?_;tm_at"e";obtain⟨dx,q1,q2,q3,rs,ef,e0,e1,e2,e3,e4,e5⟩:=hn;have l0:=ok.l0;have l1:=ok.l1;have hrl:rs.length=as.length:=bx e4;tm_at"a";refine aFD λp H1 n1 S1 f1=> ?_;tm_at"a";refine aEj f1 λH2 B2 f2=> ?_;have s2:Same H H2:=λb u e=>B2 _ _ (S1 _ _ e) λz=>by rw[z,n1]at e;cases e
 tm_at"a";rename_i q H3 n3 S3 f3;have s3:=s2.trans S3;have hpq:p≠q:=λz=>by rw[←z,f2]at n3;cases n3
 have nq:H q=none:=by
  cases h:H q with
  | none=>rfl
  | some u=>rw[s2 _ _ h]at n3;cases n3
 refine xK (λmm σ' H'=>Same H H'/\∃(ws:List (Int×Nat)) (i:Nat),H' p=some (.dK (d0 (s':Int) ws))/\H' q=some (.lst (((s':Int)::ws.map (·.1)).map V.int))/\Ways ts sp (s':Int) ws/\(∀k,k<ts.length->at0 ts (xr k)∈((s':Int)::ws.map (·.1)).take i->0<at0 sp k->at0 ts k∈(s':Int)::ws.map (·.1))/\i<=((s':Int)::ws.map (·.1)).length/\mm+i=as.length+1/\∃x y z,σ'=[some (.ref n),some (.int (s':Int)),some (.ref p),some (.ref q),some (.int (i:Int)),x,y,z]) (as.length+1) ⟨s3,[],0,S3 _ _ f2,f3,Ways.nil _ _ _,(λ_ _ h=>nomatch h),fk _,rfl,_,_,_,rfl⟩ ?_;rintro mm _ H4 hq_;obtain⟨s4,ws,i,g1,g2,w,cl,hi,hmm,x1,x2,x3,rfl⟩:=hq_;have hno:=xD ok hs' w;have hle:=C8 w.nd hno;tm_at"a";refine bS (λhc=> ?_) (λhc=> ?_)
 .rw[af]at hc;obtain⟨x,hx⟩:∃x,((s':Int)::ws.map (·.1))[i]? =some x:=⟨_,ao (by lia)⟩
  rcases hno x (ba hx) with⟨u,rfl,hu⟩;obtain⟨r,hr⟩:∃r,rs[u]? =some r:=⟨_,ao (by lia)⟩
  rcases ⟨_,ao hu⟩ with⟨a,ha⟩:∃a,as[u]? =some a
  have hra:H r=some (.lst (a.map V.int)):=by have z:=Paired.at2 e4 hr ha;exact z
  have h0:=s4 _ _ e0;have h3:=s4 _ _ e3;refine E7 ?_;tm_at"a";refine FM (SqL.of g2) (show (((s':Int)::ws.map (·.1)).map V.int)[i]? =some (.int (u:Int)) by rw[bu,hx];rfl) ?_;tm_at"a";refine FM (SqL.of h3) (show (rs.map V.ref)[u]? =some (.ref r) by rw[bu,hr];rfl) ?_;have hr4:=s4 _ _ hra;tm_at"a";let Pv1:Nat->St->Hp->Prop:=λj σ' H'=>Same H H'/\(∃(ws' tl:List (Int×Nat)),ws'=ws++tl/\H' p=some (.dK (d0 (s':Int) ws'))/\H' q=some (.lst (((s':Int)::ws'.map (·.1)).map V.int))/\Ways ts sp (s':Int) ws'/\∀k:Nat,(k:Int)∈a.take j->0<at0 sp k->at0 ts k∈(s':Int)::ws'.map (·.1))/\∃y z,σ'=[some (.ref n),some (.int (s':Int)),some (.ref p),some (.ref q),some (.int (i:Int)),some (.int (u:Int)),y,z];refine dH (a.map V.int) Pv1 ⟨s4,⟨ws,[],by rw[df],g1,g2,w,λ_ h=>nomatch h⟩,_,_,rfl⟩ (λj σ' H' _ g=>g.1.seq (SqL.of hra)) ?_ ?_
  .rintro j x _ H5 hx5 hq_;obtain⟨s5,⟨ws',tl,hws,i1,i2,w',cl'⟩,y1,y2,rfl⟩:=hq_;have hno':=xD ok hs' w';have hle':=C8 w'.nd hno';obtain⟨x',hx',rfl⟩:∃x',a[j]? =some x'/\x= .int x':=by
    rw[bu]at hx5;rcases cj.mp hx5 with⟨x',h1,h2⟩;exact⟨x',h1,h2.symm⟩
   obtain⟨k',rfl,hk1,hk2⟩:=ok.inn u a ha x' (ba hx');have j0:=s5 _ _ e0;have j1:=s5 _ _ e1;have j2:=s5 _ _ e2;have hk3:k'<sp.length:=by rw[ok.eq];exact hk1
   tm_at"a";refine AC (SqL.of j1) hk1 ?_;tm_at"a";refine AC (SqL.of j2) hk3 ?_;have htk:a.take (j+1)=a.take j++[(k':Int)]:=aV hx';have hstay:(0<at0 sp k'->at0 ts k'∈(s':Int)::ws'.map (·.1))->∀k:Nat,(k:Int)∈a.take (j+1)->0<at0 sp k->at0 ts k∈(s':Int)::ws'.map (·.1):=λhk k hkm h0=>by
    rw[htk]at hkm;rcases bf.mp hkm with h|h
    .exact cl' k h h0
    .have e:k=k':=by have:=bq.mp h;lia
     subst e;exact hk h0
   tm_at"a";refine bS (λhp0=> ?_) (λhp0=> ?_)
   .tm_at"a";refine R0 (.inl i1) ?_;rw[xC];tm_at"a"
    by_cases hin:at0 ts k'∈(s':Int)::ws'.map (·.1)
    .rw[decide_eq_true hin];tm_at"a";exact⟨s5,⟨ws',tl,hws,i1,i2,w',hstay λ_=>hin⟩,_,_,rfl⟩
    .rw[decide_eq_false hin];have wl:(d0 (s':Int) ws').length<sizeLine:=by
      rw[sizeLine_eq,←af (f:=λe:Key×V=>e.1),rG,af];lia
     have ht:at0 ts (xr k')∈(s':Int)::ws'.map (·.1):=by
      rw[hk2,hws,aq];rw[←ig];exact dz _ (ba hx)
     tm_at"a";refine ZA i1 wl λH6 B6 f6=> ?_;rw[U1 _ _ _ _ hin]at f6;have s6:Same H H6:=λb v e=>B6 _ _ (s5 _ _ e) λz=>by rw[z,n1]at e;cases e
     have i26:=B6 _ _ i2 (eh hpq);tm_at"a";refine cW i26 (by rw[sizeLine_eq,af];lia) λH7 B7 f7=> ?_;have s7:Same H H7:=λb v e=>B7 _ _ (s6 _ _ e) λz=>by rw[z,nq]at e;cases e
     have w7:=w'.snoc hk3 hp0 ht hin;refine⟨s7,⟨ws'++[(at0 ts k',k')],tl++[(at0 ts k',k')],by rw[hws,cw],B7 _ _ f6 hpq,?_,w7,λk hkm h0=> ?_⟩,_,_,rfl⟩
     .rw[f7,aq,←ig,aq];rfl
     .rw[aq,←ig];rw[htk]at hkm;rcases bf.mp hkm with h|h
      .exact dz _ (cl' k h h0)
      .have e:k=k':=by have:=bq.mp h;lia
       subst e;exact be _ (.head _)
   .tm_at"a";exact⟨s5,⟨ws',tl,hws,i1,i2,w',hstay λh=>absurd h hp0⟩,_,_,rfl⟩
  .rintro _ H5 hq_;obtain⟨s5,⟨ws',tl,hws,i1,i2,w',cl'⟩,y1,y2,rfl⟩:=hq_;rw[af,cp]at cl';have hpre:((s':Int)::ws'.map (·.1)).take (i+1)=((s':Int)::ws.map (·.1)).take i++[(u:Int)]:=by
    rw[hws,aq,←ig,ja (by lia)];exact aV hx
   have hsub:∀v,v∈(s':Int)::ws.map (·.1)->v∈(s':Int)::ws'.map (·.1):=λv hv=>by
    rw[hws,aq,←ig];exact dz _ hv
   tm_at"a";refine⟨_,_,rfl,rfl,?_⟩;tm_at"a";refine⟨mm - 1,by lia,s5,ws',i+1,i1,i2,w',λk hk hm h0=> ?_,?_,by lia,_,_,_,rfl⟩
   .rw[hpre]at hm;rcases bf.mp hm with h|h
    .exact hsub _ (cl k hk h h0)
    .exact cl' k (ok.all k u a hk (bq.mp h) ha) h0
   .rw[hws,aq,←ig,ak];lia
 .tm_at"a";rw[af]at hc;rw[show i=((s':Int)::ws.map (·.1)).length by lia,cp]at cl;exact k p ws H4 n1 s4 g1 w cl
theorem tG(m:M K mg):Mc P w K mg base m.aX "ways_from" 1 (DH m.aX):=⟨_,_,_,m.cR.ic.cl,m.EL,m.nI.b,D9 m⟩
theorem SO(k:Nat):wb (k:Int) 1=((k%2:Nat):Int):=by
 unfold wb;rw[decide_eq_true (show (0:Int)<=(k:Int) by lia),decide_eq_true (show (0:Int)<=1 by lia)];show (((k:Int).toNat &&& (1:Int).toNat:Nat):Int)=_;rw[dw,show (1:Int).toNat=1 from rfl,Nat.and_one_is_mod]
theorem W2(k:Nat):sy.bitOr (k:Int) 1=((if k%2=0 then k+1 else k:Nat):Int):=by
 unfold sy.bitOr wb;rw[decide_eq_false (show ¬(0:Int)<=gf (k:Int) by unfold gf;lia),decide_eq_false (show ¬(0:Int)<=gf 1 by unfold gf;lia)];show gf (gf (((gf (gf (k:Int))).toNat ||| (gf (gf 1)).toNat:Nat):Int))=_;have e:∀z:Int,gf (gf z)=z:=λz=>by unfold gf;lia
 rw[e,e,e,dw,show (1:Int).toNat=1 from rfl];have h1:(k ||| 1)/2=k/2:=by rw[Nat.or_div_two];exact Nat.or_zero _
 have h2:(k ||| 1)%2=1:=by
  rw[Nat.or_mod_two_eq_one];exact .inr rfl
 split<;>lia
theorem EN(k:Nat):vo (k:Int) 1=((xr k:Nat):Int):=by
 unfold vo;rw[SO,W2];unfold xr
 by_cases h:k%2=0
 .rw[if_pos h,if_pos h,h];lia
 .rw[if_neg h,if_neg h];lia
inductive Ch(ts:List Int)(s:Int)(ws:List (Int×Nat)):List Nat->Prop
 | last {k:Nat}:at0 ts (xr k)=s->Ch ts s ws [k]
 | cons {k k':Nat}{p:List Nat}:(at0 ts (xr k),k')∈ws->Ch ts s ws (k'::p)->Ch ts s ws (k::k'::p)
theorem Ways.chain{sp:List Int}{s:Int}{ws:List (Int×Nat)}(x:Ways ts sp s ws):∀(i:Nat) (v:Int) (k:Nat),ws[i]? =some (v,k)->∃p,Pth ts s v (k::p)/\(k::p).Nodup/\(∀j∈k::p,0<at0 sp j/\j<sp.length/\at0 ts j∈(ws.take (i+1)).map (·.1))/\Ch ts s ws (k::p)/\p.length<=i:=by
 intro i
 induction i using qg with
 | _ i ih =>
  intro v k h;obtain⟨h1,h2,h3,h4⟩:=x.ok i v k h;have hmem:v∈(ws.take (i+1)).map (·.1):=ag.mpr ⟨(v,k),by rw[nj,h];exact be _ (.head _),rfl⟩;rcases aw.mp h4 with e|e
  .refine⟨[],.cons h1 (by rw[e];exact .nil),by simp,λj hj=> ?_,.last e,fk _⟩;rw[bq.mp hj];exact⟨h2,h3,by rw[h1];exact hmem⟩
  .obtain⟨⟨v',k'⟩,hm,e'⟩:=ag.mp e;rcases wc.mp hm with⟨i',hi',hget⟩;have hi2:i'<i:=by rw[dh]at hi';lia
   have hg:ws[i']? =some (v',k'):=by
    rw[←hget,List.getElem_take];exact ao _
   obtain⟨p,hp1,hp2,hp3,hp4,hp5⟩:=ih i' hi2 v' k' hg;have e':v'=at0 ts (xr k):=e';refine⟨k'::p,.cons h1 (by rw[←e'];exact hp1),?_,λj hj=> ?_,.cons (by rw[←e'];exact ba hg) hp4,by rw[az];lia⟩
   .rw[cn];refine⟨λhk=> ?_,hp2⟩;have h5:=(hp3 k hk).2.2;rw[h1]at h5;have hnd:(ws.map (·.1)).Nodup:=(cn.mp x.nd).2;have hsplit:ws=ws.take (i'+1)++ws.drop (i'+1):=(jj _ _).symm;have hdrop:v∈(ws.drop (i'+1)).map (·.1):=ag.mpr ⟨(v,k),by
     rw[gi];exact⟨i - (i'+1),by rw[mr,show i'+1+(i - (i'+1))=i by lia];exact h⟩,rfl⟩
    rw[hsplit,aq]at hnd;exact(gk.mp hnd).2.2 _ h5 _ hdrop rfl
   .rcases aw.mp hj with rfl|hj
    .exact⟨h2,h3,by rw[h1];exact hmem⟩
    .rcases hp3 j hj with⟨a,b,c⟩;refine⟨a,b,?_⟩;rcases ag.mp c with⟨y,hy,e⟩;refine ag.mpr ⟨y,?_,e⟩;have:ws.take (i'+1)=(ws.take (i+1)).take (i'+1):=by rw[List.take_take];congr 1;lia
     rw[this]at hy;exact List.mem_of_mem_take hy
theorem aDj(s:Int)(ws:List (Int×Nat)):bA (d0 s ws) (.inl s)=some .non:=by unfold d0;exact dN rfl
theorem L8{sp:List Int}{s:Int}{ws:List (Int×Nat)}(w:Ways ts sp s ws){v:Int}{k:Nat}(h:(v,k)∈ws):bA (d0 s ws) (.inl v)=some (.int (k:Int)):=by
 have hnd:((d0 s ws).map (·.1)).Nodup:=by
  rw[rG,oq,iq];exact xk (λhne z=>hne (oz z)) w.nd
 exact gB (e:=(mh v,V.int (k:Int))) hnd (ab _ (ag.mpr ⟨(v,k),h,rfl⟩))
inductive ED(C:Addr)(vs:List V)(H:Hp)(Q:VK)(E:XK):Prop
 | mk (n d:Addr) (s v:Int) (i k0:Nat) (ws:List (Int×Nat)) (fp:List Addr) (ts sp:List Int) (as:List (List Int)) (_:vs=[.ref n,.ref d,.int v]) (_:NetE C H n fp ts sp as) (_:NetOk ts sp as) (_:H d=some (.dK (d0 s ws))) (_:Ways ts sp s ws) (_:ws[i]? =some (v,k0)) (_:ws.length<100000) (_:∀q path H',H q=none->Same H H'->H' q=some (.lst (path.map λk:Nat=>V.int (k:Int)))->Pth ts s v path->path.Nodup->(∀j∈path,0<at0 sp j/\j<sp.length)->path≠[]->path.length<=ws.length->Q (.ref q) H'):ED C vs H Q E
theorem GU(m:M K mg):FnOk P w K mg base CX0 1 m.qV m.rB.d ["self","ways","node"] (ED m.aX):=by
 refine m.rB.F.ok aHs ?_ ?_;tm_at"g";tm_at"h";rcases h with⟨n,d,s',v,i,k0,ws,fp,ts,sp,as,rfl,hn,ok,hd,w,hi,hl,k⟩;tm_at"f";have nd:=aHs.nd;tm_at"d";have aGE:=m.cR;refine⟨_,(aB (aQ (i:=3) nd rfl (by tm_at"b") (cI aC))
  (aB (aQ (i:=4) nd rfl (by tm_at"b") (gH hu1 (pv 1) (pv 2) (λ_ _=>rfl)))
  (aB (sV cx (bC RG (pv 4) tJ (bF _)) (aB (aU (fW da dj dm cV (pv 3) (aA (pv 4) aC)))
  (aE (aQ (i:=4) nd rfl (by tm_at"b") (gH hu1 (pv 1) (aS aW (aH (pv 0) rfl) (aI VE (pv 4) aD) (λ_ _=>rfl)) (λ_ _=>rfl))))))
  (aE (aT (pv 3)))))),?_⟩
 refine aL (σ:=[some (.ref n),some (.ref d),some (.int v),none,none]) rfl ?_;tm_at"e";obtain⟨dx,q1,q2,q3,rs,ef,e0,e1,e2,e3,e4,e5⟩:=hn;obtain⟨pp,hp1,hp2,hp3,hp4,hp5⟩:=w.chain i v k0 hi;tm_at"a";rename_i q H1 n1 S1 f1;have hdq:d≠q:=λz=>by rw[←z,hd]at n1;cases n1
 have hchk:∀j∈k0::pp,0<at0 sp j/\j<sp.length:=λj hj=>⟨(hp3 j hj).1,(hp3 j hj).2.1⟩
 have hil:i<ws.length:=(ax.mp hi).1;refine DN (.inl (S1 _ _ hd)) (L8 w (ba hi)) ?_;tm_at"a";refine xK (λmm σ' H'=>Same H H'/\∃(pr rest:List Nat),H' q=some (.lst (pr.map λk:Nat=>V.int (k:Int)))/\pr++rest=k0::pp/\mm=rest.length/\((rest=[]/\σ'=[some (.ref n),some (.ref d),some (.int v),some (.ref q),some .non])∨∃k p,rest=k::p/\Ch ts s' ws (k::p)/\σ'=[some (.ref n),some (.ref d),some (.int v),some (.ref q),some (.int (k:Int))])) (pp.length+1) ⟨S1,[],k0::pp,f1,rfl,rfl,.inr ⟨k0,pp,rfl,hp4,rfl⟩⟩ ?_;rintro mm σ' H2 hq_;obtain⟨s2,pr,rest,g1,hpr,hmm,hσ⟩:=hq_;have hlen:pr.length+rest.length=pp.length+1:=by rw[←ak,hpr,az]
 rcases hσ with⟨rfl,rfl⟩|⟨k',p,rfl,hch,rfl⟩
 .tm_at"a";rw[df]at hpr;subst hpr;exact k q (k0::pp) H2 n1 s2 g1 hp1 hp2 hchk (λz=>nomatch z) (by rw[az];lia)
 .have hk':=hchk k' (by rw[←hpr];exact be _ (.head _));have hkl:xr k'<ts.length:=by
   rcases ok.len with⟨nn,hnn⟩;rw[ok.eq]at hk';rw[hnn]at hk' ⊢;exact EW hk'.2
  tm_at"a";refine E7 ?_;tm_at"a";refine cW g1 (by rw[sizeLine_eq,af];lia) λH3 B3 g3=> ?_;have s3:Same H H3:=λb u e=>B3 _ _ (s2 _ _ e) λz=>by rw[z,n1]at e;cases e
  have j0:=s3 _ _ e0;have j1:=s3 _ _ e1;tm_at"a";rw[EN];refine AC (SqL.of j1) hkl ?_;have g4:H3 q=some (.lst ((pr++[k']).map λk:Nat=>V.int (k:Int))):=by rw[g3,aq];rfl
  cases hch with
  | last he =>
   refine DN (.inl (s3 _ _ hd)) (by rw[he];exact aDj _ _) ?_;tm_at"a";exact⟨0,by rw[hmm];exact Nat.zero_lt_succ _,s3,pr++[k'],[],g4,by rw[df];exact hpr,rfl,.inl ⟨rfl,rfl⟩⟩
  | @cons _ k2 p2 hm hch2 =>
   refine DN (.inl (s3 _ _ hd)) (L8 w hm) ?_;tm_at"a";exact⟨_,by rw[hmm];exact lx _,s3,pr++[k'],k2::p2,g4,by rw[cw];exact hpr,rfl,.inr ⟨k2,p2,rfl,hch2,rfl⟩⟩
theorem GY(m:M K mg):Mc P w K mg base m.aX "path_to" 1 (ED m.aX):=⟨_,_,_,m.cR.ic.cl,m.IN,m.rB.b,GU m⟩
def aAJ(K:W.Frag):List V->Hp->VK->Prop:=λxs H Q=>∃(p:Addr) (ns:List Int),xs=[.ref p]/\SqL K H p (ns.map V.int)/\ns≠[]/\∀M,M∈ns->(∀a∈ns,M<=a)->Q (.int M) H
theorem WS(hc:X.calm=true):dQ X (.builtin "min") (aAJ X.K):=by
 intro pins s σ H xs us Q I r h;obtain⟨p,ns,rfl,hq,hne,q⟩:=h;rcases mF r with⟨u,rfl,rx⟩;cases rx;obtain⟨its,r',pl,hz⟩:=I.list hq;rcases xV r' with⟨zs,rfl,rfl⟩;have hl:s.heap.IsList p (intItems zs.toArray):=by
  have:=pl.isList
  simpa [intItems] using this
 have hpos:0<zs.length:=by
  cases zs with
  | nil=>exact absurd rfl hne
  | cons a l=>exact Nat.zero_lt_succ _
 have hn:∀j,j<zs.length->numAt zs.toArray j∈zs.map (·.1)/\True:=λj hj=>by
  refine⟨?_,trivial⟩;unfold numAt;rw[ag];refine⟨zs[j],uq _,?_⟩;simp[hj]
 refine min_intList (I.ok.hd hc) hl (by simpa using hpos) λv h' tk hv hk=> ?_;rcases intItems_at hv with⟨t,rfl⟩;rcases argBest_lt (numAt zs.toArray) (zs.toArray.size - 1) with⟨h1,h2⟩;rw[bp]at h1 h2;refine⟨.int _,H,I.kept hk,⟨t,rfl⟩,q _ ?_ λa ha=> ?_⟩
 .rw[bp];exact(hn _ (by lia)).1
 .rw[bp];rcases ag.mp ha with⟨y,hy,rfl⟩;rcases wc.mp hy with⟨j,hj,e⟩;have:=h2 j (by lia);have e2:numAt zs.toArray j=y.1:=by unfold numAt;simp[hj,e]
  rw[←e2];exact this
theorem aC0{ns:List Int}(e:SqL K H p (ns.map V.int))(hne:ns≠[])(h:∀M,M∈ns->(∀a∈ns,M<=a)->Q (.int M) H):aAJ K [.ref p] H Q:=⟨p,ns,rfl,e,hne,h⟩
theorem A8{to ti te:TE}{tget:V->V->Hp->VK->Prop}{tip:TIp}{tset:DF}{bk:St->Hp->Prop}(h:to σ H λo H1=>ti σ H1 λi H2=>tget o i H2 λx H3=>te σ H3 λy H4=>tip x y H4 λz H5=>tset o i z H5 λH6=>nx σ H6):aBd to ti te tget tip tset ⟨nx,rt,bk,ct⟩ σ H:=h
theorem VC{k:Nat}(h:k<n):ixN n (k:Int)=some k:=by
 unfold ixN;rw[if_pos (by lia),if_pos (by lia),dw]
inductive AQ(C:Addr)(vs:List V)(H:Hp)(Q:VK)(E:XK):Prop
 | mk (n q:Addr) (path:List Nat) (fp:List Addr) (ts sp:List Int) (as:List (List Int)) (_:vs=[.ref n,.ref q]) (_:NetE C H n fp ts sp as) (_:NetOk ts sp as) (_:H q=some (.lst (path.map λk:Nat=>V.int (k:Int)))) (_:q∉fp) (_:path.Nodup) (_:(∀j∈path,0<at0 sp j/\j<sp.length)) (_:path≠[]) (_:path.length<200000) (_:∀x H',0<x->(∀j∈path,x<=at0 sp j)->Frm fp H H'->NetE C H' n fp ts (dZ sp path x) as->Q (.int x) H'):AQ C vs H Q E
theorem CF(m:M K mg):FnOk P w K mg base CX0 1 m.lG m.lJ.d ["self","path"] (AQ m.aX):=by
 refine m.lJ.F.ok aG3 ?_ ?_;tm_at"g";tm_at"h";rcases h with⟨n,q,path,fp,ts,sp,as,rfl,hn,ok,hq,hqf,hnd,hpa,hpn,hpl,k⟩;tm_at"f";have nd:=aG3.nd;tm_at"d";have aGE:=m.cR;refine⟨_,(aB (aQ (i:=2) nd rfl (by tm_at"b") (bI (WS rfl) rfl m.LF E3 (aA (d7 (N:=["arc","self"]) (nl:=1) (ci:=[0]) rfl (blk (s.heap.objs.size+1) rfl rfl rfl (by kernel_rfl)) (bP (pv 1)) (λ_ _ _ _=>(aN (i:=0) (show (["arc","self"]:List Str).Nodup by decide +kernel) rfl (by tm_at"b"))) (λ_ _ _ _=>dI) (λ_ _ _ _=>(aS (D1 (K:=K)) (A3 (K:=K) (pv 1) rfl) (pv 0) (λ_ _=>rfl)))) aC)))
  (aB (c4 cx rfl (bP (pv 1)) (aN (i:=3) nd rfl (by tm_at"b")) (aB (Q6 (aH (pv 0) rfl) (pv 3) OD (pv 2) aEE tH)
  (aE (Q6 (aH (pv 0) rfl) (aI VE (pv 3) aD) OD (pv 2) LI tH))))
  (aE (aT (pv 2))))),?_⟩
 refine aL (σ:=[some (.ref n),some (.ref q),none,none]) rfl ?_;tm_at"e";obtain⟨dx,q1,q2,q3,rs,ef,e0,e1,e2,e3,e4,e5⟩:=hn;have nd':=cn.mp e5;have nd2:=cn.mp nd'.2;tm_at"a";refine lP (α:=Nat) (xs:=path) (vs:=path.map λk:Nat=>V.int (k:Int)) (λv k=>v= .int (k:Int)) (λ_=>true) (λk y _=>y= .int (at0 sp k)) (λ_ _ _ _ h _=>h) (by rw[sizeLine_eq];lia) (rest:=[some (.ref n)]) (by rfl) (SqL.of hq) ?_ (λv x H1 _ _ _ R hR=>hR _ (Same.refl _)) ?_ ?_
 .clear hq hpa hpn hpl k hnd
  induction path with
  | nil=>exact .nil
  | cons a l ih=>exact .cons rfl ih
 .rintro v k' H1 rfl hm - s1 R hR;have j0:=s1 _ _ e0;tm_at"a";refine AC (SqL.of (s1 _ _ e2)) (hpa k' hm).2 ?_;exact hR _ _ rfl (Same.refl _)
 intro ys H1 s1 hys;rw[dM]at hys;have hy:ys=(path.map (at0 sp)).map V.int:=by
  clear hq hpa hpn hpl k hnd
  induction hys with
  | nil=>rfl
  | cons h t ih=>rw[h,ih];rfl
 tm_at"a";rename_i r H2 n2 S2 f2;rw[hy]at f2;refine aC0 (SqL.of f2) (λz=>hpn (List.map_eq_nil_iff.mp z)) λx hx1 hx2=> ?_;have hxj:∀j∈path,x<=at0 sp j:=λj hj=>hx2 _ (ag.mpr ⟨j,hj,rfl⟩);have hx0:0<x:=by
  rcases ag.mp hx1 with⟨j,hj,rfl⟩;exact(hpa j hj).1
 have s2:=s1.trans S2;subst ef;have hqq2:q≠q2:=λz=>hqf (by rw[z];exact ab _ (.head _));have hn2:n≠q2:=λz=>by rw[z,e2]at e0;cases e0
 tm_at"a";let Pv1:Nat->St->Hp->Prop:=λj σ' H'=>SameBut q2 H2 H'/\H' q2=some (.lst ((dZ sp (path.take j) x).map V.int))/\∃y,σ'=[some (.ref n),some (.ref q),some (.int x),y];refine dH (path.map λk:Nat=>V.int (k:Int)) Pv1 ⟨SameBut.refl,s2 _ _ e2,_,rfl⟩ (λj σ' H' _ g=>SqL.of (g.1 _ _ (s2 _ _ hq) hqq2)) ?_ ?_
 .rintro j y _ H3 hy3 hq_;obtain⟨B3,g2,y1,rfl⟩:=hq_;obtain⟨k',hk',rfl⟩:∃k',path[j]? =some k'/\y= .int (k':Int):=by
   rw[bu]at hy3;rcases cj.mp hy3 with⟨x',h1,h2⟩;exact⟨x',h1,h2.symm⟩
  have hkl:=(hpa k' (ba hk')).2;generalize hsj:dZ sp (path.take j) x=sj at g2;have hsl:sj.length=sp.length:=by rw[←hsj,xM]
  have hxl:xr k'<sp.length:=by
   rcases ok.len with⟨nn,hnn⟩;rw[ok.eq,hnn]at hkl ⊢;exact EW hkl
  have j0:=B3 _ _ (s2 _ _ e0) hn2;have hnext:dZ sp (path.take (j+1)) x=mJ sj k' x:=by
   rw[aV hk',←hsj];unfold dZ;rw[tm];rfl
  tm_at"a";refine A8 ?_;tm_at"a";refine RM (SqL.of g2) (GC (by lia)) ?_;tm_at"a";refine⟨_,_,rfl,rfl,?_⟩;refine nY g2 (VC (by rw[af];lia)) λH4 B4 g4=> ?_;have j4:=B4 _ _ j0 hn2;have g4':H4 q2=some (.lst ((sj.set k' (at0 sj k' - x)).map V.int)):=by rw[g4,List.map_set]
  tm_at"a";refine A8 ?_;tm_at"a";rw[EN];refine RM (SqL.of g4') (GC (by rw[kh];lia)) ?_;tm_at"a";refine⟨_,_,rfl,rfl,?_⟩;refine nY g4' (VC (by rw[af,kh];lia)) λH5 B5 g5=> ?_;refine⟨λb u e hb=>B5 _ _ (B4 _ _ (B3 _ _ e hb) hb) hb,?_,_,rfl⟩;rw[g5,hnext,←List.map_set];unfold mJ;rw[HF _ _ _ _ (by lia),if_neg (SK k')]
 .rintro _ H3 hq_;obtain⟨B3,g2,y1,rfl⟩:=hq_;rw[af,cp]at g2;tm_at"a";have hk:∀b u,H b=some u->b≠q2->H3 b=some u:=λb u e hb=>B3 _ _ (s2 _ _ e) hb;refine k x H3 hx0 hxj (λb u e hb=>hk b u e λz=>hb (by rw[z];exact ab _ (.head _))) ⟨dx,q1,q2,q3,rs,rfl,hk _ _ e0 hn2,hk _ _ e1 λz=>nd'.1 (by rw[z];exact .head _),g2,hk _ _ e3 λz=>nd2.1 (by rw[←z];exact .head _),?_,e5⟩;exact eR e4 λb c hb h=>hk _ _ h λz=>nd2.1 (by rw[←z];exact ab _ hb)
theorem CB(m:M K mg):Mc P w K mg base m.aX "send_along" 1 (AQ m.aX):=⟨_,_,_,m.cR.ic.cl,m.CP,m.lJ.b,CF m⟩
def pD(ts sp:List Int)(v:Int):Nat->Int
 | 0=>0
 | n+1=>pD ts sp v n+if at0 ts (2 * n)=v then at0 sp (2 * n)+at0 sp (2 * n+1) else 0
theorem xR{ts sp:List Int}{v:Int}(h0:∀m,0<=at0 sp m):∀n,c6 ts sp v n<=pD ts sp v n
 | 0=>fe _
 | n+1=>by
  show c6 ts sp v n+_<=pD ts sp v n+_;have ih:=xR (ts:=ts) (v:=v) h0 n;have a0:=h0 (2 * n);have a1:=h0 (2 * n+1)
  split<;>split<;>lia
theorem C1{sp:List Int}{v:Int}(h:∀m,at0 sp' m+at0 sp' (xr m)=at0 sp m+at0 sp (xr m)):∀n,pD ts sp' v n=pD ts sp v n
 | 0=>rfl
 | n+1=>by
  show pD ts sp' v n+_=pD ts sp v n+_;have h1:=h (2 * n);rw[show xr (2 * n)=2 * n+1 by unfold xr;rw[if_pos (by lia)]]at h1;rw[C1 h n,h1]
structure Sent(ts sp sp':List Int)(n:Nat)(s t x:Int):Prop where
 len:sp'.length=sp.length
 nn:∀m,0<=at0 sp' m
 cap:∀m,at0 sp' m+at0 sp' (xr m)=at0 sp m+at0 sp (xr m)
 exc:∀v,c6 ts sp' v n=c6 ts sp v n+((if t=v then x else 0) - if s=v then x else 0)
 x0:0<=x
theorem Sent.refl{sp:List Int}{s t:Int}(h0:∀m,0<=at0 sp m):Sent ts sp sp n s t 0:=⟨rfl,h0,λ_=>rfl,λv=>by split<;>split<;>lia,fe _⟩
theorem Sent.more{sp:List Int}{s t x y:Int}(a:Sent ts sp sp' n s t x)(hl:sp.length=2 * n){p:List Nat}(hp:Pth ts s t p)(hnd:p.Nodup)(hj:∀j∈p,0<at0 sp' j/\j<sp'.length)(hy0:0<y)(hy:∀j∈p,y<=at0 sp' j):Sent ts sp (dZ sp' p y) n s t (x+y):=by
 have hl':sp'.length=2 * n:=by rw[a.len,hl]
 have hk:∀k∈p,k<2 * n:=λk hk=>by rw[←hl'];exact(hj k hk).2
 refine⟨by rw[xM];exact a.len,UU hl' hk hnd (by lia) hy a.nn,λm=>by rw[SW hl' hk];exact a.cap m,λv=> ?_,by have:=a.x0;lia⟩;rw[FD y v hp hl' hk,a.exc]
 split<;>split<;>lia
theorem NetOk.sp{sp:List Int}(x:NetOk ts sp as)(h:sp'.length=sp.length):NetOk ts sp' as:=⟨x.len,by rw[h];exact x.eq,x.nd,x.inn,x.all,x.l0,x.l1⟩
def ML(ts sp:List Int)(s t:Int)(rs:List Int):Prop:=rs.Nodup/\s∈rs/\t∉rs/\∀k,k<ts.length->at0 ts (xr k)∈rs->at0 ts k∉rs->at0 sp k<=0
theorem yO{n:Addr}{fp:List Addr}{sp:List Int}(x:NetE C H n fp ts sp as)(hb:b∈fp):H b≠none:=by
 obtain⟨dx,q1,q2,q3,rs,ef,e0,e1,e2,e3,e4,e5⟩:=x;subst ef;intro z;rcases aw.mp hb with rfl|hb
 .rw[e1]at z;cases z
 .rcases aw.mp hb with rfl|hb
  .rw[e2]at z;cases z
  .rcases aw.mp hb with rfl|hb
   .rw[e3]at z;cases z
   .rcases gT e4 hb with⟨a,_,ha⟩;rw[z]at ha;cases ha
inductive BG(C:Addr)(vs:List V)(H:Hp)(Q:VK)(E:XK):Prop
 | mk (n:Addr) (s t nn:Nat) (fp:List Addr) (ts sp:List Int) (as:List (List Int)) (_:vs=[.ref n,.int (s:Int),.int (t:Int)]) (_:NetE C H n fp ts sp as) (_:NetOk ts sp as) (_:s<as.length) (_:s≠t) (_:ts.length=2 * nn) (_:(∀m,0<=at0 sp m)) (_:∀x sp' rs H',Frm fp H H'->NetE C H' n fp ts sp' as->Sent ts sp sp' nn (s:Int) (t:Int) x->ML ts sp' (s:Int) (t:Int) rs->Q (.int x) H'):BG C vs H Q E
theorem FT(m:M K mg):FnOk P w K mg base CX0 2 m.oY m.o0.d ["self","source","sink"] (BG m.aX):=by
 refine m.o0.F.ok aHj ?_ ?_;tm_at"g";tm_at"h";rcases h with⟨n,s',t',nn,fp,ts,sp,as,rfl,hn,ok,hs',hst,hnn,h0,k⟩;tm_at"f";have nd:=aHj.nd;tm_at"d";have aGE:=m.cR;refine⟨_,(aB (aQ (i:=3) nd rfl (by tm_at"b") aD)
  (aB (aQ (i:=4) nd rfl (by tm_at"b") (cP 1 hr (pv 0) (aA (pv 1) aC)))
  (aB (sV cx (wF (OB hu1 (pv 2) (pv 4)) (by with_unfolding_all rfl)) (aB (W6 (i:=3) nd rfl (by tm_at"b") (cP 1 hr (pv 0) (aA (cP 1 hr (pv 0) (aA (pv 4) (aA (pv 2) aC))) aC)) LI)
  (aE (aQ (i:=4) nd rfl (by tm_at"b") (cP 1 hr (pv 0) (aA (pv 1) aC))))))
  (aE (aT (pv 3)))))),?_⟩
 refine aL (σ:=[some (.ref n),some (.int (s':Int)),some (.int (t':Int)),none,none]) rfl ?_;tm_at"e";obtain⟨dx,q1,q2,q3,rs,ef,e0,e1,e2,e3,e4,e5⟩:=id hn;have M1:= @tG P w K mg base m;have M2:= @GY P w K mg base m;have M3:= @CB P w K mg base m;have l0:=ok.l0;have l1:=ok.l1;tm_at"a";refine⟨n,s',fp,ts,sp,as,rfl,hn,ok,hs',λd ws H1 n1 S1 f1 w c1=> ?_⟩;tm_at"a";refine xK (λmm σ' H'=>∃(x:Int) (sp':List Int) (d:Addr) (ws:List (Int×Nat)),Frm fp H H'/\NetE m.aX H' n fp ts sp' as/\Sent ts sp sp' nn (s':Int) (t':Int) x/\d∉fp/\H' d=some (.dK (d0 (s':Int) ws))/\Ways ts sp' (s':Int) ws/\(∀k,k<ts.length->at0 ts (xr k)∈(s':Int)::ws.map (·.1)->0<at0 sp' k->at0 ts k∈(s':Int)::ws.map (·.1))/\(mm:Int)=pD ts sp (t':Int) nn - c6 ts sp' (t':Int) nn/\σ'=[some (.ref n),some (.int (s':Int)),some (.int (t':Int)),some (.int x),some (.ref d)]) (pD ts sp (t':Int) nn - c6 ts sp (t':Int) nn).toNat ⟨0,sp,d,ws,Frm.same S1,hn.same S1,Sent.refl h0,?_,f1,w,c1,?_,rfl⟩ ?_
 .exact λz=>(yO hn z) n1
 .have:=xR (ts:=ts) (v:=(t':Int)) h0 nn
  lia
 rintro mm _ H2 hq_;obtain⟨x,sp',d',ws',fr2,hn2,sent,hdf,g1,w',c2,hmm,rfl⟩:=hq_;have ok':=ok.sp sent.len;obtain⟨dx2,r1,r2,r3,rr,ef2,y0,y1,y2,y3,y4,y5⟩:=id hn2;tm_at"a";refine Q2 (.inl g1) ?_;rw[xC];tm_at"a";refine bS (λhin=> ?_) (λhin=> ?_)
 .obtain⟨⟨v0,k0⟩,hm0,hv0⟩:=ag.mp ((aw.mp hin).resolve_left λz=>hst (by lia));have hv0:v0=(t':Int):=hv0;subst hv0;rcases gi.mp hm0 with⟨i,hi⟩;have hwl:ws'.length<100000:=by
   have h:=C8 w'.nd (xD ok' hs' w');rw[az,af]at h
   lia
  have hl2:sp.length=2 * nn:=by rw[ok.eq,hnn]
  refine E7 ?_;tm_at"a";refine⟨n,d',(s':Int),(t':Int),i,k0,ws',fp,ts,sp',as,rfl,hn2,ok',g1,w',hi,hwl,λq path H3 n3 S3 f3 hP hN hA hne hpl=> ?_⟩;have hn3:=hn2.same S3;have z0:=S3 _ _ y0;tm_at"a";refine⟨n,q,path,fp,ts,sp',as,rfl,hn3,ok',f3,λz=>(yO hn2 z) n3,hN,hA,hne,by lia,λy H4 hy0 hyj fr4 hn4=> ?_⟩;have hmore:=sent.more hl2 hP hN hA hy0 hyj;have ok4:=ok.sp hmore.len;obtain⟨dx4,b1,b2,b3,br,ef4,z1,_⟩:=id hn4;tm_at"a";refine⟨_,_,rfl,rfl,?_⟩;tm_at"a";refine⟨n,s',fp,ts,dZ sp' path y,as,rfl,hn4,ok4,hs',λd5 ws5 H5 n5 S5 f5 w5 c5=> ?_⟩;tm_at"a";have he:=hmore.exc (t':Int);have he0:=sent.exc (t':Int);rw[if_pos rfl,if_neg (by lia)]at he he0;have hc:=xR (ts:=ts) (v:=(t':Int)) hmore.nn nn;rw[C1 hmore.cap]at hc;exact⟨(pD ts sp (t':Int) nn - c6 ts (dZ sp' path y) (t':Int) nn).toNat,by lia,x+y,_,d5,ws5,(fr2.trans (Frm.same S3) λz hz=> .inl hz).trans (fr4.trans (Frm.same S5) λz hz=> .inl hz) λz hz=> .inl hz,hn4.same S5,hmore,λz=>(yO hn4 z) n5,f5,w5,c5,by lia,rfl⟩
 .tm_at"a";refine k x sp' ((s':Int)::ws'.map (·.1)) H2 fr2 hn2 sent ⟨w'.nd,.head _,hin,λk hk h1 h2=> ?_⟩;rcases Int.lt_or_le 0 (at0 sp' k) with h|h
  .exact absurd (c2 k hk h1 h) h2
  .exact h
theorem uQ(m:M K mg):Mc P w K mg base m.aX "send_all" 2 (BG m.aX):=⟨_,_,_,m.cR.ic.cl,m.F8,m.o0.b,FT m⟩
inductive xE(K:W.Frag)(vs:List V)(H:Hp)(Q:VK)(E:XK):Prop
 | mk (p C dx:Addr) (_:vs=[.ref p]) (_:DCls K C) (_:H p=some (.ins C dx [])) (_:∀fp H',SameBut p H H'->(∀b∈fp,H b=none)->NetE C H' p fp [] [] []->Q .non H'):xE K vs H Q E
theorem E9(m:M K mg):FnOk P w K mg base CX0 1 m.oW m.oZ.d ["self"] (xE K):=by
 refine m.oZ.F.ok aHh ?_ ?_;tm_at"g";tm_at"h";rcases h with⟨p,C,dx,rfl,dc,hp,k⟩;tm_at"f";have nd:=aHh.nd;tm_at"d";refine⟨_,(aB (bU (pv 0) (cI aC) rfl)
  (aB (bU (pv 0) (cI aC) rfl)
  (aE (bU (pv 0) (cI aC) rfl)))),?_⟩
 refine aL (σ:=[some (.ref p)]) rfl ?_;tm_at"e";tm_at"a";rename_i a1 H1 n1 S1 f1 H2 B2 f2 a2 H3 n3 S3 f3 H4 B4 f4 a3 H5 n5 S5 f5 H6 B6 f6;have h1:a1≠p:=λz=>by rw[z,hp]at n1;cases n1
 have g1:=B2 _ _ f1 h1;have h2:a2≠p:=λz=>by rw[z,f2]at n3;cases n3
 have h21:a1≠a2:=λz=>by rw[←z,g1]at n3;cases n3
 have i1:=B4 _ _ (S3 _ _ g1) h1;have i2:=B4 _ _ f3 h2;have h3:a3≠p:=λz=>by rw[z,f4]at n5;cases n5
 have h31:a1≠a3:=λz=>by rw[←z,i1]at n5;cases n5
 have h32:a2≠a3:=λz=>by rw[←z,i2]at n5;cases n5
 have keep:∀b u,H b=some u->b≠p->H6 b=some u:=λb u e hb=>B6 _ _ (S5 _ _ (B4 _ _ (S3 _ _ (B2 _ _ (S1 _ _ e) hb)) hb)) hb;have nn:∀b,H3 b=none∨H2 b=none∨H4 b=none∨H b=none->b≠p->H b=none:=λb hb hbp=>by
  cases e:H b with
  | none=>rfl
  | some u =>
   have k2:=B2 _ _ (S1 _ _ e) hbp;have k4:=B4 _ _ (S3 _ _ k2) hbp;rcases hb with z|z|z|z
   .rw[S3 _ _ k2]at z;cases z
   .rw[k2]at z;cases z
   .rw[k4]at z;cases z
   .rw[e]at z;cases z
 refine k [a1,a2,a3] H6 keep (λb hb=> ?_) ⟨dx,a1,a2,a3,[],rfl,f6,B6 _ _ (S5 _ _ i1) h1,B6 _ _ (S5 _ _ i2) h2,B6 _ _ f5 h3,.nil,?_⟩
 .simp only[aw,fz,or_false]at hb;rcases hb with rfl|rfl|rfl
  .exact n1
  .exact nn _ (.inr (.inl n3)) h2
  .exact nn _ (.inr (.inr (.inl n5))) h3
 .simp[h21,h31,h32]
theorem YK(m:M K mg):Kc P w K mg base "Net" m.aX 1 [] (xE K):=⟨_,_,_,_,m.aGa,m.aFi,.nil,m.oZ.b,E9 m⟩
abbrev UH(h a1 a2 n a3 a4:Addr)(u pl:Int):List (Str×V):=bO "plenty" (.int pl) (bO "door_arcs" (.ref a4) (bO "pair_nodes" (.ref a3) (bO "source" (.int 0) (bO "net" (.ref n) (bO "cuts" (.ref a2) (bO "outs" (.ref a1) (bO "turn" (.int u) (bO "house" (.ref h) []))))))))
structure HNAt where
 dx:Addr
 h:Addr
 a1:Addr
 a2:Addr
 n:Addr
 a3:Addr
 a4:Addr
 np:List Addr
def HNAt.fp(x:HNAt)(hn:Addr):List Addr:=hn::x.a1::x.a2::x.a3::x.a4::x.np
inductive HNE(CN CH:Addr)(H:Hp)(hn:Addr)(x:HNAt)(u pl:Int)(outs:List Int)(cv:List V)(pk dk:List (List Key×V))(ts sp:List Int)(as:List (List Int)):Prop
 | mk (_:H hn=some (.ins CH x.dx (UH x.h x.a1 x.a2 x.n x.a3 x.a4 u pl))) (_:H x.a1=some (.lst (outs.map V.int))) (_:H x.a2=some (.lst cv)) (_:H x.a3=some (.dT pk)) (_:H x.a4=some (.dT dk)) (_:NetE CN H x.n x.np ts sp as) (_:x.a3≠x.a4) (_:x.a1≠x.a2) (_:x.a1∉x.np) (_:x.a2∉x.np) (_:x.n≠hn):HNE CN CH H hn x u pl outs cv pk dk ts sp as
theorem HNE.same{x:HNAt}{u:Int}{sp:List Int}(h:HNE CN CH H hn x u pl outs cv pk dk ts sp as)(s:Same H H'):HNE CN CH H' hn x u pl outs cv pk dk ts sp as:=by
 obtain⟨e0,e1,e2,e3,e4,e5,d1,d2,d3,d4,d5⟩:=h;exact⟨s _ _ e0,s _ _ e1,s _ _ e2,s _ _ e3,s _ _ e4,e5.same s,d1,d2,d3,d4,d5⟩
theorem BD{n:Addr}{fp:List Addr}{sp:List Int}(x:NetE C H n fp ts sp as)(hb:b∈fp):∃xs,H b=some (.lst xs):=by
 obtain⟨dx,q1,q2,q3,rs,ef,e0,e1,e2,e3,e4,e5⟩:=x;subst ef;rcases aw.mp hb with rfl|hb
 .exact⟨_,e1⟩
 .rcases aw.mp hb with rfl|hb
  .exact⟨_,e2⟩
  .rcases aw.mp hb with rfl|hb
   .exact⟨_,e3⟩
   .rcases gT e4 hb with⟨a,_,ha⟩;exact⟨_,ha⟩
theorem HNE.net{x:HNAt}{u:Int}{sp:List Int}(h:HNE CN CH H hn x u pl outs cv pk dk ts sp as)(f:Frm x.np H H')(ne:NetE CN H' x.n x.np ts' sp' as'):HNE CN CH H' hn x u pl outs cv pk dk ts' sp' as':=by
 obtain⟨e0,e1,e2,e3,e4,e5,d1,d2,d3,d4,d5⟩:=h;have k:∀b u,H b=some u->(∀xs,u≠ .lst xs)->b∉x.np:=λb u e hu z=>by
  rcases BD e5 z with⟨xs,hx⟩;rw[hx]at e;exact hu xs (dq e).symm
 exact⟨f _ _ e0 (k _ _ e0 λ_ z=>nomatch z),f _ _ e1 d3,f _ _ e2 d4,f _ _ e3 (k _ _ e3 λ_ z=>nomatch z),f _ _ e4 (k _ _ e4 λ_ z=>nomatch z),ne,d1,d2,d3,d4,d5⟩
theorem HNE.net2{x:HNAt}{np':List Addr}{u:Int}{sp:List Int}(h:HNE CN CH H hn x u pl outs cv pk dk ts sp as)(f:Frm x.np H H')(hn':∀b∈np',b∈x.np∨H b=none)(ne:NetE CN H' x.n np' ts' sp' as'):HNE CN CH H' hn { x with np:=np' } u pl outs cv pk dk ts' sp' as':=by
 obtain⟨e0,e1,e2,e3,e4,e5,d1,d2,d3,d4,d5⟩:=h;have k:∀b u,H b=some u->(∀xs,u≠ .lst xs)->b∉x.np:=λb u e hu z=>by
  rcases BD e5 z with⟨xs,hx⟩;rw[hx]at e;exact hu xs (dq e).symm
 have k2:∀b u,H b=some u->b∉x.np->b∉np':=λb u e hb z=>by
  rcases hn' b z with h|h
  .exact hb h
  .rw[e]at h;cases h
 exact⟨f _ _ e0 (k _ _ e0 λ_ z=>nomatch z),f _ _ e1 d3,f _ _ e2 d4,f _ _ e3 (k _ _ e3 λ_ z=>nomatch z),f _ _ e4 (k _ _ e4 λ_ z=>nomatch z),ne,d1,d2,k2 _ _ e1 d3,k2 _ _ e2 d4,d5⟩
inductive BV(CN CH:Addr)(vs:List V)(H:Hp)(Q:VK)(E:XK):Prop
 | mk (hn:Addr) (z:Str) (v:Int) (x:HNAt) (u pl:Int) (outs:List Int) (cv:List V) (pk dk:List (List Key×V)) (ts sp:List Int) (as:List (List Int)) (_:vs=[.ref hn,.str z]) (_:HNE CN CH H hn x u pl outs cv pk dk ts sp as) (_:bA pk [.inr z,.inl u]=some (.int v)) (_:∀H',Same H H'->Q (.int v) H'):BV CN CH vs H Q E
theorem zR(m:M K mg):FnOk P w K mg base CX0 1 m.kG m.j8.d ["self","room"] (BV m.aX m.aP):=by
 refine m.j8.F.ok aGU ?_ ?_;tm_at"g";tm_at"h";rcases h with⟨hn,z,v,x,u,pl,outs,cv,pk,dk,ts,sp,as,rfl,hh,hv,k⟩;tm_at"f";have nd:=aGU.nd;tm_at"d";have aGD:=m.bN;refine⟨_,(aE (aT (gH hu1 (aH (pv 0) rfl) (cY (aA (pv 1) (aA (aH (pv 0) rfl) aC))) (λ_ _=>rfl)))),?_⟩;refine aL (σ:=[some (.ref hn),some (.str z)]) rfl ?_;tm_at"e";obtain⟨e0,e1,e2,e3,e4,e5,d1,d2,d3,d4,d5⟩:=hh;tm_at"a";rename_i q H1 n1 S1 f1;exact YG [.inr z,.inl u] (.inl (S1 _ _ e3)) f1 hv (k _ S1)
theorem iV(m:M K mg):Mc P w K mg base m.aP "now_in" 1 (BV m.aX m.aP):=⟨_,_,_,m.bN.ic.cl,m.AZ,m.j8.b,zR m⟩
inductive A4(CN CH CHo:Addr)(D:bH)(vs:List V)(H:Hp)(Q:VK)(E:XK):Prop
 | mk (hn:Addr) (dv:V) (d:aF) (tn sn:Nat) (f l:Int) (rz ps:List (Str×Int)) (ds:List aF) (H0:Hp) (x:HNAt) (u pl:Int) (outs:List Int) (cv:List V) (pk dk:List (List Key×V)) (ts sp:List Int) (as:List (List Int)) (_:vs=[.ref hn,dv,.int (tn:Int)]) (_:HNE CN CH H hn x u pl outs cv pk dk ts sp as) (_:bW CHo D H0 x.h f l rz ps ds) (_:Same H0 H) (_:(∀b∈x.fp hn,H0 b=none)) (_:(ds.map (·.1)).Nodup) (_:d∈ds) (_:D.at' H dv d) (_:f<=u) (_:u<l) (_:0<=f) (_:bA pk [.inr d.2.1,.inl u]=some (.int (sn:Int))) (_:sn<as.length) (_:tn<as.length) (_:ts.length<90000) (_:sp.length<90000) (_:(∀a∈as,a.length<90000)) (_:dk.length<90000) (_:∀H',Frm (x.fp hn) H H'->HNE CN CH H' hn x u pl outs cv pk (cJ dk [.inl u,.inr d.1] (.int (ts.length:Int))) (ts++[(tn:Int),(sn:Int)]) (sp++[bX f l d u,0]) (fM (fM as sn (ts.length:Int)) tn ((ts.length:Int)+1))->Q .non H'):A4 CN CH CHo D vs H Q E
theorem yB(m:M K mg):FnOk P w K mg base CX0 9 m.iO m.iL.d ["self","door","target"] (A4 m.aX m.aP m.aO (aJ P w K mg base (some 5))):=by
 refine m.iL.F.ok aGP ?_ ?_;tm_at"g";tm_at"h";rcases h with⟨hn,dv,d,tn,sn,f,l,rz,ps,ds,H0,x,u,pl,outs,cv,pk,dk,ts,sp,as,rfl,hh,ho,hS,hfr,ndd,hd,hdv,hu0',hu1',hf0,hpv,hsn,htn,hl1,hl2,hl3,hl4,k⟩;tm_at"f";have nd:=aGP.nd;tm_at"d";have aGD:=m.bN;refine⟨_,(aB (aQ (i:=3) nd rfl (by tm_at"b") (cP 7 hr (aH (pv 0) rfl) (aA (aH (pv 1) rfl) (aA (aH (pv 0) rfl) aC))))
  (aE (jI hu1 (aH (pv 0) rfl) (cY (aA (aH (pv 0) rfl) (aA (aH (pv 1) rfl) aC))) (cP 1 hr (aH (pv 0) rfl) (aA (cP 1 hr (pv 0) (aA (aH (pv 1) rfl) aC)) (aA (pv 2) (aA (pv 3) aC)))) rfl))),?_⟩
 refine aL (σ:=[some (.ref hn),some (dv),some (.int (tn:Int)),none]) rfl ?_;tm_at"e";obtain⟨e0,e1,e2,e3,e4,e5,d1,d2,d3,d4,d5⟩:=hh;obtain⟨dn,dst,de,dlt⟩:=d;obtain⟨q,C9,dx',fs,fp,rfl,hq,dcC,l1,l2,l3,l4,l5,mcE,hfp,hlt⟩:=DoorAt.ex hdv;have M1:= @J7 P w K mg base m;have M2:= @iV P w K mg base m;have M3:= @gD P w K mg base m;have hqH:=hq;obtain⟨hdx,hqs,hqp,hqd,hnk,hkvs,ho1,_⟩:=ho.ex;have ho1H:=hS _ _ ho1;obtain⟨ndx,n1',n2',n3',nrs,nef,ne0,_⟩:=id e5;have hh:HNE m.aX m.aP H hn x u pl outs cv pk dk ts sp as:=⟨e0,e1,e2,e3,e4,e5,d1,d2,d3,d4,d5⟩
 tm_at"a";refine aBN (d:=(dn,dst,de,dlt)) (MS ho hS) ndd hd hf0 λH1 S1=> ?_;have g0:=S1 _ _ e0;have gq:=S1 _ _ hqH;have gn:=S1 _ _ ne0;tm_at"a";refine⟨hn,dst,(sn:Int),x,u,pl,outs,cv,pk,dk,ts,sp,as,rfl,hh.same S1,hpv,λH2 S2=> ?_⟩;have s2:=S1.trans S2;have hh2:=hh.same s2;tm_at"a";refine⟨x.n,sn,tn,bX f l (dn,dst,de,dlt) u,x.np,ts,sp,as,rfl,e5.same s2,hsn,htn,by lia,by lia,λa ha=>by have:=hl3 a ha;lia,λH3 fr3 ne3=> ?_⟩;have hh3:=hh2.net fr3 ne3;obtain⟨i0,i1,i2,i3,i4,i5,_⟩:=id hh3;have hq3:H3 q=some (.ins C9 dx' fs):=fr3 _ _ (S2 _ _ gq) λz=>by
  rcases BD (e5.same s2) z with⟨xs,hx⟩;rw[S2 _ _ gq]at hx;cases hx
 tm_at"a";rename_i r H4 n4 S4 f4;refine xY [.inl u,.inr dn] (S4 _ _ i4) f4 (by rw[sizeLine_eq];lia) λH5 B5 f5=> ?_;have hb:∀b v,H3 b=some v->b≠x.a4->H5 b=some v:=λb v e hb=>B5 _ _ (S4 _ _ e) hb;have nl:∀b xs,H3 b=some (.lst xs)->b≠x.a4:=λb xs e z=>by rw[z,i4]at e;cases e
 refine k H5 (λb v e hbf=> ?_) ⟨hb _ _ i0 (λz=>by rw[z,i4]at i0;cases i0),hb _ _ i1 (nl _ _ i1),hb _ _ i2 (nl _ _ i2),hb _ _ i3 d1,f5,?_,d1,d2,d3,d4,d5⟩
 .have h4:b≠x.a4:=λz=>hbf (by unfold HNAt.fp;rw[z];exact ab _ (ab _ (ab _ (ab _ (.head _)))));refine hb _ _ (fr3 _ _ (s2 _ _ e) λz=>hbf ?_) h4;unfold HNAt.fp;exact ab _ (ab _ (ab _ (ab _ (ab _ z))))
 .obtain⟨c0,c1,c2,c3,crs,cef,y0,y1,y2,y3,y4,y5⟩:=ne3;exact⟨c0,c1,c2,c3,crs,cef,hb _ _ y0 (λz=>by rw[z,i4]at y0;cases y0),hb _ _ y1 (nl _ _ y1),hb _ _ y2 (nl _ _ y2),hb _ _ y3 (nl _ _ y3),eR y4 λb c _ h=>hb _ _ h (nl _ _ h),y5⟩
theorem mM(m:M K mg):Mc P w K mg base m.aP "add_door" 9 (A4 m.aX m.aP m.aO (aJ P w K mg base (some 5))):=⟨_,_,_,m.bN.ic.cl,m.yW,m.iL.b,yB m⟩
theorem kT{a b:List Int}{k:Nat}(h:k<a.length):at0 (a++b) k=at0 a k:=by
 unfold at0;rw[bj,bj,fq h]
theorem lV{a b:List Int}{k:Nat}(h:a.length<=k):at0 (a++b) k=at0 b (k - a.length):=by
 unfold at0;rw[bj,bj,fg h]
theorem aCm{a:List Int}{k:Nat}(h:a.length<=k):at0 a k=0:=by
 unfold at0;rw[bj,vk h];rfl
theorem aBX{sp:List Int}(ht:ts.length=2 * n)(hs:sp.length=2 * n)(a b c v:Int):c6 (ts++[a,b]) (sp++[c,0]) v (n+1)=c6 ts sp v n:=by
 show c6 (ts++[a,b]) (sp++[c,0]) v n+_=_;have e:at0 (sp++[c,0]) (2 * n+1)=0:=by rw[lV (by lia),show 2 * n+1 - sp.length=1 by lia];rfl
 rw[e,FS (ts':=ts) (sp':=sp) n λm hm=>⟨kT (by lia),kT (by lia),kT (by lia)⟩]
 split<;>split<;>lia
theorem aE1{sp:List Int}(h:∀m,0<=at0 sp m){c:Int}(hc:0<=c)(m:Nat):0<=at0 (sp++[c,0]) m:=by
 by_cases h1:m<sp.length
 .rw[kT h1];exact h m
 .rw[lV (by lia)]
  match hk:m - sp.length with
  | 0=>exact hc
  | 1=>exact fe _
  | k+2=>exact fe _
theorem GJ(as:List (List Int))(i j:Nat)(x:Int):(fM as i x)[j]? =if i=j then (as[j]?).map (·++[x]) else as[j]? :=by
 unfold fM;rw[wa]
 by_cases h:i=j
 .rw[if_pos h];cases as[j]? with
  | none=>rfl
  | some a=>show some (if i=j then a++[x] else a)=some (a++[x]);rw[if_pos h]
 .rw[if_neg h];cases as[j]? with
  | none=>rfl
  | some a=>show some (if i=j then a++[x] else a)=some a;rw[if_neg h]
theorem NetOk.node{sp:List Int}(x:NetOk ts sp as)(h:as.length+1<100000):NetOk ts sp (as++[[]]):=by
 refine⟨x.len,x.eq,λk hk=> ?_,λu a ha y hy=> ?_,λk u a hk hu ha=> ?_,by rw[ak];exact h,x.l1⟩
 .rcases x.nd k hk with⟨v,h1,h2⟩;exact⟨v,h1,by rw[ak];lia⟩
 .by_cases hl:u<as.length
  .rw[fq hl]at ha;exact x.inn u a ha y hy
  .rw[fg (by lia)]at ha;have:a=[]:=by
    cases hk:u - as.length with
    | zero=>rw[hk]at ha;exact(dq ha).symm
    | succ m=>rw[hk]at ha;simp at ha
   rw[this]at hy;exact nomatch hy
 .by_cases hl:u<as.length
  .rw[fq hl]at ha;exact x.all k u a hk hu ha
  .rcases x.len with⟨n,hn⟩;obtain⟨v,h1,h2⟩:=x.nd (xr k) (by rw[hn]at hk ⊢;exact EW hk);rw[hu]at h1
   lia
theorem NetOk.arc{sp:List Int}(x:NetOk ts sp as){s t:Nat}(hs:s<as.length)(ht:t<as.length)(hl:ts.length+2<100000)(c:Int):NetOk (ts++[(t:Int),(s:Int)]) (sp++[c,0]) (fM (fM as s (ts.length:Int)) t ((ts.length:Int)+1)):=by
 rcases x.len with⟨n,hn⟩;have h0:at0 (ts++[(t:Int),(s:Int)]) (2 * n)=(t:Int):=by rw[lV (by lia),show 2 * n - ts.length=0 by lia];rfl
 have h1:at0 (ts++[(t:Int),(s:Int)]) (2 * n+1)=(s:Int):=by rw[lV (by lia),show 2 * n+1 - ts.length=1 by lia];rfl
 have x0:xr (2 * n)=2 * n+1:=by unfold xr;rw[if_pos (by lia)]
 have x1:xr (2 * n+1)=2 * n:=by unfold xr;rw[if_neg (by lia)];lia
 have hlen:(ts++[(t:Int),(s:Int)]).length=2 * (n+1):=by rw[ak];show ts.length+2=_;lia
 have hold:∀k,k<ts.length->at0 (ts++[(t:Int),(s:Int)]) k=at0 ts k:=λk hk=>kT hk;have hxo:∀k,k<ts.length->at0 (ts++[(t:Int),(s:Int)]) (xr k)=at0 ts (xr k):=λk hk=>hold _ (by rw[hn]at hk ⊢;exact EW hk);have hget:∀u,(fM (fM as s (ts.length:Int)) t ((ts.length:Int)+1))[u]? =(as[u]?).map λa=>(a++if s=u then [(ts.length:Int)] else [])++if t=u then [(ts.length:Int)+1] else []:=λu=>by
  rw[GJ,GJ];cases as[u]? with
  | none=>split<;>split<;>rfl
  | some a =>
   by_cases h2:t=u
   .by_cases h3:s=u
    .simp[h2,h3]
    .simp[h2,h3]
   .by_cases h3:s=u
    .simp[h2,h3]
    .simp[h2,h3]
 have hpl:(fM (fM as s (ts.length:Int)) t ((ts.length:Int)+1)).length=as.length:=by rw[sP,sP]
 refine⟨⟨n+1,hlen⟩,by rw[ak,ak,x.eq];rfl,λk hk=> ?_,λu a ha y hy=> ?_,λk u a hk hu ha=> ?_,by rw[hpl];exact x.l0,by rw[hlen];lia⟩
 .rw[hpl]
  by_cases hk':k<ts.length
  .rw[hold k hk'];exact x.nd k hk'
  .rw[hlen]at hk
   by_cases e:k=2 * n
   .rw[e,h0];exact⟨t,rfl,ht⟩
   .rw[show k=2 * n+1 by lia,h1];exact⟨s,rfl,hs⟩
 .rw[hget]at ha;rcases cj.mp ha with⟨b,hb,rfl⟩;rcases bf.mp hy with hy|hy
  .rcases bf.mp hy with hy|hy
   .obtain⟨k,rfl,hk,hx⟩:=x.inn u b hb y hy;exact⟨k,rfl,by rw[ak];lia,by rw[hxo k hk];exact hx⟩
   .by_cases h3:s=u
    .rw[if_pos h3]at hy;refine⟨2 * n,by have:=bq.mp hy;lia,by rw[hlen];lia,?_⟩;rw[x0,h1,h3]
    .rw[if_neg h3]at hy;exact nomatch hy
  .by_cases h2:t=u
   .rw[if_pos h2]at hy;refine⟨2 * n+1,by have:=bq.mp hy;lia,by rw[hlen];lia,?_⟩;rw[x1,h0,h2]
   .rw[if_neg h2]at hy;exact nomatch hy
 .rw[hget]at ha;obtain⟨b,hb,rfl⟩:=cj.mp ha
  by_cases hk':k<ts.length
  .rw[hxo k hk']at hu;exact dz _ (dz _ (x.all k u b hk' hu hb))
  .rw[hlen]at hk
   by_cases e:k=2 * n
   .subst e;rw[x0,h1]at hu;rw[if_pos (show s=u by lia),hn];exact dz _ (be _ (.head _))
   .have e:k=2 * n+1:=by lia
    subst e;rw[x1,h0]at hu;rw[if_pos (show t=u by lia),hn];exact be _ (.head _)
abbrev Arc:=Nat×Nat×Int
def bY:List Arc->List Int
 | []=>[]
 | a::l=>(a.2.1:Int)::(a.1:Int)::bY l
theorem gQ:∀L:List Arc,(bY L).length=2 * L.length
 | []=>rfl
 | a::l=>by
  show (bY l).length+1+1=_;rw[gQ l,az];lia
theorem pU(a:Arc):∀L:List Arc,bY (L++[a])=bY L++[(a.2.1:Int),(a.1:Int)]
 | []=>rfl
 | b::l=>by
  show _::_::bY (l++[a])=_::_::(bY l++_);rw[pU a l]
theorem BH:∀{L:List Arc}{j:Nat}{a:Arc},L[j]? =some a->at0 (bY L) (2 * j)=(a.2.1:Int)/\at0 (bY L) (2 * j+1)=(a.1:Int)
 | [],_,_,h=>by simp at h
 | b::l,0,a,h=>by
  have e:b=a:=by simpa using h
  subst e;exact⟨rfl,rfl⟩
 | b::l,j+1,a,h=>by
  have ih:=BH (L:=l) (j:=j) (a:=a) (by simpa using h);exact ih
def CapOk(sp:List Int)(L:List Arc):Prop:=∀(j:Nat) (a:Arc),L[j]? =some a->at0 sp (2 * j)+at0 sp (2 * j+1)=a.2.2
theorem CapOk.snoc{sp:List Int}{L:List Arc}(h:CapOk sp L)(hl:sp.length=2 * L.length)(a:Arc):CapOk (sp++[a.2.2,0]) (L++[a]):=λj b hb=>by
 by_cases hj:j<L.length
 .rw[fq hj]at hb;rw[kT (by lia),kT (by lia)];exact h j b hb
 .have he:j=L.length:=by
   have:=(ax.mp hb).1;rw[ak]at this;have:j<L.length+1:=this
   lia
  subst he;rw[fg (au _),xl]at hb;have hb:a=b:=dq hb;rw[lV (by lia),lV (by lia),show 2 * L.length - sp.length=0 by lia,show 2 * L.length+1 - sp.length=1 by lia,←hb];show a.2.2+0=_
  lia
theorem CapOk.sent{sp:List Int}{s t x:Int}{L:List Arc}(h:CapOk sp L)(y:Sent ts sp sp' n s t x):CapOk sp' L:=λj a ha=>by
 have h1:=y.cap (2 * j);rw[show xr (2 * j)=2 * j+1 by unfold xr;rw[if_pos (by lia)]]at h1;rw[h1];exact h j a ha
def dJ(rs:List Int)(a:Arc):Int:=if (a.1:Int)∈rs/\(a.2.1:Int)∉rs then a.2.2 else 0
theorem lN{sp:List Int}{L:List Arc}(h:CapOk sp L):∀n,n<=L.length->pX (bY L) sp rs n=((L.take n).map (dJ rs)).sum
 | 0,_=>rfl
 | n+1,hn=>by
  obtain⟨a,ha⟩:∃a,L[n]? =some a:=⟨_,ao (by lia)⟩
  rcases BH ha with⟨h1,h2⟩;rw[uT,lN h n (by lia),aV ha,aq,gr,h1,h2,h n a ha];show _+_=_+(dJ rs a+0);unfold dJ;rw[ia]
theorem aAl{a:Arc}(h:0<=a.2.2):0<=dJ rs a:=by unfold dJ;split<;>lia
inductive u7(CN CH:Addr)(vs:List V)(H:Hp)(Q:VK)(E:XK):Prop
 | mk (hn:Addr) (x:HNAt) (u pl:Int) (outs:List Int) (cv:List V) (pk dk:List (List Key×V)) (ts sp:List Int) (as:List (List Int)) (_:vs=[.ref hn]) (_:HNE CN CH H hn x u pl outs cv pk dk ts sp as) (_:NetOk ts sp as) (_:0<as.length) (_:pk.length<64) (_:(∀e∈pk,∃(z:Str) (t v:Int),e=([.inr z,.inl t],.int v))) (_:∀q vs H',H q=none->Same H H'->H' q=some (.lst vs)->Q (.ref q) H'):u7 CN CH vs H Q E
theorem rQ(m:M K mg):FnOk P w K mg base CX0 2 m.fC m.fB.d ["self"] (u7 m.aX m.aP):=by
 refine m.fB.F.ok aGK ?_ ?_;tm_at"g";tm_at"h";rcases h with⟨hn,x,u,pl,outs,cv,pk,dk,ts,sp,as,rfl,hh,ok,ha0,hp64,hpk,k⟩;tm_at"f";have nd:=aGK.nd;tm_at"d";have aGD:=m.bN;refine⟨_,(aB (aQ (i:=1) nd rfl (by tm_at"b") (cP 1 hr (aH (pv 0) rfl) (aA (aH (pv 0) rfl) aC)))
  (aE (aT (bI AL rfl m.OS IV (aA (HH (d7 (N:=["pair","node","ways"]) (nl:=2) (ci:=[1]) rfl (blk (s.heap.objs.size+1) rfl rfl rfl (by kernel_rfl)) (zF (aH (pv 0) rfl)) (λ_ _ _ _=>(oJ (K:=K) (n:=2) rfl (aZ (aN (i:=0) (show (["pair","node","ways"]:List Str).Nodup by decide +kernel) rfl (by tm_at"b")) (aZ (aN (i:=1) (show (["pair","node","ways"]:List Str).Nodup by decide +kernel) rfl (by tm_at"b")) d8)))) (λ_ _ _ _=>(zJ (wF (OB hu1 (pv 1) (pv 2)) (by with_unfolding_all rfl)))) (λ_ _ _ _=>(pv 0)))) aC))))),?_⟩
 refine aL (σ:=[some (.ref hn),none]) rfl ?_;tm_at"e";obtain⟨e0,e1,e2,e3,e4,e5,d1,d2,d3,d4,d5⟩:=id hh;have M1:= @tG P w K mg base m;obtain⟨ndx,n1',n2',n3',nrs,nef,ne0,_⟩:=id e5;tm_at"a";refine⟨x.n,0,x.np,ts,sp,as,rfl,e5,ok,ha0,λd ws H1 n1 S1 f1 w c1=> ?_⟩;have g0:=S1 _ _ e0;have g3:=S1 _ _ e3;tm_at"a";refine D8 g3 (λ_ _ z=>nomatch z) ?_;tm_at"a";refine z9 g3 λo H2 B2 f2=> ?_;have hda:d≠x.a3:=λz=>by rw[z,e3]at n1;cases n1
 have fd:=B2 _ _ f1 hda;refine LU (λe=>match e.2 with| .int v=>decide (v∈((0:Nat):Int)::ws.map (·.1))|_=>false) (λe y H=>∃q,y= .ref q/\H q=some (.tup (e.1.map kV))) (λ_ _ _ _ ⟨q,h1,h2⟩ s=>⟨q,h1,s _ _ h2⟩) (by rw[sizeLine_eq];lia) (rest:=[some (.ref d)]) (by rfl) f2 ?_ ?_ ?_
 .rintro ⟨kk,v⟩ H3 q hm s3 hq R hR;obtain⟨z,t,v',e⟩:=hpk _ hm;cases e;tm_at"a";refine Q2 (.inl (s3 _ _ fd)) ?_;rw[xC];tm_at"a";exact hR _ (Same.refl _)
 .rintro ⟨kk,v⟩ H3 q hm - s3 hq R hR;tm_at"a";exact hR _ _ ⟨q,rfl,hq⟩ (Same.refl _)
 intro ys H3 s3 hys;tm_at"a";rename_i p4 H4 n4 S4 f4;refine u5 (S4 _ _ (s3 _ _ f2)) λH5 B5 f5=> ?_;have hp4:p4≠x.a3:=λz=>by rw[z,s3 _ _ f2]at n4;cases n4
 have s5:Same H H5:=λb v e=>by
  by_cases hb:b=x.a3
  .rw[hb]at e ⊢;rw[e3]at e;rw[f5,←e]
  .exact B5 _ _ (S4 _ _ (s3 _ _ (B2 _ _ (S1 _ _ e) hb))) hb
 have kr:∀{es:List (List Key×V)}{zs:List V},bo (λe y=>∃q,y= .ref q/\H3 q=some (.tup (e.1.map kV))) es zs->KRows H5 zs (es.map (·.1)):=λ{es zs} h=>by
  induction h with
  | nil=>exact .nil
  | cons h t ih =>
   rcases h with⟨q,e,hq⟩;exact .cons ⟨q,e,B5 _ _ (S4 _ _ hq) λz=>by rw[z,s3 _ _ f2]at hq;cases hq⟩ ih
 tm_at"a";refine MO (SqL.of (B5 _ _ f4 hp4)) (kr hys) ?_ (sh:=[fK (.inr ⟨#[]⟩),fK (.inl 0)]) (λrr hrr=> ?_) (λz=>nomatch z) λl2 ws2 H6 n6 S6 f6 _=> ?_
 .rw[←bx hys];exact Nat.lt_of_le_of_lt (fb _ _) hp64
 .rcases ag.mp hrr with⟨e,he,rfl⟩;obtain⟨z,t,v',rfl⟩:=hpk e (cu.mp he).1;rfl
 .tm_at"a";exact k l2 ws2 H6 (by
   cases h:H l2 with
   | none=>rfl
   | some v=>rw[s5 _ _ h]at n6;cases n6) (s5.trans S6) f6
theorem rN(m:M K mg):Mc P w K mg base m.aP "reached_pairs" 2 (u7 m.aX m.aP):=⟨_,_,_,m.bN.ic.cl,m.rR,m.fB.b,rQ m⟩
theorem N4{i:Nat}{x:Int}{N:Nat}(h:∀a∈as,a.length<N):∀a∈fM as i x,a.length<N+1:=λa ha=>by
 rcases gi.mp ha with⟨j,hj⟩;rw[GJ]at hj
 by_cases e:i=j
 .rw[if_pos e]at hj;rcases cj.mp hj with⟨b,hb,rfl⟩;have:=h b (ba hb);rw[ak];show b.length+1<_
  lia
 .rw[if_neg e]at hj;have:=h a (ba hj)
  lia
structure NS(L:List Arc)(sp:List Int)(as:List (List Int))(N:Nat):Prop where
 ok:NetOk (bY L) sp as
 cap:CapOk sp L
 nn:∀m,0<=at0 sp m
 len:as.length=N
 aa:∀a∈as,a.length<=2 * L.length
def cE(L:List Arc)(sp:List Int)(v:Int):Int:=c6 (bY L) sp v L.length
theorem NS.splen{L:List Arc}{sp:List Int}{N:Nat}(x:NS L sp as N):sp.length=2 * L.length:=by rw[x.ok.eq,gQ]
theorem NS.node{L:List Arc}{sp:List Int}{N:Nat}(x:NS L sp as N)(h:N+1<100000):NS L sp (as++[[]]) (N+1):=by
 have hl:=x.len;refine⟨x.ok.node (by lia),x.cap,x.nn,by rw[ak,hl];rfl,λa ha=> ?_⟩;rcases bf.mp ha with h|h
 .exact x.aa a h
 .rw[bq.mp h];exact fk _
theorem NS.arc{L:List Arc}{sp:List Int}{N:Nat}(x:NS L sp as N){s t:Nat}{c:Int}(hs:s<N)(ht:t<N)(hc:0<=c)(hL:L.length<40000):NS (L++[(s,t,c)]) (sp++[c,0]) (fM (fM as s ((bY L).length:Int)) t (((bY L).length:Int)+1)) N:=by
 have hl:=x.len;have ht':=gQ L;refine⟨?_,x.cap.snoc x.splen (s,t,c),aE1 x.nn hc,by rw[sP,sP];exact hl,λa ha=> ?_⟩
 .rw[pU];exact x.ok.arc (s:=s) (t:=t) (by lia) (by lia) (by lia) c
 .have h:=N4 (N4 (N:=2 * L.length+1) (λa ha=>Nat.lt_succ_of_le (x.aa a ha))) a ha;rw[ak];show _<=2 * (_+1)
  lia
theorem NS.exc{L:List Arc}{sp:List Int}{N:Nat}(x:NS L sp as N)(s t:Nat)(c v:Int):cE (L++[(s,t,c)]) (sp++[c,0]) v=cE L sp v:=by
 unfold cE;rw[pU,ak];exact aBX (gQ L) x.splen _ _ _ v
theorem NS.sent{L:List Arc}{sp:List Int}{N:Nat}{s t y:Int}(x:NS L sp as N)(z:Sent (bY L) sp sp' L.length s t y):NS L sp' as N:=⟨x.ok.sp z.len,x.cap.sent z,z.nn,x.len,x.aa⟩
structure HC(CHo:Addr)(D:bH)(H:Hp)(h:Addr)(f l:Int)(rz ps:List (Str×Int))(ds:List aF):Prop where
 at':bW CHo D H h f l rz ps ds
 nr:(rz.map (·.1)).Nodup
 nd:(ds.map (·.1)).Nodup
 din:∀d∈ds,cQ (rz.map (·.1)) d
 lr:rz.length<=4
 ld:ds.length<=8
 f0:0<=f
 fl:f<=l
 fl7:l - f<=7
 l1:l<1000000000000
 let0:∀d∈ds,∀u,0<=u->0<=bX f l d u
 rz0:∀e∈rz,0<=e.2
 ps0:∀z,0<=cC ps z
theorem HC.same{D:bH}{h:Addr}{ds:List aF}(x:HC CHo D H h f l rz ps ds)(s:Same H H'):HC CHo D H' h f l rz ps ds:=⟨MS x.at' s,x.nr,x.nd,x.din,x.lr,x.ld,x.f0,x.fl,x.fl7,x.l1,x.let0,x.rz0,x.ps0⟩
inductive HNS(CN CH CHo:Addr)(D:bH)(H0 H:Hp)(hn:Addr)(x:HNAt)(f l:Int)(rz ps:List (Str×Int))(ds:List aF)(u pl:Int)(outs:List Int)(cv:List V)(pk dk:List (List Key×V))(L:List Arc)(sp:List Int)(N:Nat):Prop
 | mk (np:List Addr) (as:List (List Int)) (_:HNE CN CH H hn { x with np:=np } u pl outs cv pk dk (bY L) sp as) (_:Same H0 H) (_:∀b∈HNAt.fp { x with np:=np } hn,H0 b=none) (_:NS L sp as N) (_:HC CHo D H0 x.h f l rz ps ds):HNS CN CH CHo D H0 H hn x f l rz ps ds u pl outs cv pk dk L sp N
theorem NetE.on{n:Addr}{fp:List Addr}{sp:List Int}(x:NetE C H n fp ts sp as)(s:SameBut p H H')(h1:n≠p)(h2:p∉fp):NetE C H' n fp ts sp as:=by
 obtain⟨dx,q1,q2,q3,rs,ef,e0,e1,e2,e3,e4,e5⟩:=x;subst ef;have k:∀b∈q1::q2::q3::rs,b≠p:=λb hb z=>h2 (z▸hb);exact⟨dx,q1,q2,q3,rs,rfl,s _ _ e0 h1,s _ _ e1 (k _ (.head _)),s _ _ e2 (k _ (ab _ (.head _))),s _ _ e3 (k _ (ab _ (ab _ (.head _)))),eR e4 λb c hb h=>s _ _ h (k _ (ab _ (ab _ (ab _ hb)))),e5⟩
section
variable {D:bH}{H0:Hp}{x:HNAt}{ds:List aF}{u:Int}{pk' dk':List (List Key×V)}{L L':List Arc}{sp:List Int}{N N':Nat}
theorem HNS.same(y:HNS CN CH CHo D H0 H hn x f l rz ps ds u pl outs cv pk dk L sp N)(s:Same H H'):HNS CN CH CHo D H0 H' hn x f l rz ps ds u pl outs cv pk dk L sp N:=by
 obtain⟨np,as,e1,e2,e3,e4,e5⟩:=y;exact⟨np,as,e1.same s,e2.trans s,e3,e4,e5⟩
theorem HNS.hc(y:HNS CN CH CHo D H0 H hn x f l rz ps ds u pl outs cv pk dk L sp N):HC CHo D H0 x.h f l rz ps ds:=by
 obtain⟨np,as,e1,e2,e3,e4,e5⟩:=y;exact e5
theorem HNS.sm(y:HNS CN CH CHo D H0 H hn x f l rz ps ds u pl outs cv pk dk L sp N):Same H0 H:=by
 obtain⟨np,as,e1,e2,e3,e4,e5⟩:=y;exact e2
theorem HNS.hc'(y:HNS CN CH CHo D H0 H hn x f l rz ps ds u pl outs cv pk dk L sp N):HC CHo D H x.h f l rz ps ds:=y.hc.same y.sm
theorem HNS.ns(y:HNS CN CH CHo D H0 H hn x f l rz ps ds u pl outs cv pk dk L sp N):∃as,NS L sp as N:=by
 obtain⟨np,as,e1,e2,e3,e4,e5⟩:=y;exact⟨as,e4⟩
theorem HNS.exc(y:HNS CN CH CHo D H0 H hn x f l rz ps ds u pl outs cv pk dk L sp N)(s t:Nat)(c v:Int):cE (L++[(s,t,c)]) (sp++[c,0]) v=cE L sp v:=by
 rcases y.ns with⟨as,z⟩;exact z.exc s t c v
theorem HNE.none{x:HNAt}(y:HNE CN CH H hn x u pl outs cv pk dk ts sp as)(hb:b∈x.fp hn):H b≠none:=by
 obtain⟨i0,i1,i2,i3,i4,i5,_⟩:=y;intro z;rcases aw.mp hb with rfl|hb
 .rw[i0]at z;cases z
 .rcases aw.mp hb with rfl|hb
  .rw[i1]at z;cases z
  .rcases aw.mp hb with rfl|hb
   .rw[i2]at z;cases z
   .rcases aw.mp hb with rfl|hb
    .rw[i3]at z;cases z
    .rcases aw.mp hb with rfl|hb
     .rw[i4]at z;cases z
     .exact yO i5 hb z
theorem HNS.keep(y:HNS CN CH CHo D H0 H hn x f l rz ps ds u pl outs cv pk dk L sp N)(s:Same H H'){o:HO}(hp:H p=none)(hp':H' p=some o):H0 p=none/\Same H0 (upd H0 p o)/\HNS CN CH CHo D (upd H0 p o) H' hn x f l rz ps ds u pl outs cv pk dk L sp N:=by
 obtain⟨np,as,e1,e2,e3,e4,e5⟩:=y;have hpf:p∉HNAt.fp { x with np:=np } hn:=λz=>e1.none z hp;have hn0:H0 p=none:=by
  cases hq:H0 p with
  | none=>rfl
  | some v=>rw[e2 _ _ hq]at hp;cases hp
 have s01:Same H0 (upd H0 p o):=L2.same_upd hn0;refine⟨hn0,s01,np,as,e1.same s,λb v hb=> ?_,λb hb=> ?_,e4,e5.same s01⟩
 .by_cases hbp:b=p
  .rw[hbp]at hb ⊢;rw[aR]at hb;rw[hp',←hb]
  .rw[aK hbp]at hb;exact s _ _ (e2 _ _ hb)
 .rw[aK (λz:b=p=>hpf (by rw[←z];exact hb))];exact e3 b hb
theorem HNS.back(y:HNS CN CH CHo D H1 H' hn x f l rz ps ds u pl outs cv pk dk L sp N)(s:Same H0 H1)(hc:HC CHo D H0 x.h f l rz ps ds):HNS CN CH CHo D H0 H' hn x f l rz ps ds u pl outs cv pk dk L sp N:=by
 obtain⟨np,as,e1,e2,e3,e4,e5⟩:=y;refine⟨np,as,e1,s.trans e2,λb hb=> ?_,e4,hc⟩;cases hq:H0 b with
 | none=>rfl
 | some v=>have:=s _ _ hq;rw[e3 b hb]at this;cases this
theorem Y3{a b:HO}(h:p≠q):upd (upd H q b) p a=upd (upd H p a) q b:=funext λc=>by
 by_cases h1:c=p
 .rw[h1,aR,aK h,aR]
 .by_cases h2:c=q
  .rw[h2,aK (eh h),aR,aR]
  .rw[aK h1,aK h2,aK h2,aK h1]
theorem HNS.put{B:Hp}{o':HO}(y:HNS CN CH CHo D (upd B q (.dK kvs)) H hn x f l rz ps ds u pl outs cv pk dk L sp N)(hB:B q=none)(hc:HC CHo D B x.h f l rz ps ds)(s:SameBut q H H')(e':H' q=some o'):HNS CN CH CHo D (upd B q o') H' hn x f l rz ps ds u pl outs cv pk dk L sp N:=by
 obtain⟨np,as,e1,e2,e3,e4,e5⟩:=y;have hqf:q∉HNAt.fp { x with np:=np } hn:=λz=>by have:=e3 q z;rw[aR]at this;cases this
 have hq:H q=some (.dK kvs):=e2 _ _ aR;obtain⟨i0,i1,i2,i3,i4,i5,d1,d2,d3,d4,d5⟩:=e1;have k:∀b∈HNAt.fp { x with np:=np } hn,b≠q:=λb hb z=>hqf (z▸hb);have hx:x.n≠q:=λz=>by
  obtain⟨_,_,_,_,_,_,j0,_⟩:=i5;have j0:H x.n=_:=j0;rw[z,hq]at j0;cases j0
 refine⟨np,as,⟨s _ _ i0 (k _ (.head _)),s _ _ i1 (k _ (ab _ (.head _))),s _ _ i2 (k _ (ab _ (ab _ (.head _)))),s _ _ i3 (k _ (ab _ (ab _ (ab _ (.head _))))),s _ _ i4 (k _ (ab _ (ab _ (ab _ (ab _ (.head _)))))),i5.on s hx λz=>hqf (ab _ (ab _ (ab _ (ab _ (ab _ z))))),d1,d2,d3,d4,d5⟩,λb v hb=> ?_,λb hb=> ?_,e4,hc.same (L2.same_upd hB)⟩
 .by_cases hbp:b=q
  .rw[hbp]at hb ⊢;rw[aR]at hb;rw[e',←hb]
  .rw[aK hbp]at hb;refine s _ _ (e2 _ _ ?_) hbp;rw[aK hbp];exact hb
 .have h1:=e3 b hb;rw[aK (k b hb)]at h1 ⊢;exact h1
theorem HNS.ob(y:HNS CN CH CHo D H0 H hn x f l rz ps ds u pl outs cv pk dk L sp N):H hn=some (.ins CH x.dx (UH x.h x.a1 x.a2 x.n x.a3 x.a4 u pl))/\H x.a1=some (.lst (outs.map V.int))/\H x.a2=some (.lst cv)/\H x.a3=some (.dT pk)/\H x.a4=some (.dT dk)/\(∃dn q1 q2 q3,H x.n=some (.ins CN dn (aAz q1 q2 q3))):=by
 obtain⟨np,as,e1,e2,e3,e4,e5⟩:=y;obtain⟨i0,i1,i2,i3,i4,i5,_⟩:=e1;obtain⟨dn,q1,q2,q3,rs,_,j0,_⟩:=i5;exact⟨i0,i1,i2,i3,i4,⟨_,_,_,_,j0⟩⟩
theorem TW{x:HNAt}(hb:b∈x.np):b∈x.fp hn:=by unfold HNAt.fp;exact ab _ (ab _ (ab _ (ab _ (ab _ hb))))
theorem uV{fp:List Addr}(e2:Same H0 H)(e3:∀b∈fp,H0 b=none)(s:SameBut p H H')(hp:p∈fp):Same H0 H':=λb v hb=>s _ _ (e2 _ _ hb) λz=>by rw[z,e3 p hp]at hb;cases hb
theorem HNS.outp(y:HNS CN CH CHo D H0 H hn x f l rz ps ds u pl outs cv pk dk L sp N)(s:SameBut x.a1 H H')(e:H' x.a1=some (.lst (os.map V.int))):HNS CN CH CHo D H0 H' hn x f l rz ps ds u pl os cv pk dk L sp N:=by
 obtain⟨np,as,e1,e2,e3,e4,e5⟩:=y;obtain⟨i0,i1,i2,i3,i4,i5,d1,d2,d3,d4,d5⟩:=e1;have hx:x.n≠x.a1:=λz=>by
  obtain⟨_,_,_,_,_,_,j0,_⟩:=i5;have j0:H x.n=_:=j0;rw[z,i1]at j0;cases j0
 exact⟨np,as,⟨s _ _ i0 (λz=>by rw[z,i1]at i0;cases i0),e,s _ _ i2 (eh d2),s _ _ i3 (λz=>by rw[z,i1]at i3;cases i3),s _ _ i4 (λz=>by rw[z,i1]at i4;cases i4),i5.on s hx d3,d1,d2,d3,d4,d5⟩,uV e2 e3 s (ab _ (.head _)),e3,e4,e5⟩
theorem HNS.cuts(y:HNS CN CH CHo D H0 H hn x f l rz ps ds u pl outs cv pk dk L sp N){cs:List V}(s:SameBut x.a2 H H')(e:H' x.a2=some (.lst cs)):HNS CN CH CHo D H0 H' hn x f l rz ps ds u pl outs cs pk dk L sp N:=by
 obtain⟨np,as,e1,e2,e3,e4,e5⟩:=y;obtain⟨i0,i1,i2,i3,i4,i5,d1,d2,d3,d4,d5⟩:=e1;have hx:x.n≠x.a2:=λz=>by
  obtain⟨_,_,_,_,_,_,j0,_⟩:=i5;have j0:H x.n=_:=j0;rw[z,i2]at j0;cases j0
 exact⟨np,as,⟨s _ _ i0 (λz=>by rw[z,i2]at i0;cases i0),s _ _ i1 d2,e,s _ _ i3 (λz=>by rw[z,i2]at i3;cases i3),s _ _ i4 (λz=>by rw[z,i2]at i4;cases i4),i5.on s hx d4,d1,d2,d3,d4,d5⟩,uV e2 e3 s (ab _ (ab _ (.head _))),e3,e4,e5⟩
theorem N2{fp:List Addr}{n:Addr}(i5:NetE CN H n fp ts sp as){o:HO}(e:H p=some o)(ho:∀xs,o≠ .lst xs):p∉fp:=λz=>by
 rcases BD i5 z with⟨xs,hx⟩;rw[hx]at e;exact ho xs (dq e).symm
theorem HNS.pkp(y:HNS CN CH CHo D H0 H hn x f l rz ps ds u pl outs cv pk dk L sp N){pk2:List (List Key×V)}(s:SameBut x.a3 H H')(e:H' x.a3=some (.dT pk2)):HNS CN CH CHo D H0 H' hn x f l rz ps ds u pl outs cv pk2 dk L sp N:=by
 obtain⟨np,as,e1,e2,e3,e4,e5⟩:=y;obtain⟨i0,i1,i2,i3,i4,i5,d1,d2,d3,d4,d5⟩:=e1;have hx:x.n≠x.a3:=λz=>by
  obtain⟨_,_,_,_,_,_,j0,_⟩:=i5;have j0:H x.n=_:=j0;rw[z,i3]at j0;cases j0
 exact⟨np,as,⟨s _ _ i0 (λz=>by rw[z,i3]at i0;cases i0),s _ _ i1 (λz=>by rw[z,i3]at i1;cases i1),s _ _ i2 (λz=>by rw[z,i3]at i2;cases i2),e,s _ _ i4 (eh d1),i5.on s hx (N2 i5 i3 λ_ z=>nomatch z),d1,d2,d3,d4,d5⟩,uV e2 e3 s (ab _ (ab _ (ab _ (.head _)))),e3,e4,e5⟩
theorem HNS.turn(y:HNS CN CH CHo D H0 H hn x f l rz ps ds u pl outs cv pk dk L sp N){v:Int}(s:SameBut hn H H')(e:H' hn=some (.ins CH x.dx (UH x.h x.a1 x.a2 x.n x.a3 x.a4 v pl))):HNS CN CH CHo D H0 H' hn x f l rz ps ds v pl outs cv pk dk L sp N:=by
 obtain⟨np,as,e1,e2,e3,e4,e5⟩:=y;obtain⟨i0,i1,i2,i3,i4,i5,d1,d2,d3,d4,d5⟩:=e1;have hx:x.n≠hn:=d5;exact⟨np,as,⟨e,s _ _ i1 (λz=>by rw[z,i0]at i1;cases i1),s _ _ i2 (λz=>by rw[z,i0]at i2;cases i2),s _ _ i3 (λz=>by rw[z,i0]at i3;cases i3),s _ _ i4 (λz=>by rw[z,i0]at i4;cases i4),i5.on s hx (N2 i5 i0 λ_ z=>nomatch z),d1,d2,d3,d4,d5⟩,uV e2 e3 s (.head _),e3,e4,e5⟩
theorem V9{E:XK}{v:Int}(y:HNS CN CH CHo D H0 H hn x f l rz ps ds u pl outs cv pk dk L sp N)(hv:bA pk [.inr z,.inl u]=some (.int v))(k:∀H',Same H H'->Q (.int v) H'):BV CN CH [.ref hn,.str z] H Q E:=by
 obtain⟨np,as,e1,e2,e3,e4,e5⟩:=y;exact⟨_,_,_,_,_,_,_,_,_,_,_,_,_,rfl,e1,hv,k⟩
theorem wI{E:XK}(y:HNS CN CH CHo D H0 H hn x f l rz ps ds u pl outs cv pk dk L sp N)(hN:N+1<90000)(k:∀H',HNS CN CH CHo D H0 H' hn x f l rz ps ds u pl outs cv pk dk L sp (N+1)->Q (.int (N:Int)) H'):sY CN [.ref x.n] H Q E:=by
 obtain⟨np,as,e1,e2,e3,e4,e5⟩:=y;obtain⟨i0,i1,i2,i3,i4,i5,d1,d2,d3,d4,d5⟩:=id e1;have hl:=e4.len;refine QO i5 (by lia) λr H1 n1 fr1 ne1=> ?_;have hnp1:∀b∈np++[r],b∈np∨H b=none:=λb hb=>by
  rcases bf.mp hb with h|h
  .exact .inl h
  .rw[bq.mp h];exact .inr n1
 rw[hl];refine k H1 ⟨np++[r],as++[[]],e1.net2 fr1 hnp1 ne1,λb v hb=>fr1 _ _ (e2 _ _ hb) λz=> ?_,λb hb=> ?_,e4.node (by lia),e5⟩
 .have:=e3 b (TW z);rw[hb]at this;cases this
 .have hb:b∈(hn::x.a1::x.a2::x.a3::x.a4::np)++[r]:=hb;rcases bf.mp hb with h|h
  .exact e3 b h
  .rw[bq.mp h];cases e:H0 r with
   | none=>rfl
   | some v=>rw[e2 _ _ e]at n1;cases n1
theorem FH{E:XK}{s t:Nat}{c:Int}(y:HNS CN CH CHo D H0 H hn x f l rz ps ds u pl outs cv pk dk L sp N)(hs:s<N)(ht:t<N)(hc:0<=c)(hL:L.length<20000)(k:∀H',HNS CN CH CHo D H0 H' hn x f l rz ps ds u pl outs cv pk dk (L++[(s,t,c)]) (sp++[c,0]) N->Q (.int ((2 * L.length:Nat):Int)) H'):wK CN [.ref x.n,.int (s:Int),.int (t:Int),.int c] H Q E:=by
 obtain⟨np,as,e1,e2,e3,e4,e5⟩:=y;obtain⟨i0,i1,i2,i3,i4,i5,d1,d2,d3,d4,d5⟩:=id e1;have hl:=e4.len;have htl:=gQ L;have hsl:=e4.splen;refine aFd i5 (by lia) (by lia) (by lia) (by lia) (λa ha=>by have:=e4.aa a ha;lia) λH1 fr1 ne1=> ?_;have hh1:=e1.net fr1 ne1;have hS1:Same H0 H1:=λb v hb=>fr1 _ _ (e2 _ _ hb) λz=>by
  have:=e3 b (TW z);rw[hb]at this;cases this
 have k':=k H1 ⟨np,_,by rw[pU];exact hh1,hS1,e3,e4.arc hs ht hc (by lia),e5⟩;rw[htl];exact k'
theorem UQ{E:XK}{dv:V}{d:aF}{tn sn:Nat}(y:HNS CN CH CHo D H0 H hn x f l rz ps ds u pl outs cv pk dk L sp N)(hd:d∈ds)(hdv:D.at' H dv d)(hu0:f<=u)(hu1:u<l)(hv:bA pk [.inr d.2.1,.inl u]=some (.int (sn:Int)))(hs:sn<N)(ht:tn<N)(hL:L.length<20000)(hdk:dk.length<20000)(hnew:bA dk (bV u d.1)=none)(k:∀H',HNS CN CH CHo D H0 H' hn x f l rz ps ds u pl outs cv pk (dk++[(bV u d.1,.int ((2 * L.length:Nat):Int))]) (L++[(sn,tn,bX f l d u)]) (sp++[bX f l d u,0]) N->Q .non H'):A4 CN CH CHo D [.ref hn,dv,.int (tn:Int)] H Q E:=by
 obtain⟨np,as,e1,e2,e3,e4,e5⟩:=y;have hl:=e4.len;have htl:=gQ L;have hsl:=e4.splen;have hf0:=e5.f0;refine⟨hn,dv,d,tn,sn,f,l,rz,ps,ds,H0,{ x with np:=np },u,pl,outs,cv,pk,dk,_,sp,as,rfl,e1,e5.at',e2,e3,e5.nd,hd,hdv,hu0,hu1,e5.f0,hv,by lia,by lia,by lia,by lia,λa ha=>by have:=e4.aa a ha;lia,by lia,λH1 fr1 hh1=> ?_⟩;refine k H1 ⟨np,_,?_,λb v hb=>fr1 _ _ (e2 _ _ hb) λz=> ?_,e3,e4.arc hs ht (e5.let0 d hd u (by lia)) (by lia),e5⟩
 .have e6:cJ dk [.inl u,.inr d.1] (.int ((bY L).length:Int))=dk++[(bV u d.1,.int ((2 * L.length:Nat):Int))]:=by
   rw[show ([.inl u,.inr d.1]:List Key)=bV u d.1 from rfl,eX _ hnew,htl]
  rw[e6]at hh1;rw[pU];exact hh1
 .have:=e3 b z;rw[hb]at this;cases this
theorem VN{E:XK}{t:Nat}(y:HNS CN CH CHo D H0 H hn x f l rz ps ds u pl outs cv pk dk L sp N)(hN:0<N)(ht:t≠0)(k:∀y sp' rs H',HNS CN CH CHo D H0 H' hn x f l rz ps ds u pl outs cv pk dk L sp' N->0<=y->(∀v,cE L sp' v=cE L sp v+((if (t:Int)=v then y else 0) - if (0:Int)=v then y else 0))->CapOk sp' L->(∀m,0<=at0 sp' m)->ML (bY L) sp' 0 (t:Int) rs->Q (.int y) H'):BG CN [.ref x.n,.int 0,.int (t:Int)] H Q E:=by
 obtain⟨np,as,e1,e2,e3,e4,e5⟩:=y;obtain⟨i0,i1,i2,i3,i4,i5,d1,d2,d3,d4,d5⟩:=id e1;have hl:=e4.len;refine⟨x.n,0,t,L.length,np,_,sp,as,rfl,i5,e4.ok,by lia,eh ht,gQ L,e4.nn,λy sp2 rs H1 fr1 ne1 sent shut=> ?_⟩;refine k y sp2 rs H1 ⟨np,as,e1.net fr1 ne1,λb v hb=>fr1 _ _ (e2 _ _ hb) λz=> ?_,e3,e4.sent sent,e5⟩ sent.x0 (λv=>sent.exc v) (e4.cap.sent sent) sent.nn shut;have:=e3 b (TW z);rw[hb]at this;cases this
theorem aAq{E:XK}(y:HNS CN CH CHo D H0 H hn x f l rz ps ds u pl outs cv pk dk L sp N)(hN:0<N)(h64:pk.length<64)(hpk:∀e∈pk,∃(z:Str) (t v:Int),e=([.inr z,.inl t],.int v))(k:∀q vs H',H q=none->Same H H'->H' q=some (.lst vs)->Q (.ref q) H'):u7 CN CH [.ref hn] H Q E:=by
 obtain⟨np,as,e1,e2,e3,e4,e5⟩:=y;have hl:=e4.len;exact⟨hn,{ x with np:=np },u,pl,outs,cv,pk,dk,_,sp,as,rfl,e1,e4.ok,by lia,h64,hpk,k⟩
end
def cN(u:Int):List aF->Nat->List (List Key×V)
 | [],_=>[]
 | d::l,a=>(bV u d.1,.int ((2 * a:Nat):Int))::cN u l (a+1)
theorem AK(u:Int)(d:aF):∀(l:List aF) (a:Nat),cN u (l++[d]) a=cN u l a++[(bV u d.1,.int ((2 * (a+l.length):Nat):Int))]
 | [],a=>rfl
 | e::l,a=>by
  show _::cN u (l++[d]) (a+1)=_::(cN u l (a+1)++_);rw[AK u d l (a+1),az,show a+1+l.length=a+(l.length+1) by lia]
theorem oQ(u:Int):∀(l:List aF) (a:Nat),(cN u l a).length=l.length
 | [],_=>rfl
 | _::l,a=>by show (cN u l (a+1)).length+1=_;rw[oQ u l (a+1)];rfl
theorem gL(u:Int):∀(l:List aF) (a:Nat),(cN u l a).map (·.1)=l.map λd=>bV u d.1
 | [],_=>rfl
 | _::l,a=>by show _::(cN u l (a+1)).map (·.1)=_;rw[gL u l (a+1)];rfl
theorem wH{κ:Type}[DecidableEq κ]{kvs:List (κ×V)}{k:κ}(h:k∉kvs.map (·.1)):bA kvs k=none:=by
 cases hv:bA kvs k with
 | none=>rfl
 | some v=>exact absurd (ag.mpr ⟨_,uY hv,rfl⟩) h
def b9(s:Str->Nat)(c:Str×Int->Int):List (Str×Int)->Nat->List Arc
 | [],_=>[]
 | e::l,a=>(s e.1,a,c e)::b9 s c l (a+1)
theorem gZ(s:Str->Nat)(c:Str×Int->Int)(e:Str×Int):∀(l:List (Str×Int)) (a:Nat),b9 s c (l++[e]) a=b9 s c l a++[(s e.1,a+l.length,c e)]
 | [],a=>rfl
 | d::l,a=>by
  show _::b9 s c (l++[e]) (a+1)=_::(b9 s c l (a+1)++_);rw[gZ s c e l (a+1),az,show a+1+l.length=a+(l.length+1) by lia]
theorem gO(s:Str->Nat)(c:Str×Int->Int):∀(l:List (Str×Int)) (a:Nat),(b9 s c l a).length=l.length
 | [],_=>rfl
 | _::l,a=>by show (b9 s c l (a+1)).length+1=_;rw[gO s c l (a+1)];rfl
theorem fF(s:Str->Nat)(c:Str×Int->Int):∀(l:List (Str×Int)) (a:Nat),∀x∈b9 s c l a,∃e∈l,x.1=s e.1/\a<=x.2.1/\x.2.1<a+l.length/\x.2.2=c e
 | [],_,x,h=>nomatch h
 | e::l,a,x,h=>by
  rcases aw.mp h with rfl|h
  .exact⟨e,.head _,rfl,au _,by rw[az];show a<_;lia,rfl⟩
  .obtain⟨e',h1,h2,h3,h4,h5⟩:=fF s c l (a+1) x h;exact⟨e',ab _ h1,h2,by lia,by rw[az];lia,h5⟩
def dU(t:Int):List (Str×Int)->Nat->List (List Key×V)
 | [],_=>[]
 | e::l,a=>([.inr e.1,.inl t],.int (a:Int))::dU t l (a+1)
theorem AA(t:Int)(e:Str×Int):∀(l:List (Str×Int)) (a:Nat),dU t (l++[e]) a=dU t l a++[([.inr e.1,.inl t],.int ((a+l.length:Nat):Int))]
 | [],a=>rfl
 | d::l,a=>by
  show _::dU t (l++[e]) (a+1)=_::(dU t l (a+1)++_);rw[AA t e l (a+1),az,show a+1+l.length=a+(l.length+1) by lia]
theorem i8(t:Int):∀(l:List (Str×Int)) (a:Nat),(dU t l a).map (·.1)=l.map λe=>([.inr e.1,.inl t]:List Key)
 | [],_=>rfl
 | _::l,a=>by show _::(dU t l (a+1)).map (·.1)=_;rw[i8 t l (a+1)];rfl
theorem xZ(t:Int)(l:List (Str×Int))(a:Nat):(dU t l a).length=l.length:=by rw[←af (f:=(·.1)),i8,af]
def ixR:List (Str×Int)->Str->Nat
 | [],_=>0
 | e::l,z=>if e.1=z then 0 else ixR l z+1
theorem pO:∀{l:List (Str×Int)}{z:Str},z∈l.map (·.1)->ixR l z<l.length
 | [],_,h=>nomatch h
 | e::l,z,h=>by
  unfold ixR
  by_cases he:e.1=z
  .rw[if_pos he,az];lia
  .rw[if_neg he,az];have:=pO (l:=l) ((aw.mp h).resolve_left λx=>he x.symm)
   lia
theorem G1(t:Int):∀{l:List (Str×Int)}{z:Str}{a:Nat},z∈l.map (·.1)->([.inr z,.inl t],.int ((a+ixR l z:Nat):Int))∈dU t l a
 | [],_,_,h=>nomatch h
 | e::l,z,a,h=>by
  unfold ixR
  by_cases he:e.1=z
  .rw[if_pos he,←he];exact .head _
  .rw[if_neg he];have:=G1 t (l:=l) (z:=z) (a:=a+1) ((aw.mp h).resolve_left λx=>he x.symm);rw[show a+(ixR l z+1)=a+1+ixR l z by lia];exact ab _ this
def enK:List (Str×Int)->Nat->List (Key×V)
 | [],_=>[]
 | e::l,a=>(.inr e.1,.int (a:Int))::enK l (a+1)
theorem OC(e:Str×Int):∀(l:List (Str×Int)) (a:Nat),enK (l++[e]) a=enK l a++[(.inr e.1,.int ((a+l.length:Nat):Int))]
 | [],a=>rfl
 | d::l,a=>by
  show _::enK (l++[e]) (a+1)=_::(enK l (a+1)++_);rw[OC e l (a+1),az,show a+1+l.length=a+(l.length+1) by lia]
theorem tP:∀(l:List (Str×Int)) (a:Nat),(enK l a).map (·.1)=(l.map (·.1)).map jx
 | [],_=>rfl
 | _::l,a=>by show _::(enK l (a+1)).map (·.1)=_;rw[tP l (a+1)];rfl
theorem aDp(l:List (Str×Int))(a:Nat):(enK l a).length=l.length:=by rw[←af (f:=(·.1)),tP,af,af]
theorem XL:∀{l:List (Str×Int)}{z:Str}{a:Nat},z∈l.map (·.1)->(.inr z,.int ((a+ixR l z:Nat):Int))∈enK l a
 | [],_,_,h=>nomatch h
 | e::l,z,a,h=>by
  unfold ixR
  by_cases he:e.1=z
  .rw[if_pos he,←he];exact .head _
  .rw[if_neg he];have:=XL (l:=l) (z:=z) (a:=a+1) ((aw.mp h).resolve_left λx=>he x.symm);rw[show a+(ixR l z+1)=a+1+ixR l z by lia];exact ab _ this
theorem RK{l:List (Str×Int)}(nd:(l.map (·.1)).Nodup){a:Nat}(h:z∈l.map (·.1)):bA (enK l a) (.inr z)=some (.int ((a+ixR l z:Nat):Int)):=gB (by rw[tP];exact pN nd) (XL h)
def exO(d:aF):Bool:=decide (d.2.2.1= .non)
def exA(ds:List aF)(pn:Str->Nat)(o:Nat)(f l u:Int)(j:Nat):List Arc:=((ds.take j).filter exO).map λd=>(pn d.2.1,o,bX f l d u)
theorem aBh(ds:List aF)(pn:Str->Nat)(o:Nat)(f l u:Int)(j:Nat):(exA ds pn o f l u j).length<=j:=by
 unfold exA;rw[af];exact ee (fb _ _) (by rw[dh];lia)
theorem aBw{ds:List aF}{o:Nat}{u:Int}{d:aF}(hd:ds[j]? =some d)(h:exO d=true):exA ds pn o f l u (j+1)=exA ds pn o f l u j++[(pn d.2.1,o,bX f l d u)]:=by
 unfold exA;rw[aV hd,dy,aq,cq h];rfl
theorem aDF{ds:List aF}{o:Nat}{u:Int}{d:aF}(hd:ds[j]? =some d)(h:¬exO d=true):exA ds pn o f l u (j+1)=exA ds pn o f l u j:=by
 unfold exA;rw[aV hd,dy,aq,ck h];show _++[]=_;rw[df]
theorem zZ{u:Int}{l:List aF}{a:Nat}{n:Str}(h:∀n,bV u n∉dk.map (·.1))(hn:n∉l.map (·.1)):bA (dk++cN u l a) (bV u n)=none:=wH λz=>by
 rw[aq,gL]at z;rcases bf.mp z with z|z
 .exact h n z
 .rcases ag.mp z with⟨d,hd,e⟩;exact hn (ag.mpr ⟨d,hd,(iW e).2⟩)
theorem QZ{ds:List aF}{d:aF}(nd:(ds.map (·.1)).Nodup)(hd:ds[j]? =some d)(c:aF->Bool):d.1∉((ds.take j).filter c).map (·.1):=λz=>by
 rcases ag.mp z with⟨e,he,h1⟩;have he:=(cu.mp he).1;have hs:ds=ds.take j++ds.drop j:=(jj _ _).symm;rw[hs,aq]at nd;refine(gk.mp nd).2.2 _ (ag.mpr ⟨e,he,rfl⟩) _ (ag.mpr ⟨d,?_,rfl⟩) h1;rw[gi];exact⟨0,by rw[mr];exact hd⟩
inductive G9(CN CH CHo:Addr)(D:bH)(vs:List V)(H:Hp)(Q:VK)(E:XK):Prop
 | mk (hn:Addr) (x:HNAt) (pn:Str->Nat) (f l:Int) (rz ps:List (Str×Int)) (ds:List aF) (H0:Hp) (u pl:Int) (outs:List Int) (cv:List V) (pk dk:List (List Key×V)) (L:List Arc) (sp:List Int) (N:Nat) (_:vs=[.ref hn]) (_:HNS CN CH CHo D H0 H hn x f l rz ps ds u pl outs cv pk dk L sp N) (_:f<=u) (_:u<l) (_:(∀d∈ds,bA pk [.inr d.2.1,.inl u]=some (.int (pn d.2.1:Int))/\pn d.2.1<N)) (_:(∀n,bV u n∉dk.map (·.1))) (_:0<N) (_:N<10000) (_:L.length<10000) (_:dk.length<10000) (_:∀y sp' rs H',HNS CN CH CHo D H0 H' hn x f l rz ps ds u pl outs cv pk (dk++cN u (ds.filter exO) L.length) (L++(ds.filter exO).map λd=>(pn d.2.1,N,bX f l d u)) sp' (N+1)->0<=y->(∀v,cE (L++(ds.filter exO).map λd=>(pn d.2.1,N,bX f l d u)) sp' v=cE L sp v+((if (N:Int)=v then y else 0) - if (0:Int)=v then y else 0))->CapOk sp' (L++(ds.filter exO).map λd=>(pn d.2.1,N,bX f l d u))->(∀m,0<=at0 sp' m)->ML (bY (L++(ds.filter exO).map λd=>(pn d.2.1,N,bX f l d u))) sp' 0 (N:Int) rs->Q (.int y) H'):G9 CN CH CHo D vs H Q E
theorem xP(m:M K mg):FnOk P w K mg base CX0 10 m.iN m.iK.d ["self"] (G9 m.aX m.aP m.aO (aJ P w K mg base (some 5))):=by
 refine m.iK.F.ok aGN ?_ ?_;tm_at"g";tm_at"h";rcases h with⟨hn,x,pn,f,l,rz,ps,ds,H0,u,pl,outs,cv,pk,dk,L,sp,N,rfl,hh,hu0',hu1',hpn,hkn,hN0,hN1,hL1,hdk1,k⟩;tm_at"f";have nd:=aGN.nd;tm_at"d";have aGD:=m.bN;have aGE:=m.cR;have aGB:=m.bJ;refine⟨_,(aB (aQ (i:=1) nd rfl (by tm_at"b") (cU 1 hr (aH (pv 0) rfl)))
  (aB (c4 cx rfl (bP (cU 1 hr (aH (pv 0) rfl))) (aN (i:=2) nd rfl (by tm_at"b")) (aB (aQ (i:=3) nd rfl (by tm_at"b") (cP 1 hr (aH (pv 0) rfl) (aA (pv 2) aC)))
  (aE (b8 (pS (cU 1 hr (pv 3))) (aE (aU (cP 9 hr (pv 0) (aA (pv 3) (aA (pv 1) aC))))) bM))))
  (aE (aT (cP 2 hr (aH (pv 0) rfl) (aA (aH (pv 0) rfl) (aA (pv 1) aC))))))),?_⟩
 refine aL (σ:=[some (.ref hn),none,none,none]) rfl ?_;tm_at"e";have M1:= @fJ P w K mg base m;have M2:= @nS P w K mg base m;have M3:= @kN P w K mg base m;have M4:= @mM P w K mg base m;have M5:= @uQ P w K mg base m;have hc:=hh.hc;have ndd:=hc.nd;have hdl:=hc.ld;obtain⟨e0,e1,e2,e3,e4,⟨ddn,q1,q2,q3,e5⟩⟩:=hh.ob;tm_at"a";refine wI hh (by lia) λH1 hh1=> ?_;obtain⟨e0,e1,e2,e3,e4,⟨ddn,q1,q2,q3,e5⟩⟩:=hh1.ob;obtain⟨hdx,hqs,hqp,hqd,hnk,hkvs,ho1,_⟩:=hh1.hc'.at'.ex;tm_at"a";refine nW hh1.hc'.at' λp H2 n2 S2 f2=> ?_;rcases hh1.keep S2 n2 f2 with⟨_,s0,hh2⟩;generalize hH0:upd H0 p _=H0' at s0 hh2;have p0:H0' p=some (.lst ((ds.map (·.1)).map V.str)):=by rw[←hH0];exact aR
 tm_at"a";let Pv1:Nat->St->Hp->Prop:=λj σ' H'=>(∃sp',HNS m.aX m.aP m.aO (aJ P w K mg base (some 5)) H0' H' hn x f l rz ps ds u pl outs cv pk (dk++cN u ((ds.take j).filter exO) L.length) (L++exA ds pn N f l u j) sp' (N+1)/\∀v,cE (L++exA ds pn N f l u j) sp' v=cE L sp v)/\∃y z,σ'=[some (.ref hn),some (.int (N:Int)),y,z];refine dH ((ds.map (·.1)).map V.str) Pv1 ⟨⟨sp,?_⟩,_,_,rfl⟩ (λj σ' H' _ g=> ?_) ?_ ?_
 .have e:L++exA ds pn N f l u 0=L:=df L;have e':dk++cN u ((ds.take 0).filter exO) L.length=dk:=df dk;rw[e,e'];exact⟨hh2,λ_=>rfl⟩
 .obtain⟨⟨sp',g,_⟩,_⟩:=g;exact SqL.of (g.sm _ _ p0)
 .rintro j y _ H3 hy3 hq_;obtain⟨⟨sp',hh3,ex3⟩,y1,y2,rfl⟩:=hq_;obtain⟨d,hdj,rfl⟩:∃d,ds[j]? =some d/\y= .str d.1:=by
   rw[bu,bu]at hy3;rcases cj.mp hy3 with⟨z,h1,h2⟩;rcases cj.mp h1 with⟨d,h3,h4⟩;exact⟨d,h3,by rw[←h2,←h4]⟩
  have hdm:=ba hdj;have hjl:j<ds.length:=(ax.mp hdj).1;obtain⟨e0,e1,e2,e3,e4,⟨ddn,q1,q2,q3,e5⟩⟩:=hh3.ob;obtain⟨hdx,hqs,hqp,hqd,hnk,hkvs,ho1,_⟩:=hh3.hc'.at'.ex;tm_at"a";refine FR hh3.hc'.at' ndd hdm λv hv=> ?_;obtain⟨dn,dst,de,dlt⟩:=d;obtain⟨q,C9,dx',fs,fp,rfl,hq,dcC,l1,l2,l3,l4,l5,mcE,hfp,hlt⟩:=DoorAt.ex hv;tm_at"a";refine⟨q,C9,dx',fs,de,rfl,dcC,hq,l3,?_⟩;have hexl:=aBh ds pn N f l u j;have hpd:=hpn _ hdm;have hpl:pn dst<N:=hpd.2;have hLj:(L++exA ds pn N f l u j).length=L.length+((ds.take j).filter exO).length:=by rw[ak];unfold exA;rw[af]
  have htl:((ds.take j).filter exO).length<=j:=ee (fb _ _) (by rw[dh];lia);tm_at"a";refine bS (λhx=> ?_) (λhx=> ?_)
  .tm_at"a";refine UQ (sn:=pn dst) (tn:=N) (d:=(dn,dst,de,dlt)) hh3 hdm hv hu0' hu1' hpd.1 (by lia) (by lia) (by lia) (by rw[ak,oQ];lia) (zZ hkn (QZ ndd hdj exO)) λH4 hh4=> ?_;tm_at"a";have eA:=aBw (pn:=pn) (o:=N) (f:=f) (l:=l) (u:=u) hdj (decide_eq_true hx);have eT:(ds.take (j+1)).filter exO=(ds.take j).filter exO++[(dn,dst,de,dlt)]:=by rw[aV hdj,dy,cq (show exO (dn,dst,de,dlt)=true from decide_eq_true hx)];rfl
   refine⟨⟨sp'++[bX f l (dn,dst,de,dlt) u,0],?_,λv=> ?_⟩,_,_,rfl⟩
   .rw[eA,eT,AK,←cw,←cw,←hLj];exact hh4
   .rw[eA,←cw,←ex3 v];exact hh3.exc _ _ _ v
  .tm_at"a";have eA:=aDF (pn:=pn) (o:=N) (f:=f) (l:=l) (u:=u) hdj (λz=>hx (of_decide_eq_true z));have eT:(ds.take (j+1)).filter exO=(ds.take j).filter exO:=by
    rw[aV hdj,dy,ck (λz:exO (dn,dst,de,dlt)=true=>hx (of_decide_eq_true z))];exact df _
   refine⟨⟨sp',?_⟩,_,_,rfl⟩;rw[eA,eT];exact⟨hh3,ex3⟩
 .rintro _ H3 hq_;obtain⟨⟨sp',hh3,ex3⟩,y1,y2,rfl⟩:=hq_;have eL:exA ds pn N f l u ((ds.map (·.1)).map V.str).length=(ds.filter exO).map λd=>(pn d.2.1,N,bX f l d u):=by
   unfold exA;rw[af,af,cp]
  have eD:(ds.take ((ds.map (·.1)).map V.str).length).filter exO=ds.filter exO:=by rw[af,af,cp]
  rw[eL,eD]at hh3;rw[eL]at ex3;obtain⟨e0,e1,e2,e3,e4,⟨ddn,q1,q2,q3,e5⟩⟩:=hh3.ob;tm_at"a";refine VN hh3 (by lia) (by lia) λy sp2 rs H4 hh4 y0 ex4 cap4 nn4 shut=> ?_;exact k y sp2 rs H4 (hh4.back s0 hc) y0 (λv=>by rw[ex4 v,ex3 v]) cap4 nn4 shut
theorem w9(m:M K mg):Mc P w K mg base m.aP "send_out" 10 (G9 m.aX m.aP m.aO (aJ P w K mg base (some 5))):=⟨_,_,_,m.bN.ic.cl,m.yS,m.iK.b,xP m⟩
theorem wW(h:((rz.map (·.1)).map V.str)[j]? =some y):∃e,rz[j]? =some e/\y= .str e.1:=by
 rw[bu,bu]at h;rcases cj.mp h with⟨z,h1,h2⟩;rcases cj.mp h1 with⟨d,h3,h4⟩;exact⟨d,h3,by rw[←h2,←h4]⟩
inductive IG(CN CH CHo:Addr)(D:bH)(vs:List V)(H:Hp)(Q:VK)(E:XK):Prop
 | mk (hn:Addr) (x:HNAt) (pn:Str->Nat) (f l:Int) (rz ps:List (Str×Int)) (ds:List aF) (H0:Hp) (u pl:Int) (outs:List Int) (cv:List V) (pk dk:List (List Key×V)) (L:List Arc) (sp:List Int) (N:Nat) (_:vs=[.ref hn]) (_:HNS CN CH CHo D H0 H hn x f l rz ps ds u pl outs cv pk dk L sp N) (_:0<=pl) (_:(∀e∈rz,bA pk [.inr e.1,.inl u]=some (.int (pn e.1:Int))/\pn e.1<N)) (_:N<10000) (_:L.length<10000) (_:∀q sp' H',Same H0 (upd H0 q (.dK (enK rz N)))->HNS CN CH CHo D (upd H0 q (.dK (enK rz N))) H' hn x f l rz ps ds u pl outs cv pk dk (L++b9 pn (λ_=>pl) rz N) sp' (N+rz.length)->(∀v,cE (L++b9 pn (λ_=>pl) rz N) sp' v=cE L sp v)->Q (.ref q) H'):IG CN CH CHo D vs H Q E
theorem uL(m:M K mg):FnOk P w K mg base CX0 2 m.fS m.fR.d ["self"] (IG m.aX m.aP m.aO (aJ P w K mg base (some 5))):=by
 refine m.fR.F.ok aGM ?_ ?_;tm_at"g";tm_at"h";rcases h with⟨hn,x,pn,f,l,rz,ps,ds,H0,u,pl,outs,cv,pk,dk,L,sp,N,rfl,hh,hpl0,hpn,hN1,hL1,k⟩;tm_at"f";have nd:=aGM.nd;tm_at"d";have aGD:=m.bN;have aGE:=m.cR;have aGB:=m.bJ;refine⟨_,(aB (aQ (i:=1) nd rfl (by tm_at"b") wT)
  (aB (c4 cx rfl (bP (cU 1 hr (aH (pv 0) rfl))) (aN (i:=2) nd rfl (by tm_at"b")) (aB (jI hu1 (pv 1) (pv 2) (cU 1 hr (aH (pv 0) rfl)) rfl)
  (aE (aU (cP 1 hr (aH (pv 0) rfl) (aA (cP 1 hr (pv 0) (aA (pv 2) aC)) (aA (gH hu1 (pv 1) (pv 2) (λ_ _=>rfl)) (aA (aH (pv 0) rfl) aC))))))))
  (aE (aT (pv 1))))),?_⟩
 refine aL (σ:=[some (.ref hn),none,none]) rfl ?_;tm_at"e";have M1:= @fJ P w K mg base m;have M2:= @jJ P w K mg base m;have M3:= @gD P w K mg base m;have M4:= @iV P w K mg base m;have hc:=hh.hc;have nr:=hc.nr;have hrl:=hc.lr;obtain⟨e0,e1,e2,e3,e4,⟨ddn,q1,q2,q3,e5⟩⟩:=hh.ob;tm_at"a";rename_i q H1 n1 S1 f1;rcases hh.keep S1 n1 f1 with⟨hq0,sq0,hh1⟩;obtain⟨e0,e1,e2,e3,e4,⟨ddn,q1,q2,q3,e5⟩⟩:=hh1.ob;obtain⟨hdx,hqs,hqp,hqd,hnk,hkvs,ho1,_⟩:=hh1.hc'.at'.ex;tm_at"a";refine nW hh1.hc'.at' λp H2 n2 S2 f2=> ?_;have hpq:p≠q:=λz=>by rw[z,f1]at n2;cases n2
 rcases hh1.keep S2 n2 f2 with⟨hp0,sp0,hh2⟩;rw[Y3 hpq]at hh2;rw[aK hpq]at hp0;have sp1:Same H0 (upd H0 p (.lst ((rz.map (·.1)).map V.str))):=L2.same_upd hp0;generalize hB:upd H0 p (.lst ((rz.map (·.1)).map V.str))=B at hh2 sp1;have hBp:B p=some (.lst ((rz.map (·.1)).map V.str)):=by rw[←hB];exact aR
 have hBq:B q=none:=by rw[←hB,aK (eh hpq)];exact hq0
 have hcB:HC m.aO (aJ P w K mg base (some 5)) B x.h f l rz ps ds:=hc.same sp1;tm_at"a";let Pv2:Nat->St->Hp->Prop:=λj σ' H'=>(∃sp',HNS m.aX m.aP m.aO (aJ P w K mg base (some 5)) (upd B q (.dK (enK (rz.take j) N))) H' hn x f l rz ps ds u pl outs cv pk dk (L++b9 pn (λ_=>pl) (rz.take j) N) sp' (N+j)/\∀v,cE (L++b9 pn (λ_=>pl) (rz.take j) N) sp' v=cE L sp v)/\∃y,σ'=[some (.ref hn),some (.ref q),y];refine dH ((rz.map (·.1)).map V.str) Pv2 ⟨⟨sp,?_⟩,_,rfl⟩ (λj σ' H' _ g=> ?_) ?_ ?_
 .have e:L++b9 pn (λ_=>pl) (rz.take 0) N=L:=df L;rw[e];exact⟨hh2,λ_=>rfl⟩
 .obtain⟨⟨sp',g,_⟩,_⟩:=g;exact SqL.of (g.sm _ _ (by rw[aK hpq];exact hBp))
 .rintro j y _ H3 hy3 hq_;obtain⟨⟨sp',hh3,ex3⟩,y1,rfl⟩:=hq_;rcases wW hy3 with⟨e,hej,rfl⟩;have hem:=ba hej;have hjl:j<rz.length:=(ax.mp hej).1;rcases hpn e hem with⟨hv,hvl⟩;have htl:(rz.take j).length=j:=by rw[dh];lia
  have hLl:(L++b9 pn (λ_=>pl) (rz.take j) N).length=L.length+j:=by rw[ak,gO,htl]
  obtain⟨e0,e1,e2,e3,e4,⟨ddn,q1,q2,q3,e5⟩⟩:=hh3.ob;tm_at"a";refine wI hh3 (by lia) λH4 hh4=> ?_;have hq4:=hh4.sm _ _ aR;tm_at"a";refine x9 hq4 (by rw[sizeLine_eq,aDp];lia) λH5 B5 f5=> ?_;have hnw:bA (enK (rz.take j) N) (.inr e.1)=none:=wH (by
   rw[tP];intro z;rcases ag.mp z with⟨r,hr,hre⟩;rcases ag.mp hr with⟨e',he',hre'⟩;have h1:e'.1=e.1:=hre'.trans (jw hre);have hs:rz=rz.take j++rz.drop j:=(jj _ _).symm;have nr2:=nr;rw[hs,aq]at nr2;refine(gk.mp nr2).2.2 _ (ag.mpr ⟨e',he',rfl⟩) _ (ag.mpr ⟨e,?_,rfl⟩) h1;rw[gi];exact⟨0,by rw[mr];exact hej⟩)
  have eK:cJ (enK (rz.take j) N) (.inr e.1) (.int ((N+j:Nat):Int))=enK (rz.take (j+1)) N:=by rw[eX _ hnw,aV hej,OC,htl]
  rw[eK]at f5;have hh5:=hh4.put hBq hcB B5 f5;have hen:bA (enK (rz.take (j+1)) N) (.inr e.1)=some (.int ((N+j:Nat):Int)):=by
   rw[←eK,eX _ hnw];refine gB (e:=((.inr e.1:Key),(.int ((N+j:Nat):Int):V))) ?_ (be _ (.head _));rw[←eX _ hnw,eK,tP];exact pN ((List.take_sublist _ _).map _ |>.nodup nr)
  obtain⟨e0,e1,e2,e3,e4,⟨ddn,q1,q2,q3,e5⟩⟩:=hh5.ob;tm_at"a";refine V9 hh5 hv λH6 S6=> ?_;have hh6:=hh5.same S6;obtain⟨e0,e1,e2,e3,e4,⟨ddn,q1,q2,q3,e5⟩⟩:=hh6.ob;tm_at"a";refine iX (.inl (S6 _ _ f5)) hen ?_;tm_at"a";refine FH (s:=pn e.1) (t:=N+j) hh6 (by lia) (by lia) hpl0 (by lia) λH7 hh7=> ?_;tm_at"a";refine⟨⟨sp'++[pl,0],?_,λv=> ?_⟩,_,rfl⟩
  .rw[aV hej,gZ,htl,←cw,←aV hej];exact hh7
  .rw[aV hej,gZ,htl,←cw,←ex3 v];exact hh6.exc _ _ _ v
 .rintro _ H3 hq_;obtain⟨⟨sp',hh3,ex3⟩,y1,rfl⟩:=hq_;have hl:((rz.map (·.1)).map V.str).length=rz.length:=by rw[af,af]
  rw[hl,cp]at hh3;rw[hl,cp]at ex3;tm_at"a";have s0:Same H0 (upd H0 q (.dK (enK rz N))):=L2.same_upd hq0;refine k q sp' H3 s0 (hh3.back (λb v hb=> ?_) (hc.same s0)) ex3
  by_cases hbq:b=q
  .rw[hbq,aR]at hb ⊢;exact hb
  .rw[aK hbq]at hb ⊢;exact sp1 _ _ hb
theorem uK(m:M K mg):Mc P w K mg base m.aP "new_entries" 2 (IG m.aX m.aP m.aO (aJ P w K mg base (some 5))):=⟨_,_,_,m.bN.ic.cl,m.uO,m.fR.b,uL m⟩
def aA2(K:W.Frag)(f:Str)(tv:TE)(rd:V->V->Hp->VK->Prop)(nx:St->Hp->Prop)(σ:St):VK:=λx H1=>∃a C dx fs v,x= .ref a/\H1 a=some (.ins C dx fs)/\Cls K C/\NoAttr K C f/\fs.lookup f=some v ∧
 tv σ H1 λy H2=>rd v y H2 λz H3=>∃dx' fs',H3 a=some (.ins C dx' fs')/\fs'.length<1000/\nx σ (upd H3 a (.ins C dx' (bO f z fs')))
theorem aC6{K:W.Frag}{ta:TE}{f:Str}{bk:St->Hp->Prop}(h:ta σ H (aA2 K f tv rd nx σ)):Q9 K ta tv rd f ⟨nx,rt,bk,ct⟩ σ H:=h
theorem YW{K:W.Frag}{f:Str}{fs:List (Str×V)}(e:H a=some (.ins C dx fs))(cl:Cls K C)(na:NoAttr K C f)(l:fs.lookup f=some v)(h:tv σ H λy H2=>rd v y H2 λz H3=>∃dx' fs',H3 a=some (.ins C dx' fs')/\fs'.length<1000/\nx σ (upd H3 a (.ins C dx' (bO f z fs')))):aA2 K f tv rd nx σ (.ref a) H:=⟨a,C,dx,fs,v,rfl,e,cl,na,l,h⟩
def AD:V->Str
 | .str z=>z
 | _=>⟨#[]⟩
def inD(d:aF):Bool:= !exO d
def exL(ds:List aF)(pn:Str->Nat)(f l u:Int)(N:Nat):List Arc:=(ds.filter exO).map λd=>(pn d.2.1,N,bX f l d u)
def doL(rz:List (Str×Int))(ds:List aF)(pn:Str->Nat)(f l u:Int)(N:Nat):List Arc:=(ds.filter inD).map λd=>(pn d.2.1,N+1+ixR rz (AD d.2.2.1),bX f l d u)
def jC(rz:List (Str×Int))(ds:List aF)(pn:Str->Nat)(f l pl u:Int)(N:Nat):List Arc:=exL ds pn f l u N++(b9 pn (λ_=>pl) rz (N+1)++(doL rz ds pn f l u N++b9 (λz=>N+1+ixR rz z) (λe=>e.2) rz (N+1+rz.length)))
def dkB(rz:List (Str×Int))(ds:List aF)(u:Int)(a:Nat):List (List Key×V):=cN u (ds.filter exO) a++cN u (ds.filter inD) (a+(ds.filter exO).length+rz.length)
theorem OP{ds:List aF}(nd:(ds.map (·.1)).Nodup){d e:aF}(hd:d∈ds)(he:e∈ds)(h:d.1=e.1):d=e:=by
 induction ds with
 | nil=>exact nomatch hd
 | cons a l ih =>
  rcases cn.mp nd with⟨h1,h2⟩;cases hd with
  | head =>
   cases he with
   | head=>rfl
   | tail _ he=>exact(h1 (ag.mpr ⟨e,he,h.symm⟩)).elim
  | tail _ hd =>
   cases he with
   | head=>exact(h1 (ag.mpr ⟨d,hd,h⟩)).elim
   | tail _ he=>exact ih h2 hd he
theorem aBZ{u:Int}{ds:List aF}{a b:Nat}{d:aF}(h:∀n,bV u n∉dk.map (·.1))(nd:(ds.map (·.1)).Nodup)(hd:ds[j]? =some d)(hi:inD d=true):bA (dk++cN u (ds.filter exO) a++cN u ((ds.take j).filter inD) b) (bV u d.1)=none:=wH λz=>by
 rw[aq,aq,gL,gL]at z;rcases bf.mp z with z|z
 .rcases bf.mp z with z|z
  .exact h d.1 z
  .rcases ag.mp z with⟨e,he,h1⟩;rcases cu.mp he with⟨he1,he2⟩;have:=OP nd he1 (ba hd) (iW h1).2;rw[this]at he2;unfold inD at hi;rw[he2]at hi;exact absurd hi (by decide)
 .rcases ag.mp z with⟨e,he,h1⟩;exact QZ nd hd inD (ag.mpr ⟨e,he,(iW h1).2⟩)
theorem aBV{e:Str×Int}(nr:(rz.map (·.1)).Nodup)(hd:rz[j]? =some e):e.1∉(rz.take j).map (·.1):=λz=>by
 rcases ag.mp z with⟨e',he',h1⟩;have hs:rz=rz.take j++rz.drop j:=(jj _ _).symm;rw[hs,aq]at nr;refine(gk.mp nr).2.2 _ (ag.mpr ⟨e',he',rfl⟩) _ (ag.mpr ⟨e,?_,rfl⟩) h1;rw[gi];exact⟨0,by rw[mr];exact hd⟩
theorem W3{u:Int}{a:Nat}{e:Str×Int}(h:∀z,([.inr z,.inl u]:List Key)∉pk.map (·.1))(nr:(rz.map (·.1)).Nodup)(hd:rz[j]? =some e):bA (pk++dU u (rz.take j) a) [.inr e.1,.inl u]=none:=wH λz=>by
 rw[aq,i8]at z;rcases bf.mp z with z|z
 .exact h e.1 z
 .rcases ag.mp z with⟨e',he',h1⟩;refine aBV nr hd (ag.mpr ⟨e',he',?_⟩);injection h1 with h1 _;exact jw h1
inductive NY(CN CH CHo:Addr)(D:bH)(vs:List V)(H:Hp)(Q:VK)(E:XK):Prop
 | mk (hn:Addr) (x:HNAt) (pn:Str->Nat) (f l:Int) (rz ps:List (Str×Int)) (ds:List aF) (H0:Hp) (u pl:Int) (outs:List Int) (cv:List V) (pk dk:List (List Key×V)) (L:List Arc) (sp:List Int) (N:Nat) (_:vs=[.ref hn]) (_:HNS CN CH CHo D H0 H hn x f l rz ps ds u pl outs cv pk dk L sp N) (_:f<=u) (_:u<l) (_:0<=pl) (_:(∀e∈rz,bA pk [.inr e.1,.inl u]=some (.int (pn e.1:Int))/\pn e.1<N)) (_:(∀n,bV u n∉dk.map (·.1))) (_:(∀e∈pk,∃(z:Str) (t v:Int),e=([.inr z,.inl t],.int v))) (_:(∀z,([.inr z,.inl (u+1)]:List Key)∉pk.map (·.1))) (_:pk.length<64) (_:outs.length<100) (_:cv.length<100) (_:0<N) (_:N<5000) (_:L.length<5000) (_:dk.length<5000) (_:∀y cv' sp1 rs sp' H',cv'.length=cv.length+1->CapOk sp1 (L++exL ds pn f l u N)->(∀m,0<=at0 sp1 m)->(∀v,cE (L++exL ds pn f l u N) sp1 v=cE L sp v+((if (N:Int)=v then y else 0) - if (0:Int)=v then y else 0))->ML (bY (L++exL ds pn f l u N)) sp1 0 (N:Int) rs->HNS CN CH CHo D H0 H' hn x f l rz ps ds (u+1) pl (outs++[y]) cv' (pk++dU (u+1) rz (N+1+rz.length)) (dk++dkB rz ds u L.length) (L++jC rz ds pn f l pl u N) sp' (N+1+rz.length+rz.length)->0<=y->(∀v,cE (L++jC rz ds pn f l pl u N) sp' v=cE L sp v+((if (N:Int)=v then y else 0) - if (0:Int)=v then y else 0))->Q .non H'):NY CN CH CHo D vs H Q E
theorem BY(m:M K mg):FnOk P w K mg base CX0 11 m.lB m.lE.d ["self"] (NY m.aX m.aP m.aO (aJ P w K mg base (some 5))):=by
 refine m.lE.F.ok aG1 ?_ ?_;tm_at"g";tm_at"h";rcases h with⟨hn,x,pn,f,l,rz,ps,ds,H0,u,pl,outs,cv,pk,dk,L,sp,N,rfl,hh,hu0',hu1',hpl0,hpn,hkn,hps,hpw,hp64,hol,hcl,hN0,hN1,hL1,hdk1,k⟩;tm_at"f";have nd:=aG1.nd;tm_at"d";have aGD:=m.bN;have aGE:=m.cR;have aGB:=m.bJ;refine⟨_,(aB (aU (fW da dj dm cV (aH (pv 0) rfl) (aA (cU 10 hr (pv 0)) aC)))
  (aB (aU (fW da dj dm cV (aH (pv 0) rfl) (aA (cU 2 hr (pv 0)) aC)))
  (aB (aQ (i:=1) nd rfl (by tm_at"b") (cU 2 hr (pv 0)))
  (aB (c4 cx rfl (bP (cU 1 hr (aH (pv 0) rfl))) (aN (i:=2) nd rfl (by tm_at"b")) (aB (aQ (i:=3) nd rfl (by tm_at"b") (cP 1 hr (aH (pv 0) rfl) (aA (pv 2) aC)))
  (aE (b8 (z7 (pS (cU 1 hr (pv 3)))) (aE (aU (cP 9 hr (pv 0) (aA (pv 3) (aA (gH hu1 (pv 1) (aH (pv 3) rfl) (λ_ _=>rfl)) aC))))) bM))))
  (aB (V6 (pv 0) aD UX)
  (aE (c4 cx rfl (bP (cU 1 hr (aH (pv 0) rfl))) (aN (i:=4) nd rfl (by tm_at"b")) (aB (aQ (i:=5) nd rfl (by tm_at"b") (cU 1 hr (aH (pv 0) rfl)))
  (aB (aU (cP 1 hr (aH (pv 0) rfl) (aA (gH hu1 (pv 1) (pv 4) (λ_ _=>rfl)) (aA (pv 5) (aA (cP 3 hr (aH (pv 0) rfl) (aA (pv 4) aC)) aC)))))
  (aE (jI hu1 (aH (pv 0) rfl) (cY (aA (pv 4) (aA (aH (pv 0) rfl) aC))) (pv 5) rfl))))))))))),?_⟩
 refine aL (σ:=[some (.ref hn),none,none,none,none,none]) rfl ?_;tm_at"e";have M1:= @w9 P w K mg base m;have M2:= @rN P w K mg base m;have M3:= @uK P w K mg base m;have M4:= @mM P w K mg base m;have M5:= @nS P w K mg base m;have M6:= @kN P w K mg base m;have M7:= @jJ P w K mg base m;have M8:= @HG P w K mg base m;have M9:= @fJ P w K mg base m;have M10:= @gD P w K mg base m;have hc:=hh.hc;have nr:=hc.nr;have ndd:=hc.nd;have hrl:=hc.lr;have hdl:=hc.ld;have hxl:(ds.filter exO).length<=ds.length:=fb _ _;have hil:(ds.filter inD).length<=ds.length:=fb _ _;have hpd:∀d∈ds,bA pk [.inr d.2.1,.inl u]=some (.int (pn d.2.1:Int))/\pn d.2.1<N:=λd hd=>by
  rcases ag.mp (hc.din d hd).1 with⟨e,he,h1⟩;rw[←h1];exact hpn e he
 obtain⟨e0,e1,e2,e3,e4,⟨ddn,q1,q2,q3,e5⟩⟩:=hh.ob;tm_at"a";refine⟨hn,x,pn,f,l,rz,ps,ds,H0,u,pl,outs,cv,pk,dk,L,sp,N,rfl,hh,hu0',hu1',hpd,hkn,hN0,by lia,by lia,by lia,λy sp1 rs H1 hh1 y0 ex1 MY nn1 shut=> ?_⟩;have hLx:(L++exL ds pn f l u N).length=L.length+(ds.filter exO).length:=by rw[ak];unfold exL;rw[af]
 obtain⟨e0,e1,e2,e3,e4,⟨ddn,q1,q2,q3,e5⟩⟩:=hh1.ob;tm_at"a";refine cW e1 (by rw[sizeLine_eq,af];lia) λH2 B2 f2=> ?_;have hh2:=hh1.outp (os:=outs++[y]) B2 (by rw[f2,aq];rfl);obtain⟨e0,e1,e2,e3,e4,⟨ddn,q1,q2,q3,e5⟩⟩:=hh2.ob;tm_at"a";refine aAq hh2 (by lia) hp64 hps λqr vr H3 n3 S3 f3=> ?_;have hh3:=hh2.same S3;obtain⟨e0,e1,e2,e3,e4,⟨ddn,q1,q2,q3,e5⟩⟩:=hh3.ob;tm_at"a";refine cW e2 (by rw[sizeLine_eq];lia) λH4 B4 f4=> ?_;have hh4:=hh3.cuts B4 f4;obtain⟨e0,e1,e2,e3,e4,⟨ddn,q1,q2,q3,e5⟩⟩:=hh4.ob;tm_at"a";refine⟨hn,x,pn,f,l,rz,ps,ds,H0,u,pl,outs++[y],cv++[.ref qr],pk,_,_,sp1,N+1,rfl,hh4,hpl0,λe he=>⟨(hpn e he).1,by have:=(hpn e he).2;lia⟩,by lia,by have:=hLx;unfold exL at this;lia,λq sp2 H5 s5 hh5 ex5=> ?_⟩;have hLx':(L++List.map (λd:aF=>(pn d.2.1,N,bX f l d u)) (ds.filter exO)).length=L.length+(ds.filter exO).length:=hLx;have hh5:HNS m.aX m.aP m.aO (aJ P w K mg base (some 5)) (upd H0 q (.dK (enK rz (N+1)))) H5 hn x f l rz ps ds u pl (outs++[y]) (cv++[.ref qr]) pk (dk++cN u (ds.filter exO) L.length) (L++exL ds pn f l u N++b9 pn (λ_=>pl) rz (N+1)) sp2 (N+1+rz.length):=hh5;have ex5:∀v,cE (L++exL ds pn f l u N++b9 pn (λ_=>pl) rz (N+1)) sp2 v=cE (L++exL ds pn f l u N) sp1 v:=ex5;generalize hB1:upd H0 q (.dK (enK rz (N+1)))=B1 at s5 hh5;have hBq:B1 q=some (.dK (enK rz (N+1))):=by rw[←hB1];exact aR
 generalize hLY:L++exL ds pn f l u N++b9 pn (λ_=>pl) rz (N+1)=LY at hh5 ex5;have hLYl:LY.length=L.length+(ds.filter exO).length+rz.length:=by rw[←hLY,ak,gO,hLx]
 obtain⟨e0,e1,e2,e3,e4,⟨ddn,q1,q2,q3,e5⟩⟩:=hh5.ob;obtain⟨hdx,hqs,hqp,hqd,hnk,hkvs,ho1,_⟩:=hh5.hc'.at'.ex;tm_at"a";refine nW hh5.hc'.at' λp H6 n6 S6 f6=> ?_;rcases hh5.keep S6 n6 f6 with⟨_,s6,hh6⟩;generalize hB2:upd B1 p _=B2' at s6 hh6;have hBp:B2' p=some (.lst ((ds.map (·.1)).map V.str)):=by rw[←hB2];exact aR
 tm_at"a";let Pv1:Nat->St->Hp->Prop:=λj σ' H'=>(∃sp',HNS m.aX m.aP m.aO (aJ P w K mg base (some 5)) B2' H' hn x f l rz ps ds u pl (outs++[y]) (cv++[.ref qr]) pk (dk++cN u (ds.filter exO) L.length++cN u ((ds.take j).filter inD) LY.length) (LY++doL rz (ds.take j) pn f l u N) sp' (N+1+rz.length)/\∀v,cE (LY++doL rz (ds.take j) pn f l u N) sp' v=cE (L++exL ds pn f l u N) sp1 v)/\∃y z,σ'=[some (.ref hn),some (.ref q),y,z,none,none];refine dH ((ds.map (·.1)).map V.str) Pv1 ⟨⟨sp2,?_⟩,_,_,rfl⟩ (λj σ' H' _ g=> ?_) ?_ ?_
 .have e:LY++doL rz (ds.take 0) pn f l u N=LY:=df _;have e':dk++cN u (ds.filter exO) L.length++cN u ((ds.take 0).filter inD) LY.length=dk++cN u (ds.filter exO) L.length:=df _;rw[e,e'];exact⟨hh6,ex5⟩
 .obtain⟨⟨sp',g,_⟩,_⟩:=g;exact SqL.of (g.sm _ _ hBp)
 .rintro j yy _ H7 hy7 hq_;obtain⟨⟨sp',hh7,ex7⟩,y1,y2,rfl⟩:=hq_;obtain⟨d,hdj,rfl⟩:∃d,ds[j]? =some d/\yy= .str d.1:=by
   rw[bu,bu]at hy7;rcases cj.mp hy7 with⟨z,h1,h2⟩;rcases cj.mp h1 with⟨d,h3,h4⟩;exact⟨d,h3,by rw[←h2,←h4]⟩
  have hdm:=ba hdj;have hjl:j<ds.length:=(ax.mp hdj).1;obtain⟨e0,e1,e2,e3,e4,⟨ddn,q1,q2,q3,e5⟩⟩:=hh7.ob;obtain⟨hdx,hqs,hqp,hqd,hnk,hkvs,ho1,_⟩:=hh7.hc'.at'.ex;tm_at"a";refine FR hh7.hc'.at' ndd hdm λv hv=> ?_;obtain⟨dn,dst,de,dlt⟩:=d;obtain⟨q9,C9,dx',fs,fp,rfl,hq9,dcC,l1,l2,l3,l4,l5,mcE,hfp,hlt⟩:=DoorAt.ex hv;tm_at"a";refine⟨q9,C9,dx',fs,de,rfl,dcC,hq9,l3,?_⟩;rcases hpd _ hdm with⟨hpv,hpl⟩;have hpl:pn dst<N:=hpl;have htl:((ds.take j).filter inD).length<=j:=ee (fb _ _) (by rw[dh];lia);have hLj:(LY++doL rz (ds.take j) pn f l u N).length=LY.length+((ds.take j).filter inD).length:=by rw[ak];unfold doL;rw[af]
  rcases (hc.din _ hdm).2 with hde|⟨z,hde,hz⟩
  .have hde:de= .non:=hde;subst hde;tm_at"a";have eT:(ds.take (j+1)).filter inD=(ds.take j).filter inD:=by
    rw[aV hdj,dy,ck (by unfold inD exO;rw[decide_eq_true rfl];decide)];exact df _
   have eA:doL rz (ds.take (j+1)) pn f l u N=doL rz (ds.take j) pn f l u N:=by unfold doL;rw[eT]
   refine⟨⟨sp',?_⟩,_,_,rfl⟩;rw[eT,eA];exact⟨hh7,ex7⟩
  .have hde:de= .str z:=hde;subst hde;have hix:=pO hz;tm_at"a"
   try rw[if_pos (show (!decide (V.str z=V.non))=true by rw[decide_eq_false (λz=>nomatch z)];rfl)]
   tm_at"a";refine iX (.inl (hh7.sm _ _ (s6 _ _ hBq))) (RK nr hz) ?_;tm_at"a";refine UQ (sn:=pn dst) (tn:=N+1+ixR rz z) (d:=(dn,dst,.str z,dlt)) hh7 hdm hv hu0' hu1' hpv (by lia) (by lia) (by lia) (by rw[ak,ak,oQ,oQ];lia) (aBZ hkn ndd hdj (by unfold inD exO;rw[decide_eq_false (λz=>nomatch z)];rfl)) λH8 hh8=> ?_;tm_at"a";have eT:(ds.take (j+1)).filter inD=(ds.take j).filter inD++[(dn,dst,.str z,dlt)]:=by rw[aV hdj,dy,cq (by unfold inD exO;rw[decide_eq_false (λz=>nomatch z)];rfl)];rfl
   have eA:doL rz (ds.take (j+1)) pn f l u N=doL rz (ds.take j) pn f l u N++[(pn dst,N+1+ixR rz z,bX f l (dn,dst,.str z,dlt) u)]:=by unfold doL;rw[eT,aq];rfl
   refine⟨⟨sp'++[bX f l (dn,dst,.str z,dlt) u,0],?_,λv=> ?_⟩,_,_,rfl⟩
   .rw[eT,eA,AK,←cw,←cw,←hLj];exact hh8
   .rw[eA,←cw,←ex7 v];exact hh7.exc _ _ _ v
 .rintro _ H7 hq_;obtain⟨⟨sp',hh7,ex7⟩,y1,y2,rfl⟩:=hq_;have hl:((ds.map (·.1)).map V.str).length=ds.length:=by rw[af,af]
  rw[hl,cp]at hh7 ex7;generalize hLZ:LY++doL rz ds pn f l u N=LZ at hh7 ex7;have hLZl:LZ.length=LY.length+(ds.filter inD).length:=by rw[←hLZ,ak];unfold doL;rw[af]
  obtain⟨e0,e1,e2,e3,e4,⟨ddn,q1,q2,q3,e5⟩⟩:=hh7.ob;tm_at"a";refine aC6 ?_;tm_at"a";refine YW e0 (by tm_at"p") (by tm_at"p") (by tm_at"i") ?_;tm_at"a";refine⟨u,1,rfl,rfl,_,_,e0,(show (9:Nat)<1000 by decide),?_⟩;generalize hH8:upd H7 hn _=H8;have hh8:HNS m.aX m.aP m.aO (aJ P w K mg base (some 5)) B2' H8 hn x f l rz ps ds (u+1) pl (outs++[y]) (cv++[.ref qr]) pk (dk++cN u (ds.filter exO) L.length++cN u (ds.filter inD) LY.length) LZ sp' (N+1+rz.length):=by
   refine hh7.turn (v:=u+1) ?_ ?_
   .rw[←hH8];exact SameBut.upd
   .rw[←hH8];exact aR
  obtain⟨e0,e1,e2,e3,e4,⟨ddn,q1,q2,q3,e5⟩⟩:=hh8.ob;obtain⟨hdx,hqs,hqp,hqd,hnk,hkvs,ho1,_⟩:=hh8.hc'.at'.ex;tm_at"a";refine nW hh8.hc'.at' λp2 H9 n9 S9 f9=> ?_;rcases hh8.keep S9 n9 f9 with⟨_,s9,hh9⟩;generalize hB3:upd B2' p2 _=B3 at s9 hh9;have hBp3:B3 p2=some (.lst ((rz.map (·.1)).map V.str)):=by rw[←hB3];exact aR
  have hBq3:=s9 _ _ (s6 _ _ hBq);tm_at"a";let Pv2:Nat->St->Hp->Prop:=λj σ' H'=>(∃sp',HNS m.aX m.aP m.aO (aJ P w K mg base (some 5)) B3 H' hn x f l rz ps ds (u+1) pl (outs++[y]) (cv++[.ref qr]) (pk++dU (u+1) (rz.take j) (N+1+rz.length)) (dk++cN u (ds.filter exO) L.length++cN u (ds.filter inD) LY.length) (LZ++b9 (λz=>N+1+ixR rz z) (λe=>e.2) (rz.take j) (N+1+rz.length)) sp' (N+1+rz.length+j)/\∀v,cE (LZ++b9 (λz=>N+1+ixR rz z) (λe=>e.2) (rz.take j) (N+1+rz.length)) sp' v=cE (L++exL ds pn f l u N) sp1 v)/\∃y z a b,σ'=[some (.ref hn),some (.ref q),y,z,a,b];refine dH ((rz.map (·.1)).map V.str) Pv2 ⟨⟨sp',?_⟩,_,_,_,_,rfl⟩ (λj σ' H' _ g=> ?_) ?_ ?_
  .have e:LZ++b9 (λz=>N+1+ixR rz z) (λe=>e.2) (rz.take 0) (N+1+rz.length)=LZ:=df _;have e':pk++dU (u+1) (rz.take 0) (N+1+rz.length)=pk:=df _;rw[e,e'];exact⟨hh9,ex7⟩
  .obtain⟨⟨sp',g,_⟩,_⟩:=g;exact SqL.of (g.sm _ _ hBp3)
  .rintro j yy _ H10 hy10 hq_;obtain⟨⟨sp',hh10,ex10⟩,y1,y2,y3,y4,rfl⟩:=hq_;rcases wW hy10 with⟨e,hej,rfl⟩;have hem:=ba hej;have hjl:j<rz.length:=(ax.mp hej).1;have hez:e.1∈rz.map (·.1):=ag.mpr ⟨e,hem,rfl⟩;have hix:=pO hez;have htl:(rz.take j).length=j:=by rw[dh];lia
   have hLl:(LZ++b9 (λz=>N+1+ixR rz z) (λe=>e.2) (rz.take j) (N+1+rz.length)).length=LZ.length+j:=by rw[ak,gO,htl]
   obtain⟨e0,e1,e2,e3,e4,⟨ddn,q1,q2,q3,e5⟩⟩:=hh10.ob;tm_at"a";refine wI hh10 (by lia) λH11 hh11=> ?_;obtain⟨e0,e1,e2,e3,e4,⟨ddn,q1,q2,q3,e5⟩⟩:=hh11.ob;obtain⟨hdx,hqs,hqp,hqd,hnk,hkvs,ho1,_⟩:=hh11.hc'.at'.ex;tm_at"a";refine iX (.inl (hh11.sm _ _ hBq3)) (RK nr hez) ?_;tm_at"a";refine aBG (z:=e.1) (i:=e.2) hh11.hc'.at' nr hem λH12 S12=> ?_;have hh12:=hh11.same S12;tm_at"a";refine FH (s:=N+1+ixR rz e.1) (t:=N+1+rz.length+j) hh12 (by lia) (by lia) (hc.rz0 e hem) (by lia) λH13 hh13=> ?_;obtain⟨e0,e1,e2,e3,e4,⟨ddn,q1,q2,q3,e5⟩⟩:=hh13.ob;tm_at"a";rename_i r14 H14 n14 S14 f14;have hh14:=hh13.same S14;refine xY [.inr e.1,.inl (u+1)] (S14 _ _ e3) f14 (by rw[sizeLine_eq,ak,xZ];lia) λH15 B15 f15=> ?_;have eK:cJ (pk++dU (u+1) (rz.take j) (N+1+rz.length)) [.inr e.1,.inl (u+1)] (.int ((N+1+rz.length+j:Nat):Int))=pk++dU (u+1) (rz.take (j+1)) (N+1+rz.length):=by rw[eX _ (W3 hpw nr hej),aV hej,AA,htl,cw]
   rw[eK]at f15;have hh15:=hh14.pkp B15 f15;refine⟨⟨sp'++[e.2,0],?_,λv=> ?_⟩,_,_,_,_,rfl⟩
   .rw[aV hej,gZ,htl,←cw,←aV hej];exact hh15
   .rw[aV hej,gZ,htl,←cw,←ex10 v];exact hh12.exc _ _ _ v
  .rintro _ H10 hq_;obtain⟨⟨sp',hh10,ex10⟩,y1,y2,y3,y4,rfl⟩:=hq_;have hl:((rz.map (·.1)).map V.str).length=rz.length:=by rw[af,af]
   rw[hl,cp]at hh10 ex10;tm_at"a";have eB:LZ++b9 (λz=>N+1+ixR rz z) (λe=>e.2) rz (N+1+rz.length)=L++jC rz ds pn f l pl u N:=by
    rw[←hLZ,←hLY];unfold jC;rw[cw,cw,cw]
   have eD:dk++cN u (ds.filter exO) L.length++cN u (ds.filter inD) LY.length=dk++dkB rz ds u L.length:=by
    rw[hLYl,cw];rfl
   rw[eB,eD]at hh10;rw[eB]at ex10;refine k y _ sp1 rs sp' H10 ?_ MY nn1 ex1 shut (hh10.back (s5.trans (s6.trans s9)) hc) y0 (λv=>by rw[ex10 v];exact ex1 v);rw[ak];rfl
theorem CD(m:M K mg):Mc P w K mg base m.aP "go_on" 11 (NY m.aX m.aP m.aO (aJ P w K mg base (some 5))):=⟨_,_,_,m.bN.ic.cl,m.CQ,m.lE.b,BY m⟩
def N5(H:Hp)(v:V)(r:cT):Prop:=∃q,v= .ref q/\H q=some (.tup [.int r.1,.str r.2.1,.int r.2.2])
abbrev fI(H:Hp)(vs:List V)(rows:List cT):Prop:=bo (N5 H) vs rows
theorem aDo{rows:List cT}(h:fI H vs rows)(s:Same H H'):fI H' vs rows:=Paired.imp' (λv r ⟨q,e,h⟩=>⟨q,e,s _ _ h⟩) h
inductive EO(K:W.Frag)(vs:List V)(H:Hp)(Q:VK)(E:XK):Prop
 | mk (a:Addr) (us:List V) (rows:List cT) (_:vs=[.ref a]) (_:SqL K H a us) (_:fI H us rows) (_:rows.length<=200) (_:∀p H',H p=none->Same H H'->H' p=some (.dT (jY rows))->Q (.ref p) H'):EO K vs H Q E
theorem aFB{E:XK}{rows:List cT}(hS:SqL K H a us)(hr:fI H us rows)(hl:rows.length<=200)(h:∀p H',H p=none->Same H H'->H' p=some (.dT (jY rows))->Q (.ref p) H'):EO K [.ref a] H Q E:=⟨_,_,_,rfl,hS,hr,hl,h⟩
theorem PK(m:M K mg):FnOk P w K mg base CX0 1 m.yU m.rS.d ["plan"] (EO K):=by
 refine m.rS.F.ok aH2 ?_ ?_;tm_at"g";tm_at"h";rcases h with⟨a,us,rows,rfl,hS,hpl,hlen,k⟩;tm_at"f";have nd:=aH2.nd;tm_at"d";refine⟨_,(aB (aQ (i:=1) nd rfl (by tm_at"b") D0)
  (aB (c4 cx rfl (bP (pv 0)) (v8 (n:=3) rfl (aZ (aN (i:=2) nd rfl (by tm_at"b")) (aZ (aN (i:=3) nd rfl (by tm_at"b")) (aZ (aN (i:=4) nd rfl (by tm_at"b")) d8)))) (aE (jI hu1 (pv 1) (cY (aA (pv 2) (aA (pv 3) aC))) (aI bQ (ZE hu1 (pv 1) (cY (aA (pv 2) (aA (pv 3) aC))) aD ⟨rfl,rfl,rfl,rfl⟩) (pv 4)) rfl)))
  (aE (aT (pv 1))))),?_⟩
 refine aL (σ:=[some (.ref a),none,none,none,none]) rfl ?_;tm_at"e";have hul:us.length=rows.length:=bx hpl;tm_at"a";rename_i p H1 n1 S1 e1;let Pv1:Nat->St->Hp->Prop:=λi σ' H'=>SameBut p H1 H'/\H' p=some (.dT (jY (rows.take i)))/\∃x y z,σ'=[some (.ref a),some (.ref p),x,y,z];refine dH us Pv1 ⟨SameBut.refl,e1,_,_,_,rfl⟩ (λi σ' H' _ q=>(SameBut.same n1 S1 q.1).seq hS) ?_ ?_
 .rintro i x _ H' hx hq_;obtain⟨sb,ek,x1,x2,x3,rfl⟩:=hq_;have hi:i<us.length:=(ax.mp hx).1;obtain⟨⟨t,n,j⟩,hrx⟩:∃r,rows[i]? =some r:=⟨_,ao (by lia)⟩
  rcases Paired.at2 hpl hx hrx with⟨q,rfl,hq⟩;have hq':H' q=some (.tup [.int t,.str n,.int j]):=(SameBut.same n1 S1 sb) _ _ hq;rcases aAf (rows.take i) t n with⟨i0,ei⟩;have hkl:=DC (rows.take i);rw[dh]at hkl;tm_at"a";refine WH ek ?_;tm_at"a";rename_i b1 H2 n2 S2 e2;refine ZK (bV t n) (by tm_at"k") (by assumption) ?_;rw[ei];tm_at"a";rename_i b3 H3 n3 S3 e3;refine xY (bV t n) (by tm_at"k") (by assumption) (by rw[sizeLine_eq];lia) λH4 B4 e4=> ?_;refine⟨by tm_at"m",?_,_,_,_,rfl⟩;rw[e4,aV hrx,pM];unfold NN;rw[ei];rfl
 .rintro _ H' hq_;obtain⟨sb,ek,x1,x2,x3,rfl⟩:=hq_;rw[hul,cp]at ek;tm_at"a";exact k _ _ n1 (SameBut.same n1 S1 sb) ek
theorem PV(m:M K mg):Fc P w K mg base "added_up" 1 ["plan"] (EO K):=⟨_,_,m.UN,m.rS.F.kp,m.rS.b,PK m⟩
inductive A5(K:W.Frag)(vs:List V)(H:Hp)(Q:VK)(E:XK):Prop
 | mk (a:Addr) (us:List V) (rows:List cT) (_:vs=[.ref a]) (_:SqL K H a us) (_:fI H us rows) (_:rows.length<=200) (_:(g6 rows).length<64) (_:∀p ws xs H',H p=none->Same H H'->H' p=some (.lst ws)->fI H' ws xs->xs.map mQ=rP (g6 rows)->Q (.ref p) H'):A5 K vs H Q E
theorem aEV{E:XK}{rows:List cT}(hS:SqL K H a us)(hr:fI H us rows)(hl:rows.length<=200)(h64:(g6 rows).length<64)(h:∀p ws xs H',H p=none->Same H H'->H' p=some (.lst ws)->fI H' ws xs->xs.map mQ=rP (g6 rows)->Q (.ref p) H'):A5 K [.ref a] H Q E:=⟨_,_,_,rfl,hS,hr,hl,h64,h⟩
theorem JT:∀{es:List (List Key×V)}{ys:List V},bo (λe y=>∃q,y= .ref q/\H q=some (.tup ((RT e).map kV))) es ys->KRows H ys (es.map RT)
 | _,_,.nil=> .nil
 | _,_,.cons h t=> .cons h (JT t)
theorem EV:∀{ws:List V}{ks:List (List Key)},KRows H ws ks->(∀k∈ks,∃r:cT,k=mQ r)->∃xs,fI H ws xs/\xs.map mQ=ks
 | _,_,.nil,_=>⟨[],.nil,rfl⟩
 | _,_,.cons ⟨p,e,h⟩ t,hk=>by
  rcases EV t λk hk'=>hk k (ab _ hk') with⟨xs,h1,h2⟩;rcases hk _ (.head _) with⟨r,rfl⟩;exact⟨r::xs,.cons ⟨p,e,h⟩ h1,by rw[ay,h2]⟩
theorem RY(m:M K mg):FnOk P w K mg base CX0 2 m.A0 m.vA.d ["plan"] (A5 K):=by
 refine m.vA.F.ok aH6 ?_ ?_;tm_at"g";tm_at"h";rcases h with⟨a,us,rows,rfl,hS,hpl,hlen,h64,k⟩;tm_at"f";have nd:=aH6.nd;tm_at"d";have aIi:= @PV P w K mg base m;refine⟨_,(aE (aT (bI AL rfl m.OS IV (aA (d7 (N:=["place","number"]) (nl:=2) (ci:=[]) rfl (blk (s.heap.objs.size+1) rfl rfl rfl (by kernel_rfl)) (zF (bG aIi hr (aA (pv 0) aC))) (λ_ _ _ _=>(oJ (K:=K) (n:=2) rfl (aZ (aN (i:=0) (show (["place","number"]:List Str).Nodup by decide +kernel) rfl (by tm_at"b")) (aZ (aN (i:=1) (show (["place","number"]:List Str).Nodup by decide +kernel) rfl (by tm_at"b")) d8)))) (λ_ _ _ _=>(zJ (bC rO (pv 1) aD (bF _)))) (λ_ _ _ _=>(cY (aA (aS (dF (K:=K)) (pv 0) aD (λ_ _=>rfl)) (aA (aS (dF (K:=K)) (pv 0) aD (λ_ _=>rfl)) (aA (pv 1) aC)))))) aC)))),?_⟩;refine aL (σ:=[some (.ref a)]) rfl ?_;tm_at"e";have hkl:=DC rows;tm_at"a";refine aFB hS hpl hlen λp H1 n1 S1 e1=> ?_;tm_at"a";refine z9 e1 λo H2 B2 e2=> ?_;have sA:Same H H2:=SameBut.same n1 S1 B2;refine LU Z5 (λe y H=>∃q,y= .ref q/\H q=some (.tup ((RT e).map kV))) (λ_ _ _ _ ⟨q,h1,h2⟩ s=>⟨q,h1,s _ _ h2⟩) (by rw[sizeLine_eq];lia) (rest:=[]) (by rfl) e2 ?_ ?_ ?_
 .rintro ⟨kk,v⟩ H3 q hm s3 hq R hR;obtain⟨t,n,i,e⟩:=(lW rows).2 _ hm;cases e;show (_:TT) (some (V.ref q)::some (V.int i)::[]) H3 R;tm_at"a";exact hR _ (Same.refl _)
 .rintro ⟨kk,v⟩ H3 q hm - s3 hq R hR;obtain⟨t,n,i,e⟩:=(lW rows).2 _ hm;cases e;have hq':H3 q=some (.tup [.int t,.str n]):=hq;show (_:TE) (some (V.ref q)::some (V.int i)::[]) H3 R;tm_at"a";refine⟨q,_,0,_,rfl,rfl,SqT.of hq',rfl,?_⟩;tm_at"a";refine⟨q,_,1,_,rfl,rfl,SqT.of hq',rfl,?_⟩;tm_at"a";rename_i q4 H4 n4 S4 e4;exact hR _ _ ⟨q4,rfl,e4⟩ S4
 intro ys H3 s3 hys;have kr:=JT hys;tm_at"a";rename_i q4 H4 n4 S4 e4;refine MO (SqL.of e4) (kr.same S4) (by rw[bx kr];exact h64) (T4 rows) (by decide) λl ws H5 n5 S5 e5 kr5=> ?_;obtain⟨xs,h1,h2⟩:=EV kr5 λkk hk=>by
  obtain⟨t,n,rfl,_⟩:=mem_told.mp ((yM _).mem_iff.mp hk);exact⟨_,rfl⟩
 have sB:Same H H5:=((sA.trans s3).trans S4).trans S5;have sB4:Same H H4:=(sA.trans s3).trans S4;tm_at"a";refine k l ws xs H5 ?_ sB e5 h1 h2;cases hq:H l with
 | none=>rfl
 | some u=>rw[sB4 _ _ hq]at n5;cases n5
theorem UC(m:M K mg):Fc P w K mg base "as_told" 2 ["plan"] (A5 K):=⟨_,_,m.X1,m.vA.F.kp,m.vA.b,RY m⟩
def kpL(rz:List (Str×Int))(pn:Str->Nat)(N:Nat)(pl:Int):List Arc:=rz.map λe=>(pn e.1,N,pl)
inductive DT(CN CH CHo:Addr)(D:bH)(vs:List V)(H:Hp)(Q:VK)(E:XK):Prop
 | mk (hn:Addr) (x:HNAt) (pn:Str->Nat) (f l:Int) (rz ps:List (Str×Int)) (ds:List aF) (H0:Hp) (u pl:Int) (outs:List Int) (cv:List V) (pk dk:List (List Key×V)) (L:List Arc) (sp:List Int) (N:Nat) (_:vs=[.ref hn]) (_:HNS CN CH CHo D H0 H hn x f l rz ps ds u pl outs cv pk dk L sp N) (_:0<=pl) (_:(∀e∈rz,bA pk [.inr e.1,.inl u]=some (.int (pn e.1:Int))/\pn e.1<N)) (_:0<N) (_:N<10000) (_:L.length<10000) (_:∀sp' H',HNS CN CH CHo D H0 H' hn x f l rz ps ds u pl outs cv pk dk (L++kpL rz pn N pl) sp' (N+1)->(∀v,v≠0->v≠(N:Int)->cE (L++kpL rz pn N pl) sp' v=cE L sp v)->Q .non H'):DT CN CH CHo D vs H Q E
theorem uM(m:M K mg):FnOk P w K mg base CX0 3 m.fQ m.fU.d ["self"] (DT m.aX m.aP m.aO (aJ P w K mg base (some 5))):=by
 refine m.fU.F.ok aGL ?_ ?_;tm_at"g";tm_at"h";rcases h with⟨hn,x,pn,f,l,rz,ps,ds,H0,u,pl,outs,cv,pk,dk,L,sp,N,rfl,hh,hpl0,hpn,hN0,hN1,hL1,k⟩;tm_at"f";have nd:=aGL.nd;tm_at"d";have aGD:=m.bN;have aGE:=m.cR;have aGB:=m.bJ;refine⟨_,(aB (aQ (i:=1) nd rfl (by tm_at"b") (cU 1 hr (aH (pv 0) rfl)))
  (aB (c4 cx rfl (bP (cU 1 hr (aH (pv 0) rfl))) (aN (i:=2) nd rfl (by tm_at"b")) (aE (aU (cP 1 hr (aH (pv 0) rfl) (aA (cP 1 hr (pv 0) (aA (pv 2) aC)) (aA (pv 1) (aA (aH (pv 0) rfl) aC)))))))
  (aE (aU (cP 2 hr (aH (pv 0) rfl) (aA (aH (pv 0) rfl) (aA (pv 1) aC))))))),?_⟩
 refine aL (σ:=[some (.ref hn),none,none]) rfl ?_;tm_at"e";have M1:= @fJ P w K mg base m;have M2:= @jJ P w K mg base m;have M3:= @gD P w K mg base m;have M4:= @iV P w K mg base m;have M5:= @uQ P w K mg base m;have hc:=hh.hc;have hrl:=hc.lr;obtain⟨e0,e1,e2,e3,e4,⟨ddn,q1,q2,q3,e5⟩⟩:=hh.ob;tm_at"a";refine wI hh (by lia) λH1 hh1=> ?_;obtain⟨e0,e1,e2,e3,e4,⟨ddn,q1,q2,q3,e5⟩⟩:=hh1.ob;obtain⟨hdx,hqs,hqp,hqd,hnk,hkvs,ho1,_⟩:=hh1.hc'.at'.ex;tm_at"a";refine nW hh1.hc'.at' λp H2 n2 S2 f2=> ?_;rcases hh1.keep S2 n2 f2 with⟨_,s0,hh2⟩;generalize hB:upd H0 p _=B at s0 hh2;have p0:B p=some (.lst ((rz.map (·.1)).map V.str)):=by rw[←hB];exact aR
 tm_at"a";let Pv2:Nat->St->Hp->Prop:=λj σ' H'=>(∃sp',HNS m.aX m.aP m.aO (aJ P w K mg base (some 5)) B H' hn x f l rz ps ds u pl outs cv pk dk (L++kpL (rz.take j) pn N pl) sp' (N+1)/\∀v,cE (L++kpL (rz.take j) pn N pl) sp' v=cE L sp v)/\∃y,σ'=[some (.ref hn),some (.int (N:Int)),y];refine dH ((rz.map (·.1)).map V.str) Pv2 ⟨⟨sp,?_⟩,_,rfl⟩ (λj σ' H' _ g=> ?_) ?_ ?_
 .have e:L++kpL (rz.take 0) pn N pl=L:=df L;rw[e];exact⟨hh2,λ_=>rfl⟩
 .obtain⟨⟨sp',g,_⟩,_⟩:=g;exact SqL.of (g.sm _ _ p0)
 .rintro j y _ H3 hy3 hq_;obtain⟨⟨sp',hh3,ex3⟩,y1,rfl⟩:=hq_;rcases wW hy3 with⟨e,hej,rfl⟩;have hem:=ba hej;have hjl:j<rz.length:=(ax.mp hej).1;rcases hpn e hem with⟨hv,hvl⟩;have hLl:(L++kpL (rz.take j) pn N pl).length=L.length+j:=by unfold kpL;rw[ak,af,dh];lia
  obtain⟨e0,e1,e2,e3,e4,⟨ddn,q1,q2,q3,e5⟩⟩:=hh3.ob;tm_at"a";refine V9 hh3 hv λH6 S6=> ?_;have hh6:=hh3.same S6;obtain⟨e0,e1,e2,e3,e4,⟨ddn,q1,q2,q3,e5⟩⟩:=hh6.ob;tm_at"a";refine FH (s:=pn e.1) (t:=N) hh6 (by lia) (by lia) hpl0 (by lia) λH7 hh7=> ?_;tm_at"a";have eA:kpL (rz.take (j+1)) pn N pl=kpL (rz.take j) pn N pl++[(pn e.1,N,pl)]:=by unfold kpL;rw[aV hej,aq];rfl
  refine⟨⟨sp'++[pl,0],?_,λv=> ?_⟩,_,rfl⟩
  .rw[eA,←cw];exact hh7
  .rw[eA,←cw,←ex3 v];exact hh6.exc _ _ _ v
 .rintro _ H3 hq_;obtain⟨⟨sp',hh3,ex3⟩,y1,rfl⟩:=hq_;have hl:((rz.map (·.1)).map V.str).length=rz.length:=by rw[af,af]
  rw[hl,cp]at hh3 ex3;obtain⟨e0,e1,e2,e3,e4,⟨ddn,q1,q2,q3,e5⟩⟩:=hh3.ob;tm_at"a";refine VN hh3 (by lia) (by lia) λy sp2 rs H4 hh4 y0 ex4 cap4 nn4 shut=> ?_;tm_at"a";refine k sp2 H4 (hh4.back s0 hc) λv h0 h1=> ?_;rw[ex4 v,ex3 v,if_neg (eh h1),if_neg (eh h0)]
  lia
theorem uN(m:M K mg):Mc P w K mg base m.aP "keep_others" 3 (DT m.aX m.aP m.aO (aJ P w K mg base (some 5))):=⟨_,_,_,m.bN.ic.cl,m.uP,m.fU.b,uM m⟩
def cS(sp:List Int)(e:List Key×V):cT:=match e with
 | ([.inl t,.inr n],.int a)=>(t,n,at0 sp (a.toNat+1))
 | _=>(0,⟨#[]⟩,0)
inductive DU(CN CH CHo:Addr)(D:bH)(vs:List V)(H:Hp)(Q:VK)(E:XK):Prop
 | mk (hn:Addr) (x:HNAt) (f l:Int) (rz ps:List (Str×Int)) (ds:List aF) (H0:Hp) (u pl:Int) (outs:List Int) (cv:List V) (pk dk:List (List Key×V)) (L:List Arc) (sp:List Int) (N:Nat) (_:vs=[.ref hn]) (_:HNS CN CH CHo D H0 H hn x f l rz ps ds u pl outs cv pk dk L sp N) (_:(∀e∈dk,∃(t:Int) (n:Str) (a:Nat),e=(bV t n,.int (a:Int))/\a+1<sp.length)) (_:dk.length<64) (_:∀p ws xs H',Same H0 H'->H' p=some (.lst ws)->fI H' ws xs->xs.map mQ=rP (g6 (dk.map (cS sp)))->Q (.ref p) H'):DU CN CH CHo D vs H Q E
theorem DS(m:M K mg):FnOk P w K mg base CX0 3 m.mU m.m7.d ["self"] (DU m.aX m.aP m.aO (aJ P w K mg base (some 5))):=by
 refine m.m7.F.ok aHe ?_ ?_;tm_at"g";tm_at"h";rcases h with⟨hn,x,f,l,rz,ps,ds,H0,u,pl,outs,cv,pk,dk,L,sp,N,rfl,hh,hdk,h64,k⟩;tm_at"f";have nd:=aHe.nd;tm_at"d";have aIm:= @UC P w K mg base m;have aGD:=m.bN;have aGE:=m.cR;have aGB:=m.bJ;refine⟨_,(aE (aT (bG aIm hr (aA (HH (d7 (N:=["place","arc","self"]) (nl:=2) (ci:=[0]) rfl (blk (s.heap.objs.size+1) rfl rfl rfl (by kernel_rfl)) (zF (aH (pv 0) rfl)) (λ_ _ _ _=>(oJ (K:=K) (n:=2) rfl (aZ (aN (i:=0) (show (["place","arc","self"]:List Str).Nodup by decide +kernel) rfl (by tm_at"b")) (aZ (aN (i:=1) (show (["place","arc","self"]:List Str).Nodup by decide +kernel) rfl (by tm_at"b")) d8)))) (λ_ _ _ _=>dI) (λ_ _ _ _=>(cY (aA (aS (dF (K:=K)) (pv 0) aD (λ_ _=>rfl)) (aA (aS (dF (K:=K)) (pv 0) aD (λ_ _=>rfl)) (aA (WW (P:=P) (w:=w) (K:=K) (mg:=mg) (base:=base) 1 hr (A3 (K:=K) (pv 2) rfl) (aA (pv 1) aC)) aC))))))) aC)))),?_⟩;refine aL (σ:=[some (.ref hn)]) rfl ?_;tm_at"e";have M1:= @PD P w K mg base m;obtain⟨np,as,hne,hS,hfr,hns,hc⟩:=id hh;obtain⟨i0,i1,i2,i3,i4,i5,d1,d2,d3,d4,d5⟩:=id hne;tm_at"a";refine D8 i4 (λ_ _ z=>nomatch z) ?_;tm_at"a";refine z9 i4 λo H2 B2 f2=> ?_;have hx4:x.n≠x.a4:=λz=>by
  obtain⟨_,_,_,_,_,_,j0,_⟩:=i5;have j0:H x.n=_:=j0;have i4:H x.a4=_:=i4;rw[z,i4]at j0;cases j0
 have ne2:NetE m.aX H2 x.n np (bY L) sp as:=i5.on B2 hx4 (N2 i5 i4 λ_ z=>nomatch z);have g0:H2 hn=some (.ins m.aP x.dx (UH x.h x.a1 x.a2 x.n x.a3 x.a4 u pl)):=B2 _ _ i0 (λz=>by
  have i4:H x.a4=_:=i4;rw[z,i4]at i0;cases i0)
 refine LU (λ_=>true) (λe y H=>N5 H y (cS sp e)) (λ_ _ _ _ ⟨q,h1,h2⟩ s=>⟨q,h1,s _ _ h2⟩) (by rw[sizeLine_eq];lia) (rest:=[some (.ref hn)]) (by rfl) f2 ?_ ?_ ?_
 .rintro ⟨kk,v⟩ H3 q hm s3 hq R hR;exact hR _ (Same.refl _)
 .rintro ⟨kk,v⟩ H3 q hm - s3 hq R hR;obtain⟨t,n,a,e,ha⟩:=hdk _ hm;cases e;have hq':H3 q=some (.tup [.int t,.str n]):=hq;have g3:=s3 _ _ g0;have ne3:=ne2.same s3;obtain⟨dn3,c1,c2,c3,rs3,ef3,z0,_⟩:=id ne3;show (_:TE) (some (V.ref q)::some (V.int (a:Int))::[some (.ref hn)]) H3 R;tm_at"a";refine⟨q,_,0,_,rfl,rfl,SqT.of hq',rfl,?_⟩;tm_at"a";refine⟨q,_,1,_,rfl,rfl,SqT.of hq',rfl,?_⟩;tm_at"a";refine aCQ ne3 ha ?_;tm_at"a";rename_i q4 H4 n4 S4 e4;exact hR _ _ ⟨q4,rfl,by rw[e4];show _=some (HO.tup [V.int t,V.str n,V.int (at0 sp ((a:Int).toNat+1))]);rw[dw]⟩ S4
 intro ys H3 s3 hys;rw[dM]at hys;have hpl:fI H3 ys (dk.map (cS sp)):=by
  have:∀{es:List (List Key×V)}{zs:List V},bo (λe y=>N5 H3 y (cS sp e)) es zs->fI H3 zs (es.map (cS sp)):=λ{es zs} h=>by
   induction h with
   | nil=>exact .nil
   | cons h t ih=>exact .cons h ih
  exact this hys
 have hyl:(dk.map (cS sp)).length=dk.length:=af _;tm_at"a";rename_i p4 H4 n4 S4 f4;refine u5 (S4 _ _ (s3 _ _ f2)) λH5 B5 f5=> ?_;have hp4:p4≠x.a4:=λz=>by
  have h:=s3 _ _ f2;rw[z]at n4;rw[n4]at h;cases h
 have nl:∀b o,H3 b=some o->(∀oo xx,o≠HO.frz oo xx)->b≠x.a4:=λb o hb ho z=>by
  rw[z,s3 _ _ f2]at hb;exact ho _ _ (dq hb).symm
 have hpl5:fI H5 ys (dk.map (cS sp)):=Paired.imp' (λv r ⟨q,e,h⟩=>⟨q,e,B5 _ _ (S4 _ _ h) (nl _ _ h λ_ _ z=>nomatch z)⟩) hpl;have s5:Same H0 H5:=λb v hb=>by
  have hb4:b≠x.a4:=λz=>by
   have:=hfr x.a4 (ab _ (ab _ (ab _ (ab _ (.head _)))));rw[z,this]at hb;cases hb
  exact B5 _ _ (S4 _ _ (s3 _ _ (B2 _ _ (hS _ _ hb) hb4))) hb4
 have htk:(g6 (dk.map (cS sp))).length<64:=by
  have h1:=DC (dk.map (cS sp));unfold g6;rw[af];have h2:=fb Z5 (jY (dk.map (cS sp)))
  lia
 tm_at"a";refine aEV (SqL.of (B5 _ _ f4 hp4)) hpl5 (by lia) htk λp6 ws6 xs6 H6 n6 S6 f6 hp6 hx6=> ?_;tm_at"a";exact k p6 ws6 xs6 H6 (s5.trans S6) f6 hp6 hx6
theorem D5(m:M K mg):Mc P w K mg base m.aP "rows" 3 (DU m.aX m.aP m.aO (aJ P w K mg base (some 5))):=⟨_,_,_,m.bN.ic.cl,m.EM,m.m7.b,DS m⟩
def nb(R k:Nat):Nat:=1+k * (2 * R+1)
theorem BI(R k:Nat):nb R (k+1)=nb R k+R+1+R:=by unfold nb;rw[pz];lia
def pnK(rz:List (Str×Int))(k:Nat)(z:Str):Nat:=nb rz.length k+ixR rz z
def LK(rz ps:List (Str×Int))(ds:List aF)(f l pl:Int):Nat->List Arc
 | 0=>b9 (λ_=>0) (λe=>cC ps e.1) rz 1
 | k+1=>LK rz ps ds f l pl k++jC rz ds (pnK rz k) f l pl (f+(k:Int)) (nb rz.length k+rz.length)
def pkK(rz:List (Str×Int))(f:Int):Nat->List (List Key×V)
 | 0=>dU f rz 1
 | k+1=>pkK rz f k++dU (f+(k:Int)+1) rz (nb rz.length k+rz.length+1+rz.length)
def dkK(rz ps:List (Str×Int))(ds:List aF)(f l pl:Int):Nat->List (List Key×V)
 | 0=>[]
 | k+1=>dkK rz ps ds f l pl k++dkB rz ds (f+(k:Int)) (LK rz ps ds f l pl k).length
theorem D4(ds:List aF):(ds.filter exO).length+(ds.filter inD).length=ds.length:=by
 induction ds with
 | nil=>rfl
 | cons d l ih =>
  by_cases h:exO d=true
  .rw[cq h,ck (by unfold inD;rw[h];decide),az,az];lia
  .rw[ck h,cq (by unfold inD;rw[Bool.not_eq_true]at h;rw[h];rfl),az,az];lia
theorem aAb(rz:List (Str×Int))(ds:List aF)(pn:Str->Nat)(f l pl u:Int)(N:Nat):(jC rz ds pn f l pl u N).length=ds.length+2 * rz.length:=by
 have:=D4 ds;unfold jC exL doL;rw[ak,ak,ak,gO,gO,af,af];lia
theorem aCx(rz:List (Str×Int))(ds:List aF)(u:Int)(a:Nat):(dkB rz ds u a).length=ds.length:=by
 have:=D4 ds;unfold dkB;rw[ak,oQ,oQ];lia
theorem ES(rz ps:List (Str×Int))(ds:List aF)(f l pl:Int):∀k,(LK rz ps ds f l pl k).length=rz.length+k * (ds.length+2 * rz.length)
 | 0=>by show (b9 _ _ _ _).length=_;rw[gO];lia
 | k+1=>by
  show lh (_++_)=_;rw[ak,ES rz ps ds f l pl k,aAb,pz];lia
theorem BP(rz ps:List (Str×Int))(ds:List aF)(f l pl:Int):∀k,(dkK rz ps ds f l pl k).length=k * ds.length
 | 0=>by rw[Nat.zero_mul];rfl
 | k+1=>by
  show lh (_++_)=_;rw[ak,BP rz ps ds f l pl k,aCx,pz];lia
theorem Q5(rz:List (Str×Int))(f:Int):∀k,(pkK rz f k).length=(k+1) * rz.length
 | 0=>by show (dU _ _ _).length=_;rw[xZ];lia
 | k+1=>by
  show lh (_++_)=_;rw[ak,Q5 rz f k,xZ,pz (k+1)];lia
theorem RL{ds:List aF}{u:Int}{a:Nat}{k:List Key}(h:k∈(dkB rz ds u a).map (·.1)):∃d∈ds,k=bV u d.1:=by
 unfold dkB at h;rw[aq,gL,gL]at h;rcases bf.mp h with h|h
 .rcases ag.mp h with⟨d,hd,rfl⟩;exact⟨d,(cu.mp hd).1,rfl⟩
 .rcases ag.mp h with⟨d,hd,rfl⟩;exact⟨d,(cu.mp hd).1,rfl⟩
theorem GH{ds:List aF}{q:List Key}:∀{k:Nat},q∈(dkK rz ps ds f l pl k).map (·.1)->∃d∈ds,∃j:Nat,j<k/\q=bV (f+(j:Int)) d.1
 | 0,h=>nomatch h
 | k+1,h=>by
  have h:q∈(dkK rz ps ds f l pl k++dkB rz ds (f+(k:Int)) (LK rz ps ds f l pl k).length).map (·.1):=h;rw[aq]at h;rcases bf.mp h with h|h
  .obtain⟨d,hd,j,hj,e⟩:=GH h;exact⟨d,hd,j,by lia,e⟩
  .rcases RL h with⟨d,hd,e⟩;exact⟨d,hd,k,by lia,e⟩
theorem GS{q:List Key}:∀{k:Nat},q∈(pkK rz f k).map (·.1)->∃e∈rz,∃j:Nat,j<=k/\q=[.inr e.1,.inl (f+(j:Int))]
 | 0,h=>by
  have h:q∈(dU f rz 1).map (·.1):=h;rw[i8]at h;rcases ag.mp h with⟨e,he,rfl⟩;exact⟨e,he,0,au _,by rw[show f+((0:Nat):Int)=f by lia]⟩
 | k+1,h=>by
  have h:q∈(pkK rz f k++dU (f+(k:Int)+1) rz (nb rz.length k+rz.length+1+rz.length)).map (·.1):=h;rw[aq]at h;rcases bf.mp h with h|h
  .obtain⟨e,he,j,hj,e'⟩:=GS h;exact⟨e,he,j,by lia,e'⟩
  .rw[i8]at h;rcases ag.mp h with⟨e,he,rfl⟩;exact⟨e,he,k+1,au _,by rw[show f+((k+1:Nat):Int)=f+(k:Int)+1 by lia]⟩
theorem xO{t:Int}:∀{l:List (Str×Int)}{a:Nat}{e:List Key×V},e∈dU t l a->∃(z:Str) (t v:Int),e=([.inr z,.inl t],.int v)
 | d::l,a,e,h=>by
  rcases aw.mp h with rfl|h
  .exact⟨_,_,_,rfl⟩
  .exact xO h
theorem JL{e:List Key×V}:∀{k:Nat},e∈pkK rz f k->∃(z:Str) (t v:Int),e=([.inr z,.inl t],.int v)
 | 0,h=>xO h
 | k+1,h=>by
  rcases bf.mp (show e∈pkK rz f k++_ from h) with h|h
  .exact JL h
  .exact xO h
theorem LN{z':Str}{t t':Int}(h:([.inr z,.inl t]:List Key)=[.inr z',.inl t']):z=z'/\t=t':=by
 injection h with h1 h2;injection h2 with h2 _;exact⟨jw h1,oz h2⟩
theorem RJ{t:Int}(nr:(rz.map (·.1)).Nodup)(a:Nat):((dU t rz a).map (·.1)).Nodup:=by
 rw[i8];have:(rz.map λe=>([.inr e.1,.inl t]:List Key))=(rz.map (·.1)).map λz=>([.inr z,.inl t]:List Key):=by rw[du];rfl
 rw[this,oq,iq];exact nr.imp λh z=>h (LN z).1
theorem L6(nr:(rz.map (·.1)).Nodup)(f:Int):∀k,((pkK rz f k).map (·.1)).Nodup
 | 0=>RJ nr 1
 | k+1=>by
  show ((pkK rz f k++_).map (·.1)).Nodup;rw[aq];refine gk.mpr ⟨L6 nr f k,RJ nr _,λa ha b hb e=> ?_⟩;obtain⟨e1,_,j,hj,h1⟩:=GS ha;rw[i8]at hb;rcases ag.mp hb with⟨e2,_,h2⟩;rw[h1,←h2]at e;have:=(LN e).2
  lia
theorem aC9(nr:(rz.map (·.1)).Nodup)(f:Int)(hz:z∈rz.map (·.1)):∀k:Nat,bA (pkK rz f k) [.inr z,.inl (f+(k:Int))]=some (.int (pnK rz k z:Int))
 | 0=>by
  have h:=gB (L6 nr f 0) (show ([.inr z,.inl f],(.int ((1+ixR rz z:Nat):Int):V))∈pkK rz f 0 from G1 f hz);rw[show f+((0:Nat):Int)=f by lia];unfold pnK nb;rw[Nat.zero_mul];exact h
 | k+1=>by
  have hm:=G1 (f+(k:Int)+1) (a:=nb rz.length k+rz.length+1+rz.length) hz;have h:=gB (L6 nr f (k+1)) (show _∈pkK rz f k++_ from be _ hm);rw[show f+((k+1:Nat):Int)=f+(k:Int)+1 by lia];unfold pnK;rw[BI];exact h
def oN(R j:Nat):Nat:=nb R j+R
def oE(R:Nat):List Int->Nat->Int->Int
 | [],_,_=>0
 | y::l,j,v=>(if (oN R j:Int)=v then y else 0)+oE R l (j+1) v
theorem GR(R:Nat)(y v:Int):∀(l:List Int) (j:Nat),oE R (l++[y]) j v=oE R l j v+if (oN R (j+l.length):Int)=v then y else 0
 | [],j=>by
  show (if (oN R j:Int)=v then y else 0)+0=0+if (oN R (j+0):Int)=v then y else 0;rw[qq];lia
 | x::l,j=>by
  show _+oE R (l++[y]) (j+1) v=(_+oE R l (j+1) v)+_;rw[GR R y v l (j+1),az,show j+1+l.length=j+(l.length+1) by lia];lia
theorem yD(R:Nat){k:Nat}(h:j<k):oN R j<nb R k:=by
 unfold oN nb;have:(j+1) * (2 * R+1)<=k * (2 * R+1):=we _ h;rw[pz]at this
 lia
theorem aET(R j:Nat):0<oN R j:=by unfold oN nb;lia
def excOk(R:Nat)(L:List Arc)(sp outs:List Int):Prop:=∀v,cE L sp v=oE R outs 0 v - if (0:Int)=v then outs.sum else 0
def Bst(R:Nat)(LX:List Arc)(j:Nat)(outs:List Int):Prop:=∃sp rs,CapOk sp LX/\(∀m,0<=at0 sp m)/\excOk R LX sp outs/\ML (bY LX) sp 0 (oN R j:Int) rs
def LX(rz ps:List (Str×Int))(ds:List aF)(f l pl:Int)(k:Nat):List Arc:=LK rz ps ds f l pl k++exL ds (pnK rz k) f l (f+(k:Int)) (oN rz.length k)
def BstAll(rz ps:List (Str×Int))(ds:List aF)(f l pl:Int)(outs:List Int):Prop:=∀j,j<outs.length->Bst rz.length (LX rz ps ds f l pl j) j (outs.take (j+1))
theorem excOk.more{R:Nat}{L L':List Arc}{sp:List Int}{y:Int}(h:excOk R L sp outs)(e:∀v,cE L' sp' v=cE L sp v+((if (oN R outs.length:Int)=v then y else 0) - if (0:Int)=v then y else 0)):excOk R L' sp' (outs++[y]):=λv=>by
 rw[e v,h v,GR,ve,gr];have:[y].sum=y:=by rw[cm];exact ia _
 rw[this]
 split<;>split<;>lia
theorem BstAll.more{ds:List aF}{y:Int}(h:BstAll rz ps ds f l pl outs)(b:Bst rz.length (LX rz ps ds f l pl outs.length) outs.length (outs++[y])):BstAll rz ps ds f l pl (outs++[y]):=λj hj=>by
 rw[ak]at hj;have hj:j<outs.length+1:=hj
 by_cases he:j=outs.length
 .subst he;rw[jz (by rw[ak];exact au _)];exact b
 .rw[ja (by lia)];exact h j (by lia)
theorem FK{ts sp:List Int}(nd:rs.Nodup)(h0:∀k,0<=at0 sp k):∀n:Nat,- pX ts sp rs n<=jX ts sp rs n
 | 0=>by
  have e:∀l:List Int,(l.map λv=>c6 ts sp v 0).sum=0:=λl=>by
   induction l with
   | nil=>rfl
   | cons a l ih=>rw[ay,cm,ih];rfl
  have e':jX ts sp rs 0=0:=e rs;rw[e'];exact fe _
 | n+1=>by
  have ih:=FK nd h0 n (ts:=ts);unfold jX at ih ⊢;have e:(rs.map λv=>c6 ts sp v (n+1)).sum=(rs.map λv=>c6 ts sp v n).sum+((rs.map λv=>if at0 ts (2 * n)=v then at0 sp (2 * n+1) else 0).sum - (rs.map λv=>if at0 ts (2 * n+1)=v then at0 sp (2 * n+1) else 0).sum):=rX rs _ _ _;rw[e,iF nd,iF nd,uT];have a0:=h0 (2 * n);have a1:=h0 (2 * n+1)
  by_cases ht:at0 ts (2 * n+1)∈rs
  .by_cases hh:at0 ts (2 * n)∈rs
   .rw[if_pos hh,if_pos ht,if_neg (λz=>z.2 hh)];lia
   .rw[if_neg hh,if_pos ht,if_pos ⟨ht,hh⟩];lia
  .by_cases hh:at0 ts (2 * n)∈rs
   .rw[if_pos hh,if_neg ht,if_neg (λz=>ht z.1)];lia
   .rw[if_neg hh,if_neg ht,if_neg (λz=>ht z.1)];lia
theorem VZ{R:Nat}{L:List Arc}{ya yb:Int}(a:Bst R L os.length (os++[ya]))(b:Bst R L os.length (os++[yb])):ya<=yb:=by
 obtain⟨spa,rsa,ca,na,ea,sa⟩:=a;obtain⟨spb,rsb,cb,nb',eb,nd,hs0,hso,hsh⟩:=b;have h1:=FK nd na L.length (ts:=bY L);have h2:jX (bY L) spb rsb L.length= - pX (bY L) spb rsb L.length:=HZ nd (λk _=>nb' k) λk hk=>hsh k (by rw[gQ];exact hk);have hcap:pX (bY L) spa rsb L.length=pX (bY L) spb rsb L.length:=by rw[lN ca _ (au _),lN cb _ (au _)]
 have h3:jX (bY L) spa rsb L.length=jX (bY L) spb rsb L.length+((rsb.map λv=>if (oN R os.length:Int)=v then ya - yb else 0).sum - (rsb.map λv=>if (0:Int)=v then ya - yb else 0).sum):=by
  unfold jX;rw[←rX]
  congr 1
  refine gy λv _=> ?_;have e1:=ea v;have e2:=eb v;unfold cE at e1 e2;rw[GR,ve,gr]at e1 e2;have s1:∀y:Int,[y].sum=y:=λy=>by rw[cm];exact ia _
  rw[s1]at e1 e2;rw[e1,e2]
  split<;>split<;>lia
 rw[iF nd,iF nd,if_neg hso,if_pos hs0]at h3
 lia
theorem YC{ds:List aF}{ob:List Int}(ha:BstAll rz ps ds f l pl oa)(hb:BstAll rz ps ds f l pl ob)(hl:oa.length=ob.length):oa=ob:=by
 have key:∀k,k<=oa.length->oa.take k=ob.take k:=λk=>by
  induction k with
  | zero=>intro _;rfl
  | succ k ih =>
   intro hk;have e:=ih (by lia);obtain⟨x,hx⟩:∃x,oa[k]? =some x:=⟨_,ao (by lia)⟩
   obtain⟨y,hy⟩:∃y,ob[k]? =some y:=⟨_,ao (by lia)⟩
   have h1:=ha k (by lia);have h2:=hb k (by lia);rw[aV hx]at h1;rw[aV hy,←e]at h2;have hkl:(oa.take k).length=k:=by rw[dh];lia
   have h1:Bst rz.length (LX rz ps ds f l pl k) (oa.take k).length (oa.take k++[x]):=by rw[hkl];exact h1
   have h2:Bst rz.length (LX rz ps ds f l pl k) (oa.take k).length (oa.take k++[y]):=by rw[hkl];exact h2
   have hxy:x=y:=Int.le_antisymm (VZ h1 h2) (VZ h2 h1);rw[aV hx,aV hy,e,hxy]
 have:=key oa.length (au _);rw[cp,hl,cp]at this;exact this
def DB(sp:List Int)(v:Nat)(a:Arc)(k:Nat):Int:=(if a.2.1=v then at0 sp (2 * k+1) else 0) - if a.1=v then at0 sp (2 * k+1) else 0
def gU(sp:List Int)(v:Nat):List Arc->Nat->Int
 | [],_=>0
 | a::l,k=>DB sp v a k+gU sp v l (k+1)
theorem kY(sp:List Int)(v:Nat)(B:List Arc):∀(A:List Arc) (k:Nat),gU sp v (A++B) k=gU sp v A k+gU sp v B (k+A.length)
 | [],k=>by show _=0+gU sp v B (k+0);rw[qq];exact(gd _).symm
 | a::A,k=>by
  show _+gU sp v (A++B) (k+1)=(_+gU sp v A (k+1))+_;rw[kY sp v B A (k+1),az,show k+1+A.length=k+(A.length+1) by lia];lia
theorem iS(sp:List Int)(v:Nat):∀(A:List Arc) (k:Nat),(∀a∈A,a.2.1≠v/\a.1≠v)->gU sp v A k=0
 | [],_,_=>rfl
 | a::A,k,h=>by
  rcases h a (.head _) with⟨h1,h2⟩;show DB sp v a k+_=0;unfold DB;rw[if_neg h1,if_neg h2,iS sp v A (k+1) λb hb=>h b (ab _ hb)];rfl
def flS(sp:List Int):Nat->Nat->Int
 | 0,_=>0
 | n+1,k=>at0 sp (2 * k+1)+flS sp n (k+1)
theorem Q8(sp:List Int)(v:Nat):∀(A:List Arc) (k:Nat),(∀a∈A,a.2.1=v/\a.1≠v)->gU sp v A k=flS sp A.length k
 | [],_,_=>rfl
 | a::A,k,h=>by
  rcases h a (.head _) with⟨h1,h2⟩;show DB sp v a k+_=at0 sp (2 * k+1)+flS sp A.length (k+1);unfold DB;rw[if_pos h1,if_neg h2,Q8 sp v A (k+1) λb hb=>h b (ab _ hb)];lia
theorem aEK(L:List Arc)(sp:List Int)(v:Nat):cE L sp (v:Int)=gU sp v L 0:=by
 have key:∀n,n<=L.length->c6 (bY L) sp (v:Int) n=gU sp v (L.take n) 0:=λn=>by
  induction n with
  | zero=>intro _;rfl
  | succ n ih =>
   intro hn;obtain⟨a,ha⟩:∃a,L[n]? =some a:=⟨_,ao (by lia)⟩
   rcases BH ha with⟨h1,h2⟩;show c6 (bY L) sp (v:Int) n+_=_;rw[ih (by lia),aV ha,kY,h1,h2];have hl:0+(L.take n).length=n:=by rw[dh];lia
   rw[hl];show _=_+(DB sp v a n+0);unfold DB
   by_cases c1:a.2.1=v
   .by_cases c2:a.1=v
    .rw[if_pos (by lia),if_pos (by lia),if_pos c1,if_pos c2];lia
    .rw[if_pos (by lia),if_neg (by lia),if_pos c1,if_neg c2];lia
   .by_cases c2:a.1=v
    .rw[if_neg (by lia),if_pos (by lia),if_neg c1,if_pos c2];lia
    .rw[if_neg (by lia),if_neg (by lia),if_neg c1,if_neg c2];lia
 unfold cE;rw[key _ (au _),cp]
theorem sO(hz:z∈rz.map (·.1))(k:Nat):nb rz.length k<=pnK rz k z/\pnK rz k z<oN rz.length k:=by
 have:=pO hz;unfold pnK oN
 lia
theorem aAN(R:Nat){k:Nat}(h:j<=k):nb R j<=nb R k:=by
 unfold nb;have:=we (2 * R+1) h
 lia
theorem aCE{ds:List aF}{u:Int}(din:∀d∈ds,cQ (rz.map (·.1)) d)(sp:List Int)(i j a:Nat):gU sp (oN rz.length j) (jC rz ds (pnK rz i) f l pl u (oN rz.length i)) a=if i=j then flS sp (ds.filter exO).length a else 0:=by
 have hpn:∀d∈ds,nb rz.length i<=pnK rz i d.2.1/\pnK rz i d.2.1<oN rz.length i:=λd hd=>sO (din d hd).1 i;have hpe:∀e∈rz,nb rz.length i<=pnK rz i e.1/\pnK rz i e.1<oN rz.length i:=λe he=>sO (ag.mpr ⟨e,he,rfl⟩) i;have hrange:∀x:Nat,nb rz.length i<=x->x<oN rz.length i+1+rz.length+rz.length->x≠oN rz.length i->x≠oN rz.length j:=λx h1 h2 h3 z=>by
  rcases Nat.lt_trichotomy j i with h|h|h
  .have:=yD rz.length h
   lia
  .rw[h]at z;exact h3 z
  .have h4:=aAN rz.length (show i+1<=j from h);rw[BI]at h4;unfold oN at z h2
   lia
 have hoN:oN rz.length i=nb rz.length i+rz.length:=rfl;unfold jC;rw[kY,kY,kY];have z1:gU sp (oN rz.length j) (b9 (pnK rz i) (λ_=>pl) rz (oN rz.length i+1)) (a+(exL ds (pnK rz i) f l u (oN rz.length i)).length)=0:=iS _ _ _ _ λx hx=>by
  obtain⟨e,he,h1,h2,h3,h4⟩:=fF _ _ _ _ x hx;have:=hpe e he;exact⟨hrange _ (by lia) (by lia) (by lia),hrange _ (by lia) (by lia) (by lia)⟩
 have z2:∀b,gU sp (oN rz.length j) (doL rz ds (pnK rz i) f l u (oN rz.length i)) b=0:=λb=>iS _ _ _ _ λx hx=>by
  unfold doL at hx;rcases ag.mp hx with⟨d,hd,rfl⟩;rcases cu.mp hd with⟨hd1,hd2⟩;have h1:=hpn d hd1;have h2:AD d.2.2.1∈rz.map (·.1):=by
   rcases (din d hd1).2 with h|⟨z,h,hz⟩
   .unfold inD exO at hd2;rw[decide_eq_true h]at hd2;exact absurd hd2 (by decide)
   .rw[h];exact hz
  have h3:=pO h2;exact⟨hrange _ (by show _<=_+1+_;lia) (by show _+1+_<_;lia) (by show _+1+_≠_;lia),hrange _ (by show _<=pnK rz i d.2.1;lia) (by show pnK rz i d.2.1<_;lia) (by show pnK rz i d.2.1≠_;lia)⟩
 have z3:∀b,gU sp (oN rz.length j) (b9 (λz=>oN rz.length i+1+ixR rz z) (λe=>e.2) rz (oN rz.length i+1+rz.length)) b=0:=λb=>iS _ _ _ _ λx hx=>by
  obtain⟨e,he,h1,h2,h3,h4⟩:=fF _ _ _ _ x hx;have h5:=pO (ag.mpr ⟨e,he,rfl⟩);exact⟨hrange _ (by lia) (by lia) (by lia),hrange _ (by lia) (by lia) (by lia)⟩
 rw[z1,z2,z3];have z0:gU sp (oN rz.length j) (exL ds (pnK rz i) f l u (oN rz.length i)) a=if i=j then flS sp (ds.filter exO).length a else 0:=by
  by_cases h:i=j
  .rw[if_pos h,←h];have hl:(exL ds (pnK rz i) f l u (oN rz.length i)).length=(ds.filter exO).length:=by unfold exL;rw[af]
   rw[←hl];refine Q8 _ _ _ _ λx hx=> ?_;unfold exL at hx;rcases ag.mp hx with⟨d,hd,rfl⟩;have h1:=hpn d (cu.mp hd).1;exact⟨rfl,by show pnK rz i d.2.1≠_;lia⟩
  .rw[if_neg h];refine iS _ _ _ _ λx hx=> ?_;unfold exL at hx;rcases ag.mp hx with⟨d,hd,rfl⟩;have h1:=hpn d (cu.mp hd).1;refine⟨λz=> ?_,hrange _ (by show _<=pnK rz i d.2.1;lia) (by show pnK rz i d.2.1<_;lia) (by show pnK rz i d.2.1≠_;lia)⟩;have z:oN rz.length i=oN rz.length j:=z;rcases Nat.lt_or_gt_of_ne h with h2|h2
   .have:=yD rz.length h2;unfold oN at z this
    lia
   .have:=yD rz.length h2;unfold oN at z this
    lia
 rw[z0]
 lia
theorem US{ds:List aF}(din:∀d∈ds,cQ (rz.map (·.1)) d)(sp:List Int)(j:Nat):∀k,gU sp (oN rz.length j) (LK rz ps ds f l pl k) 0=if j<k then flS sp (ds.filter exO).length (LK rz ps ds f l pl j).length else 0
 | 0=>by
  rw[if_neg (by lia)];refine iS _ _ _ _ λx hx=> ?_;obtain⟨e,he,h1,h2,h3,h4⟩:=fF _ _ _ _ x hx;have h5:=aAN rz.length (fk j);have h6:nb rz.length 0=1:=by unfold nb;lia
  have h7:oN rz.length j=nb rz.length j+rz.length:=rfl;exact⟨by lia,by lia⟩
 | k+1=>by
  show gU sp (oN rz.length j) (LK rz ps ds f l pl k++jC rz ds (pnK rz k) f l pl (f+(k:Int)) (oN rz.length k)) 0=_;rw[kY,US din sp j k,aCE din sp k j,ve]
  by_cases h:j<k
  .rw[if_pos h,if_neg (show ¬k=j by lia),if_pos (show j<k+1 by lia)];lia
  .by_cases h2:k=j
   .rw[if_neg h,if_pos h2,if_pos (show j<k+1 by lia),h2];lia
   .rw[if_neg h,if_neg h2,if_neg (show ¬j<k+1 by lia)];rfl
theorem aAD(R:Nat):∀(l:List Int) (i j:Nat) (y:Int),l[j]? =some y->oE R l i (oN R (i+j):Int)=y
 | [],_,_,_,h=>by simp at h
 | x::l,i,0,y,h=>by
  have h:x=y:=by simpa using h
  show (if (oN R i:Int)=(oN R (i+0):Int) then x else 0)+oE R l (i+1) _=y;have z:∀(l:List Int) (i':Nat),i<i'->oE R l i' (oN R (i+0):Int)=0:=λl=>by
   induction l with
   | nil=>intro _ _;rfl
   | cons b l ih =>
    intro i' hi;show (if (oN R i':Int)=(oN R (i+0):Int) then b else 0)+oE R l (i'+1) _=0;have h1:=yD R hi;rw[if_neg (by unfold oN at *;rw[qq];lia),ih (i'+1) (by lia)];rfl
  rw[if_pos (show (oN R i:Int)=(oN R (i+0):Int) by rw[qq]),z l (i+1) (by lia),h];lia
 | x::l,i,j+1,y,h=>by
  have h:l[j]? =some y:=by simpa using h
  show (if (oN R i:Int)=(oN R (i+(j+1)):Int) then x else 0)+oE R l (i+1) _=y;have h1:=yD R (show i<i+(j+1) by lia);rw[if_neg (by unfold oN at *;lia),show i+(j+1)=i+1+j by lia,aAD R l (i+1) j y h];lia
def gA(ds:List aF):List Str:=(ds.filter exO).map (·.1)
def dB(ds:List aF)(rows:List cT)(t:Int):Int:=((rows.filter λr=>decide (r.2.1∈gA ds)&&decide (r.1<t)).map (·.2.2)).sum
theorem Y2{a b:List Int}(h:a.Perm b):a.sum=b.sum:=by
 induction h with
 | nil=>rfl
 | cons x _ ih=>rw[cm,cm,ih]
 | swap x y l=>rw[cm,cm,cm,cm];lia
 | trans _ _ i1 i2=>rw[i1,i2]
theorem rJ(c:cT->Bool):∀rows:List cT,((rows.filter c).map (·.2.2)).sum=(rows.map λr=>if c r=true then r.2.2 else 0).sum
 | []=>rfl
 | r::rows=>by
  by_cases h:c r=true
  .rw[cq h,ay,cm,ay,cm,rJ c rows,if_pos h]
  .rw[ck h,ay,cm,rJ c rows,if_neg h,gd]
theorem rH(ds:List aF)(a b:List cT)(t:Int):dB ds (a++b) t=dB ds a t+dB ds b t:=by
 unfold dB;rw[dy,aq,gr]
theorem aCk{rows:List cT}(nd:(rows.map λr=>bV r.1 r.2.1).Nodup):jY rows=rows.map λr=>(bV r.1 r.2.1,(.int r.2.2:V)):=by
 induction rows using A9 with
 | h0=>rfl
 | hs l r ih =>
  rw[aq]at nd;have h1:=(gk.mp nd).1;have h2:bV r.1 r.2.1∉l.map λr=>bV r.1 r.2.1:=λz=>(gk.mp nd).2.2 _ z _ (.head _) rfl;have hv:bA (jY l) (bV r.1 r.2.1)=none:=wH (by rw[ih h1,du];exact h2);rw[pM];unfold NN;rw[eX _ hv,hv,ih h1,aq];show _++[(_,V.int ((0:Int)+r.2.2))]=_;rw[gd];rfl
theorem QM{rows:List cT}(nd:(rows.map λr=>bV r.1 r.2.1).Nodup):g6 rows=(rows.filter λr=>decide (0<r.2.2)).map mQ:=by
 unfold g6;rw[aCk nd,List.filter_map,du];rfl
def gK(ds:List aF)(t:Int):List Key->Int
 | [.inl a,.inr n,.inl i]=>if (decide (n∈gA ds)&&decide (a<t))=true then i else 0
 | _=>0
theorem NK(ds:List aF)(t:Int)(rows:List cT):dB ds rows t=((rows.map mQ).map (gK ds t)).sum:=by
 unfold dB;rw[rJ,du];rfl
theorem PU{ds:List aF}{xs rows:List cT}(h:xs.map mQ=rP (g6 rows))(nd:(rows.map λr=>bV r.1 r.2.1).Nodup)(h0:∀r∈rows,0<=r.2.2)(t:Int):dB ds xs t=dB ds rows t:=by
 rw[NK,NK,h,Y2 ((yM _).map _),QM nd];have key:∀l:List cT,(∀r∈l,0<=r.2.2)->(((l.filter λr=>decide (0<r.2.2)).map mQ).map (gK ds t)).sum=((l.map mQ).map (gK ds t)).sum:=λl=>by
  induction l with
  | nil=>intro _;rfl
  | cons r l ih =>
   intro hl;have ih':=ih λx hx=>hl x (ab _ hx);rw[ay,ay,cm,←ih']
   by_cases hc:0<r.2.2
   .rw[cq (by simpa using hc),ay,ay,cm]
   .have h1:=hl r (.head _);have h2:r.2.2=0:=by lia
    have h3:gK ds t (mQ r)=0:=by
     show (if _ then r.2.2 else 0)=0;rw[h2];split<;>rfl
    rw[ck (by simpa using hc),h3,gd]
 exact key rows h0
theorem FJ(sp:List Int)(u:Int)(n:Str)(a:Nat):cS sp (bV u n,.int ((2 * a:Nat):Int))=(u,n,at0 sp (2 * a+1)):=by
 show (u,n,at0 sp (((2 * a:Nat):Int).toNat+1))=_;rw[dw]
theorem MC{ds:List aF}{t u:Int}{sp:List Int}:∀(l:List aF) (a:Nat),(∀d∈l,d.1∈gA ds)->dB ds ((cN u l a).map (cS sp)) t=if u<t then flS sp l.length a else 0
 | [],a,_=>by
  show (0:Int)=if u<t then 0 else 0
  split<;>rfl
 | d::l,a,h=>by
  have ih:=MC (t:=t) (u:=u) (sp:=sp) l (a+1) λx hx=>h x (ab _ hx);have e:(cN u (d::l) a).map (cS sp)=[(u,d.1,at0 sp (2 * a+1))]++(cN u l (a+1)).map (cS sp):=by
   show cS sp (bV u d.1,.int ((2 * a:Nat):Int))::_=_;rw[FJ];rfl
  rw[e,rH,ih];have h1:=h d (.head _);have e1:dB ds [(u,d.1,at0 sp (2 * a+1))] t=if u<t then at0 sp (2 * a+1) else 0:=by
   unfold dB;rw[rJ];show (if (decide (d.1∈gA ds)&&decide (u<t))=true then at0 sp (2 * a+1) else 0)+0=_;rw[decide_eq_true h1,Bool.true_and,ia]
   by_cases c:u<t
   .rw[if_pos c,if_pos (decide_eq_true c)]
   .rw[if_neg c,if_neg (λz=>c (of_decide_eq_true z))]
  rw[e1];show _=if u<t then at0 sp (2 * a+1)+flS sp l.length (a+1) else 0
  split
  .rfl
  .rfl
theorem QY{ds:List aF}{t u:Int}{sp:List Int}:∀(l:List aF) (a:Nat),(∀d∈l,d.1∉gA ds)->dB ds ((cN u l a).map (cS sp)) t=0
 | [],a,_=>rfl
 | d::l,a,h=>by
  have ih:=QY (t:=t) (u:=u) (sp:=sp) l (a+1) λx hx=>h x (ab _ hx);have e:(cN u (d::l) a).map (cS sp)=[(u,d.1,at0 sp (2 * a+1))]++(cN u l (a+1)).map (cS sp):=by
   show cS sp (bV u d.1,.int ((2 * a:Nat):Int))::_=_;rw[FJ];rfl
  rw[e,rH,ih];unfold dB;rw[ck (by simp[h d (.head _)])];rfl
theorem aFo{ds:List aF}{d:aF}(h:d∈ds.filter exO):d.1∈gA ds:=ag.mpr ⟨d,h,rfl⟩
theorem aDC{ds:List aF}(nd:(ds.map (·.1)).Nodup){d:aF}(h:d∈ds.filter inD):d.1∉gA ds:=λz=>by
 rcases cu.mp h with⟨h1,h2⟩;rcases ag.mp z with⟨s,hs,e⟩;rcases cu.mp hs with⟨hs1,hs2⟩;have:=OP nd hs1 h1 e;rw[←this]at h2;unfold inD at h2;rw[hs2]at h2;exact absurd h2 (by decide)
theorem RH{ds:List aF}{sp:List Int}(nd:(ds.map (·.1)).Nodup)(h:∀(j:Nat) (y:Int),outs[j]? =some y->flS sp (ds.filter exO).length (LK rz ps ds f l pl j).length=y)(i:Nat):∀k,k<=outs.length->dB ds ((dkK rz ps ds f l pl k).map (cS sp)) (f+(i:Int))=(outs.take (min k i)).sum
 | 0,_=>by rw[Nat.zero_min];rfl
 | k+1,hk=>by
  obtain⟨y,hy⟩:∃y,outs[k]? =some y:=⟨_,ao (by lia)⟩
  show dB ds ((dkK rz ps ds f l pl k++dkB rz ds (f+(k:Int)) _).map (cS sp)) _=_;unfold dkB;rw[aq,aq,rH,rH,RH nd h i k (by lia),MC _ _ (λd hd=>aFo hd),QY _ _ (λd hd=>aDC nd hd),h k y hy]
  by_cases c:k<i
  .rw[if_pos (by lia),qh (show k<=i by lia),qh (show k+1<=i by lia),aV hy,gr,cm];rfl
  .rw[if_neg (by lia),ou (show i<=k by lia),ou (show i<=k+1 by lia)];lia
theorem QQ{u:Int}{l:List aF}(nd:(l.map (·.1)).Nodup)(a:Nat):((cN u l a).map (·.1)).Nodup:=by
 rw[gL];have:(l.map λd=>bV u d.1)=(l.map (·.1)).map λn=>bV u n:=by rw[du];rfl
 rw[this,oq,iq];exact nd.imp λh z=>h (iW z).2
theorem RO{ds:List aF}(nd:(ds.map (·.1)).Nodup)(c:aF->Bool):((ds.filter c).map (·.1)).Nodup:=by
 rw[oq,iq]at nd ⊢;exact nd.filter _
theorem XD{ds:List aF}(nd:(ds.map (·.1)).Nodup):∀k,((dkK rz ps ds f l pl k).map (·.1)).Nodup
 | 0=>nh
 | k+1=>by
  show ((dkK rz ps ds f l pl k++dkB rz ds (f+(k:Int)) _).map (·.1)).Nodup;rw[aq];refine gk.mpr ⟨XD nd k,?_,λa ha b hb e=> ?_⟩
  .unfold dkB;rw[aq];refine gk.mpr ⟨QQ (RO nd _) _,QQ (RO nd _) _,λa ha b hb e=> ?_⟩;rw[gL]at ha hb;rcases ag.mp ha with⟨d1,hd1,e1⟩;rcases ag.mp hb with⟨d2,hd2,e2⟩;rcases cu.mp hd1 with⟨h1,h2⟩;rcases cu.mp hd2 with⟨h3,h4⟩;rw[←e1,←e2]at e;rw[OP nd h1 h3 (iW e).2]at h2;unfold inD at h4;rw[h2]at h4;exact absurd h4 (by decide)
  .obtain⟨d1,_,j,hj,e1⟩:=GH ha;rcases RL hb with⟨d2,_,e2⟩;rw[e1,e2]at e;have:=(iW e).1
   lia
theorem yG{u:Int}:∀{l:List aF}{a:Nat}{e:List Key×V},e∈cN u l a->∃(n:Str) (b:Nat),e=(bV u n,.int ((2 * b:Nat):Int))/\b<a+l.length
 | d::l,a,e,h=>by
  rcases aw.mp h with rfl|h
  .exact⟨_,a,rfl,by rw[az];lia⟩
  .obtain⟨n,b,e1,hb⟩:=yG h;exact⟨n,b,e1,by rw[az];lia⟩
theorem u4{ds:List aF}{e:List Key×V}:∀{k:Nat},e∈dkK rz ps ds f l pl k->∃(t:Int) (n:Str) (b:Nat),e=(bV t n,.int ((2 * b:Nat):Int))/\b<(LK rz ps ds f l pl k).length
 | 0,h=>nomatch h
 | k+1,h=>by
  have h1:=ES rz ps ds f l pl k;have h2:=ES rz ps ds f l pl (k+1);rw[pz]at h2;have h3:=D4 ds;rcases bf.mp (show e∈dkK rz ps ds f l pl k++dkB rz ds (f+(k:Int)) _ from h) with h|h
  .obtain⟨t,n,b,e1,hb⟩:=u4 h;exact⟨t,n,b,e1,by lia⟩
  .unfold dkB at h;rcases bf.mp h with h|h
   .obtain⟨n,b,e1,hb⟩:=yG h;exact⟨_,n,b,e1,by lia⟩
   .obtain⟨n,b,e1,hb⟩:=yG h;exact⟨_,n,b,e1,by lia⟩
theorem VJ{ds:List aF}(sp:List Int)(k:Nat):((dkK rz ps ds f l pl k).map (cS sp)).map (λr=>bV r.1 r.2.1)=(dkK rz ps ds f l pl k).map (·.1):=by
 rw[du];refine gy λe he=> ?_;obtain⟨t,n,b,rfl,_⟩:=u4 he;show bV (cS sp _).1 (cS sp _).2.1=_;rw[FJ]
theorem IW{ts sp:List Int}(nd:rs.Nodup)(h0:∀k,0<=at0 sp k):∀{n:Nat},jX ts sp rs n<= - pX ts sp rs n->∀k,k<2 * n->at0 ts (xr k)∈rs->at0 ts k∉rs->at0 sp k<=0
 | 0,_,k,hk,_,_=>by lia
 | n+1,he,k,hk,h1,h2=>by
  have ih:=IW nd h0 (n:=n) (ts:=ts);have lo:=FK nd h0 n (ts:=ts);unfold jX at ih lo he;have e:(rs.map λv=>c6 ts sp v (n+1)).sum=(rs.map λv=>c6 ts sp v n).sum+((rs.map λv=>if at0 ts (2 * n)=v then at0 sp (2 * n+1) else 0).sum - (rs.map λv=>if at0 ts (2 * n+1)=v then at0 sp (2 * n+1) else 0).sum):=rX rs _ _ _;rw[e,iF nd,iF nd,uT]at he;have x0:xr (2 * n)=2 * n+1:=by unfold xr;rw[if_pos (by lia)]
  have x1:xr (2 * n+1)=2 * n:=by unfold xr;rw[if_neg (by lia)];lia
  have a0:=h0 (2 * n);have a1:=h0 (2 * n+1)
  by_cases hk':k<2 * n
  .refine ih ?_ k hk' h1 h2
   by_cases ht:at0 ts (2 * n+1)∈rs
   .by_cases hh:at0 ts (2 * n)∈rs
    .rw[if_pos hh,if_pos ht,if_neg (λz=>z.2 hh)]at he;lia
    .rw[if_neg hh,if_pos ht,if_pos ⟨ht,hh⟩]at he;lia
   .by_cases hh:at0 ts (2 * n)∈rs
    .rw[if_pos hh,if_neg ht,if_neg (λz=>ht z.1)]at he;lia
    .rw[if_neg hh,if_neg ht,if_neg (λz=>ht z.1)]at he;lia
  .by_cases hk2:k=2 * n
   .subst hk2;rw[x0]at h1;rw[if_neg h2,if_pos h1,if_pos ⟨h1,h2⟩]at he;lia
   .have hk3:k=2 * n+1:=by lia
    subst hk3;rw[x1]at h1;rw[if_pos h1,if_neg h2,if_neg (λz=>h2 z.1)]at he;lia
theorem BJ{ds:List aF}{u:Int}{N:Nat}{a:Arc}(h:a∈exL ds pn f l u N):a.2.1=N:=by
 unfold exL at h;rcases ag.mp h with⟨d,_,rfl⟩;rfl
def trC(rz:List (Str×Int))(ds:List aF)(pn:Str->Nat)(f l pl u:Int)(N:Nat):List Arc:=b9 pn (λ_=>pl) rz (N+1)++(doL rz ds pn f l u N++b9 (λz=>N+1+ixR rz z) (λe=>e.2) rz (N+1+rz.length))
theorem RN{ds:List aF}{u:Int}{N:Nat}{a:Arc}(h:a∈trC rz ds pn f l pl u N):N<a.2.1:=by
 unfold trC at h;rcases bf.mp h with h|h
 .obtain⟨_,_,_,h1,_⟩:=fF _ _ _ _ _ h
  lia
 .rcases bf.mp h with h|h
  .unfold doL at h;rcases ag.mp h with⟨d,_,rfl⟩;show N<N+1+_
   lia
  .obtain⟨_,_,_,h1,_⟩:=fF _ _ _ _ _ h
   lia
theorem oR(R:Nat){k:Nat}(h:j<k):oN R j<oN R k:=by
 have:=yD R h;unfold oN at this ⊢
 lia
theorem Q7(rz ps:List (Str×Int))(ds:List aF)(f l pl:Int)(j:Nat):∀m,∃B,LK rz ps ds f l pl (j+1+m)=LX rz ps ds f l pl j++B/\∀a∈B,oN rz.length j<a.2.1
 | 0=>⟨trC rz ds (pnK rz j) f l pl (f+(j:Int)) (oN rz.length j),by
   unfold LX;rw[cw];rfl,λa h=>RN h⟩
 | m+1=>by
  rcases Q7 rz ps ds f l pl j m with⟨B,e,hB⟩;refine⟨B++jC rz ds (pnK rz (j+1+m)) f l pl (f+((j+1+m:Nat):Int)) (oN rz.length (j+1+m)),?_,λa h=> ?_⟩
  .rw[←cw,←e];rfl
  .have hm:=oR rz.length (show j<j+1+m by lia);rcases bf.mp h with h|h
   .exact hB a h
   .rcases bf.mp h with h|h
    .have:=BJ h
     lia
    .have:=RN (rz:=rz) (ds:=ds) h
     lia
theorem aEn(rz ps:List (Str×Int))(ds:List aF)(f l pl:Int){k:Nat}(h:j<k):∃B,LX rz ps ds f l pl k=LX rz ps ds f l pl j++B/\∀a∈B,oN rz.length j<a.2.1:=by
 rcases Q7 rz ps ds f l pl j (k - (j+1)) with⟨B,e,hB⟩;rw[show j+1+(k - (j+1))=k by lia]at e;refine⟨B++exL ds (pnK rz k) f l (f+(k:Int)) (oN rz.length k),?_,λa ha=> ?_⟩
 .rw[←cw,←e];rfl
 .rcases bf.mp ha with ha|ha
  .exact hB a ha
  .have:=BJ ha;have:=oR rz.length h
   lia
theorem aCw{d:aF}(hd:cQ (rz.map (·.1)) d)(h:inD d=true):∃z,d.2.2.1= .str z/\z∈rz.map (·.1):=by
 rcases hd.2 with e|e
 .unfold inD exO at h;rw[decide_eq_true e]at h;cases h
 .exact e
theorem aAA{rz:List (Str×Int)}{ds:List aF}(din:∀d∈ds,cQ (rz.map (·.1)) d):∀k,∀a∈LK rz ps ds f l pl k,a.1<oN rz.length k/\a.2.1<oN rz.length k
 | 0,a,h=>by
  obtain⟨_,_,h0,h1,h2,_⟩:=fF _ _ _ _ _ h;have:oN rz.length 0=1+rz.length:=by unfold oN nb;lia
  lia
 | k+1,a,h=>by
  have e:oN rz.length (k+1)=oN rz.length k+1+rz.length+rz.length:=by
   unfold oN;rw[BI]
  rcases bf.mp h with h|h
  .have:=aAA din k a h
   lia
  .have h:a∈jC rz ds (pnK rz k) f l pl (f+(k:Int)) (oN rz.length k):=h;have hs:∀d∈ds,pnK rz k d.2.1<oN rz.length k:=λd hd=>(sO (din d hd).1 k).2;rcases bf.mp h with h|h
   .have h1:=BJ h;unfold exL at h;rcases ag.mp h with⟨d,hd,rfl⟩;have:=hs d (cu.mp hd).1;show pnK rz k d.2.1<_/\oN rz.length k<_
    lia
   .rcases bf.mp h with h|h
    .obtain⟨e1,he,h0,h1,h2,_⟩:=fF _ _ _ _ _ h;have:=(sO (ag.mpr ⟨e1,he,rfl⟩) k (rz:=rz)).2
     lia
    .rcases bf.mp h with h|h
     .unfold doL at h;rcases ag.mp h with⟨d,hd,rfl⟩;rcases cu.mp hd with⟨hd1,hd2⟩;rcases aCw (din d hd1) hd2 with⟨z,ez,hz⟩;have h3:=pO hz;have h4:=hs d hd1;show pnK rz k d.2.1<_/\oN rz.length k+1+ixR rz (AD d.2.2.1)<_;rw[ez];show pnK rz k d.2.1<_/\oN rz.length k+1+ixR rz z<_
      lia
     .obtain⟨e1,he,h0,h1,h2,_⟩:=fF _ _ _ _ _ h;have:=pO (ag.mpr ⟨e1,he,rfl⟩:e1.1∈rz.map (·.1))
      lia
theorem K6{ds:List aF}(din:∀d∈ds,cQ (rz.map (·.1)) d)(k:Nat){a:Arc}(h:a∈LX rz ps ds f l pl k):a.1<=oN rz.length k/\a.2.1<=oN rz.length k:=by
 rcases bf.mp h with h|h
 .have:=aAA din k a h
  lia
 .have h1:=BJ h;unfold exL at h;rcases ag.mp h with⟨d,hd,rfl⟩;have:=(sO (din d (cu.mp hd).1).1 k).2;show pnK rz k d.2.1<=_/\oN rz.length k<=_
  lia
def oS(R:Nat)(rs:List Int):List Int->Nat->Int
 | [],_=>0
 | y::l,j=>(if (oN R j:Int)∈rs then y else 0)+oS R rs l (j+1)
theorem BT{R:Nat}:∀(l:List Int) (j:Nat),(∀i,j<=i->i<j+l.length->(oN R i:Int)∉rs)->oS R rs l j=0
 | [],_,_=>rfl
 | y::l,j,h=>by
  unfold oS;rw[if_neg (h j (au _) (by rw[az];lia)),BT l (j+1) λi h1 h2=>h i (by lia) (by rw[az];lia)];rfl
theorem XW{R:Nat}:∀(l:List Int) (j:Nat),(∀i,j<=i->i<j+l.length->(oN R i:Int)∈rs)->oS R rs l j=l.sum
 | [],_,_=>rfl
 | y::l,j,h=>by
  unfold oS;rw[if_pos (h j (au _) (by rw[az];lia)),XW l (j+1) λi h1 h2=>h i (by lia) (by rw[az];lia),cm]
theorem WN{R:Nat}(b:List Int):∀(a:List Int) (j:Nat),oS R rs (a++b) j=oS R rs a j+oS R rs b (j+a.length)
 | [],j=>by
  show oS R rs b j=0+oS R rs b (j+0);rw[qq,gd]
 | y::l,j=>by
  show _+oS R rs (l++b) (j+1)=(_+oS R rs l (j+1))+_;rw[WN b l (j+1),az,show j+1+l.length=j+(l.length+1) by lia]
  lia
theorem UZ(R:Nat)(nd:rs.Nodup):∀(l:List Int) (j:Nat),(rs.map λv=>oE R l j v).sum=oS R rs l j
 | [],j=>by
  induction rs with
  | nil=>rfl
  | cons a rs ih=>rw[ay,cm,ih (cn.mp nd).2];rfl
 | y::l,j=>by
  have e:(rs.map λv=>oE R (y::l) j v).sum=(rs.map λv=>oE R l (j+1) v).sum+((rs.map λv=>if (oN R j:Int)=v then y else 0).sum - (rs.map λ_=>(0:Int)).sum):=by
   rw[←rX]
   congr 1
   refine gy λv _=> ?_;show (if (oN R j:Int)=v then y else 0)+oE R l (j+1) v=_
   lia
  have z:(rs.map λ_=>(0:Int)).sum=0:=by
   clear e nd
   induction rs with
   | nil=>rfl
   | cons a rs ih=>rw[ay,cm,ih];rfl
  rw[e,z,UZ R nd l (j+1),iF nd];rw[Int.sub_zero,Int.add_comm];rfl
theorem HY{R:Nat}{L:List Arc}{sp:List Int}(nd:rs.Nodup)(h:excOk R L sp os):jX (bY L) sp rs L.length=oS R rs os 0 - if (0:Int)∈rs then os.sum else 0:=by
 have e:jX (bY L) sp rs L.length=(rs.map λv=>(0:Int)).sum+((rs.map λv=>oE R os 0 v).sum - (rs.map λv=>if (0:Int)=v then os.sum else 0).sum):=by
  rw[←rX];unfold jX
  congr 1
  refine gy λv _=> ?_;have:=h v;unfold cE at this;rw[this];exact(gd _).symm
 have z:(rs.map λ_=>(0:Int)).sum=0:=by
  clear e nd
  induction rs with
  | nil=>rfl
  | cons a rs ih=>rw[ay,cm,ih];rfl
 rw[e,z,UZ R nd,iF nd,gd]
theorem ZL{L:List Arc}{m:Nat}(h:m<2 * L.length):∃a∈L,at0 (bY L) m=(a.1:Int)∨at0 (bY L) m=(a.2.1:Int):=by
 have hl:m/2<L.length:=by lia
 rcases BH (ao hl) with⟨h1,h2⟩;refine⟨L[m/2],uq hl,?_⟩
 by_cases hm:m%2=0
 .right;rw[←h1];congr 1;lia
 .left;rw[←h2];congr 1;lia
def zI(n:Nat):List Int:=(fc (n+1)).map λi:Nat=>(i:Int)
theorem RQ(n:Nat):(zI n).Nodup:=iq.mpr (ot.imp λh z=>h (Int.ofNat.inj z))
theorem NB{k:Nat}(h:k<=n):(k:Int)∈zI n:=ag.mpr ⟨k,gm.mpr (by lia),rfl⟩
structure aA5(rz ps:List (Str×Int))(ds:List aF)(f l pl:Int)(outs:List Int)(j:Nat)(rs:List Int):Prop where
 z:(0:Int)∈rs
 o:∀i,i<=j->(oN rz.length i:Int)∉rs
 c:((LX rz ps ds f l pl j).map (dJ rs)).sum=(outs.take (j+1)).sum
abbrev inT(R j:Nat)(S:List Int)(v:Int):Prop:=v∈S∨(oN R j:Int)<v
theorem aDM{ds:List aF}{sp S:List Int}{k:Nat}(din:∀d∈ds,cQ (rz.map (·.1)) d)(hjk:j<k)(hk:k<outs.length)(cap:CapOk sp (LX rz ps ds f l pl k))(nn:∀m,0<=at0 sp m)(ex:excOk rz.length (LX rz ps ds f l pl k) sp (outs.take (k+1)))(hS:aA5 rz ps ds f l pl outs j S){m:Nat}(hm:m<2 * (LX rz ps ds f l pl k).length)(h1:inT rz.length j S (at0 (bY (LX rz ps ds f l pl k)) (xr m)))(h2:¬inT rz.length j S (at0 (bY (LX rz ps ds f l pl k)) m)):at0 sp m<=0:=by
 have nd:((zI (oN rz.length k)).filter λv=>decide (inT rz.length j S v)).Nodup:=(RQ _).filter _;have hmem:∀n:Nat,n<=oN rz.length k->((n:Int)∈(zI (oN rz.length k)).filter (λv=>decide (inT rz.length j S v))↔inT rz.length j S (n:Int)):=λn hn =>
  ⟨λh=>of_decide_eq_true (cu.mp h).2,λh=>cu.mpr ⟨NB hn,decide_eq_true h⟩⟩
 have hx:xr m<2 * (LX rz ps ds f l pl k).length:=by unfold xr;split<;>lia
 have nodes:∀m,m<2 * (LX rz ps ds f l pl k).length->∃n:Nat,n<=oN rz.length k/\at0 (bY (LX rz ps ds f l pl k)) m=(n:Int):=λm hm=>by
  rcases ZL hm with⟨a,ha,e⟩;rcases K6 din k ha with⟨b1,b2⟩;rcases e with e|e
  .exact⟨_,b1,e⟩
  .exact⟨_,b2,e⟩
 generalize hT:(zI (oN rz.length k)).filter (λv=>decide (inT rz.length j S v))=T at nd hmem;have hO:∀i,i<=k->((oN rz.length i:Int)∈T↔j<i):=λi hi=>by
  have hle:oN rz.length i<=oN rz.length k:=by
   rcases rq hi with h|h
   .exact ls (oR _ h)
   .rw[h];exact au _
  rw[hmem _ hle]
  constructor
  .rintro (h|h)
   .exact Nat.lt_of_not_le λz=>hS.o i z h
   .refine Nat.lt_of_not_le λz=> ?_;rcases rq z with z|z
    .have:=oR rz.length z
     lia
    .rw[z]at h
     lia
  .intro h;have:=oR rz.length h;exact uu (by lia)
 have h0:(0:Int)∈T:=(hmem 0 (fk _)).mpr (vm hS.z);have hsum:jX (bY (LX rz ps ds f l pl k)) sp T (LX rz ps ds f l pl k).length= - (outs.take (j+1)).sum:=by
  rw[HY nd ex,if_pos h0];have e:outs.take (k+1)=outs.take (j+1)++(outs.take (k+1)).drop (j+1):=by
   have:=(jj (j+1) (outs.take (k+1))).symm;rw[List.take_take,qh (by lia)]at this;exact this
  have l1:(outs.take (j+1)).length=j+1:=by rw[dh];lia
  have l2:((outs.take (k+1)).drop (j+1)).length=k - j:=by rw[List.length_drop,dh];lia
  generalize (outs.take (k+1)).drop (j+1)=tl at e l2;rw[e,WN,BT _ _ (λi _ hi z=>absurd ((hO i (by lia)).mp z) (by lia)),XW _ _ (λi h1 hi=>(hO i (by lia)).mpr (by lia)),gr]
  lia
 have hcap:pX (bY (LX rz ps ds f l pl k)) sp T (LX rz ps ds f l pl k).length=(outs.take (j+1)).sum:=by
  rw[lN cap _ (au _),cp,←hS.c];rcases aEn rz ps ds f l pl hjk with⟨B,e,hB⟩;have hT2:∀a∈B,dJ T a=0:=λa ha=>by
   unfold dJ;have h1:=hB a ha;have h2:=(K6 din k (by rw[e];exact be _ ha)).2;rw[if_neg λz=>z.2 ((hmem _ h2).mpr (uu (by lia)))]
  have hB0:(B.map (dJ T)).sum=0:=by
   clear hB e
   induction B with
   | nil=>rfl
   | cons a B ih=>rw[ay,cm,hT2 a (.head _),ih λb hb=>hT2 b (ab _ hb)];rfl
  rw[e,aq,gr,hB0,ia]
  congr 1
  refine gy λa ha=> ?_;rcases K6 din j ha with⟨b1,b2⟩;have hjk':=oR rz.length hjk;have hin:∀n:Nat,n<=oN rz.length j->((n:Int)∈T↔(n:Int)∈S):=λn hn=>by
   rw[hmem n (by lia)];exact⟨λh=>h.resolve_right (by lia),vm⟩
  unfold dJ;simp only[hin _ b1,hin _ b2]
 have:=IW nd nn (n:=(LX rz ps ds f l pl k).length) (by rw[hsum,hcap];exact fe _) m hm;rcases nodes _ hx with⟨n1,b1,e1⟩;rcases nodes _ hm with⟨n2,b2,e2⟩;rw[e1]at h1 this;rw[e2]at h2 this;exact this ((hmem _ b1).mpr h1) λz=>h2 ((hmem _ b2).mp z)
theorem aBq{ds:List aF}(din:∀d∈ds,cQ (rz.map (·.1)) d)(h:BstAll rz ps ds f l pl outs)(k:Nat):k<outs.length->∃rs,aA5 rz ps ds f l pl outs k rs:=by
 induction k using qg with
 | _ k ih =>
  intro hk;obtain⟨sp,rs,cap,nn,ex,nd,hs0,hso,hsh⟩:=h k hk;rw[gQ]at hsh;have key:∀j,j<=k->∃rs:List Int,rs.Nodup/\(0:Int)∈rs/\(oN rz.length k:Int)∉rs/\(∀i,i<j->(oN rz.length i:Int)∉rs)/\∀m,m<2 * (LX rz ps ds f l pl k).length->at0 (bY (LX rz ps ds f l pl k)) (xr m)∈rs->at0 (bY (LX rz ps ds f l pl k)) m∉rs->at0 sp m<=0:=λj=>by
   induction j with
   | zero=>exact λ_=>⟨rs,nd,hs0,hso,λi hi=>absurd hi (ko _),hsh⟩
   | succ j ihj =>
    intro hj;obtain⟨r,r1,r2,r3,r4,r5⟩:=ihj (by lia);obtain⟨S,hS⟩:=ih j (by lia) (by lia);have hm:∀v,v∈r.filter (λv=>decide (inT rz.length j S v))↔v∈r/\inT rz.length j S v:=λv=>by
     rw[cu,decide_eq_true_iff]
    refine⟨r.filter λv=>decide (inT rz.length j S v),r1.filter _,(hm _).mpr ⟨r2,vm hS.z⟩,λz=>r3 ((hm _).mp z).1,λi hi z=> ?_,λm hml h1 h2=> ?_⟩
    .obtain⟨z1,z2⟩:=(hm _).mp z
     by_cases hij:i<j
     .exact r4 i hij z1
     .have hij:i=j:=by lia
      subst hij;rcases z2 with z2|z2
      .exact hS.o i (au _) z2
      .lia
    .obtain⟨h3,h4⟩:=(hm _).mp h1
     by_cases h5:at0 (bY (LX rz ps ds f l pl k)) m∈r
     .exact aDM din (show j<k by lia) hk cap nn ex hS hml h4 λz=>h2 ((hm _).mpr ⟨h5,z⟩)
     .exact r5 m hml h3 h5
  obtain⟨r,r1,r2,r3,r4,r5⟩:=key k (au _);have ho:∀i,i<=k->(oN rz.length i:Int)∉r:=λi hi=>by
   rcases rq hi with z|z
   .exact r4 i z
   .rw[z];exact r3
  refine⟨r,r2,ho,?_⟩;have e1:jX (bY (LX rz ps ds f l pl k)) sp r (LX rz ps ds f l pl k).length= - pX (bY (LX rz ps ds f l pl k)) sp r (LX rz ps ds f l pl k).length:=HZ r1 (λk _=>nn k) r5;rw[HY r1 ex,if_pos r2,BT _ _ (λi _ hi=>ho i (by rw[dh]at hi;lia)),lN cap _ (au _),cp]at e1
  lia
theorem aEq{k k':Nat}{sp:Sp}{p pos:Pos}(F:Kc X.prog X.w X.K X.mg X.base x C k dvs sp)(hr:Room k' X.A)(hk:k+1<=k':=by decide)(hg:Gl X x:=by rfl)(hdb:(x==("__debug__" :Str))=false:=by decide):PE X (.Call (.Name x p) [] [] pos) (FY C sp dvs E0 OE):=by
 obtain⟨f,fd,ps,ds,hm,M,hd,hb,G⟩:=F.ex;exact YB M G (hr.mono hk) hg hm hb hd u3 hdb
inductive xG(K:W.Frag)(CN CHo:Addr)(D:bH)(vs:List V)(H:Hp)(Q:VK)(E:XK):Prop
 | mk (p C dx h:Addr) (f l:Int) (rz ps:List (Str×Int)) (ds:List aF) (H0:Hp) (_:vs=[.ref p,.ref h]) (_:DCls K C) (_:H p=some (.ins C dx [])) (_:Same H0 H) (_:H0 p=none) (_:HC CHo D H0 h f l rz ps ds) (_:∀x cv sp H',HNS CN C CHo D H0 H' p x f l rz ps ds f (bE rz ps) [] cv (pkK rz f 0) [] (LK rz ps ds f l (bE rz ps) 0) sp (nb rz.length 0+rz.length)->cv.length=1->(∀v,cE (LK rz ps ds f l (bE rz ps) 0) sp v=0)->x.h=h->Q .non H'):xG K CN CHo D vs H Q E
theorem aCI{E:XK}(dc:DCls K CN)(k:∀p fp H',H p=none->Same H H'->(∀b∈fp,H b=none)->NetE CN H' p fp [] [] []->Q (.ref p) H'):jK CN (xE K) [] E Q [] H:=by
 intro x dx nx nd0 ne;have s0:Same H (upd (upd H dx (.own x)) x (.ins CN dx [])):=λb o e=>by
  rw[aK (bB e nx),aK (bB e nd0)];exact e
 refine⟨x,CN,dx,rfl,dc,aR,λfp H' sb hf hne=>⟨rfl,k x fp H' nx (λb o q=>sb b o (s0 b o q) (bB q nx)) (λb hb=> ?_) hne⟩⟩;have h1:=hf b hb;cases hq:H b with
 | none=>rfl
 | some v=>rw[s0 _ _ hq]at h1;cases h1
theorem NS.nil:NS [] [] [[]] 1:=by
 refine⟨⟨⟨0,rfl⟩,rfl,λk hk=>absurd hk (ko _),λu a ha x hx=> ?_,λk u a hk=>absurd hk (ko _),by show 1<_;lia,by show 0<_;lia⟩,λj a h=>by simp at h,λm=> ?_,rfl,λa ha=> ?_⟩
 .have:=ba ha;rw[bq.mp this]at hx;exact nomatch hx
 .rw[aCm (fk _)];exact fe _
 .rw[bq.mp ha];exact au _
theorem xT(m:M K mg):FnOk P w K mg base CX0 4 m.iM m.iP.d ["self","house"] (xG K m.aX m.aO (aJ P w K mg base (some 5))):=by
 refine m.iP.F.ok aGO ?_ ?_;tm_at"g";tm_at"h";rcases h with⟨p,C,dx,h,f,l,rz,ps,ds,H0,rfl,dc,hp,hS0,hp0,hc,k⟩;tm_at"f";have nd:=aGO.nd;tm_at"d";have aIA:= @YK P w K mg base m;have aGE:=m.cR;have aGB:=m.bJ;refine⟨_,(aB (bU (pv 0) (pv 1) rfl)
  (aB (bU (pv 0) (aH (pv 1) rfl) rfl)
  (aB (bU (pv 0) (cI aC) rfl)
  (aB (bU (pv 0) (cI (aA (cI aC) aC)) rfl)
  (aB (bU (pv 0) (aEq aIA hr) rfl)
  (aB (bU (pv 0) (cU 1 hr (aH (pv 0) rfl)) rfl)
  (aB (bU (pv 0) D0 rfl)
  (aB (bU (pv 0) D0 rfl)
  (aB (bU (pv 0) (cU 1 hr (pv 1)) rfl)
  (aE (c4 cx rfl (bP (cU 1 hr (pv 1))) (aN (i:=2) nd rfl (by tm_at"b")) (aB (aQ (i:=3) nd rfl (by tm_at"b") (cU 1 hr (aH (pv 0) rfl)))
  (aB (aU (cP 1 hr (aH (pv 0) rfl) (aA (aH (pv 0) rfl) (aA (pv 3) (aA (cP 3 hr (pv 1) (aA (pv 2) aC)) aC)))))
  (aE (jI hu1 (aH (pv 0) rfl) (cY (aA (pv 2) (aA (aH (pv 0) rfl) aC))) (pv 3) rfl))))))))))))))),?_⟩
 refine aL (σ:=[some (.ref p),some (.ref h),none,none]) rfl ?_;tm_at"e";have M1:= @fJ P w K mg base m;have M2:= @jJ P w K mg base m;have M3:= @gD P w K mg base m;have M4:= @GV P w K mg base m;have M5:= @HX P w K mg base m;have hcH:=hc.same hS0;obtain⟨hdx,hqs,hqp,hqd,hnk,hkvs,ho1,_⟩:=hcH.at'.ex;have nr:=hc.nr;have hrl:=hc.lr;tm_at"a";rename_i H1 B1 e1;have hhp:h≠p:=λz=>by
  obtain⟨dx0,_,_,_,_,_,h0,_⟩:=hc.at'.ex;rw[z,hp0]at h0;cases h0
 have g1:=B1 _ _ ho1 hhp;tm_at"a";rename_i H2 B2 e2 a1 H3 n3 S3 e3 H4 B4 e4 ai H5 n5 S5 e5 a2 H6 n6 S6 e6 H7 B7 e7;have p7:∀b o,H b=some o->b≠p->H7 b=some o:=λb o hb hbp=>B7 _ _ (S6 _ _ (S5 _ _ (B4 _ _ (S3 _ _ (B2 _ _ (B1 _ _ hb hbp) hbp)) hbp))) hbp;have h0p:∀b o,H0 b=some o->b≠p:=λb o hb z=>by rw[z,hp0]at hb;cases hb
 have s7:Same H0 H7:=λb o hb=>p7 b o (hS0 _ _ hb) (h0p b o hb);have k1:a1≠p:=λz=>by rw[z,e2]at n3;cases n3
 have k2:a2≠p:=λz=>by rw[z,S5 _ _ e4]at n6;cases n6
 have f1:H7 a1=some (.lst []):=B7 _ _ (S6 _ _ (S5 _ _ (B4 _ _ e3 k1))) k1;have f2:H7 a2=some (.lst [.ref ai]):=B7 _ _ e6 k2;have k12:a1≠a2:=λz=>by rw[z,]at e3;rw[S5 _ _ (B4 _ _ e3 (by rw[←z];exact k1))]at n6;cases n6
 have z1:H0 a1=none:=by
  cases hq:H0 a1 with
  | none=>rfl
  | some v=>rw[B2 _ _ (B1 _ _ (hS0 _ _ hq) k1) k1]at n3;cases n3
 have z2:H0 a2=none:=by
  cases hq:H0 a2 with
  | none=>rfl
  | some v=>rw[S5 _ _ (B4 _ _ (S3 _ _ (B2 _ _ (B1 _ _ (hS0 _ _ hq) k2) k2)) k2)]at n6;cases n6
 refine aCI m.cR λn np H8 n8 S8 fp8 ne8=> ?_;have e8:=S8 _ _ e7;tm_at"a";rename_i H9 B9 e9;have kn:n≠p:=λz=>by rw[z,e7]at n8;cases n8
 have kp:p∉np:=λz=>by have:=fp8 p z;rw[e7]at this;cases this
 have ne9:NetE m.aX H9 n np [] [] []:=ne8.on B9 kn kp;obtain⟨dn9,q91,q92,q93,rs9,ef9,y9,_⟩:=id ne9;tm_at"a";refine QO ne9 (by show 0<_;lia) λr H10 n10 fr10 ne10=> ?_;have e10:=fr10 _ _ e9 kp;tm_at"a";rename_i H11 B11 e11 a3 H12 n12 S12 f12 H13 B13 e13 a4 H14 n14 S14 f14 H15 B15 e15;have k3:a3≠p:=λz=>by rw[z,e11]at n12;cases n12
 have k4:a4≠p:=λz=>by rw[z,e13]at n14;cases n14
 have t10:∀b o,H7 b=some o->b≠p->H10 b=some o:=λb o hb hbp=>fr10 _ _ (B9 _ _ (S8 _ _ hb) hbp) λz=>by rw[fp8 b z]at hb;cases hb
 have t15:∀b o,H10 b=some o->b≠p->H15 b=some o:=λb o hb hbp=>B15 _ _ (S14 _ _ (B13 _ _ (S12 _ _ (B11 _ _ hb hbp)) hbp)) hbp;have s15:Same H0 H15:=λb o hb=>t15 b o (t10 b o (s7 _ _ hb) (h0p b o hb)) (h0p b o hb);have hc15:=hc.same s15;have z3:H0 a3=none:=by
  cases hq:H0 a3 with
  | none=>rfl
  | some v=>rw[B11 _ _ (t10 _ _ (s7 _ _ hq) k3) k3]at n12;cases n12
 have z4:H0 a4=none:=by
  cases hq:H0 a4 with
  | none=>rfl
  | some v=>rw[B13 _ _ (S12 _ _ (B11 _ _ (t10 _ _ (s7 _ _ hq) k4) k4)) k4]at n14;cases n14
 have f315:H15 a3=some (.dT []):=B15 _ _ (S14 _ _ (B13 _ _ f12 k3)) k3;have f415:H15 a4=some (.dT []):=B15 _ _ f14 k4;have k34:a3≠a4:=λz=>by rw[←z,B13 _ _ f12 k3]at n14;cases n14
 obtain⟨hdx,hqs,hqp,hqd,hnk,hkvs,ho15,_⟩:=hc15.at'.ex;tm_at"a";refine aCM hc15.at' nr λH16 S16=> ?_;have e16:=S16 _ _ e15;tm_at"a";rename_i H17 B17 e17;have t17:∀b o,H15 b=some o->b≠p->H17 b=some o:=λb o hb hbp=>B17 _ _ (S16 _ _ hb) hbp;have s17:Same H0 H17:=λb o hb=>t17 b o (s15 _ _ hb) (h0p b o hb);have hnp:∀b∈np++[r],b≠p:=λb hb=>by
  rcases bf.mp hb with h|h
  .exact λz=>kp (z▸h)
  .rw[bq.mp h];exact λz=>by rw[z,e9]at n10;cases n10
 have ne11:NetE m.aX H11 n (np++[r]) [] [] [[]]:=ne10.on B11 kn λz=>hnp p z rfl;have ne15:NetE m.aX H15 n (np++[r]) [] [] [[]]:=((ne11.same S12).on B13 kn λz=>hnp p z rfl).same S14 |>.on B15 kn λz=>hnp p z rfl
 have ne17:NetE m.aX H17 n (np++[r]) [] [] [[]]:=(ne15.same S16).on B17 kn λz=>hnp p z rfl;have g1:H10 a1=some (.lst []):=t10 _ _ f1 k1;have g2:H10 a2=some (.lst [.ref ai]):=t10 _ _ f2 k2;have np1:∀b o,H7 b=some o->b∉np++[r]:=λb o hb z=>by
  rcases bf.mp z with z|z
  .rw[fp8 b z]at hb;cases hb
  .rw[bq.mp z]at hb;have hrp:r≠p:=hnp r (be _ (.head _));rw[B9 _ _ (S8 _ _ hb) hrp]at n10;cases n10
 have hh17:HNS m.aX C m.aO (aJ P w K mg base (some 5)) H0 H17 p ⟨dx,h,a1,a2,n,a3,a4,[]⟩ f l rz ps ds f (bE rz ps) [] [.ref ai] [] [] [] [] 1:=by
  refine⟨np++[r],[[]],⟨e17,t17 _ _ (t15 _ _ g1 k1) k1,t17 _ _ (t15 _ _ g2 k2) k2,t17 _ _ f315 k3,t17 _ _ f415 k4,ne17,k34,k12,np1 _ _ f1,np1 _ _ f2,kn⟩,s17,λb hb=> ?_,NS.nil,hc⟩;have hb:b∈p::a1::a2::a3::a4::(np++[r]):=hb;rcases aw.mp hb with rfl|hb
  .exact hp0
  .rcases aw.mp hb with rfl|hb
   .exact z1
   .rcases aw.mp hb with rfl|hb
    .exact z2
    .rcases aw.mp hb with rfl|hb
     .exact z3
     .rcases aw.mp hb with rfl|hb
      .exact z4
      .cases hq:H0 b with
       | none=>rfl
       | some v=>exact absurd hb (np1 _ _ (s7 _ _ hq))
 clear t17 t15 t10 ne17 ne15 ne11 ne10 ne9 ne8 B1 B2 B4 B7 B9 B11 B13 B15 B17 S3 S5 S6 S8 S12 S14 S16 fr10;generalize hx:(⟨dx,h,a1,a2,n,a3,a4,[]⟩:HNAt)=x at hh17;have hxh:x.h=h:=by rw[←hx]
 have hxn:x.n=n:=by rw[←hx]
 obtain⟨hdx,hqs,hqp,hqd,hnk,hkvs,ho17,_⟩:=hh17.hc'.at'.ex;have ho17:=ho17;rw[hxh]at ho17;tm_at"a";refine nW (hc.same s17).at' λp9 H18 n18 S18 f18=> ?_;rcases hh17.keep S18 n18 f18 with⟨_,s18,hh18⟩;generalize hB:upd H0 p9 _=B at s18 hh18;have hBp:B p9=some (.lst ((rz.map (·.1)).map V.str)):=by rw[←hB];exact aR
 tm_at"a";let Pv1:Nat->St->Hp->Prop:=λj σ' H'=>(∃sp',HNS m.aX C m.aO (aJ P w K mg base (some 5)) B H' p x f l rz ps ds f (bE rz ps) [] [.ref ai] (dU f (rz.take j) 1) [] (b9 (λ_=>0) (λe=>cC ps e.1) (rz.take j) 1) sp' (1+j)/\∀v,cE (b9 (λ_=>0) (λe=>cC ps e.1) (rz.take j) 1) sp' v=0)/\∃y z,σ'=[some (.ref p),some (.ref h),y,z];refine dH ((rz.map (·.1)).map V.str) Pv1 ⟨⟨[],hh18,λ_=>rfl⟩,_,_,rfl⟩ (λj σ' H' _ g=> ?_) ?_ ?_
 .obtain⟨⟨sp',g,_⟩,_⟩:=g;exact SqL.of (g.sm _ _ hBp)
 .rintro j yy _ H19 hy19 hq_;obtain⟨⟨sp',hh19,ex19⟩,y1,y2,rfl⟩:=hq_;rcases wW hy19 with⟨e,hej,rfl⟩;have hem:=ba hej;have hjl:j<rz.length:=(ax.mp hej).1;have hez:e.1∈rz.map (·.1):=ag.mpr ⟨e,hem,rfl⟩;have htl:(rz.take j).length=j:=by rw[dh];lia
  obtain⟨e0,e1,e2,e3,e4,⟨ddn,q1,q2,q3,e5⟩⟩:=hh19.ob;tm_at"a";refine wI hh19 (by lia) λH20 hh20=> ?_;obtain⟨e0,e1,e2,e3,e4,⟨ddn,q1,q2,q3,e5⟩⟩:=hh20.ob;obtain⟨hdx,hqs,hqp,hqd,hnk,hkvs,ho20,_⟩:=hh20.hc'.at'.ex;rw[hxh]at ho20;have ha20:=hh20.hc'.at';rw[hxh]at ha20;tm_at"a";refine aBy (z:=e.1) ha20 nr hez λH21 S21=> ?_;have hh21:=hh20.same S21;tm_at"a";refine FH (s:=0) (t:=1+j) hh21 (by lia) (by lia) (hc.ps0 e.1) (by rw[gO];lia) λH22 hh22=> ?_;obtain⟨e0,e1,e2,e3,e4,⟨ddn,q1,q2,q3,e5⟩⟩:=hh22.ob;tm_at"a";rename_i r23 H23 n23 S23 f23;have hh23:=hh22.same S23;refine xY [.inr e.1,.inl f] (S23 _ _ e3) f23 (by rw[sizeLine_eq,xZ];lia) λH24 B24 f24=> ?_;have eK:cJ (dU f (rz.take j) 1) [.inr e.1,.inl f] (.int ((1+j:Nat):Int))=dU f (rz.take (j+1)) 1:=by
   have hnw:=W3 (pk:=[]) (u:=f) (a:=1) (λ_=>λz=>nomatch z) nr hej;rw[eX _ (show bA (dU f (rz.take j) 1) [.inr e.1,.inl f]=none from hnw),aV hej,AA,htl]
  rw[eK]at f24;have hh24:=hh23.pkp B24 f24;refine⟨⟨sp'++[cC ps e.1,0],?_,λv=> ?_⟩,_,_,rfl⟩
  .rw[aV hej,gZ,htl,←aV hej];exact hh24
  .rw[aV hej,gZ,htl];exact(hh21.exc _ _ _ v).trans (ex19 v)
 .rintro _ H19 hq_;obtain⟨⟨sp',hh19,ex19⟩,y1,y2,rfl⟩:=hq_;have hl:((rz.map (·.1)).map V.str).length=rz.length:=by rw[af,af]
  rw[hl,cp]at hh19 ex19;tm_at"a";refine k x [.ref ai] sp' H19 ?_ rfl ex19 hxh;have hb:=hh19.back s18 (by rw[hxh];exact hc);have en:nb rz.length 0+rz.length=1+rz.length:=by unfold nb;lia
  rw[en];exact hb
theorem J0(m:M K mg):Kc P w K mg base "HouseNet" m.aP 4 [] (xG K m.aX m.aO (aJ P w K mg base (some 5))):=⟨_,_,_,_,m.UK,m.QC,.nil,m.iP.b,xT m⟩
structure FOk(rz ps:List (Str×Int))(ds:List aF)(f l:Int)(outs sp:List Int):Prop where
 len:(outs.length:Int)=l - f
 nn:∀y∈outs,0<=y
 best:BstAll rz ps ds f l (bE rz ps) outs
 fl:∀(j:Nat) (y:Int),outs[j]? =some y->flS sp (ds.filter exO).length (LK rz ps ds f l (bE rz ps) j).length=y
 sp0:∀m,0<=at0 sp m
theorem aAh(h:∀z,0<=cC ps z):0<=bE rz ps:=by
 unfold bE
 induction rz with
 | nil=>exact fe _
 | cons e l ih =>
  rw[ay,cm];have:=h e.1
  lia
theorem aEZ{D:bH}{E:XK}{h:Addr}{ds:List aF}(dc:DCls K CH)(hc:HC CHo D H h f l rz ps ds)(k:∀p x cv sp H',HNS CN CH CHo D H H' p x f l rz ps ds f (bE rz ps) [] cv (pkK rz f 0) [] (LK rz ps ds f l (bE rz ps) 0) sp (nb rz.length 0+rz.length)->cv.length=1->(∀v,cE (LK rz ps ds f l (bE rz ps) 0) sp v=0)->x.h=h->Q (.ref p) H'):jK CH (xG K CN CHo D) [] E Q [.ref h] H:=by
 intro x dx nx nd0 ne;have s0:Same H (upd (upd H dx (.own x)) x (.ins CH dx [])):=λb o e=>by
  rw[aK (bB e nx),aK (bB e nd0)];exact e
 exact⟨x,CH,dx,h,f,l,rz,ps,ds,H,rfl,dc,aR,s0,nx,hc,λy cv sp H' hh hl he hx=>⟨rfl,k x y cv sp H' hh hl he hx⟩⟩
inductive u0(CN CH CHo:Addr)(D:bH)(vs:List V)(H:Hp)(Q:VK)(E:XK):Prop
 | mk (h:Addr) (f l:Int) (rz ps:List (Str×Int)) (ds:List aF) (_:vs=[.ref h]) (_:HC CHo D H h f l rz ps ds) (_:∀hn x outs cv sp L N H',HNS CN CH CHo D H H' hn x f l rz ps ds l (bE rz ps) outs cv (pkK rz f outs.length) (dkK rz ps ds f l (bE rz ps) outs.length) L sp N->(LK rz ps ds f l (bE rz ps) outs.length).length<=L.length->FOk rz ps ds f l outs sp->Q (.ref hn) H'):u0 CN CH CHo D vs H Q E
theorem L0{D:bH}{E:XK}{h:Addr}{ds:List aF}(hc:HC CHo D H h f l rz ps ds)(k:∀hn x outs cv sp L N H',HNS CN CH CHo D H H' hn x f l rz ps ds l (bE rz ps) outs cv (pkK rz f outs.length) (dkK rz ps ds f l (bE rz ps) outs.length) L sp N->(LK rz ps ds f l (bE rz ps) outs.length).length<=L.length->FOk rz ps ds f l outs sp->Q (.ref hn) H'):u0 CN CH CHo D [.ref h] H Q E:=⟨_,_,_,_,_,_,rfl,hc,k⟩
theorem ZJ{R k:Nat}(hR:R<=4)(hk:k<=8):nb R k+R<200:=by
 unfold nb;have:=ll hk (show 2 * R+1<=9 by lia)
 lia
theorem ZO{ds:List aF}(hR:rz.length<=4)(hD:ds.length<=8){k:Nat}(hk:k<=8):(LK rz ps ds f l pl k).length<200:=by
 rw[ES];have:=ll hk (show ds.length+2 * rz.length<=16 by lia)
 lia
theorem KL(m:M K mg):FnOk P w K mg base CX0 12 m.uE m.m9.d ["house"] (u0 m.aX m.aP m.aO (aJ P w K mg base (some 5))):=by
 refine m.m9.F.ok aHA ?_ ?_;tm_at"g";tm_at"h";rcases h with⟨h,f,l,rz,ps,ds,rfl,hc,k⟩;tm_at"f";have nd:=aHA.nd;tm_at"d";have aIg:= @J0 P w K mg base m;have aGD:=m.bN;have aGE:=m.cR;have aGB:=m.bJ;refine⟨_,(aB (aQ (i:=1) nd rfl (by tm_at"b") (mN aIg hr (aA (pv 0) aC)))
  (aB (sV cx (bC jG (aH (pv 1) rfl) (aH (pv 0) rfl) (bF _)) (aE (aU (cU 11 hr (pv 1)))))
  (aB (aU (cU 3 hr (pv 1)))
  (aE (aT (pv 1)))))),?_⟩
 refine aL (σ:=[some (.ref h),none]) rfl ?_;tm_at"e";have M1:= @CD P w K mg base m;have M2:= @uN P w K mg base m;have nr:=hc.nr;have hrl:=hc.lr;have hdl:=hc.ld;have hfl:=hc.fl;have hf7:=hc.fl7;have hpl0:=aAh (rz:=rz) hc.ps0;tm_at"a";refine aEZ m.bN hc λhn x cv sp H1 hh1 hcl ex1 hxh=> ?_;tm_at"a";refine xK (λmm σ' H'=>∃(outs:List Int) (cv:List V) (sp:List Int),(mm:Int)+(outs.length:Int)=l - f/\HNS m.aX m.aP m.aO (aJ P w K mg base (some 5)) H H' hn x f l rz ps ds (f+(outs.length:Int)) (bE rz ps) outs cv (pkK rz f outs.length) (dkK rz ps ds f l (bE rz ps) outs.length) (LK rz ps ds f l (bE rz ps) outs.length) sp (nb rz.length outs.length+rz.length)/\cv.length=outs.length+1/\(∀y∈outs,0<=y)/\excOk rz.length (LK rz ps ds f l (bE rz ps) outs.length) sp outs/\BstAll rz ps ds f l (bE rz ps) outs/\σ'=[some (.ref h),some (.ref hn)]) (l - f).toNat ⟨[],cv,sp,?_,?_,hcl,(λ_ z=>nomatch z),λv=> ?_,λj hj=>absurd hj (ko _),rfl⟩ ?_
 .show _+(0:Int)=_
  lia
 .have e:f+(([]:List Int).length:Int)=f:=ia f;rw[e];exact hh1
 .refine(ex1 v).trans ?_;show (0:Int)=0 - if (0:Int)=v then 0 else 0
  split<;>rfl
 rintro mm _ H2 hq_;obtain⟨outs,cv2,sp2,hmm,hh2,hcl2,hnn,hex,hbst,rfl⟩:=hq_;obtain⟨e0,e1,e2,e3,e4,⟨ddn,q1,q2,q3,e5⟩⟩:=hh2.ob;obtain⟨hdx,hqs,hqp,hqd,hnk,hkvs,ho2,_⟩:=hh2.hc'.at'.ex;rw[hxh]at ho2;have hol:outs.length<=7:=by lia
 have hN:=ZJ (R:=rz.length) hrl (show outs.length<=8 by lia);have hLs:=ZO (rz:=rz) (ps:=ps) (ds:=ds) (f:=f) (l:=l) (pl:=bE rz ps) hrl hdl (show outs.length<=8 by lia);have hN0:0<nb rz.length outs.length+rz.length:=by unfold nb;lia
 have hpn:∀e∈rz,bA (pkK rz f outs.length) [.inr e.1,.inl (f+(outs.length:Int))]=some (.int (pnK rz outs.length e.1:Int))/\pnK rz outs.length e.1<nb rz.length outs.length+rz.length:=λe he=>by
  have hz:e.1∈rz.map (·.1):=ag.mpr ⟨e,he,rfl⟩;exact⟨aC9 nr f hz _,(sO hz _).2⟩
 tm_at"a";refine bS (λhlt=> ?_) (λhlt=> ?_)
 .refine E7 ?_;tm_at"a";have hpk64:(pkK rz f outs.length).length<64:=by
   rw[Q5];have:=ll (show outs.length+1<=8 by lia) hrl
   lia
  have hdk64:(dkK rz ps ds f l (bE rz ps) outs.length).length<5000:=by
   rw[BP];have:=ll hol hdl
   lia
  refine⟨hn,x,pnK rz outs.length,f,l,rz,ps,ds,H,f+(outs.length:Int),bE rz ps,outs,cv2,_,_,_,sp2,_,rfl,hh2,by lia,hlt,hpl0,hpn,λn z=> ?_,λe he=>JL he,λz hz=> ?_,hpk64,by lia,by lia,hN0,by lia,by lia,hdk64,λy cv3 sp3 rs sp4 H3 hcv cap3 nn3 ex3 shut hh3 y0 ex4=> ?_⟩
  .obtain⟨d,_,j,hj,e⟩:=GH z;have:=(iW e).1
   lia
  .obtain⟨e,_,j,hj,e'⟩:=GS hz;have:=(LN e').2
   lia
  .tm_at"a";have hl1:(outs++[y]).length=outs.length+1:=by rw[ak];rfl
   have e1:f+((outs++[y]).length:Int)=f+(outs.length:Int)+1:=by rw[hl1];lia
   refine⟨mm - 1,by lia,outs++[y],cv3,sp4,?_,?_,?_,?_,?_,?_,rfl⟩
   .rw[hl1];lia
   .rw[e1,hl1,BI];exact hh3
   .rw[hcv,hl1];lia
   .intro z hz;rcases bf.mp hz with h|h
    .exact hnn z h
    .rw[bq.mp h];exact y0
   .rw[hl1];exact excOk.more hex ex4
   .exact hbst.more ⟨sp3,rs,cap3,nn3,excOk.more hex ex3,shut⟩
 .have hK:(outs.length:Int)=l - f:=by lia
  tm_at"a";refine⟨hn,x,pnK rz outs.length,f,l,rz,ps,ds,H,f+(outs.length:Int),bE rz ps,outs,cv2,_,_,_,sp2,_,rfl,hh2,hpl0,hpn,hN0,by lia,by lia,λsp5 H5 hh5 ex5=> ?_⟩;tm_at"a";rw[show f+(outs.length:Int)=l by lia]at hh5;refine k hn x outs cv2 sp5 _ _ H5 hh5 (by rw[ak];lia) ⟨hK,hnn,hbst,λj y hj=> ?_,?_⟩
  .have hjl:j<outs.length:=(ax.mp hj).1;have h1:=aET rz.length j;have h2:=yD rz.length hjl;have e5:=ex5 (oN rz.length j:Int) (by lia) (by lia);rw[hex (oN rz.length j:Int),if_neg (by lia)]at e5;have h3:=aAD rz.length outs 0 j y hj;rw[ve]at h3;rw[h3,aEK,kY,US hc.din sp5 j outs.length,if_pos hjl]at e5;have h4:gU sp5 (oN rz.length j) (kpL rz (pnK rz outs.length) (nb rz.length outs.length+rz.length) (bE rz ps)) (0+(LK rz ps ds f l (bE rz ps) outs.length).length)=0:=iS _ _ _ _ λa ha=>by
    unfold kpL at ha;rcases ag.mp ha with⟨e,he,rfl⟩;have h6:=sO (ag.mpr ⟨e,he,rfl⟩:e.1∈rz.map (·.1)) outs.length;exact⟨by show nb rz.length outs.length+rz.length≠_;lia,by show pnK rz outs.length e.1≠_;lia⟩
   rw[h4]at e5
   lia
  .rcases hh5.ns with⟨as,ns⟩;exact ns.nn
theorem zA(m:M K mg):Fc P w K mg base "filled_net" 12 ["house"] (u0 m.aX m.aP m.aO (aJ P w K mg base (some 5))):=⟨_,_,m.O5,m.m9.F.kp,m.m9.b,KL m⟩
inductive DO(CHo:Addr)(D:bH)(vs:List V)(H:Hp)(Q:VK)(E:XK):Prop
 | mk (h:Addr) (f l:Int) (rz ps:List (Str×Int)) (ds:List aF) (_:vs=[.ref h]) (_:HC CHo D H h f l rz ps ds) (_:∀p ws xs outs sp H',Same H H'->H' p=some (.lst ws)->fI H' ws xs->xs.map mQ=rP (g6 ((dkK rz ps ds f l (bE rz ps) outs.length).map (cS sp)))->FOk rz ps ds f l outs sp->Q (.ref p) H'):DO CHo D vs H Q E
theorem OF(m:M K mg):FnOk P w K mg base CX0 13 m.vQ m.pG.d ["house"] (DO m.aO (aJ P w K mg base (some 5))):=by
 refine m.pG.F.ok aHQ ?_ ?_;tm_at"g";tm_at"h";rcases h with⟨h,f,l,rz,ps,ds,rfl,hc,k⟩;tm_at"f";have nd:=aHQ.nd;tm_at"d";have aHc:= @zA P w K mg base m;have aGD:=m.bN;have aGE:=m.cR;have aGB:=m.bJ;refine⟨_,(aE (aT (cU 3 hr (bG aHc hr (aA (pv 0) aC))))),?_⟩;refine aL (σ:=[some (.ref h)]) rfl ?_;tm_at"e";have M1:= @D5 P w K mg base m;have hrl:=hc.lr;have hdl:=hc.ld;have hf7:=hc.fl7;tm_at"a";refine L0 hc λhn x outs cv sp L N H1 hh hL fo=> ?_;obtain⟨e0,e1,e2,e3,e4,⟨ddn,q1,q2,q3,e5⟩⟩:=hh.ob;have hol:outs.length<=7:=by have:=fo.len;lia
 rcases hh.ns with⟨as,ns⟩;have hsl:=ns.splen;have hdk64:(dkK rz ps ds f l (bE rz ps) outs.length).length<64:=by
  rw[BP];have:=ll hol hdl
  lia
 tm_at"a";refine⟨hn,x,f,l,rz,ps,ds,H,l,bE rz ps,outs,cv,_,_,L,sp,N,rfl,hh,λe he=> ?_,hdk64,λp ws xs H' s f1 hp hx=> ?_⟩
 .obtain⟨t,n,b,e1,hb⟩:=u4 he;exact⟨t,n,2 * b,e1,by lia⟩
 .exact k p ws xs outs sp H' s f1 hp hx fo
theorem NM(m:M K mg):Fc P w K mg base "first_out" 13 ["house"] (DO m.aO (aJ P w K mg base (some 5))):=⟨_,_,m.P8,m.pG.F.kp,m.pG.b,OF m⟩
theorem aBM(ns:List Int)(i:Nat):OH ns none (some (i:Int))=ns.take i:=by
 unfold OH;rw[HT.sIx_nat,HT.sIx_none,Nat.sub_zero,List.drop_zero]
 by_cases h:i<=ns.length
 .rw[qh h]
 .rw[ou (by lia),cp,jz (by lia)]
inductive AH(CHo:Addr)(D:bH)(vs:List V)(H:Hp)(Q:VK)(E:XK):Prop
 | mk (h:Addr) (i:Nat) (f l:Int) (rz ps:List (Str×Int)) (ds:List aF) (_:vs=[.ref h,.int (f+(i:Int))]) (_:HC CHo D H h f l rz ps ds) (_:∀outs sp H',Same H H'->FOk rz ps ds f l outs sp->Q (.int (outs.take i).sum) H'):AH CHo D vs H Q E
theorem TQ(m:M K mg):FnOk P w K mg base CX0 13 m.AV m.u9.d ["house","turn"] (AH m.aO (aJ P w K mg base (some 5))):=by
 refine m.u9.F.ok aH7 ?_ ?_;tm_at"g";tm_at"h";rcases h with⟨h,i,f,l,rz,ps,ds,rfl,hc,k⟩;tm_at"f";have nd:=aH7.nd;tm_at"d";have aHc:= @zA P w K mg base m;have aGD:=m.bN;have aGE:=m.cR;have aGB:=m.bJ;refine⟨_,(aE (aT (bI (JO rfl) rfl m.UM MH (aA (YL aCv (aH (bG aHc hr (aA (pv 0) aC)) rfl) aB3 (aB2 (aI zY (pv 1) (aH (pv 0) rfl)))) aC)))),?_⟩;refine aL (σ:=[some (.ref h),some (.int (f+(i:Int)))]) rfl ?_;tm_at"e";tm_at"a";refine L0 hc λhn x outs cv sp L N H1 hh hL fo=> ?_;obtain⟨e0,e1,e2,e3,e4,⟨ddn,q1,q2,q3,e5⟩⟩:=hh.ob;have s1:=hh.sm;obtain⟨hdx,hqs,hqp,hqd,hnk,hkvs,ho1,_⟩:=(hc.same s1).at'.ex;tm_at"a";rename_i p2 H2 n2 S2 f2;rw[show f+(i:Int) - f=(i:Int) by lia,aBM]at f2;refine VT (SqL.of f2) ?_;exact k outs sp H2 (s1.trans S2) fo
theorem TM(m:M K mg):Fc P w K mg base "most_by" 13 ["house","turn"] (AH m.aO (aJ P w K mg base (some 5))):=⟨_,_,m.X2,m.u9.F.kp,m.u9.b,TQ m⟩
def crS(rs:List Int)(L:List Arc):Int:=(L.map (dJ rs)).sum
theorem fE(rs:List Int)(A B:List Arc):crS rs (A++B)=crS rs A+crS rs B:=by unfold crS;rw[aq,gr]
theorem XA{L:List Arc}(h:∀a∈L,0<=a.2.2):0<=crS rs L:=by
 unfold crS
 induction L with
 | nil=>exact fe _
 | cons a L ih =>
  rw[ay,cm];have h1:=aAl (rs:=rs) (h a (.head _));have h2:=ih λb hb=>h b (ab _ hb)
  lia
theorem ER{x y:Nat}{c d:Int}(h:c<=d):dJ rs (x,y,c)<=dJ rs (x,y,d):=by
 unfold dJ;show (if (x:Int)∈rs/\(y:Int)∉rs then c else 0)<=if (x:Int)∈rs/\(y:Int)∉rs then d else 0
 split
 .exact h
 .exact fe _
structure zL(rz rz' ps ps':List (Str×Int))(ds ds':List aF)(f l:Int):Prop where
 rz:bo (λe e'=>e.1=e'.1/\e.2<=e'.2) rz rz'
 ps:∀z,cC ps z=cC ps' z
 ds:∃A B,ds'=A++B/\bo (λd d'=>d.2.1=d'.2.1/\d.2.2.1=d'.2.2.1/\∀u,f<=u->u<l->bX f l d u<=bX f l d' u) ds A
 nn:∀d∈ds',∀u,f<=u->u<l->0<=bX f l d u
section
variable {ds ds':List aF}
theorem EC:∀{a b:List (Str×Int)},bo (λe e'=>e.1=e'.1/\e.2<=e'.2) a b->∀z,ixR a z=ixR b z
 | _,_,.nil,_=>rfl
 | _,_,.cons h t,z=>by
  unfold ixR;rw[h.1,EC t z]
theorem rM{rs:List Int}{s s':Str->Nat}{c c':Str×Int->Int}(hs:∀z,s z=s' z):∀{a b:List (Str×Int)},bo (λe e'=>e.1=e'.1/\e.2<=e'.2) a b->(∀e e',e.1=e'.1->e.2<=e'.2->c e<=c' e')->∀n,crS rs (b9 s c a n)<=crS rs (b9 s' c' b n)
 | _,_,.nil,_,_=>fe _
 | _,_,.cons (a:=e) (b:=e') h t,hc,n=>by
  have ih:=rM (rs:=rs) hs t hc (n+1);have h1:=ER (rs:=rs) (x:=s' e'.1) (y:=n) (hc e e' h.1 h.2);unfold crS at ih ⊢;show (dJ rs (s e.1,n,c e)::_).sum<=(dJ rs (s' e'.1,n,c' e')::_).sum;rw[cm,cm,hs,h.1]
  lia
theorem yC{rs:List Int}{p:aF->Bool}{q q':aF->Nat×Nat}{u:Int}(h0:f<=u)(h1:u<l)(hp:∀d d':aF,d.2.2.1=d'.2.2.1->p d=p d')(hq:∀d d':aF,d.2.1=d'.2.1->d.2.2.1=d'.2.2.1->q d=q' d'):∀{a b:List aF},bo (λd d'=>d.2.1=d'.2.1/\d.2.2.1=d'.2.2.1/\∀u,f<=u->u<l->bX f l d u<=bX f l d' u) a b->crS rs ((a.filter p).map λd=>((q d).1,(q d).2,bX f l d u))<=crS rs ((b.filter p).map λd=>((q' d).1,(q' d).2,bX f l d u))
 | _,_,.nil=>fe _
 | _,_,.cons (a:=d) (b:=d') h t=>by
  have ih:=yC (rs:=rs) (p:=p) (q:=q) (q':=q') h0 h1 hp hq t;have hpd:=hp d d' h.2.1;cases hb:p d' with
  | false =>
   rw[hb]at hpd;rw[ck (by rw[hpd];exact bw),ck (by rw[hb];exact bw)];exact ih
  | true =>
   rw[hb]at hpd;rw[cq hpd,cq hb,ay,ay];have h2:=ER (rs:=rs) (x:=(q' d').1) (y:=(q' d').2) (h.2.2 u h0 h1);unfold crS at ih ⊢;rw[ay,ay,cm,cm,hq d d' h.1 h.2.1]
   lia
theorem DA(g:bo (λ(e e':Str×Int)=>e.1=e'.1/\e.2<=e'.2) rz rz')(k:Nat)(z:Str):pnK rz k z=pnK rz' k z:=by
 unfold pnK;rw[bx g,EC g z]
theorem RP(g:zL rz rz' ps ps' ds ds' f l){i:Nat}{u:Int}(h0:f<=u)(h1:u<l):crS rs (exL ds (pnK rz i) f l u (oN rz.length i))<=crS rs (exL ds' (pnK rz' i) f l u (oN rz'.length i)):=by
 obtain⟨A,B,e,hp⟩:=g.ds;have hn:=g.nn;unfold exL;rw[e,dy,aq,fE];have a1:=yC (rs:=rs) (p:=exO) (q:=λd=>(pnK rz i d.2.1,oN rz.length i)) (q':=λd=>(pnK rz' i d.2.1,oN rz'.length i)) h0 h1 (λd d' h=>by unfold exO;rw[h]) (λd d' h _=>by rw[h,DA g.rz,bx g.rz]) hp;have a2:0<=crS rs ((B.filter exO).map λd=>(pnK rz' i d.2.1,oN rz'.length i,bX f l d u)):=XA λa ha=>by
  rcases ag.mp ha with⟨d,hd,rfl⟩;exact hn d (by rw[e];exact be _ (cu.mp hd).1) u h0 h1
 have a1:crS rs ((ds.filter exO).map λd=>(pnK rz i d.2.1,oN rz.length i,bX f l d u))<=crS rs ((A.filter exO).map λd=>(pnK rz' i d.2.1,oN rz'.length i,bX f l d u)):=a1
 lia
theorem YQ(g:zL rz rz' ps ps' ds ds' f l){i:Nat}{u:Int}(h0:f<=u)(h1:u<l):crS rs (jC rz ds (pnK rz i) f l pl u (oN rz.length i))<=crS rs (jC rz' ds' (pnK rz' i) f l pl u (oN rz'.length i)):=by
 have a0:=RP (rs:=rs) g (i:=i) h0 h1;obtain⟨A,B,e,hp⟩:=g.ds;have hn:=g.nn;have hl:=bx g.rz;have hix:=EC g.rz;unfold jC;rw[fE,fE,fE,fE,fE,fE];have a1:=rM (rs:=rs) (s:=pnK rz i) (s':=pnK rz' i) (c:=λ_=>pl) (c':=λ_=>pl) (DA g.rz i) g.rz (λ_ _ _ _=>fe _) (oN rz.length i+1);have a3:=rM (rs:=rs) (s:=λz=>oN rz.length i+1+ixR rz z) (s':=λz=>oN rz'.length i+1+ixR rz' z) (c:=λe=>e.2) (c':=λe=>e.2) (λz=>by rw[hl,hix]) g.rz (λ_ _ _ h=>h) (oN rz.length i+1+rz.length);have a2:crS rs (doL rz ds (pnK rz i) f l u (oN rz.length i))<=crS rs (doL rz' ds' (pnK rz' i) f l u (oN rz'.length i)):=by
  unfold doL;rw[e,dy,aq,fE];have b1:=yC (rs:=rs) (p:=inD) (q:=λd=>(pnK rz i d.2.1,oN rz.length i+1+ixR rz (AD d.2.2.1))) (q':=λd=>(pnK rz' i d.2.1,oN rz'.length i+1+ixR rz' (AD d.2.2.1))) h0 h1 (λd d' h=>by unfold inD exO;rw[h]) (λd d' h h'=>by rw[h,h',DA g.rz,hl,hix]) hp;have b2:0<=crS rs ((B.filter inD).map λd=>(pnK rz' i d.2.1,oN rz'.length i+1+ixR rz' (AD d.2.2.1),bX f l d u)):=XA λa ha=>by
   rcases ag.mp ha with⟨d,hd,rfl⟩;exact hn d (by rw[e];exact be _ (cu.mp hd).1) u h0 h1
  have b1:crS rs ((ds.filter inD).map λd=>(pnK rz i d.2.1,oN rz.length i+1+ixR rz (AD d.2.2.1),bX f l d u))<=crS rs ((A.filter inD).map λd=>(pnK rz' i d.2.1,oN rz'.length i+1+ixR rz' (AD d.2.2.1),bX f l d u)):=b1
  lia
 rw[hl]at a0 a1 a2 a3 ⊢
 lia
theorem QG{rs:List Int}{pl:Int}(g:zL rz rz' ps ps' ds ds' f l):∀k:Nat,f+(k:Int)<=l->crS rs (LK rz ps ds f l pl k)<=crS rs (LK rz' ps' ds' f l pl k)
 | 0,_=>rM (λ_=>rfl) g.rz (λe e' h _=>by rw[h,g.ps];exact fe _) 1
 | k+1,hk=>by
  show crS rs (LK rz ps ds f l pl k++jC rz ds (pnK rz k) f l pl (f+(k:Int)) (oN rz.length k))<=crS rs (LK rz' ps' ds' f l pl k++jC rz' ds' (pnK rz' k) f l pl (f+(k:Int)) (oN rz'.length k));rw[fE,fE];have h1:=QG (rs:=rs) (pl:=pl) g k (by lia);have h2:=YQ (rs:=rs) (pl:=pl) g (i:=k) (u:=f+(k:Int)) (by lia) (by lia)
  lia
theorem RX(g:zL rz rz' ps ps' ds ds' f l):bE rz ps=bE rz' ps':=by
 have:∀{a b:List (Str×Int)},bo (λ(e e':Str×Int)=>e.1=e'.1/\e.2<=e'.2) a b->(a.map λe=>cC ps e.1).sum=(b.map λe=>cC ps' e.1).sum:=λh=>by
  induction h with
  | nil=>rfl
  | cons h t ih=>rw[ay,ay,cm,cm,ih,h.1,g.ps]
 exact this g.rz
theorem JV{o1 o2 s1 s2:List Int}(g:zL rz rz' ps ps' ds ds' f l)(f1:FOk rz ps ds f l o1 s1)(f2:FOk rz' ps' ds' f l o2 s2)(din1:∀d∈ds,cQ (rz.map (·.1)) d)(din2:∀d∈ds',cQ (rz'.map (·.1)) d)(i:Nat)(hi:i<=o1.length):(o1.take i).sum<=(o2.take i).sum:=by
 have hl1:=f1.len;have hl2:=f2.len;cases i with
 | zero=>exact fe _
 | succ j =>
  obtain⟨rs,cz,co,cc⟩:=aBq din2 f2.best j (by lia);obtain⟨sp,_,cap,nn,ex,_⟩:=f1.best j (by lia);have hR:rz.length=rz'.length:=bx g.rz;have nd:((zI (oN rz.length j)).filter λv=>decide (v∈rs)).Nodup:=List.filter_sublist.nodup (RQ _);have hm:∀n:Nat,n<=oN rz.length j->((n:Int)∈(zI (oN rz.length j)).filter (λv=>decide (v∈rs))↔(n:Int)∈rs):=λn hn=>by
   rw[cu];exact⟨λh=>of_decide_eq_true h.2,λh=>⟨NB hn,decide_eq_true h⟩⟩
  have h1:=FK nd nn (LX rz ps ds f l (bE rz ps) j).length (ts:=bY (LX rz ps ds f l (bE rz ps) j));rw[lN cap _ (au _),cp,HY nd ex,BT _ 0 (λi h0 hi'=>by
   have hin:i<=j:=by
    rw[dh]at hi'
    lia
   have hle:oN rz.length i<=oN rz.length j:=by
    rcases Nat.lt_or_ge i j with h|h
    .exact ls (oR _ h)
    .rw[show i=j by lia];exact au _
   rw[hm _ hle,hR];exact co i hin),if_pos (show (0:Int)∈_ from(hm 0 (fk _)).mpr cz)]at h1
  have h2:((LX rz ps ds f l (bE rz ps) j).map (dJ ((zI (oN rz.length j)).filter λv=>decide (v∈rs)))).sum=crS rs (LX rz ps ds f l (bE rz ps) j):=by
   unfold crS;refine congrArg List.sum (gy λa ha=> ?_);rcases K6 din1 j ha with⟨b1,b2⟩;unfold dJ;simp only[hm _ b1,hm _ b2]
  have h3:crS rs (LX rz ps ds f l (bE rz ps) j)<=crS rs (LX rz' ps' ds' f l (bE rz' ps') j):=by
   unfold LX;rw[fE,fE,←RX g];have a1:=QG (rs:=rs) (pl:=bE rz ps) g j (by lia);have a2:=RP (rs:=rs) g (i:=j) (u:=f+(j:Int)) (by lia) (by lia)
   lia
  have h4:crS rs (LX rz' ps' ds' f l (bE rz' ps') j)=(o2.take (j+1)).sum:=cc;rw[h2]at h1
  lia
end
def wE(a i0:Int)(lt:Int->Int)(t:Int):Int:=if a<=t/\0<lt t then lt t+i0 else lt t
def xL(a:Int)(lt:Int->Int)(t:Int):Int:=if t<a then lt t else 0
abbrev BU(q n s e a i0:V):List (Str×V):=bO "more" i0 (bO "turn" a (bO "inner" q (jA n s e (.int 1))))
inductive hV(K:W.Frag)(vs:List V)(H:Hp)(Q:VK)(E:XK):Prop
 | mk (p q C dx D dxq:Addr) (fsq:List (Str×V)) (n s:Str) (e:V) (a i0:Int) (_:vs=[.ref p,.ref q,.int a,.int i0]) (_:DCls K C) (_:DCls K D) (_:H p=some (.ins C dx [])) (_:H q=some (.ins D dxq fsq)) (_:fsq.lookup ("name" :Str)=some (.str n)) (_:fsq.lookup ("start" :Str)=some (.str s)) (_:fsq.lookup ("end" :Str)=some e) (_:aY n=true) (_:aY s=true) (_:cZ e) (_:0<=a) (_:0<=i0) (_:∀H',SameBut p H H'->H' p=some (.ins C dx (BU (.ref q) (.str n) (.str s) e (.int a) (.int i0)))->Q .non H'):hV K vs H Q E
theorem NI{E:XK}{D:Addr}{n s:Str}{e:V}{a:Int}(dc:DCls K C)(dd:DCls K D)(hp:H p=some (.ins C dx []))(hq:H q=some (.ins D dxq fsq))(l1:fsq.lookup ("name" :Str)=some (.str n))(l2:fsq.lookup ("start" :Str)=some (.str s))(l3:fsq.lookup ("end" :Str)=some e)(hn:aY n=true)(hs:aY s=true)(he:cZ e)(ha:0<=a)(b0:0<=i0)
  (k:∀H',SameBut p H H'->H' p=some (.ins C dx (BU (.ref q) (.str n) (.str s) e (.int a) (.int i0)))->Q .non H'):hV K [.ref p,.ref q,.int a,.int i0] H Q E:=⟨_,_,_,_,_,_,_,_,_,_,_,_,rfl,dc,dd,hp,hq,l1,l2,l3,hn,hs,he,ha,b0,k⟩
theorem CK(m:M K mg):FnOk P w K mg base CX0 4 m.lL m.lF.d ["self","door","turn","more"] (hV K):=by
 refine m.lF.F.ok aG4 ?_ ?_;tm_at"g";tm_at"h";rcases h with⟨p,q,C,dx,D,dxq,fsq,n,st,e,a,i0,rfl,dc,dd,hp,hq,l1,l2,l3,hn,hs,he,ha,b0,k⟩;tm_at"f";have nd:=aG4.nd;tm_at"d";have aGC:= @eI P w K mg base m;have DD_Door___init___1:=fP (P:=P) (w:=w) (base:=base) m;refine⟨_,(aB (aU (LR DD_Door___init___1 hr (aA (pv 0) (aA (aH (pv 1) rfl) (aA (aH (pv 1) rfl) (aA (aH (pv 1) rfl) aC))))))
  (aB (aU (bG aGC hr (aA dS (aA (pv 2) (aA aD aC)))))
  (aB (aU (bG aGC hr (aA dS (aA (pv 3) (aA aD aC)))))
  (aB (bU (pv 0) (pv 1) rfl)
  (aB (bU (pv 0) (pv 2) rfl)
  (aE (bU (pv 0) (pv 3) rfl))))))),?_⟩
 refine aL (σ:=[some (.ref p),some (.ref q),some (.int a),some (.int i0)]) rfl ?_;tm_at"e";tm_at"a";refine DM ?_;tm_at"a";show c9 K [.ref p,.str n,.str st,e,.int 1] _ _ _;refine o9 dc hp hn hs he (by decide) λH2 B2 e2=> ?_;tm_at"a";exact k _ (by tm_at"m") (by assumption)
theorem S0(m:M K mg):Kc P w K mg base "Wider" m.jP 4 [] (hV K):=⟨_,_,_,_,m.aDw,m.aAt,.nil,m.lF.b,CK m⟩
theorem W5{E:XK}{D:Addr}{n s:Str}{e:V}{a:Int}(ev:vs++dvs=[.ref q,.int a,.int i0])(dc:DCls K C)(dd:DCls K D)(hq:H q=some (.ins D dxq fsq))(l1:fsq.lookup ("name" :Str)=some (.str n))(l2:fsq.lookup ("start" :Str)=some (.str s))(l3:fsq.lookup ("end" :Str)=some e)(hn:aY n=true)(hs:aY s=true)(he:cZ e)(ha:0<=a)(b0:0<=i0)
  (k:∀p dx H',H p=none->Same H H'->H' p=some (.ins C dx (BU (.ref q) (.str n) (.str s) e (.int a) (.int i0)))->Q (.ref p) H'):jK C (hV K) dvs E Q vs H :=
 iY (λp dx H0 Q' h k' s0=>by rw[ev];exact NI dc dd h (s0 _ _ hq) l1 l2 l3 hn hs he ha b0 k') k
inductive qF(P:fh)(w:gh)(K:W.Frag)(mg:Str->Option ah)(base:Heap)(vs:List V)(H:Hp)(Q:VK)(E:XK):Prop
 | mk (p C dx:Addr) (fs:List (Str×V)) (q D dxq:Addr) (fsq:List (Str×V)) (t a i i0:Int) (sp:Sp) (_:vs=[.ref p,.int t]) (_:DCls K C) (_:H p=some (.ins C dx fs)) (_:fs.lookup ("inner" :Str)=some (.ref q)) (_:fs.lookup ("turn" :Str)=some (.int a)) (_:fs.lookup ("more" :Str)=some (.int i0)) (_:H q=some (.ins D dxq fsq)) (_:fsq.lookup ("lets" :Str)=none) (_:Mc P w K mg base D "lets" 4 sp) (_:(∀Q':VK,(∀H'',Same H H''->Q' (.int i) H'')->sp [.ref q,.int t] H Q' E0)) (_:∀H'',Same H H''->Q (.int (if a<=t/\0<i then i+i0 else i)) H''):qF P w K mg base vs H Q E
theorem J2(m:M K mg):FnOk P w K mg base CX0 5 m.uF m.uG.d ["self","turn"] (qF P w K mg base):=by
 refine m.uG.F.ok aHG ?_ ?_;tm_at"g";tm_at"h";rcases h with⟨p,C,dx,fs,q,D,dxq,fsq,t,a,i,i0,sp,rfl,dc,hp,l1,l2,l4,hq,l3,mc,hs,k⟩;tm_at"f";have nd:=aHG.nd;tm_at"d";refine⟨_,(aB (aQ (i:=2) nd rfl (by tm_at"b") (cP 4 hr (aH (pv 0) rfl) (aA (pv 1) aC) (au _)))
  (aE (aT (oA (PW.pt (EQ (bC E6 (pv 1) (aH (pv 0) rfl) (bF _)) (A1 (bC rO (pv 2) aD (bF _))))) (aI bQ (pv 2) (aH (pv 0) rfl)) (pv 2))))),?_⟩
 refine aL (σ:=[some (.ref p),some (.int t),none]) rfl ?_;tm_at"e";tm_at"a";refine hs _ λH2 S2=> ?_;have hp2:=S2 _ _ hp;have k2:=k _ S2;tm_at"a";refine bS (λh1=> ?_) (λh1=> ?_)
 .tm_at"a";refine bS (λh2=> ?_) (λh2=> ?_)
  .tm_at"a";rw[if_pos ⟨h1,h2⟩]at k2;exact k2
  .tm_at"a";rw[if_neg (λz=>h2 z.2)]at k2;exact k2
 .tm_at"a";rw[if_neg (λz=>h1 z.1)]at k2;exact k2
theorem J4(m:M K mg):Mc P w K mg base m.jP "lets" 5 (qF P w K mg base):=⟨_,_,_,m.tU.ic.cl,m.KY,m.uG.b,J2 m⟩
abbrev EU(q n s e a:V):List (Str×V):=bO "turn" a (bO "inner" q (jA n s e (.int 1)))
inductive jB(K:W.Frag)(vs:List V)(H:Hp)(Q:VK)(E:XK):Prop
 | mk (p q C dx D dxq:Addr) (fsq:List (Str×V)) (n s:Str) (e:V) (a:Int) (_:vs=[.ref p,.ref q,.int a]) (_:DCls K C) (_:DCls K D) (_:H p=some (.ins C dx [])) (_:H q=some (.ins D dxq fsq)) (_:fsq.lookup ("name" :Str)=some (.str n)) (_:fsq.lookup ("start" :Str)=some (.str s)) (_:fsq.lookup ("end" :Str)=some e) (_:aY n=true) (_:aY s=true) (_:cZ e) (_:0<=a) (_:∀H',SameBut p H H'->H' p=some (.ins C dx (EU (.ref q) (.str n) (.str s) e (.int a)))->Q .non H'):jB K vs H Q E
theorem PN{E:XK}{D:Addr}{n s:Str}{e:V}{a:Int}(dc:DCls K C)(dd:DCls K D)(hp:H p=some (.ins C dx []))(hq:H q=some (.ins D dxq fsq))(l1:fsq.lookup ("name" :Str)=some (.str n))(l2:fsq.lookup ("start" :Str)=some (.str s))(l3:fsq.lookup ("end" :Str)=some e)(hn:aY n=true)(hs:aY s=true)(he:cZ e)(ha:0<=a)
  (k:∀H',SameBut p H H'->H' p=some (.ins C dx (EU (.ref q) (.str n) (.str s) e (.int a)))->Q .non H'):jB K [.ref p,.ref q,.int a] H Q E:=⟨_,_,_,_,_,_,_,_,_,_,_,rfl,dc,dd,hp,hq,l1,l2,l3,hn,hs,he,ha,k⟩
theorem DD(m:M K mg):FnOk P w K mg base CX0 4 m.mR m.nF.d ["self","door","turn"] (jB K):=by
 refine m.nF.F.ok aG8 ?_ ?_;tm_at"g";tm_at"h";rcases h with⟨p,q,C,dx,D,dxq,fsq,n,st,e,a,rfl,dc,dd,hp,hq,l1,l2,l3,hn,hs,he,ha,k⟩;tm_at"f";have nd:=aG8.nd;tm_at"d";have aGC:= @eI P w K mg base m;have DD_Door___init___1:=fP (P:=P) (w:=w) (base:=base) m;refine⟨_,(aB (aU (LR DD_Door___init___1 hr (aA (pv 0) (aA (aH (pv 1) rfl) (aA (aH (pv 1) rfl) (aA (aH (pv 1) rfl) aC))))))
  (aB (aU (bG aGC hr (aA dS (aA (pv 2) (aA aD aC)))))
  (aB (bU (pv 0) (pv 1) rfl)
  (aE (bU (pv 0) (pv 2) rfl))))),?_⟩
 refine aL (σ:=[some (.ref p),some (.ref q),some (.int a)]) rfl ?_;tm_at"e";tm_at"a";refine DM ?_;tm_at"a";show c9 K [.ref p,.str n,.str st,e,.int 1] _ _ _;refine o9 dc hp hn hs he (by decide) λH2 B2 e2=> ?_;tm_at"a";exact k _ (by tm_at"m") (by assumption)
theorem WQ(m:M K mg):Kc P w K mg base "Shut" m.m6 4 [] (jB K):=⟨_,_,_,_,m.aFk,m.aDu,.nil,m.nF.b,DD m⟩
theorem ZM{E:XK}{D:Addr}{n s:Str}{e:V}{a:Int}(ev:vs++dvs=[.ref q,.int a])(dc:DCls K C)(dd:DCls K D)(hq:H q=some (.ins D dxq fsq))(l1:fsq.lookup ("name" :Str)=some (.str n))(l2:fsq.lookup ("start" :Str)=some (.str s))(l3:fsq.lookup ("end" :Str)=some e)(hn:aY n=true)(hs:aY s=true)(he:cZ e)(ha:0<=a)
  (k:∀p dx H',H p=none->Same H H'->H' p=some (.ins C dx (EU (.ref q) (.str n) (.str s) e (.int a)))->Q (.ref p) H'):jK C (jB K) dvs E Q vs H :=
 iY (λp dx H0 Q' h k' s0=>by rw[ev];exact PN dc dd h (s0 _ _ hq) l1 l2 l3 hn hs he ha k') k
inductive tK(P:fh)(w:gh)(K:W.Frag)(mg:Str->Option ah)(base:Heap)(vs:List V)(H:Hp)(Q:VK)(E:XK):Prop
 | mk (p C dx:Addr) (fs:List (Str×V)) (q D dxq:Addr) (fsq:List (Str×V)) (t a i:Int) (sp:Sp) (_:vs=[.ref p,.int t]) (_:DCls K C) (_:H p=some (.ins C dx fs)) (_:fs.lookup ("inner" :Str)=some (.ref q)) (_:fs.lookup ("turn" :Str)=some (.int a)) (_:H q=some (.ins D dxq fsq)) (_:fsq.lookup ("lets" :Str)=none) (_:Mc P w K mg base D "lets" 4 sp) (_:(∀Q':VK,(∀H'',Same H H''->Q' (.int i) H'')->sp [.ref q,.int t] H Q' E0)) (_:∀H'',Same H H''->Q (.int (if t<a then i else 0)) H''):tK P w K mg base vs H Q E
theorem OJ(m:M K mg):FnOk P w K mg base CX0 5 m.vR m.vW.d ["self","turn"] (tK P w K mg base):=by
 refine m.vW.F.ok aHR ?_ ?_;tm_at"g";tm_at"h";rcases h with⟨p,C,dx,fs,q,D,dxq,fsq,t,a,i,sp,rfl,dc,hp,l1,l2,hq,l3,mc,hs,k⟩;tm_at"f";have nd:=aHR.nd;tm_at"d";refine⟨_,(aE (aT (oA (bC jG (pv 1) (aH (pv 0) rfl) (bF _)) (cP 4 hr (aH (pv 0) rfl) (aA (pv 1) aC) (au _)) aD))),?_⟩;refine aL (σ:=[some (.ref p),some (.int t)]) rfl ?_;tm_at"e";tm_at"a";refine bS (λh1=> ?_) (λh1=> ?_)
 .tm_at"a";refine hs _ λH2 S2=> ?_;have k2:=k _ S2;rw[if_pos h1]at k2;exact k2
 .tm_at"a";have k2:=k _ (Same.refl _);rw[if_neg h1]at k2;exact k2
theorem OO(m:M K mg):Mc P w K mg base m.m6 "lets" 5 (tK P w K mg base):=⟨_,_,_,m.wQ.ic.cl,m.OW,m.vW.b,OJ m⟩
theorem X8(m:M K mg){n st:Str}{e:V}{a:Int}{lt:Int->Int}(hp:H p=some (.ins m.jP dx (BU (.ref q) (.str n) (.str st) e (.int a) (.int i0))))(hd:(aJ P w K mg base (some 4)).at' H (.ref q) (n,st,e,lt)):(aJ P w K mg base (some 5)).at' H (.ref p) (n,st,e,wE a i0 lt):=by
 obtain⟨q',C9,dx9,fs,fp,hq',hq,dcC,l1,l2,l3,l4,l5,mcE,hfp,hlt⟩:=DoorAt.ex hd;cases hq';refine⟨p,_,dx,_,(q,.ins C9 dx9 fs)::fp,rfl,hp,m.tU,by tm_at"i",by tm_at"i",by tm_at"i",by tm_at"i",by tm_at"i",EA m,?_,λkl hk=> ?_⟩
 .intro x hx;rcases aw.mp hx with rfl|hx
  .exact⟨hq,λz=>by
    have z:fs=[]:=z;rw[z]at l1;cases l1⟩
  .exact hfp x hx
 .cases hk;rcases hlt 4 rfl with⟨sp,m1,m2⟩;refine⟨_,J4 m,λH' t Q hp' hfp' ht k=> ?_⟩;exact⟨p,_,_,_,q,C9,dx9,fs,t,a,lt t,i0,sp,rfl,m.tU,hp',by tm_at"i",by tm_at"i",by tm_at"i",hfp' _ (.head _),l5,m1,λQ' k'=>m2 H' t Q' (hfp' _ (.head _)) (λx hx=>hfp' x (ab _ hx)) ht k',k⟩
theorem mH{F:α->β->Prop}:∀{A:List β}{l:List α}{x:β}{B:List β},bo F l (A++x::B)->∃la a lb,l=la++a::lb/\bo F la A/\F a x/\bo F lb B
 | [],_,_,_,.cons r t=>⟨[],_,_,rfl,.nil,r,t⟩
 | y::A,_,_,_,.cons r t=>by
  obtain⟨la,a,lb,rfl,h1,h2,h3⟩:=mH t;exact⟨_::la,a,lb,rfl,.cons r h1,h2,h3⟩
theorem DJ:∀{l:List α}{j:Nat},j<l.length->∃A x B,l=A++x::B/\A.length=j
 | x::l,0,_=>⟨[],x,l,rfl,rfl⟩
 | y::l,j+1,h=>by
  obtain⟨A,x,B,rfl,h2⟩:=DJ (l:=l) (j:=j) (by simpa using h);exact⟨y::A,x,B,rfl,by rw[az,h2]⟩
theorem GA{α:Type}{A B:List α}{x y:α}:(A++x::B).set A.length y=A++y::B:=by
 induction A with
 | nil=>rfl
 | cons a A ih=>rw[ig,az,List.set_cons_succ,ih];rfl
theorem GT{α:Type}{A B:List α}{x:α}:(A++x::B)[A.length]? =some x:=by
 rw[fg (au _),xl];rfl
theorem aBB(m:M K mg){n st:Str}{e:V}{a:Int}{lt:Int->Int}(hp:H p=some (.ins m.m6 dx (EU (.ref q) (.str n) (.str st) e (.int a))))(hd:(aJ P w K mg base (some 4)).at' H (.ref q) (n,st,e,lt)):(aJ P w K mg base (some 5)).at' H (.ref p) (n,st,e,xL a lt):=by
 obtain⟨q',C9,dx9,fs,fp,hq',hq,dcC,l1,l2,l3,l4,l5,mcE,hfp,hlt⟩:=DoorAt.ex hd;cases hq';refine⟨p,_,dx,_,(q,.ins C9 dx9 fs)::fp,rfl,hp,m.wQ,by tm_at"i",by tm_at"i",by tm_at"i",by tm_at"i",by tm_at"i",FI m,?_,λkl hk=> ?_⟩
 .intro x hx;rcases aw.mp hx with rfl|hx
  .exact⟨hq,λz=>by
    have z:fs=[]:=z;rw[z]at l1;cases l1⟩
  .exact hfp x hx
 .cases hk;rcases hlt 4 rfl with⟨sp,m1,m2⟩;refine⟨_,OO m,λH' t Q hp' hfp' ht k=> ?_⟩;exact⟨p,_,_,_,q,C9,dx9,fs,t,a,lt t,sp,rfl,m.wQ,hp',by tm_at"i",by tm_at"i",hfp' _ (.head _),l5,m1,λQ' k'=>m2 H' t Q' (hfp' _ (.head _)) (λx hx=>hfp' x (ab _ hx)) ht k',k⟩
def dE(rs:List bR):List (Str×Int):=rs.map λr=>(r.1,r.2.2)
theorem FF{rs:List bR}(h:z∉rs.map (·.1)):cC (dE rs) z=0:=by
 have e:(dE rs).filter (λp=>decide (p.1=z))=[]:=by
  rw[kf];intro p hp;unfold dE at hp;rcases ag.mp hp with⟨r,hr,rfl⟩;intro hz;exact h (ag.mpr ⟨r,hr,by simpa using hz⟩)
 unfold cC;rw[e];rfl
theorem DX{r:bR}:∀{rs:List bR},(rs.map (·.1)).Nodup->r∈rs->cC (dE rs) r.1=r.2.2
 | a::rs,nd,hm=>by
  have nd':=cn.mp nd;have hz:=FF nd'.1;rcases aw.mp hm with rfl|hm
  .unfold cC dE at hz ⊢;rw[ay,cq (by simp),ay,cm,hz];exact ia _
  .have ih:=DX nd'.2 hm;have hne:¬a.1=r.1:=λz=>nd'.1 (show a.1∈_ by rw[z];exact ag.mpr ⟨r,hm,rfl⟩);unfold cC dE at ih ⊢;rw[ay,ck (by simpa using hne)];exact ih
theorem Y0{rs:List bR}(ro:gJ rs):D3 (cX rs) (dE rs):=by
 refine⟨λp hp=> ?_,λe he=> ?_⟩
 .unfold dE at hp;rcases ag.mp hp with⟨r,hr,rfl⟩;exact(ro.ok r hr).1
 .unfold cX at he;rcases ag.mp he with⟨r,hr,rfl⟩;rw[show ((r.1,r.2.1):Str×Int).1=r.1 from rfl,DX ro.nd hr];exact(ro.ok r hr).2
theorem IT{ds:List aF}(h:bo ((aJ P w K mg base (some 4)).at' H) us ds)(s:Same H H'):bo ((aJ P w K mg base (some 4)).at' H') us ds:=Paired.imp' (λv d h=>(aJ P w K mg base (some 4)).same h s) h
theorem A7{s:cF}(h:0<=s.wd)(t:Int):0<=dY s t:=by
 unfold dY
 split
 .exact fe _
 .split
  .exact fe _
  .split
   .exact fe _
   .exact h
theorem RD{t:Int}{d:aF}(h:∀t,0<=d.2.2.2 t):0<=bX f l d t:=by
 unfold bX
 split
 .exact h t
 .exact fe _
theorem WR{rs:List bR}(ro:gJ rs)(z:Str):cC (eJ rs) z=cC (dE rs) z:=by
 by_cases h:z∈rs.map (·.1)
 .rcases ag.mp h with⟨r,hr,rfl⟩;rw[DX ro.nd hr,BW ro.nd (λx hx=>(ro.ok x hx).1) hr]
 .rw[AJ h,FF h]
theorem aCR{rs:List bR}(ro:gJ rs)(z:Str):0<=cC (eJ rs) z:=by
 by_cases h:z∈rs.map (·.1)
 .rcases ag.mp h with⟨r,hr,rfl⟩;rw[BW ro.nd (λx hx=>(ro.ok x hx).1) hr];exact(ro.ok r hr).1
 .rw[AJ h];exact fe _
theorem yN{rs:List bR}{ss:List cF}(so:∀s∈ss,jE rs f s):∀d∈ss.map bL,∀t,0<=d.2.2.2 t:=λd hd t=>by
 rcases ag.mp hd with⟨s,hs,rfl⟩;exact A7 (so s hs).w0 t
theorem LW{rs:List bR}{ss:List cF}(so:∀s∈ss,jE rs f s):∀d∈ss.map bL,cQ (rs.map (·.1)) d:=λd hd=>by
 rcases ag.mp hd with⟨s,hs,rfl⟩;exact⟨(so s hs).sin,(so s hs).ein⟩
theorem HC.rows{D:bH}{h:Addr}{rs:List bR}{ds:List aF}(hh:bW CHo D H h f l (cX rs) ps ds)(ro:gJ rs)(hp:∀z,cC (eJ rs) z=cC ps z)(nd:(ds.map (·.1)).Nodup)(din:∀d∈ds,cQ (rs.map (·.1)) d)(l8:ds.length<=8)(f0:0<=f)(f1:f<100000000000)(fl:f<=l)(fl7:l<=f+7)(nn:∀d∈ds,∀t,0<=d.2.2.2 t):HC CHo D H h f l (cX rs) ps ds:=by
 have h1:=ro.l1;refine⟨hh,by rw[iZ];exact ro.nd,nd,by rw[iZ];exact din,by unfold cX;rw[af];exact h1,l8,f0,fl,by lia,by lia,λd hd u _=>RD (nn d hd),λe he=> ?_,λz=>by rw[←hp];exact aCR ro z⟩;unfold cX at he;rcases ag.mp he with⟨r,hr,rfl⟩;have:=ro.ok r hr;show 0<=r.2.1
 lia
inductive xJ(P:fh)(w:gh)(base:Heap)(m:M K mg)(vs:List V)(H:Hp)(Q:VK)(E:XK):Prop
 | mk (p1 pd p3:Addr) (us zs:List V) (rs:List bR) (ds:List aF) (f l:Int) (_:vs=[.ref p1,.ref pd,.ref p3]) (_:H p1=some (.lst us)) (_:bo (cH H) us rs) (_:gJ rs) (_:H pd=some (.lst zs)) (_:bo ((aJ P w K mg base (some 5)).at' H) zs ds) (_:(ds.map (·.1)).Nodup) (_:(∀d∈ds,cQ (rs.map (·.1)) d)) (_:ds.length<=8) (_:H p3=some (.tup [.int f,.int l])) (_:0<=f) (_:f<100000000000) (_:f<=l) (_:l<=f+7) (_:(∀d∈ds,∀t,0<=d.2.2.2 t)) (_:∀h H',Same H H'->HC m.aO (aJ P w K mg base (some 5)) H' h f l (cX rs) (dE rs) ds->Q (.ref h) H'):xJ P w base m vs H Q E
theorem BS{m:M K mg}{E:XK}{p1 pd:Addr}{zs:List V}{rs:List bR}{ds:List aF}(e1:H p1=some (.lst us))(ru:bo (cH H) us rs)(ro:gJ rs)(ed:H pd=some (.lst zs))(hd:bo ((aJ P w K mg base (some 5)).at' H) zs ds)(nd:(ds.map (·.1)).Nodup)(din:∀d∈ds,cQ (rs.map (·.1)) d)(l8:ds.length<=8)(e3:H p3=some (.tup [.int f,.int l]))(f0:0<=f)(f1:f<100000000000)(fl:f<=l)(fl7:l<=f+7)(nn:∀d∈ds,∀t,0<=d.2.2.2 t)(k:∀h H',Same H H'->HC m.aO (aJ P w K mg base (some 5)) H' h f l (cX rs) (dE rs) ds->Q (.ref h) H'):xJ P w base m [.ref p1,.ref pd,.ref p3] H Q E:=⟨_,_,_,_,_,_,_,_,_,rfl,e1,ru,ro,ed,hd,nd,din,l8,e3,f0,f1,fl,fl7,nn,k⟩
theorem N7(m:M K mg):FnOk P w K mg base CX0 7 m.vY m.pH.d ["_law_rooms_here","_law_doors","_law_turns"] (xJ P w base m):=by
 refine m.pH.F.ok aHS ?_ ?_;tm_at"g";tm_at"h";rcases h with⟨p1,pd,p3,us,zs,rs,ds,f,l,rfl,e1,ru,ro,ed,hd,ndz,din,l8,e3,f0,f1,fl,fl7,nn,k⟩;tm_at"f";have nd:=aHS.nd;tm_at"d";have aHO:= @F0 P w K mg base m;have aGB:=m.bJ;refine⟨_,(aB (eQ (i:=3) nd rfl (by tm_at"b") (N:=["_law_room"]) (nl:=1) (ci:=[]) rfl (blk (s.heap.objs.size+1) rfl rfl rfl (by kernel_rfl)) (bP (pv 0)) (λ_ _ _ _=>(aN (i:=0) (show (["_law_room"]:List Str).Nodup by decide +kernel) rfl (by tm_at"b"))) (λ_ _ _ _=>dI) (λ_ _ _ _=>(cY (aA (aS (dF (K:=K)) (pv 0) aD (λ_ _=>rfl)) (aA (aS (dF (K:=K)) (pv 0) aD (λ_ _=>rfl)) aC)))))
  (aE (aT (mN aHO hr (aA (d7 (N:=["_law_room"]) (nl:=1) (ci:=[]) rfl (blk (s.heap.objs.size+1) rfl rfl rfl (by kernel_rfl)) (bP (pv 0)) (λ_ _ _ _=>(aN (i:=0) (show (["_law_room"]:List Str).Nodup by decide +kernel) rfl (by tm_at"b"))) (λ_ _ _ _=>dI) (λ_ _ _ _=>(cY (aA (aS (dF (K:=K)) (pv 0) aD (λ_ _=>rfl)) (aA (aS (dF (K:=K)) (pv 0) aD (λ_ _=>rfl)) aC))))) (aA (pv 1) (aA (pv 3) (aA (aS dA (pv 2) aD (λ_ _=>rfl)) (aA (aS dA (pv 2) aD (λ_ _=>rfl)) aC))))))))),?_⟩
 refine aL (σ:=[some (.ref p1),some (.ref pd),some (.ref p3),none]) rfl ?_;tm_at"e";have hrl:rs.length<=4:=ro.l1;have hul:us.length=rs.length:=bx ru;tm_at"a";refine lP (α:=bR) (xs:=rs) (vs:=us) (cH H) (λ_=>true) (λr y H=>cO H y (r.1,r.2.2)) (λ_ _ _ _ ⟨q,h1,h2⟩ s=>⟨q,h1,s _ _ h2⟩) (by rw[sizeLine_eq];lia) (rest:=[]) (by rfl) (SqL.of e1) ru (λv x H1 _ hx s1 R hR=>hR _ (Same.refl _)) ?_ ?_
 .rintro v ⟨z,i,j⟩ H7 ⟨q2,rfl,hq2⟩ hm - s7 R hR;have hq2:H7 q2=some (.tup [.str z,.int i,.int j]):=s7 _ _ hq2;tm_at"a";refine⟨q2,_,0,_,rfl,rfl,SqT.of hq2,rfl,?_⟩;tm_at"a";refine⟨q2,_,2,_,rfl,rfl,SqT.of hq2,rfl,?_⟩;tm_at"a";rename_i q3 H3 n3 S3 e3';exact hR _ _ ⟨q3,rfl,e3'⟩ S3
 intro ys H7 s7 hys;rw[dM]at hys;have hyp:bo (cO H7) ys (dE rs):=iT (F:=cO H7) (λr:bR=>(r.1,r.2.2)) hys;tm_at"a";rename_i p8 H8 n8 S8 e8;have sG8:=s7.trans S8;have e18:=sG8 _ _ e1;refine lP (α:=bR) (xs:=rs) (vs:=us) (cH H8) (λ_=>true) (λr y H=>cO H y (r.1,r.2.1)) (λ_ _ _ _ ⟨q,h1,h2⟩ s=>⟨q,h1,s _ _ h2⟩) (by rw[sizeLine_eq];lia) (rest:=[]) (by rfl) (SqL.of e18) (eF ru sG8) (λv x H1 _ hx s1 R hR=>hR _ (Same.refl _)) ?_ ?_
 .rintro v ⟨z,i,j⟩ H9 ⟨q2,rfl,hq2⟩ hm - s9 R hR;have hq2:H9 q2=some (.tup [.str z,.int i,.int j]):=s9 _ _ hq2;tm_at"a";refine⟨q2,_,0,_,rfl,rfl,SqT.of hq2,rfl,?_⟩;tm_at"a";refine⟨q2,_,1,_,rfl,rfl,SqT.of hq2,rfl,?_⟩;tm_at"a";rename_i q3 H3 n3 S3 e3';exact hR _ _ ⟨q3,rfl,e3'⟩ S3
 intro xs H9 s9 hxs;rw[dM]at hxs;have hxr:bo (cO H9) xs (cX rs):=iT (F:=cO H9) (λr:bR=>(r.1,r.2.1)) hxs;tm_at"a";rename_i pA HA nA SA eA;have s8A:=s9.trans SA;have sGA:Same H HA:=sG8.trans s8A;have e3A:=sGA _ _ e3;refine⟨p3,_,1,_,rfl,rfl,SqT.of e3A,rfl,?_⟩;tm_at"a";refine⟨p3,_,0,_,rfl,rfl,SqT.of e3A,rfl,?_⟩;tm_at"a";have hpr:∀p∈dE rs,p.1∈(cX rs).map (·.1):=λp hp=>by
  unfold dE at hp;rcases ag.mp hp with⟨r,hr,rfl⟩;rw[iZ];exact ag.mpr ⟨r,hr,rfl⟩
 refine JK (f:=f) (l:=l) (rz:=cX rs) (ps:=dE rs) (ds:=ds) rfl aGB eA (RoomsAt.sm hxr SA) (SqL.of (sGA _ _ ed)) (fA hd sGA) (SqL.of (s8A _ _ e8)) (pK hyp (S8.trans s8A)) (by rw[iZ];exact ro.nd) ndz (by rw[iZ];exact din) hpr (Y0 ro) (by unfold cX;rw[af];lia) (by lia) (by unfold dE;rw[af];lia) f0 fl λh HB nB SB hh=> ?_;exact k _ _ (sGA.trans SB) (HC.rows hh ro (WR ro) ndz din l8 f0 f1 fl fl7 nn)
theorem NU(m:M K mg):Fc P w K mg base "_law_made" 7 ["_law_rooms_here","_law_doors","_law_turns"] (xJ P w base m):=⟨_,_,m.P9,m.pH.F.kp,m.pH.b,N7 m⟩
structure aAE(CHo:Addr)(D:bH)(H:Hp)(h1:Addr)(hs:List Addr)(f l:Int)(rs:List bR)(ss:List cF)(ds1:List aF):Prop where
 hc:HC CHo D H h1 f l (cX rs) (dE rs) ds1
 le:zL (cX rs) (cX rs) (dE rs) (eJ rs) ds1 (ss.map bL) f l
 ge:∀h∈hs,∃rz ps ds,HC CHo D H h f l rz ps ds/\zL (cX rs) rz (eJ rs) ps (ss.map bL) ds f l
inductive rD(P:fh)(w:gh)(base:Heap)(m:M K mg)(PL:Addr)(vs:List V)(H:Hp)(Q:VK)(E:XK):Prop
 | mk (q p1 p2 p3:Addr) (us ws:List V) (rs:List bR) (ss:List cF) (f l c:Int) (_:vs=[.int c,.ref p1,.ref p2,.ref p3]) (_:iE H q p1 p2 p3 us ws rs ss f l) (_:TabS H PL pL qL) (_:∀q2 pl h1 h2 h3 h4 ds1 H',SameT H H'->H' q2=some (.tup [.ref h1,.ref pl])->H' pl=some (.lst [.ref h2,.ref h3,.ref h4])->aAE m.aO (aJ P w K mg base (some 5)) H' h1 [h2,h3,h4] f l rs ss ds1->Q (.ref q2) H'):rD P w base m PL vs H Q E
theorem XJ{m:M K mg}{E:XK}{p1 p2:Addr}{rs:List bR}{ss:List cF}{c:Int}(x:iE H q p1 p2 p3 us ws rs ss f l)(ht:TabS H PL pL qL)(k:∀q2 pl h1 h2 h3 h4 ds1 H',SameT H H'->H' q2=some (.tup [.ref h1,.ref pl])->H' pl=some (.lst [.ref h2,.ref h3,.ref h4])->aAE m.aO (aJ P w K mg base (some 5)) H' h1 [h2,h3,h4] f l rs ss ds1->Q (.ref q2) H'):rD P w base m PL [.int c,.ref p1,.ref p2,.ref p3] H Q E:=⟨_,_,_,_,_,_,_,_,_,_,_,rfl,x,ht,k⟩
def LeD(d d':aF):Prop:=(d.1,d.2.1,d.2.2.1)=(d'.1,d'.2.1,d'.2.2.1)/\∀t,0<=d.2.2.2 t/\d.2.2.2 t<=d'.2.2.2 t
theorem HW:∀{a b:List aF},bo LeD a b->a.map (λd=>(d.1,d.2.1,d.2.2.1))=b.map λd=>(d.1,d.2.1,d.2.2.1)
 | _,_,.nil=>rfl
 | _,_,.cons h t=>by rw[ay,ay,h.1,HW t]
theorem JB{a b:List aF}(h:a.map (λd=>(d.1,d.2.1,d.2.2.1))=b.map λd=>(d.1,d.2.1,d.2.2.1)):a.map (·.1)=b.map (·.1):=by
 have:=congrArg (List.map λx:Str×Str×V=>x.1) h;rw[du,du]at this;exact this
theorem VV{ns:List Str}{a b:List aF}(h:a.map (λd=>(d.1,d.2.1,d.2.2.1))=b.map λd=>(d.1,d.2.1,d.2.2.1))(hb:∀d∈b,cQ ns d):∀d∈a,cQ ns d:=λd hd=>by
 have h1:(d.1,d.2.1,d.2.2.1)∈a.map (λd:aF=>(d.1,d.2.1,d.2.2.1)):=ag.mpr ⟨d,hd,rfl⟩;rw[h]at h1;rcases ag.mp h1 with⟨d2,hd2,e⟩;have e1:d2.2.1=d.2.1:=congrArg (λx:Str×Str×V=>x.2.1) e;have e2:d2.2.2.1=d.2.2.1:=congrArg (λx:Str×Str×V=>x.2.2) e;have:=hb d2 hd2;unfold cQ at this ⊢;rw[←e1,←e2];exact this
theorem FA:∀{a b:List aF},bo LeD a b->(∀d∈a,∀t,0<=d.2.2.2 t)/\∀d∈b,∀t,0<=d.2.2.2 t
 | _,_,.nil=>⟨(λ_ z=>nomatch z),λ_ z=>nomatch z⟩
 | _,_,.cons h t=>by
  rcases FA t with⟨h1,h2⟩;refine⟨λd hd t=> ?_,λd hd t=> ?_⟩
  .rcases aw.mp hd with rfl|hd
   .exact(h.2 t).1
   .exact h1 d hd t
  .rcases aw.mp hd with rfl|hd
   .exact Int.le_trans (h.2 t).1 (h.2 t).2
   .exact h2 d hd t
theorem aB9{d d':aF}(h:LeD d d')(u:Int):bX f l d u<=bX f l d' u:=by
 unfold bX
 split
 .exact(h.2 u).2
 .exact fe _
theorem OA:∀{a b:List aF},bo LeD a b->bo (λd d'=>d.2.1=d'.2.1/\d.2.2.1=d'.2.2.1/\∀u,f<=u->u<l->bX f l d u<=bX f l d' u) a b
 | _,_,.nil=> .nil
 | _,_,.cons h t=> .cons ⟨congrArg (λx:Str×Str×V=>x.2.1) h.1,congrArg (λx:Str×Str×V=>x.2.2) h.1,λu _ _=>aB9 h u⟩ (OA t)
theorem sT:∀{a:List aF},(∀d∈a,∀t,0<=d.2.2.2 t)->bo LeD a a
 | [],_=> .nil
 | d::a,h=> .cons ⟨rfl,λt=>⟨h d (.head _) t,fe _⟩⟩ (sT λx hx=>h x (ab _ hx))
theorem rZ:∀a:List (Str×Int),bo (λe e'=>e.1=e'.1/\e.2<=e'.2) a a
 | []=> .nil
 | _::a=> .cons ⟨rfl,fe _⟩ (rZ a)
theorem xU{a b B:List aF}(hr:bo (λe e'=>e.1=e'.1/\e.2<=e'.2) rz rz')(hp:∀z,cC ps z=cC ps' z)(h:bo LeD a b)(hB:∀d∈B,∀t,0<=d.2.2.2 t):zL rz rz' ps ps' a (b++B) f l :=
 ⟨hr,hp,⟨b,B,rfl,OA h⟩,λd hd u _ _=>RD (by
  rcases bf.mp hd with hd|hd
  .exact(FA h).2 d hd
  .exact hB d hd)⟩
theorem QP{A B:List aF}{d d':aF}(hA:∀d∈A,∀t,0<=d.2.2.2 t)(hB:∀d∈B,∀t,0<=d.2.2.2 t)(h:LeD d d'):bo LeD (A++d::B) (A++d'::B):=gS (sT hA) (.cons h (sT hB))
theorem WF{s:cF}{a mo:Int}(h:0<=s.wd)(hm:0<=mo):LeD (bL s) (s.n,s.st,s.e,wE a mo (dY s)):=⟨rfl,λt=>⟨A7 h t,by
 show dY s t<=wE a mo (dY s) t;unfold wE
 split<;>lia⟩⟩
theorem YT{s:cF}{a:Int}(h:0<=s.wd):LeD (s.n,s.st,s.e,xL a (dY s)) (bL s):=⟨rfl,λt=>by
 have:=A7 h t;show 0<=xL a (dY s) t/\xL a (dY s) t<=dY s t;unfold xL
 split<;>lia⟩
theorem GG(m:M K mg)(hcL:m.dD.code= .ref cL)(hCL:W.CodeHd base cL PL)(hBL:base.BuiltinsAt mg PL):FnOk P w K mg base CX0 8 m.qS m.kR.d ["_law_cell","_law_rooms_here","_law_specs","_law_turns"] (rD P w base m PL):=by
 refine m.kR.F.ok aHv ?_ ?_;tm_at"g";tm_at"h";rcases h with⟨q,p1,p2,p3,us,ws,rs,ss,f,l,c,rfl,dr,hPL,k⟩;tm_at"f";have nd:=aHv.nd;tm_at"d";have fT:=AB (P:=P) (w:=w) (base:=base) m hcL hCL hBL;have aGR:= @NU P w K mg base m;have aHn:= @AN P w K mg base m;have aIw:= @WQ P w K mg base m;have aIr:= @S0 P w K mg base m;have aGB:=m.bJ;have aIj:=m.tU;have aIt:=m.wQ;refine⟨_,(aB (eQ (i:=4) nd rfl (by tm_at"b") (N:=["_law_spec_here"]) (nl:=1) (ci:=[]) rfl (blk (s.heap.objs.size+1) rfl rfl rfl (by kernel_rfl)) (bP (pv 2)) (λ_ _ _ _=>(aN (i:=0) (show (["_law_spec_here"]:List Str).Nodup by decide +kernel) rfl (by tm_at"b"))) (λ_ _ _ _=>dI) (λ_ _ _ _=>(bG fT hr (aA (pv 0) aC))))
  (aB (aQ (i:=5) nd rfl (by tm_at"b") (cI (aA (lU wY rfl m.AY wL (aA (pv 4) aC)) (aA (lU wY rfl m.AY wL (aA (pv 4) aC)) (aA (lU wY rfl m.AY wL (aA (pv 4) aC)) aC)))))
  (aB (b8 (bC rO (bI c7 rfl m.hJ eZ (aA (pv 4) aC)) aD (bF _)) (aB (aQ (i:=6) nd rfl (by tm_at"b") (aI bK (pv 0) (bI c7 rfl m.hJ eZ (aA (pv 4) aC))))
  (aB (pQ (mN aIr hr (aA (aS aW (pv 4) (pv 6) (λ_ _=>rfl)) (aA (aI bQ (aS dA (pv 3) aD (λ_ _=>rfl)) (aI bK (aI b7 (pv 0) aD) aD)) (aA (aI bQ aD (aI bK (aI b7 (pv 0) aD) aD)) aC)))) (MR (aS aW (pv 5) aD (λ_ _=>rfl)) (pv 6) tH))
  (aE (pQ (mN aIw hr (aA (aS aW (pv 4) (pv 6) (λ_ _=>rfl)) (aA (aI bQ (aS dA (pv 3) aD (λ_ _=>rfl)) (aI bK (aI b7 (pv 0) aD) aD)) aC))) (MR (aS aW (pv 5) aD (λ_ _=>rfl)) (pv 6) tH))))) bM)
  (aB (aU (fW da dj dm cV (aS aW (pv 5) aD (λ_ _=>rfl)) (aA (bG fT hr (aA (bG aHn hr (aA (pv 0) (aA aD (aA (pv 1) (aA (pv 3) aC))))) aC)) aC)))
  (aB (eQ (i:=7) nd rfl (by tm_at"b") (N:=["_law_room"]) (nl:=1) (ci:=[]) rfl (blk (s.heap.objs.size+1) rfl rfl rfl (by kernel_rfl)) (bP (pv 1)) (λ_ _ _ _=>(aN (i:=0) (show (["_law_room"]:List Str).Nodup by decide +kernel) rfl (by tm_at"b"))) (λ_ _ _ _=>dI) (λ_ _ _ _=>(cY (aA (aS (dF (K:=K)) (pv 0) aD (λ_ _=>rfl)) (aA (aS (dF (K:=K)) (pv 0) aD (λ_ _=>rfl)) (aA (aS (dF (K:=K)) (pv 0) aD (λ_ _=>rfl)) aC))))))
  (aB (aQ (i:=6) nd rfl (by tm_at"b") (aI bK (aI b7 (pv 0) aD) (bI c7 rfl m.hJ eZ (aA (pv 1) aC))))
  (aB (pQ (cY (aA (aS dA (aS aW (pv 1) (pv 6) (λ_ _=>rfl)) aD (λ_ _=>rfl)) (aA (aI bQ (aI bQ (aS dA (aS aW (pv 1) (pv 6) (λ_ _=>rfl)) aD (λ_ _=>rfl)) aD) (aI bK (aI b7 (pv 0) aD) aD)) (aA (aS dA (aS aW (pv 1) (pv 6) (λ_ _=>rfl)) aD (λ_ _=>rfl)) aC)))) (MR (pv 7) (pv 6) tH))
  (aB (aQ (i:=8) nd rfl (by tm_at"b") (bG aGR hr (aA (pv 1) (aA (aS aW (pv 5) aD (λ_ _=>rfl)) (aA (pv 3) aC)))))
  (aE (aT (cY (aA (pv 8) (aA (cI (aA (bG aGR hr (aA (pv 1) (aA (aS aW (pv 5) aD (λ_ _=>rfl)) (aA (pv 3) aC)))) (aA (bG aGR hr (aA (pv 1) (aA (aS aW (pv 5) aD (λ_ _=>rfl)) (aA (pv 3) aC)))) (aA (bG aGR hr (aA (pv 7) (aA (pv 4) (aA (pv 3) aC)))) aC)))) aC))))))))))))),?_⟩
 refine aL (σ:=[some (.int c),some (.ref p1),some (.ref p2),some (.ref p3),none,none,none,none,none]) rfl ?_;tm_at"e";have ro:=dr.ro;have hrl:rs.length<=4:=ro.l1;have hr0:=ro.l0;have hl7:=dr.l7;have f0:=dr.f0;have f1:=dr.f1;have fl:=dr.fl;have fl7:=dr.fl7;have e1:=dr.e1;have e2:=dr.e2;have hul:us.length=rs.length:=bx dr.ru;have hwl:ws.length=ss.length:=bx dr.sw;have hinS:=LW dr.so;have hnnS:=yN dr.so;have hndS:((ss.map bL).map (·.1)).Nodup:=by rw[yQ];exact dr.nd
 have hlS:(ss.map bL).length<=7:=by rw[af];exact hl7
 tm_at"n";refine RC (α:=cF) (xs:=ss) (vs:=ws) (TabR PL) (TabR.refl PL) (λ_ _ _=>TabR.trans) (dX H) (λs y H=>(aJ P w K mg base (some 4)).at' H y (bL s)) (λ_ _ _ _ h s=>zT h s.1) (by rw[sizeLine_eq];lia) (rest:=[]) (by rfl) (λH1 s=>s.1.seq (SqL.of dr.e2)) dr.sw (λv x H1 _ _ _ R hR=>hR _ (TabR.refl _ _)) ?_ ?_
 .rintro v s5 H5 ⟨q5,rfl,h5⟩ hm t5 R hR;have hs5:dX H5 (.ref q5) s5:=⟨q5,rfl,t5.1.tup h5⟩
  tm_at"a";refine GO hs5 (dr.so s5 hm) dr.f0 (t5.2 hPL) λv6 H6 T6 hT6 hd6=> ?_;exact hR _ _ hd6 ⟨T6,λ_=>hT6⟩
 intro zs H5 t5 hzs;have dr5:=wC dr t5.1;have hPL5:=t5.2 hPL;have hzd:bo ((aJ P w K mg base (some 4)).at' H5) zs (ss.map bL):=iT (F:=(aJ P w K mg base (some 4)).at' H5) bL hzs;have hzl:zs.length=ss.length:=by rw[bx hzd,af]
 tm_at"n";rename_i pd H6 n6 S6 e6 a1 H7 n7 S7 e7 a2 H8 n8 S8 e8 a3 H9 n9 S9 e9 pm HA nA SA eA;have e7A:=SA _ _ (S9 _ _ (S8 _ _ e7));have e8A:=SA _ _ (S9 _ _ e8);have e9A:=SA _ _ e9;have s6A:Same H6 HA:=S7.trans (S8.trans (S9.trans SA));have hz6:=IT hzd S6;have dr6:=gR dr5 S6;have hPL6:=hPL5.same S6;refine lO (λσ' G=>Same H6 G/\(∃z1 z2 d1 d2,G a1=some (.lst z1)/\bo ((aJ P w K mg base (some 5)).at' G) z1 d1/\bo LeD (ss.map bL) d1/\G a2=some (.lst z2)/\bo ((aJ P w K mg base (some 5)).at' G) z2 d2/\bo LeD d2 (ss.map bL))/\G a3=some (.lst zs)/\G pm=some (.lst [.ref a1,.ref a2,.ref a3])/\∃x,σ'=[some (.int c),some (.ref p1),some (.ref p2),some (.ref p3),some (.ref pd),some (.ref pm),x,none,none]) ?_ ?_
 rotate_left
 .intro nx' hnx;tm_at"a";have e6A:=s6A _ _ e6;refine bS (λhc=> ?_) (λhc=> ?_)
  .have hne:ss.length≠0:=by lia
   obtain⟨A,s,B,hss,hA⟩:=DJ (l:=ss) (j:=(c%(ss.length:Int)).toNat) (by
    have:=jh c (show (0:Int)<(ss.length:Int) by lia);have:=gp c (show (ss.length:Int)≠0 by lia)
    lia)
   have hAi:(A.length:Int)=c%(ss.length:Int):=by
    have:=gp c (show (ss.length:Int)≠0 by lia)
    lia
   have hz7:=hz6;rw[hss,aq,ay]at hz7;obtain⟨za,v,zb,rfl,q1,q2,q3⟩:=mH hz7;have hzal:za.length=A.length:=by rw[bx q1,af]
   have hsm:s∈ss:=by rw[hss];exact be _ (.head _)
   have so:=dr.so s hsm;obtain⟨q9,C9,dx9,fs9,fp9,rfl,hq9,dc9,l1,l2,l3,l4,l5,mcE,hfp,hlt⟩:=DoorAt.ex q2;have hpos:(0:Int)<((za++V.ref q9::zb).length:Int):=by rw[hzl];lia
   have hat:c%((za++V.ref q9::zb).length:Int)=(za.length:Int):=by rw[hzl,←hAi,hzal]
   tm_at"a";rw[hat];refine gI (SqL.of e6A) GT ?_;tm_at"a";refine⟨p3,_,0,_,rfl,rfl,SqT.of (gR dr6 s6A).e3,rfl,?_⟩;tm_at"a";refine W5 rfl aIj dc9 (s6A _ _ hq9) l1 l2 l3 so.nm so.sm so.eo (by lia) (by lia) λpw dxw HB nB SB eB=> ?_;have e7B:=SB _ _ e7A;have s6B:=s6A.trans SB;tm_at"a";refine gI (SqL.of (SB _ _ eA)) (j:=0) rfl ?_;tm_at"a";refine nY (j:=za.length) e7B (by unfold ixN;rw[if_pos (by lia),if_pos (by rw[ak,az];lia),dw]) λHC BC eC=> ?_;rw[GA]at eC;have nlA:∀b u,H6 b=some u->b≠a1/\b≠a2:=λb u e=>⟨(λz=>by rw[z,n7]at e;cases e),λz=>by rw[z]at e;rw[S7 _ _ e]at n8;cases n8⟩
   have s6C:Same H6 HC:=λb u e=>BC b u (s6B _ _ e) (nlA b u e).1;have ha12:a2≠a1:=λz=>by rw[z,e7]at n8;cases n8
   have hpm1:pm≠a1:=λz=>by rw[z,S9 _ _ (S8 _ _ e7)]at nA;cases nA
   have hpm2:pm≠a2:=λz=>by rw[z,S9 _ _ e8]at nA;cases nA
   have ha13:a3≠a1:=λz=>by rw[z,S8 _ _ e7]at n9;cases n9
   have ha23:a3≠a2:=λz=>by rw[z,e8]at n9;cases n9
   have e8C:=BC _ _ (SB _ _ e8A) ha12;have e9C:=BC _ _ (SB _ _ e9A) ha13;have eAC:=BC _ _ (SB _ _ eA) hpm1;have ewC:=BC _ _ eB λz=>by rw[z,e7A]at nB;cases nB
   tm_at"a";refine gI (SqL.of (s6C _ _ e6)) GT ?_;tm_at"a";refine⟨p3,_,0,_,rfl,rfl,SqT.of (gR dr6 s6C).e3,rfl,?_⟩;tm_at"a";refine ZM rfl aIt dc9 (s6C _ _ hq9) l1 l2 l3 so.nm so.sm so.eo (by lia) λpw2 dxw2 HD nD SD eD=> ?_;tm_at"a";have e8D:=SD _ _ e8C;refine nY (j:=za.length) e8D (by unfold ixN;rw[if_pos (by lia),if_pos (by rw[ak,az];lia),dw]) λHE BE eE=> ?_;rw[GA]at eE;have s6D:=s6C.trans SD;have s6E:Same H6 HE:=λb u e=>BE b u (s6D _ _ e) (nlA b u e).2;have q1':bo ((aJ P w K mg base (some 5)).at' HE) za (A.map bL):=Paired.imp' (λv d h=>pR ((aJ P w K mg base (some 4)).same h s6E) (by decide)) q1;have q3':bo ((aJ P w K mg base (some 5)).at' HE) zb (B.map bL):=Paired.imp' (λv d h=>pR ((aJ P w K mg base (some 4)).same h s6E) (by decide)) q3;have hnE:∀{v:V}{d:aF},(aJ P w K mg base (some 5)).at' HC v d->(aJ P w K mg base (some 5)).at' HE v d:=λh=>(aJ P w K mg base (some 5)).but ((aJ P w K mg base (some 5)).same h SD) e8D trivial BE;have qw:(aJ P w K mg base (some 5)).at' HE (.ref pw) (s.n,s.st,s.e,wE (f+c/9%5) (1+c/50%9) (dY s)):=hnE (X8 (P:=P) (w:=w) (base:=base) m ewC ((aJ P w K mg base (some 4)).same q2 s6C));have qs:(aJ P w K mg base (some 5)).at' HE (.ref pw2) (s.n,s.st,s.e,xL (f+c/9%5) (dY s)):=(aJ P w K mg base (some 5)).but (aBB (P:=P) (w:=w) (base:=base) m eD ((aJ P w K mg base (some 4)).same q2 s6D)) e8D trivial BE;have hA0:∀d∈A.map bL,∀t,0<=d.2.2.2 t:=yN (f:=f) (rs:=rs) λx hx=>dr.so x (by rw[hss];exact dz _ hx);have hB0:∀d∈B.map bL,∀t,0<=d.2.2.2 t:=yN (f:=f) (rs:=rs) λx hx=>dr.so x (by rw[hss];exact be _ (ab _ hx));have hmm:ss.map bL=A.map bL++bL s::B.map bL:=by rw[hss,aq,ay]
   refine hnx _ _ ⟨s6E,⟨_,_,A.map bL++(s.n,s.st,s.e,wE (f+c/9%5) (1+c/50%9) (dY s))::B.map bL,A.map bL++(s.n,s.st,s.e,xL (f+c/9%5) (dY s))::B.map bL,BE _ _ (SD _ _ eC) λz=>ha12 z.symm,gS q1' (.cons qw q3'),by rw[hmm];exact QP hA0 hB0 (WF so.w0 (by lia)),eE,gS q1' (.cons qs q3'),by rw[hmm];exact QP hA0 hB0 (YT so.w0)⟩,BE _ _ (SD _ _ e9C) ha23,BE _ _ (SD _ _ eAC) hpm2,_,rfl⟩
  .have hs0:ss=[]:=List.eq_nil_of_length_eq_zero (by lia);subst hs0;cases hz6;tm_at"a";exact hnx _ _ ⟨s6A,⟨_,_,[],[],e7A,.nil,.nil,e8A,.nil,.nil⟩,e9A,eA,_,rfl⟩
 rintro _ G hq_;obtain⟨s6G,⟨z1,z2,d1,d2,g1,k1,m1,g2,k2,m2⟩,g3,g4,xat,rfl⟩:=hq_;have drG:=gR dr6 s6G;have hPLG:=hPL6.same s6G;have eG:=s6G _ _ e6;have hzG:=IT hz6 s6G;tm_at"a";refine IA (by lia) (by lia) (SqL.of drG.e1) drG.ru ro drG.e3 λq9 s9 HI SI hs9 so9 hn9=> ?_;tm_at"a";refine GO hs9 so9 f0 (hPLG.same SI) λv9 HJ TJ hTJ hd9=> ?_;have TGJ:SameT G HJ:=(SI.t).trans TJ;have g3J:=TGJ.lst g3;tm_at"a";refine cW g3J (by rw[sizeLine_eq];lia) λHK BK eK=> ?_;have nG:∀b u,H6 b=some u->b≠a3:=λb u e z=>by rw[z]at e;rw[S8 _ _ (S7 _ _ e)]at n9;cases n9
 have h13:a1≠a3:=λz=>by rw[←z,S8 _ _ e7]at n9;cases n9
 have h23:a2≠a3:=λz=>by rw[←z,e8]at n9;cases n9
 have T6K:SameT H6 HK:=λb u e ht=>BK b u (TGJ b u (s6G b u e) ht) (nG b u e);have TK:SameT H HK:=(t5.1.snoc S6).trans T6K;have g1K:=BK _ _ (TGJ.lst g1) h13;have g2K:=BK _ _ (TGJ.lst g2) h23;have hDK:∀{v:V}{d:aF},(aJ P w K mg base (some 5)).at' G v d->(aJ P w K mg base (some 5)).at' HK v d:=λh=>(aJ P w K mg base (some 5)).but (zT h TGJ) g3J trivial BK;have g4K:=BK _ _ (TGJ.lst g4) λz=>by rw[z,e9]at nA;cases nA
 have k1K:bo ((aJ P w K mg base (some 5)).at' HK) z1 d1:=Paired.imp' (λv d h=>hDK h) k1;have k2K:bo ((aJ P w K mg base (some 5)).at' HK) z2 d2:=Paired.imp' (λv d h=>hDK h) k2;have kzK:bo ((aJ P w K mg base (some 5)).at' HK) zs (ss.map bL):=Paired.imp' (λv d h=>pR (zT h T6K) (by decide)) hz6;have k9K:(aJ P w K mg base (some 5)).at' HK v9 (bL s9):=(aJ P w K mg base (some 5)).but (pR hd9 (by decide)) g3J trivial BK;have e1K:=T6K.lst dr6.e1;have e3K:=T6K.tup dr6.e3;have ruK:=WT dr6.ru T6K;have e6K:=T6K.lst e6;clear hDK g3J k1 k2 g1 g2 g3 g4 eG hzG hd9 hTJ hs9;tm_at"a";refine lP (α:=bR) (xs:=rs) (vs:=us) (cH HK) (λ_=>true) (λr y H=>cH H y r) (λ_ _ _ _ ⟨q,h1,h2⟩ s=>⟨q,h1,s _ _ h2⟩) (by rw[sizeLine_eq];lia) (rest:=[]) (by rfl) (SqL.of e1K) ruK (λv x H1 _ hx s1 R hR=>hR _ (Same.refl _)) ?_ ?_
 .rintro v ⟨z,i,j⟩ H7 ⟨q2,rfl,hq2⟩ hm - s7 R hR;have hq2:H7 q2=some (.tup [.str z,.int i,.int j]):=s7 _ _ hq2;tm_at"a";refine⟨q2,_,0,_,rfl,rfl,SqT.of hq2,rfl,?_⟩;tm_at"a";refine⟨q2,_,1,_,rfl,rfl,SqT.of hq2,rfl,?_⟩;tm_at"a";refine⟨q2,_,2,_,rfl,rfl,SqT.of hq2,rfl,?_⟩;tm_at"a";rename_i q3 H3 n3 S3 e3';exact hR _ _ ⟨q3,rfl,e3'⟩ S3
 intro ys HL sL hys;rw[dM]at hys;have hyr:bo (cH HL) ys rs:=by
  have:=iT (F:=cH HL) (λr:bR=>r) hys
  rwa [List.map_id']at this
 have hyl:ys.length=rs.length:=bx hyr;obtain⟨A,r,B,hrs,hA⟩:=DJ (l:=rs) (j:=(c/7%(rs.length:Int)).toNat) (by
  have:=jh (c/7) (show (0:Int)<(rs.length:Int) by lia);have:=gp (c/7) (show (rs.length:Int)≠0 by lia)
  lia)
 have hAi:(A.length:Int)=c/7%(rs.length:Int):=by
  have:=gp (c/7) (show (rs.length:Int)≠0 by lia)
  lia
 have e1L:=sL _ _ e1K;have ruL:=eF ruK sL;have ruL2:=ruL;have hyr2:=hyr;rw[hrs]at ruL2 hyr2;obtain⟨ua,v,ub,hus,w1,w2,w3⟩:=mH ruL2;obtain⟨ya,y,yb,hyy,y1,y2,y3⟩:=mH hyr2;have hual:ua.length=A.length:=bx w1;have hyal:ya.length=A.length:=bx y1;rcases w2 with⟨qv,rfl,hqv⟩;have hu0:(0:Int)<(us.length:Int):=by lia
 have hat:c/7%(us.length:Int)=(ua.length:Int):=by rw[hul,←hAi,hual]
 have hgu:us[ua.length]? =some (.ref qv):=by rw[hus];exact GT
 tm_at"a";rename_i pw HM nM SM eM hm0 hm1;clear hm0 hm1;rw[hat];refine gI (SqL.of (SM _ _ e1L)) hgu ?_;tm_at"a";refine⟨qv,_,0,_,rfl,rfl,SqT.of (SM _ _ hqv),rfl,?_⟩;tm_at"a";refine gI (SqL.of (SM _ _ e1L)) hgu ?_;tm_at"a";refine⟨qv,_,1,_,rfl,rfl,SqT.of (SM _ _ hqv),rfl,?_⟩;tm_at"a";refine gI (SqL.of (SM _ _ e1L)) hgu ?_;tm_at"a";refine⟨qv,_,2,_,rfl,rfl,SqT.of (SM _ _ hqv),rfl,?_⟩;tm_at"a";rename_i qn HN nN SN eN;have eMN:=SN _ _ eM;have hual2:ua.length=ya.length:=by rw[hual,hyal]
 refine nY (j:=ya.length) eMN (by rw[hual2,hyy];unfold ixN;rw[if_pos (by lia),if_pos (by rw[ak,az];lia),dw]) λHO BO eO=> ?_;rw[hyy,GA]at eO;have sKO:Same HK HO:=λb u e=>BO b u (SN _ _ (SM _ _ (sL _ _ e))) λz=>by
  rw[z]at e;rw[sL _ _ e]at nM;cases nM
 have ruO:bo (cH HO) (ya++V.ref qn::yb) (A++(r.1,r.2.1+1+c/30%9,r.2.2)::B):=by
  have hk:∀{v:V}{d:bR},cH HL v d->cH HO v d:=λ⟨q,e,h⟩=>⟨q,e,BO _ _ (SN _ _ (SM _ _ h)) λz=>by rw[z]at h;rw[h]at nM;cases nM⟩
  refine gS (Paired.imp' (λv d h=>hk h) y1) (.cons ⟨qn,rfl,BO _ _ eN λz=> ?_⟩ (Paired.imp' (λv d h=>hk h) y3));rw[z,eM]at nN;cases nN
 have hr':r∈rs:=by rw[hrs];exact be _ (.head _)
 have hrw:=ro.ok r hr';have hnn':(A++(r.1,r.2.1+1+c/30%9,r.2.2)::B).map (·.1)=rs.map (·.1):=by rw[hrs,aq,aq,ay,ay]
 have hall:dE (A++(r.1,r.2.1+1+c/30%9,r.2.2)::B)=dE rs:=by unfold dE;rw[hrs,aq,aq,ay,ay]
 have row:gJ (A++(r.1,r.2.1+1+c/30%9,r.2.2)::B):=by
  have hlen:(A++(r.1,r.2.1+1+c/30%9,r.2.2)::B).length=rs.length:=by rw[hrs,ak,ak,az,az]
  have hmem:∀x∈A++(r.1,r.2.1+1+c/30%9,r.2.2)::B,x=(r.1,r.2.1+1+c/30%9,r.2.2)∨x∈rs:=λx hx=>by
   rcases bf.mp hx with hx|hx
   .exact .inr (by rw[hrs];exact dz _ hx)
   .rcases aw.mp hx with hx|hx
    .exact .inl hx
    .exact .inr (by rw[hrs];exact be _ (ab _ hx))
  refine⟨by rw[hnn'];exact ro.nd,λx hx=> ?_,λx hx=> ?_,by lia,by lia,λx hx=> ?_⟩
  .rcases hmem x hx with rfl|hx
   .exact ro.nm r hr'
   .exact ro.nm x hx
  .rcases hmem x hx with rfl|hx
   .exact⟨hrw.1,by show r.2.2<=r.2.1+1+c/30%9;lia⟩
   .exact ro.ok x hx
  .rcases hmem x hx with rfl|hx
   .exact ro.wn r hr'
   .exact ro.wn x hx
 have hgr:bo (λe e'=>e.1=e'.1/\e.2<=e'.2) (cX rs) (cX (A++(r.1,r.2.1+1+c/30%9,r.2.2)::B)):=by
  unfold cX;rw[hrs,aq,aq,ay,ay];exact gS (rZ _) (.cons ⟨rfl,by show r.2.1<=r.2.1+1+c/30%9;lia⟩ (rZ _))
 have hpa:=WR ro;have t1:=HW m1;have t2:=HW m2;have l1d:d1.length<=8:=by have:=congrArg lh t1;simp only[af]at this;simp only[af]at hlS;lia
 have l2d:d2.length<=8:=by have:=congrArg lh t2;simp only[af]at this;simp only[af]at hlS;lia
 have n1d:(d1.map (·.1)).Nodup:=by rw[←JB t1];exact hndS
 have n2d:(d2.map (·.1)).Nodup:=by rw[JB t2];exact hndS
 have i1d:=VV t1.symm hinS;have i2d:=VV t2 hinS;have nn1:=(FA m1).2;have nn2:=(FA m2).1;have nn9:∀t,0<=dY s9 t:=A7 so9.w0;clear hyy eM eMN hqv hgu;have g4O:=sKO _ _ g4K;have e1O:=sKO _ _ e1K;have e3O:=sKO _ _ e3K;have g1O:=sKO _ _ g1K;have g2O:=sKO _ _ g2K;have g3O:=sKO _ _ eK;have e6O:=sKO _ _ e6K;have ruO1:=eF ruK sKO;have k1O:=fA k1K sKO;have k2O:=fA k2K sKO;have kzO:=fA kzK sKO;have k3O:bo ((aJ P w K mg base (some 5)).at' HO) (zs++[v9]) (ss.map bL++[bL s9]):=gS kzO (.cons ((aJ P w K mg base (some 5)).same k9K sKO) .nil);have n9:((ss.map bL++[bL s9]).map (·.1)).Nodup:=by
  rw[aq];refine gk.mpr ⟨hndS,cn.mpr ⟨(λz=>nomatch z),nh⟩,λx hx y hy e=> ?_⟩;obtain rfl:=bq.mp hy;rw[yQ]at hx;rcases ag.mp hx with⟨s,hs,rfl⟩;obtain⟨i,hi,c',e'⟩:=dr.wn s hs;have e2:s.n=s9.n:=e;rw[hn9,e']at e2;have:=GI (by lia) (by lia) (by lia) (by lia) e2
  lia
 have i9:∀d∈ss.map bL++[bL s9],cQ (rs.map (·.1)) d:=λd hd=>by
  rcases bf.mp hd with hd|hd
  .exact hinS d hd
  .obtain rfl:=bq.mp hd;exact⟨so9.sin,so9.ein⟩
 have hn9':∀d∈[bL s9],∀t,0<=d.2.2.2 t:=λd hd t=>by
  obtain rfl:=bq.mp hd;exact nn9 t
 have nnz:∀d∈ss.map bL++[bL s9],∀t,0<=d.2.2.2 t:=λd hd=>by
  rcases bf.mp hd with hd|hd
  .exact hnnS d hd
  .exact hn9' d hd
 clear k1K k2K kzK k9K g1K g2K g4K eK e6K e1K e3K;tm_at"a";refine BS e1O ruO1 ro g2O k2O n2d i2d l2d e3O f0 f1 fl fl7 nn2 λh1 HP SP hc1=> ?_;tm_at"a";refine BS (SP _ _ e1O) (eF ruO1 SP) ro (SP _ _ g1O) (fA k1O SP) n1d i1d l1d (SP _ _ e3O) f0 f1 fl fl7 nn1 λh2 HQ SQ hc2=> ?_;have sQ:=SP.trans SQ;tm_at"a";refine BS (sQ _ _ e1O) (eF ruO1 sQ) ro (sQ _ _ g3O) (fA k3O sQ) n9 i9 (by rw[ak];show _+1<=8;lia) (sQ _ _ e3O) f0 f1 fl fl7 nnz λh3 HR SR hc3=> ?_;have sR:=sQ.trans SR;tm_at"a";refine BS (sR _ _ eO) (eF ruO sR) row (sR _ _ e6O) (fA kzO sR) hndS (by rw[hnn'];exact hinS) (by lia) (sR _ _ e3O) f0 f1 fl fl7 hnnS λh4 HS SS hc4=> ?_;tm_at"a";rename_i pl HT nT ST eT q2 HU nU SU eU;have sU:=ST.trans SU;refine k q2 pl h1 h2 h3 h4 d2 HU ((TK.snoc sKO).snoc (sR.trans (SS.trans sU))) eU (SU _ _ eT) ⟨hc1.same (SQ.trans (SR.trans (SS.trans sU))),?_,λh hh=> ?_⟩
 .have:=xU (f:=f) (l:=l) (B:=[]) (rZ (cX rs)) (λz=>(hpa z).symm) m2 (λ_ z=>nomatch z);rw[df]at this;exact this
 .rcases aw.mp hh with rfl|hh
  .have:=xU (f:=f) (l:=l) (B:=[]) (rZ (cX rs)) hpa m1 (λ_ z=>nomatch z);rw[df]at this;exact⟨_,_,_,hc2.same (SR.trans (SS.trans sU)),this⟩
  .rcases aw.mp hh with rfl|hh
   .exact⟨_,_,_,hc3.same (SS.trans sU),xU (rZ (cX rs)) hpa (sT hnnS) hn9'⟩
   .obtain rfl:=bq.mp hh;have:=xU (f:=f) (l:=l) (ps:=eJ rs) (ps':=dE (A++(r.1,r.2.1+1+c/30%9,r.2.2)::B)) (B:=[]) hgr (by rw[hall];exact hpa) (sT hnnS) (λ_ z=>nomatch z);rw[df]at this;exact⟨_,_,_,hc4.same sU,this⟩
theorem GE(m:M K mg)(hcL:m.dD.code= .ref cL)(hCL:W.CodeHd base cL PL)(hBL:base.BuiltinsAt mg PL):Fc P w K mg base "_law_others" 8 ["_law_cell","_law_rooms_here","_law_specs","_law_turns"] (rD P w base m PL):=⟨_,_,m.KU,m.kR.F.kp,m.kR.b,GG m hcL hCL hBL⟩
def w6(outs:List Int):List V:=(fc (outs.length+1)).map λi:Nat=>V.int (outs.take i).sum
theorem BM{i:Nat}(h:i<=outs.length):(w6 outs)[i]? =some (.int (outs.take i).sum):=by
 unfold w6;rw[bu,List.getElem?_range (by lia)];rfl
theorem C5(outs:List Int):(w6 outs).length=outs.length+1:=by unfold w6;rw[af,el]
theorem JA(outs:List Int):atI (w6 outs) (-1)=some (.int (outs.take outs.length).sum):=by
 have e:w6 outs=((fc outs.length).map λi:Nat=>V.int (outs.take i).sum)++[V.int (outs.take outs.length).sum]:=by
  unfold w6;rw[mj,aq];rfl
 rw[e];exact YJ _ _
inductive wV(CHo:Addr)(D:bH)(vs:List V)(H:Hp)(Q:VK)(E:XK):Prop
 | mk (h p3:Addr) (f l:Int) (rz ps:List (Str×Int)) (ds:List aF) (_:vs=[.ref h,.ref p3]) (_:HC CHo D H h f l rz ps ds) (_:H p3=some (.tup [.int f,.int l])) (_:∀p outs sp H',Same H H'->H' p=some (.lst (w6 outs))->FOk rz ps ds f l outs sp->Q (.ref p) H'):wV CHo D vs H Q E
theorem GX{D:bH}{E:XK}{h:Addr}{ds:List aF}(hc:HC CHo D H h f l rz ps ds)(e3:H p3=some (.tup [.int f,.int l]))(k:∀p outs sp H',Same H H'->H' p=some (.lst (w6 outs))->FOk rz ps ds f l outs sp->Q (.ref p) H'):wV CHo D [.ref h,.ref p3] H Q E:=⟨_,_,_,_,_,_,_,rfl,hc,e3,k⟩
theorem FZ:∀ds:List aF,bo (λ(v:V) (d:aF)=>v= .str d.1) ((ds.map (·.1)).map V.str) ds
 | []=> .nil
 | _::ds=> .cons rfl (FZ ds)
theorem L7(m:M K mg):FnOk P w K mg base CX0 14 m.vT m.pJ.d ["_law_house_here","_law_turns"] (wV m.aO (aJ P w K mg base (some 5))):=by
 refine m.pJ.F.ok aHP ?_ ?_;tm_at"g";tm_at"h";rcases h with⟨h,p3,f,l,rz,ps,ds,rfl,hc,e3,k⟩;tm_at"f";have nd:=aHP.nd;tm_at"d";have aIh:= @NM P w K mg base m;have aGB:=m.bJ;refine⟨_,(aB (aQ (i:=2) nd rfl (by tm_at"b") (bG aIh hr (aA (pv 0) aC)))
  (aB (aQ (i:=3) nd rfl (by tm_at"b") (d7 (N:=["_law_name_here","_law_house_here"]) (nl:=1) (ci:=[0]) rfl (blk (s.heap.objs.size+1) rfl rfl rfl (by kernel_rfl)) (bP (cU 1 hr (pv 0))) (λ_ _ _ _=>(aN (i:=0) (show (["_law_name_here","_law_house_here"]:List Str).Nodup by decide +kernel) rfl (by tm_at"b"))) (λ_ _ _ _=>(zJ (bC VU (A3 (K:=K) (WW (P:=P) (w:=w) (K:=K) (mg:=mg) (base:=base) 1 hr (pv 1) (aA (pv 0) aC)) rfl) tJ (bF _)))) (λ_ _ _ _=>(pv 0))))
  (aB (aQ (i:=4) nd rfl (by tm_at"b") (cI aC))
  (aB (c4 cx rfl (XE rfl m.jM (aA (aS dA (pv 1) aD (λ_ _=>rfl)) (aA (aI bQ (aS dA (pv 1) aD (λ_ _=>rfl)) aD) aC))) (aN (i:=5) nd rfl (by tm_at"b")) (aE (aU (fW da dj dm cV (pv 4) (aA (bI (JO rfl) rfl m.UM MH (aA (d7 (N:=["_law_at","_law_name_here","_law_number","_law_exits","_law_turn"]) (nl:=3) (ci:=[3,5]) rfl (blk (s.heap.objs.size+1) rfl rfl rfl (by kernel_rfl)) (bP (pv 2)) (λ_ _ _ _=>(oJ (K:=K) (n:=3) rfl (aZ (aN (i:=0) (show (["_law_at","_law_name_here","_law_number","_law_exits","_law_turn"]:List Str).Nodup by decide +kernel) rfl (by tm_at"b")) (aZ (aN (i:=1) (show (["_law_at","_law_name_here","_law_number","_law_exits","_law_turn"]:List Str).Nodup by decide +kernel) rfl (by tm_at"b")) (aZ (aN (i:=2) (show (["_law_at","_law_name_here","_law_number","_law_exits","_law_turn"]:List Str).Nodup by decide +kernel) rfl (by tm_at"b")) d8))))) (λ_ _ _ _=>(zJ (PW.pt (EQ (bC (SL (K:=K)) (pv 1) (pv 3) (by with_unfolding_all rfl)) (A1 (bC jG (pv 0) (pv 4) (bF _))))))) (λ_ _ _ _=>(pv 2))) aC)) aC)))))
  (aE (aT (pv 4))))))),?_⟩
 refine aL (σ:=[some (.ref h),some (.ref p3),none,none,none,none]) rfl ?_;tm_at"e";have M1:= @nS P w K mg base m;have M2:= @kN P w K mg base m;have ndd:=hc.nd;have hdl:=hc.ld;have hf0:=hc.f0;have hfl:=hc.fl;have hf7:=hc.fl7;have hl1:=hc.l1;tm_at"a";refine⟨h,f,l,rz,ps,ds,rfl,hc,λpp wp xs outs sp H3 s3 ep hpl hxs fo=> ?_⟩;have hc3:=hc.same s3;have hol:=fo.len;have knd:(((dkK rz ps ds f l (bE rz ps) outs.length).map (cS sp)).map λr=>bV r.1 r.2.1).Nodup:=by rw[VJ];exact XD ndd _
 have hlo:∀i:Nat,i<=outs.length->dB ds xs (f+(i:Int))=(outs.take i).sum:=λi hi=>by
  rw[PU hxs knd (λr hr=> ?_),RH ndd fo.fl i outs.length (au _),ou hi];rcases ag.mp hr with⟨e,he,rfl⟩;obtain⟨t,n,b,rfl,_⟩:=u4 he;rw[FJ];exact fo.sp0 _
 have hxl:xs.length<=200:=by
  have h1:xs.length=(g6 ((dkK rz ps ds f l (bE rz ps) outs.length).map (cS sp))).length:=by rw[←af (f:=mQ),hxs,(yM _).length_eq]
  rw[QM knd,af]at h1;have h2:=fb (λr:cT=>decide (0<r.2.2)) ((dkK rz ps ds f l (bE rz ps) outs.length).map (cS sp));rw[af,BP]at h2;have h3:=ll (show outs.length<=7 by lia) hdl
  lia
 clear hxs knd;obtain⟨hdx,hqs,hqp,hqd,hnk,hkvs,ho1,_⟩:=hc3.at'.ex;tm_at"a";refine nW hc3.at' λp4 H4 n4 S4 f4=> ?_;have hc4:=hc3.same S4;tm_at"a";refine lP (α:=aF) (xs:=ds) (vs:=(ds.map (·.1)).map V.str) (λ(v:V) (d:aF)=>v= .str d.1) exO (λd y _=>y= .str d.1) (λ_ _ _ _ h _=>h) (by rw[sizeLine_eq];lia) (rest:=[some (.ref h)]) (by rfl) (SqL.of f4) (FZ ds) ?_ ?_ ?_
 .rintro v ⟨n,st,e,lt⟩ H5 rfl hm s5 R hR;have hc5:=hc4.same s5;obtain⟨hdx,hqs,hqp,hqd,hnk,hkvs,ho5,_⟩:=hc5.at'.ex;have hR':=hR _ (Same.refl _);tm_at"a";refine FR (d:=(n,st,e,lt)) hc5.at' ndd hm λv hv=> ?_;obtain⟨q,C9,dx,fs,fp,rfl,hq,dcC,l1,l2,l3,l4,l5,mcE,hfp,hlt⟩:=DoorAt.ex hv;rcases (hc.din _ hm).2 with he|⟨y,he,_⟩
  .have he:e= .non:=he;subst he;rw[show exO ((n,st,V.non,lt):aF)=true from decide_eq_true rfl]at hR';tm_at"a";exact hR'
  .have he:e= .str y:=he;subst he;rw[show exO ((n,st,V.str y,lt):aF)=false from decide_eq_false λz=>nomatch z]at hR';tm_at"a";exact hR'
 .rintro v ⟨n,st,e,lt⟩ H5 rfl hm - s5 R hR;tm_at"a";exact hR _ _ rfl (Same.refl _)
 intro ys H5 s5 hys;have ey:ys=(gA ds).map V.str:=by rw[lT hys];unfold gA;rw[du];rfl
 subst ey;tm_at"a";rename_i pe H6 n6 S6 e6 pf H7 n7 S7 e7;have s36:Same H3 H6:=S4.trans (s5.trans S6);have s07:Same H H7:=s3.trans (s36.trans S7);refine⟨p3,_,0,_,rfl,rfl,SqT.of (s07 _ _ e3),rfl,?_⟩;tm_at"a";refine⟨p3,_,1,_,rfl,rfl,SqT.of (s07 _ _ e3),rfl,?_⟩;tm_at"a";let Pv1:Nat->St->Hp->Prop:=λi σ' H'=>Same H6 H'/\H' pf=some (.lst ((fc i).map λi:Nat=>V.int (outs.take i).sum))/\∃x,σ'=[some (.ref h),some (.ref p3),some (.ref pp),some (.ref pe),some (.ref pf),x];refine wA Pv1 ⟨S7,e7,_,rfl⟩ ?_ ?_
 .rintro i _ HB hi hq_;obtain⟨sB,eB,x,rfl⟩:=hq_;have hil:i<=outs.length:=by lia
  have hlen:((fc i).map λi:Nat=>V.int (outs.take i).sum).length<=10:=by rw[af,el];lia
  have epB:=sB _ _ (s36 _ _ ep);have eeB:=sB _ _ e6;have hl2:=hlo i hil;tm_at"a";refine aCh (α:=cT) (xs:=xs) (vs:=wp) (λr=> .int r.1) (λr=> .str r.2.1) (λr=> .int r.2.2) (λr=>decide (r.2.1∈gA ds)&&decide (r.1<f+(i:Int))) (λr y _=>y= .int r.2.2) (λ_ _ _ _ h _=>h) (by rw[sizeLine_eq];lia) (rest:=[some (.ref pe),some (.int (f+(i:Int)))]) (by rfl) (SqL.of epB) (aDo hpl (s36.trans sB)) ?_ ?_ ?_
  .rintro ⟨rt,rn,rj⟩ H4 hm s4 R hR;show (_:TT) (some (V.int rt)::some (V.str rn)::some (V.int rj)::[some (.ref pe),some (.int (f+(i:Int)))]) H4 R;have hR':R (decide (rn∈gA ds)&&decide (rt<f+(i:Int))) H4:=hR _ (Same.refl _);tm_at"a";refine aEX (SqL.of (s4 _ _ eeB)) ?_;tm_at"a"
   by_cases hx:rn∈gA ds
   .rw[decide_eq_true hx]at hR' ⊢;rw[if_pos rfl];tm_at"a";exact hR'
   .rw[decide_eq_false hx]at hR' ⊢;rw[if_neg bw];exact hR'
  .rintro ⟨rt,rn,rj⟩ H4 hm - s4 R hR;show (_:TE) (some (V.int rt)::some (V.str rn)::some (V.int rj)::[some (.ref pe),some (.int (f+(i:Int)))]) H4 R;tm_at"a";exact hR _ _ rfl (Same.refl _)
  intro zs HC sC hzs;have ez:zs=((xs.filter λr=>decide (r.2.1∈gA ds)&&decide (r.1<f+(i:Int))).map (·.2.2)).map V.int:=by rw[lT hzs,du];rfl
  subst ez;tm_at"a";rename_i p5 HD nD SD eD;refine VT (SqL.of eD) ?_;have eBD:=SD _ _ (sC _ _ eB);tm_at"a";refine cW eBD (by rw[sizeLine_eq];lia) λHE BE eE=> ?_;tm_at"a";refine⟨(λb u e=>BE b u (SD _ _ (sC _ _ (sB _ _ e))) λz=>by rw[z]at e;rw[e]at n7;cases n7),?_,_,rfl⟩;rw[eE,mj,aq];show some (HO.lst (_++[V.int (dB ds xs (f+(i:Int)))]))=_;rw[hl2];rfl
 .rintro _ HB hq_;obtain⟨sB,eB,x,rfl⟩:=hq_;tm_at"a";rw[show (l+1 - f).toNat=outs.length+1 by lia]at eB;exact k pf outs sp HB (s3.trans (s36.trans sB)) eB fo
theorem LP(m:M K mg):Fc P w K mg base "_law_outs" 14 ["_law_house_here","_law_turns"] (wV m.aO (aJ P w K mg base (some 5))):=⟨_,_,m.QA,m.pJ.F.kp,m.pJ.b,L7 m⟩
theorem aCb{h:Addr}{ds:List aF}(x:bW C (aJ P w K mg base (some 5)) H h f l rz ps ds)(T:SameT H H'):bW C (aJ P w K mg base (some 5)) H' h f l rz ps ds:=by
 obtain⟨dx,qs,qp,qd,nk,kvs,e1,e2,e3,e4,e5,e6,e7⟩:=x.ex;exact⟨dx,qs,qp,qd,nk,kvs,T _ _ e1 (λps z=>by cases z),T _ _ e2 (λps z=>by cases z),T _ _ e3 (λps z=>by cases z),e4,e5,T _ _ e6 (λps z=>by cases z),Paired.imp' (λe d h=>⟨h.1,zT h.2 T⟩) e7⟩
theorem aGq{h:Addr}{ds:List aF}(x:HC C (aJ P w K mg base (some 5)) H h f l rz ps ds)(T:SameT H H'):HC C (aJ P w K mg base (some 5)) H' h f l rz ps ds:=⟨aCb x.at' T,x.nr,x.nd,x.din,x.lr,x.ld,x.f0,x.fl,x.fl7,x.l1,x.let0,x.rz0,x.ps0⟩
theorem NF{ds:List aF}{ob sa sb:List Int}(a:FOk rz ps ds f l oa sa)(b:FOk rz ps ds f l ob sb):oa=ob:=YC a.best b.best (by have h1:=a.len;have h2:=b.len;lia)
inductive z8(K:W.Frag)(PL:Addr)(vs:List V)(H:Hp)(Q:VK)(E:XK):Prop
 | mk (a:Addr) (ns:List Int) (_:vs=[.ref a]) (_:SqL K H a (ns.map V.int)) (_:ns.length<=63) (_:H PL=some (.tbl #[])) (_:∀H',Q (.bl true) H'):z8 K PL vs H Q E
theorem aEL(m:M K mg)(hcL:m.dD.code= .ref cL)(hCL:W.CodeHd base cL PL)(hBL:base.BuiltinsAt mg PL):FnOk P w K mg base CX0 20 m.UI m.UL ["_law_script"] (z8 K PL):=by
 refine m.aGb.ok aIq ?_ ?_;tm_at"g";tm_at"h";rcases h with⟨a,ns,rfl,hS,hlen,hPL,k⟩;tm_at"f";have nd:=aIq.nd;tm_at"d";have aGG:= @mD P w K mg base m;have aIc:= @KI P w K mg base m;have aIb:=JY (P:=P) (w:=w) (base:=base) m hcL hCL hBL;have aIa:=GE (P:=P) (w:=w) (base:=base) m hcL hCL hBL;have aHm:= @LP P w K mg base m;have aH9:= @TM P w K mg base m;have aGB:=m.bJ;refine⟨_,(aB (pQ (bG aIc hr (aA (pv 0) aC)) (v8 (n:=3) rfl (aZ (aN (i:=1) nd rfl (by tm_at"b")) (aZ (aN (i:=2) nd rfl (by tm_at"b")) (aZ (aN (i:=3) nd rfl (by tm_at"b")) d8)))))
  (aB (aQ (i:=4) nd rfl (by tm_at"b") (bG aIb hr (aA (pv 1) (aA (pv 2) (aA (pv 3) aC)))))
  (aB (pQ (bG aIa hr (aA (aI b7 (bG aGG hr (aA (pv 0) (aA aD aC))) aD) (aA (pv 1) (aA (pv 2) (aA (pv 3) aC))))) (v8 (n:=2) rfl (aZ (aN (i:=5) nd rfl (by tm_at"b")) (aZ (aN (i:=6) nd rfl (by tm_at"b")) d8))))
  (aB (aQ (i:=7) nd rfl (by tm_at"b") (bG aHm hr (aA (pv 4) (aA (pv 3) aC))))
  (aB (aQ (i:=8) nd rfl (by tm_at"b") (bG aHm hr (aA (pv 5) (aA (pv 3) aC))))
  (aB (c4 cx rfl (gN rfl m.jM (aA (bI c7 rfl m.hJ eZ (aA (pv 7) aC)) aC)) (aN (i:=9) nd rfl (by tm_at"b")) (aE (b8 (bC rO (aS aW (pv 8) (pv 9) (λ_ _=>rfl)) (aS aW (pv 7) (pv 9) (λ_ _=>rfl)) (bF _)) (aE (aT K7)) bM)))
  (aB (c4 cx rfl (bP (pv 6)) (aN (i:=10) nd rfl (by tm_at"b")) (aB (aQ (i:=11) nd rfl (by tm_at"b") (bG aHm hr (aA (pv 10) (aA (pv 3) aC))))
  (aE (c4 cx rfl (gN rfl m.jM (aA (bI c7 rfl m.hJ eZ (aA (pv 7) aC)) aC)) (aN (i:=9) nd rfl (by tm_at"b")) (aE (b8 (bC jG (aS aW (pv 11) (pv 9) (λ_ _=>rfl)) (aS aW (pv 7) (pv 9) (λ_ _=>rfl)) (bF _)) (aE (aT K7)) bM))))))
  (aE (aT (OG (wD fV (bG aH9 hr (aA (pv 4) (aA (aS dA (pv 3) aD (λ_ _=>rfl)) aC))) (aS aW (pv 7) (aAM XQ aD) (λ_ _=>rfl)) (bF _)) (NO (wD fV (bG aH9 hr (aA (pv 5) (aA (aS dA (pv 3) aD (λ_ _=>rfl)) aC))) (aS aW (pv 8) (aAM XQ aD) (λ_ _=>rfl)) (bF _))))))))))))),?_⟩
 refine aL (σ:=[some (.ref a),none,none,none,none,none,none,none,none,none,none,none]) rfl ?_;tm_at"e";tm_at"a";refine N9 hS hlen λq p1 p2 p3 us ws rs ss f l H1 S1 dr=> ?_;have eq:=dr.eq;tm_at"a";refine ZB dr (.inl (S1 _ _ hPL)) λh H2 T2 hT2 hh=> ?_;have dr2:=wC dr T2;have hS2:=T2.seq (S1.seq hS);have ro:=dr.ro;have f0:=dr.f0;have f1:=dr.f1;have fl:=dr.fl;have fl7:=dr.fl7;have hc2:=HC.rows hh ro (λ_=>rfl) (by rw[yQ];exact dr.nd) (LW dr.so) (by have:=dr.l7;rw[af];lia) f0 f1 fl fl7 (yN dr.so);tm_at"a";refine XJ dr2 hT2 λq2 pl h1 h2 h3 h4 ds1 H3 T3 eq2 epl oth=> ?_;have hc3:=aGq hc2 T3;have dr3:=wC dr2 T3;rcases oth with⟨ohc,ole,oge⟩;tm_at"a";refine GX hc3 dr3.e3 λpm om spm H4 S4 em fom=> ?_;have dr4:=gR dr3 S4;tm_at"a";refine GX (ohc.same S4) dr4.e3 λpf of' spf H5 S5 ef fof=> ?_;have em5:=S5 _ _ em;have hle:∀i:Nat,i<=of'.length->(of'.take i).sum<=(om.take i).sum:=λi hi=>JV ole fof fom ohc.din hc2.din i hi;have hlm:=fom.len;have hlf:=fof.len;have hLm:=C5 om;have hLf:=C5 of';tm_at"a";let Pv1:Nat->St->Hp->Prop:=λi σ' H'=>Same H5 H'/\∃x,σ'=[some (.ref a),some (.ref p1),some (.ref p2),some (.ref p3),some (.ref h),some (.ref h1),some (.ref pl),some (.ref pm),some (.ref pf),x,none,none];refine wA Pv1 ⟨Same.refl _,_,rfl⟩ ?_ ?_
 .rintro i _ H6 hi ⟨s6,x,rfl⟩;have hi1:i<=om.length:=by lia
  have h6:=hle i (by lia);have emx:=s6 _ _ em5;have efx:=s6 _ _ ef;tm_at"a";rw[gd];refine gI (SqL.of efx) (BM (by lia)) ?_;tm_at"a";refine gI (SqL.of emx) (BM hi1) ?_;tm_at"a";exact⟨s6,_,rfl⟩
 .rintro _ H6 ⟨s6,x,rfl⟩;have epl6:H6 pl=some (.lst [.ref h2,.ref h3,.ref h4]):=s6 _ _ (S5 _ _ (S4 _ _ epl));tm_at"a";let Pv2:Nat->St->Hp->Prop:=λj σ' H'=>Same H6 H'/\∃x y z,σ'=[some (.ref a),some (.ref p1),some (.ref p2),some (.ref p3),some (.ref h),some (.ref h1),some (.ref pl),some (.ref pm),some (.ref pf),x,y,z];refine dH [.ref h2,.ref h3,.ref h4] Pv2 ⟨Same.refl _,_,_,_,rfl⟩ (λj σ' H' _ g=>SqL.of (g.1 _ _ epl6)) ?_ ?_
  .rintro j y _ H7 hy hq_;obtain⟨s7,x1,x2,x3,rfl⟩:=hq_;obtain⟨ho,hho,rfl⟩:∃ho,ho∈[h2,h3,h4]/\y= .ref ho:=by
    have:=ba hy;simp only[aw,fz,or_false]at this;rcases this with rfl|rfl|rfl
    .exact⟨_,.head _,rfl⟩
    .exact⟨_,.tail _ (.head _),rfl⟩
    .exact⟨_,.tail _ (.tail _ (.head _)),rfl⟩
   obtain⟨rz,ps,ds,hcx,hgx⟩:=oge ho hho;have s37:=S4.trans (S5.trans (s6.trans s7));tm_at"a";refine GX (hcx.same s37) (gR dr3 s37).e3 λpx ox spx H8 S8 ex fox=> ?_;have hlx:=fox.len;have hLx:=C5 ox;have em8:=S8 _ _ (s7 _ _ (s6 _ _ em5));have hge:∀i:Nat,i<=om.length->(om.take i).sum<=(ox.take i).sum:=λi hi=>JV hgx fom fox hc2.din hcx.din i hi;tm_at"a";let Pv3:Nat->St->Hp->Prop:=λi σ' H'=>Same H8 H'/\∃x,σ'=[some (.ref a),some (.ref p1),some (.ref p2),some (.ref p3),some (.ref h),some (.ref h1),some (.ref pl),some (.ref pm),some (.ref pf),x,some (.ref ho),some (.ref px)];refine wA Pv3 ⟨Same.refl _,_,rfl⟩ ?_ ?_
   .rintro i _ H9 hi ⟨s9,x,rfl⟩;have hi1:i<=om.length:=by lia
    have h9:=hge i hi1;have em9:=s9 _ _ em8;have ex9:=s9 _ _ ex;tm_at"a";rw[gd];refine gI (SqL.of ex9) (BM (by lia)) ?_;tm_at"a";refine gI (SqL.of em9) (BM hi1) ?_;tm_at"a";exact⟨s9,_,rfl⟩
   .rintro _ H9 ⟨s9,x,rfl⟩;tm_at"a";exact⟨s7.trans (S8.trans s9),_,_,_,rfl⟩
  .rintro _ H7 hq_;obtain⟨s7,x1,x2,x3,rfl⟩:=hq_;have s47:=S5.trans (s6.trans s7);have dr7:=gR dr4 s47;have em7:=s47 _ _ em;have ef7:=(s6.trans s7) _ _ ef;have hlr:l=f+(om.length:Int):=by lia
   tm_at"a";refine⟨p3,_,1,_,rfl,rfl,SqT.of dr7.e3,rfl,?_⟩;tm_at"a";refine⟨h,om.length,f,l,cX rs,eJ rs,ss.map bL,by rw[←hlr],hc3.same (S4.trans s47),λo2 sp2 H8 S8 fo2=> ?_⟩;obtain rfl:=NF fo2 fom;have em8:=S8 _ _ em7;tm_at"a";refine MD (SqL.of em8) (JA _) ?_;tm_at"a";refine⟨p3,_,1,_,rfl,rfl,SqT.of (gR dr7 S8).e3,rfl,?_⟩;tm_at"a";refine⟨h1,of'.length,f,l,cX rs,dE rs,ds1,by rw[show f+(of'.length:Int)=l by lia],ohc.same (S4.trans (s47.trans S8)),λo3 sp3 H9 S9 fo3=> ?_⟩;obtain rfl:=NF fo3 fof;have ef9:=S9 _ _ (S8 _ _ ef7);tm_at"a";refine MD (SqL.of ef9) (JA _) ?_;tm_at"a";rw[decide_eq_true rfl];exact k _
end
theorem all_mk{l:W.OpenLaw}{h:Heap}{fa:Addr}(X:K.In h)(G:h.Ns bh mg)(hfa:mg "law" =some (.ref fa))
  {f0:Addr}
  {f1:Addr}
  {f2:Addr}
  {f3:Addr}
  {f4:Addr}
  {f5:Addr}
  {f6:Addr}
  {f7:Addr}
  {f8:Addr}
  {f9:Addr}
  {f10:Addr}
  {f11:Addr}
  {f12:Addr}
  {f13:Addr}
  {f14:Addr}
  {f15:Addr}
  {f16:Addr}
  {f17:Addr}
  {f18:Addr}
  {f19:Addr}
  {f20:Addr}
  {f21:Addr}
  {f22:Addr}
  {f23:Addr}
  {f24:Addr}
  {f25:Addr}
  {f26:Addr}
  {f27:Addr}
  {f28:Addr}
  {f29:Addr}
  {f30:Addr}
  {C31:Addr}
  {C32:Addr}
  {C33:Addr}
  {C34:Addr}
  {C35:Addr}
  {C36:Addr}
  {C37:Addr}
  {C38:Addr}
  {C39:Addr}
  {C40:Addr}
  {C41:Addr}
  {f42:Addr}
  {f43:Addr}
  {f44:Addr}
  {f45:Addr}
  {f46:Addr}
  {f47:Addr}
  {f48:Addr}
  {f49:Addr}
  {f50:Addr}
  {f51:Addr}
  {f52:Addr}
  {f53:Addr}
  {f54:Addr}
  {f55:Addr}
  {f56:Addr}
  {f57:Addr}
  {f58:Addr}
  {f59:Addr}
  {f60:Addr}
  {f61:Addr}
  {f62:Addr}
  {f63:Addr}
  {f64:Addr}
  {f65:Addr}
  {f66:Addr}
  {f67:Addr}
  {f68:Addr}
  {f69:Addr}
  {f70:Addr}
  {f71:Addr}
  {f72:Addr}
  {f73:Addr}
  {f74:Addr}
  {f75:Addr}
  {f76:Addr}
  {f77:Addr}
  {f78:Addr}
  {f79:Addr}
  {f80:Addr}
  {f81:Addr}
  {f82:Addr}
  {f83:Addr}
  {f84:Addr}
  {zaa zab:Option Addr}{zac:Array (Option ah)}{zad zae zaf zag zah zai:ah}
  {zaj zak:Option Addr}{zal:Array (Option ah)}{zam zan zao zap zaq zar:ah}
  {zas zat:Option Addr}{zau:Array (Option ah)}{zav zaw zax zay zaz zba:ah}
  {zbb:Addr}
  {zbc:Tok}
  {zbd:ah}{zbe:Option Addr}{zbf:Nat}{zbg:Array (Option ah)}
  {zbh zbi:Option Addr}{zbj:Array (Option ah)}{zbk zbl zbm zbn zbo zbp:ah}
  {zbq:Addr}
  {zbr:Tok}
  {zbs:ah}{zbt:Option Addr}{zbu:Nat}{zbv:Array (Option ah)}
  {zbw zbx:Option Addr}{zby:Array (Option ah)}{zbz zca zcb zcc zcd zce:ah}
  {zcf:Addr}
  {zcg:Tok}
  {zch:ah}{zci:Option Addr}{zcj:Nat}{zck:Array (Option ah)}
  {zcl:Tok}
  (y0:W.nsIn K bh "added_up" =some (some (.ref f0)))
  (y1:W.nsIn K bh "as_told" =some (some (.ref f1)))
  (y2:W.nsIn K bh "filled_net" =some (some (.ref f2)))
  (y3:W.nsIn K bh "first_out" =some (some (.ref f3)))
  (y4:W.nsIn K bh "most_by" =some (some (.ref f4)))
  (y5:W.nsIn K bh "is_whole" =some (some (.ref f5)))
  (y6:W.nsIn K bh "is_name" =some (some (.ref f6)))
  (y7:W.nsIn K bh "need_name" =some (some (.ref f7)))
  (y8:W.nsIn K bh "need_whole" =some (some (.ref f8)))
  (y9:W.nsIn K bh "need_turns" =some (some (.ref f9)))
  (y10:W.nsIn K bh "need_each_once" =some (some (.ref f10)))
  (y11:W.nsIn K bh "rooms_spoken_of" =some (some (.ref f11)))
  (y12:W.nsIn K bh "need_rooms" =some (some (.ref f12)))
  (y13:W.nsIn K bh "added_people" =some (some (.ref f13)))
  (y14:W.nsIn K bh "need_space" =some (some (.ref f14)))
  (y15:W.nsIn K bh "_law_cell_at" =some (some (.ref f15)))
  (y16:W.nsIn K bh "_law_mixed" =some (some (.ref f16)))
  (y17:W.nsIn K bh "_law_name" =some (some (.ref f17)))
  (y18:W.nsIn K bh "_law_rooms" =some (some (.ref f18)))
  (y19:W.nsIn K bh "_law_spec" =some (some (.ref f19)))
  (y20:W.nsIn K bh "_law_door" =some (some (.ref f20)))
  (y21:W.nsIn K bh "_law_digits" =some (some (.ref f21)))
  (y22:W.nsIn K bh "_law_rooms_told" =some (some (.ref f22)))
  (y23:W.nsIn K bh "_law_spec_told" =some (some (.ref f23)))
  (y24:W.nsIn K bh "_law_drawn_told" =some (some (.ref f24)))
  (y25:W.nsIn K bh "_law_drawn" =some (some (.ref f25)))
  (y26:W.nsIn K bh "_law_house" =some (some (.ref f26)))
  (y27:W.nsIn K bh "_law_made" =some (some (.ref f27)))
  (y28:W.nsIn K bh "_law_others" =some (some (.ref f28)))
  (y29:W.nsIn K bh "_law_outs" =some (some (.ref f29)))
  (y30:W.nsIn K bh "law" =some (some (.ref f30)))
  (y31:W.nsIn K bh "Net" =some (some (.ref C31)))
  (y32:W.nsIn K bh "HouseNet" =some (some (.ref C32)))
  (y33:W.nsIn K bh "Door" =some (some (.ref C33)))
  (y34:W.nsIn K bh "Since" =some (some (.ref C34)))
  (y35:W.nsIn K bh "Until" =some (some (.ref C35)))
  (y36:W.nsIn K bh "Beat" =some (some (.ref C36)))
  (y37:W.nsIn K bh "Marked" =some (some (.ref C37)))
  (y38:W.nsIn K bh "Told" =some (some (.ref C38)))
  (y39:W.nsIn K bh "Shut" =some (some (.ref C39)))
  (y40:W.nsIn K bh "Wider" =some (some (.ref C40)))
  (y41:W.nsIn K bh "House" =some (some (.ref C41)))
  (y42:Mk K C31 f42)
  (y43:Mk K C32 f50)
  (y44:Mk K C33 f59)
  (y45:Mk K C34 f62)
  (y46:Mk K C35 f64)
  (y47:Mk K C36 f66)
  (y48:Mk K C37 f68)
  (y49:Mk K C38 f70)
  (y50:Mk K C39 f72)
  (y51:Mk K C40 f74)
  (y52:Mk K C41 f76)
  (y53:Meth K C31 "new_node" f43)
  (y54:Meth K C31 "new_arc" f44)
  (y55:Meth K C31 "sent" f45)
  (y56:Meth K C31 "ways_from" f46)
  (y57:Meth K C31 "path_to" f47)
  (y58:Meth K C31 "send_along" f48)
  (y59:Meth K C31 "send_all" f49)
  (y60:Meth K C32 "now_in" f51)
  (y61:Meth K C32 "add_door" f52)
  (y62:Meth K C32 "send_out" f53)
  (y63:Meth K C32 "reached_pairs" f54)
  (y64:Meth K C32 "new_entries" f55)
  (y65:Meth K C32 "go_on" f56)
  (y66:Meth K C32 "keep_others" f57)
  (y67:Meth K C32 "rows" f58)
  (y68:Meth K C33 "lets" f60)
  (y69:Meth K C33 "is_exit" f61)
  (y70:Meth K C34 "lets" f63)
  (y71:Meth K C34 "is_exit" f61)
  (y72:Meth K C35 "lets" f65)
  (y73:Meth K C35 "is_exit" f61)
  (y74:Meth K C36 "lets" f67)
  (y75:Meth K C36 "is_exit" f61)
  (y76:Meth K C37 "lets" f69)
  (y77:Meth K C37 "is_exit" f61)
  (y78:Meth K C38 "lets" f71)
  (y79:Meth K C38 "is_exit" f61)
  (y80:Meth K C39 "lets" f73)
  (y81:Meth K C39 "is_exit" f61)
  (y82:Meth K C40 "lets" f75)
  (y83:Meth K C40 "is_exit" f61)
  (y84:Meth K C41 "rooms" f77)
  (y85:Meth K C41 "doors" f78)
  (y86:Meth K C41 "need_room" f79)
  (y87:Meth K C41 "holds" f80)
  (y88:Meth K C41 "found" f81)
  (y89:Meth K C41 "door" f82)
  (y90:Meth K C41 "lets" f83)
  (y91:Meth K C41 "total" f84)
  (y92:FnL K "added_up" "added_up" xQ f0)
  (y93:FnL K "as_told" "as_told" AS f1)
  (y94:FnL K "filled_net" "filled_net" sI f2)
  (y95:FnL K "first_out" "first_out" vH f3)
  (y96:FnL K "most_by" "most_by" AO f4)
  (y97:FnL K "is_whole" "is_whole" yJ f5)
  (y98:FnL K "is_name" "is_name" zG f6)
  (y99:FnL K "need_name" "need_name" vM f7)
  (zcm:FnL K "need_whole" "need_whole" sJ f8)
  (zcn:FnL K "need_turns" "need_turns" sZ f9)
  (zco:FnL K "need_each_once" "need_each_once" kZ f10)
  (zcp:FnL K "rooms_spoken_of" "rooms_spoken_of" jT f11)
  (zcq:FnL K "need_rooms" "need_rooms" tO f12)
  (zcr:FnL K "added_people" "added_people" oI f13)
  (zcs:FnL K "need_space" "need_space" sK f14)
  (zct:FnL K "_law_cell_at" "_law_cell_at" nZ f15)
  (zcu:FnL K "_law_mixed" "_law_mixed" r9 f16)
  (zcv:FnL K "_law_name" "_law_name" vJ f17)
  (zcw:FnL K "_law_rooms" "_law_rooms" tI f18)
  (zcx:FnL K "_law_spec" "_law_spec" vI f19)
  (zcy:K.lookup f20=some ⟨zad,zaa,.func (W.fnOf "_law_door" "_law_door" (d6 eS) (dG eS) (aG eS) .none zae zaf zag zab zah zai),zac⟩)
  (zcz:W.codeIn K zah "_law_door" =true)
  (zda:W.keepIn K (.ref f20)=true)
  (zdb:FnL K "_law_digits" "_law_digits" qH f21)
  (zdc:FnL K "_law_rooms_told" "_law_rooms_told" j6 f22)
  (zdd:FnL K "_law_spec_told" "_law_spec_told" kU f23)
  (zde:FnL K "_law_drawn_told" "_law_drawn_told" jZ f24)
  (zdf:FnL K "_law_drawn" "_law_drawn" sS f25)
  (zdg:FnL K "_law_house" "_law_house" sM f26)
  (zdh:FnL K "_law_made" "_law_made" vF f27)
  (zdi:FnL K "_law_others" "_law_others" qE f28)
  (zdj:FnL K "_law_outs" "_law_outs" vD f29)
  (zdk:K.lookup f30=some ⟨zam,zaj,.func (W.fnOf "law" "law" (d6 uR) (dG uR) (aG uR) .none zan zao zap zak zaq zar),zal⟩)
  (zdl:W.codeIn K zaq "law" =true)
  (zdm:W.keepIn K (.ref f30)=true)
  (zdn:FnL K "__init__" "Net.__init__" oO f42)
  (zdo:FnL K "new_node" "Net.new_node" nR f43)
  (zdp:FnL K "new_arc" "Net.new_arc" pW f44)
  (zdq:FnL K "sent" "Net.sent" xH f45)
  (zdr:FnL K "ways_from" "Net.ways_from" l6 f46)
  (zds:FnL K "path_to" "Net.path_to" pY f47)
  (zdt:FnL K "send_along" "Net.send_along" k8 f48)
  (zdu:FnL K "send_all" "Net.send_all" oG f49)
  (zdv:FnL K "__init__" "HouseNet.__init__" iG f50)
  (zdw:FnL K "now_in" "HouseNet.now_in" jW f51)
  (zdx:FnL K "add_door" "HouseNet.add_door" iH f52)
  (zdy:FnL K "send_out" "HouseNet.send_out" iI f53)
  (zdz:FnL K "reached_pairs" "HouseNet.reached_pairs" eW f54)
  (zea:FnL K "new_entries" "HouseNet.new_entries" fO f55)
  (zeb:FnL K "go_on" "HouseNet.go_on" k5 f56)
  (zec:FnL K "keep_others" "HouseNet.keep_others" fN f57)
  (zed:FnL K "rows" "HouseNet.rows" mK f58)
  (zee:K.lookup f59=some ⟨zav,zas,.func (W.fnOf "__init__" "Door.__init__" (d6 fG) (dG fG) (aG fG) (.ref zbb) zaw zax zay zat zaz zba),zau⟩)
  (zef:W.codeIn K zaz "Door.__init__" =true)
  (zeg:W.keepIn K (.ref f59)=true)
  (zeh:K.lookup zbb=some ⟨zbd,zbe,.seq #[.none,.int 1 zbc] zbf,zbg⟩)
  (zei:FnL K "lets" "Door.lets" vK f60)
  (zej:FnL K "is_exit" "Door.is_exit" nV f61)
  (zek:FnL K "__init__" "Since.__init__" k7 f62)
  (zel:FnL K "lets" "Since.lets" tN f63)
  (zem:FnL K "__init__" "Until.__init__" kS f64)
  (zen:FnL K "lets" "Until.lets" tM f65)
  (zeo:K.lookup f66=some ⟨zbk,zbh,.func (W.fnOf "__init__" "Beat.__init__" (d6 fH) (dG fH) (aG fH) (.ref zbq) zbl zbm zbn zbi zbo zbp),zbj⟩)
  (zep:W.codeIn K zbo "Beat.__init__" =true)
  (zeq:W.keepIn K (.ref f66)=true)
  (zer:K.lookup zbq=some ⟨zbs,zbt,.seq #[.int 0 zbr] zbu,zbv⟩)
  (zes:FnL K "lets" "Beat.lets" vG f67)
  (zet:FnL K "__init__" "Marked.__init__" jV f68)
  (zeu:FnL K "lets" "Marked.lets" qB f69)
  (zev:FnL K "__init__" "Told.__init__" mP f70)
  (zew:FnL K "lets" "Told.lets" vE f71)
  (zex:FnL K "__init__" "Shut.__init__" mB f72)
  (zey:FnL K "lets" "Shut.lets" vC f73)
  (zez:FnL K "__init__" "Wider.__init__" kX f74)
  (zfa:FnL K "lets" "Wider.lets" tF f75)
  (zfb:K.lookup f76=some ⟨zbz,zbw,.func (W.fnOf "__init__" "House.__init__" (d6 eY) (dG eY) (aG eY) (.ref zcf) zca zcb zcc zbx zcd zce),zby⟩)
  (zfc:W.codeIn K zcd "House.__init__" =true)
  (zfd:W.keepIn K (.ref f76)=true)
  (zfe:K.lookup zcf=some ⟨zch,zci,.seq #[.int 0 zcg] zcj,zck⟩)
  (zff:FnL K "rooms" "House.rooms" qG f77)
  (zfg:FnL K "doors" "House.doors" qC f78)
  (zfh:FnL K "need_room" "House.need_room" jS f79)
  (zfi:FnL K "holds" "House.holds" qD f80)
  (zfj:FnL K "found" "House.found" qA f81)
  (zfk:FnL K "door" "House.door" sW f82)
  (zfl:FnL K "lets" "House.lets" sG f83)
  (zfm:FnL K "total" "House.total" qI f84)
  (zfn:DCls K C31)
  (zfo:DCls K C32)
  (zfp:DCls K C33)
  (zfq:DCls K C34)
  (zfr:DCls K C35)
  (zfs:DCls K C36)
  (zft:DCls K C37)
  (zfu:DCls K C38)
  (zfv:DCls K C39)
  (zfw:DCls K C40)
  (zfx:DCls K C41)
  (zfy:W.specialIn K (.ref C33) "__getattribute__" =some (some (.builtin "type.__getattribute__")))
  (zfz:W.readsIn K C33 (.type "type")=true)
  (zga:W.findCls K (.ref C33) (.type "type") "__init__" =some (.val (.ref f59)))
  (zgb:W.nsIn K bh "sorted" =some none)
  (zgc:W.nsIn K bh "sum" =some none)
  (zgd:W.nsIn K bh "any" =some none)
  (zge:W.nsIn K bh "range" =some none)
  (zgf:W.nsIn K bh "len" =some none)
  (zgg:W.nsIn K bh "min" =some none)
  (zgh:W.nsIn K bh "isinstance" =some none)
  (zgi:W.nsIn K bh "int" =some none)
  (zgj:W.nsIn K bh "str" =some none)
  (zgk:W.nsIn K bh "all" =some none)
  (zgl:W.nsIn K bh "dict" =some none)
  (zgm:W.nsIn K bh "list" =some none)
  (zgn:W.nsIn K bh "bool" =some none)
  (zgo:W.nsIn K bh "LONGEST_NAME" =some (some (.int 8 zcl))) :
  ∃(fd:gv) (f2:Addr) (fd2:gv),mg "_law_door" =some (.ref f2)/\(∃oc od osl,K.lookup f2=some ⟨oc,od,.func fd2,osl⟩)/\(∀(s:bb) (v:ah),BindsTo s fd ⟨[v],[]⟩ [("_law_script",v)])/\∀(zgp:Heap) (cL PL:Addr),fd2.code= .ref cL->W.CodeHd zgp cL PL->zgp.BuiltinsAt mg PL->FnOk l.prog w K mg zgp CX0 20 fa fd ["_law_script"] (z8 K PL):=by
 have e:=hfa.symm.trans (W.mg_of X G y30);cases e;exact⟨(W.fnOf "law" "law" (d6 uR) (dG uR) (aG uR) .none zan zao zap zak zaq zar),f20,(W.fnOf "_law_door" "_law_door" (d6 eS) (dG eS) (aG eS) .none zae zaf zag zab zah zai),W.mg_of X G y20,⟨_,_,_,zcy⟩,λs v=> .of_eq rfl,λzgp cL PL h1 h2 h3=>aEL ⟨f0,y92.x1 λ_ _ _ _ _ _ _=>rfl,
  f1,y93.x1 λ_ _ _ _ _ _ _=>rfl,
  f2,y94.x1 λ_ _ _ _ _ _ _=>rfl,
  f3,y95.x1 λ_ _ _ _ _ _ _=>rfl,
  f4,y96.x2 λ_ _ _ _ _ _ _ _=>rfl,
  f5,y97.x1 λ_ _ _ _ _ _ _=>rfl,
  f6,y98.x1 λ_ _ _ _ _ _ _=>rfl,
  f7,y99.x2 λ_ _ _ _ _ _ _ _=>rfl,
  f8,zcm.x3 λ_ _ _ _ _ _ _ _ _=>rfl,
  f9,zcn.x2 λ_ _ _ _ _ _ _ _=>rfl,
  f10,zco.x1 λ_ _ _ _ _ _ _=>rfl,
  f11,zcp.x2 λ_ _ _ _ _ _ _ _=>rfl,
  f12,zcq.x2 λ_ _ _ _ _ _ _ _=>rfl,
  f13,zcr.x2 λ_ _ _ _ _ _ _ _=>rfl,
  f14,zcs.x2 λ_ _ _ _ _ _ _ _=>rfl,
  f15,zct.x2 λ_ _ _ _ _ _ _ _=>rfl,
  f16,zcu.x2 λ_ _ _ _ _ _ _ _=>rfl,
  f17,zcv.x2 λ_ _ _ _ _ _ _ _=>rfl,
  f18,zcw.x1 λ_ _ _ _ _ _ _=>rfl,
  f19,zcx.x4 λ_ _ _ _ _ _ _ _ _ _=>rfl,
  f20,_,r6 zcy zcz zda,(.all (by rintro us h;obtain _|⟨_,_|⟨_,us⟩⟩:=us<;>first|(cases h;done)|rfl)),
  f21,zdb.x2 λ_ _ _ _ _ _ _ _=>rfl,
  f22,zdc.x1 λ_ _ _ _ _ _ _=>rfl,
  f23,zdd.x4 λ_ _ _ _ _ _ _ _ _ _=>rfl,
  f24,zde.x1 λ_ _ _ _ _ _ _=>rfl,
  f25,zdf.x1 λ_ _ _ _ _ _ _=>rfl,
  f26,zdg.x3 λ_ _ _ _ _ _ _ _ _=>rfl,
  f27,zdh.x3 λ_ _ _ _ _ _ _ _ _=>rfl,
  f28,zdi.x4 λ_ _ _ _ _ _ _ _ _ _=>rfl,
  f29,zdj.x2 λ_ _ _ _ _ _ _ _=>rfl,
  fa,_,r6 zdk zdl zdm,(.all (by rintro us h;obtain _|⟨_,_|⟨_,us⟩⟩:=us<;>first|(cases h;done)|rfl)),
  f42,zdn.x1 λ_ _ _ _ _ _ _=>rfl,
  f43,zdo.x1 λ_ _ _ _ _ _ _=>rfl,
  f44,zdp.x4 λ_ _ _ _ _ _ _ _ _ _=>rfl,
  f45,zdq.x2 λ_ _ _ _ _ _ _ _=>rfl,
  f46,zdr.x2 λ_ _ _ _ _ _ _ _=>rfl,
  f47,zds.x3 λ_ _ _ _ _ _ _ _ _=>rfl,
  f48,zdt.x2 λ_ _ _ _ _ _ _ _=>rfl,
  f49,zdu.x3 λ_ _ _ _ _ _ _ _ _=>rfl,
  f50,zdv.x2 λ_ _ _ _ _ _ _ _=>rfl,
  f51,zdw.x2 λ_ _ _ _ _ _ _ _=>rfl,
  f52,zdx.x3 λ_ _ _ _ _ _ _ _ _=>rfl,
  f53,zdy.x1 λ_ _ _ _ _ _ _=>rfl,
  f54,zdz.x1 λ_ _ _ _ _ _ _=>rfl,
  f55,zea.x1 λ_ _ _ _ _ _ _=>rfl,
  f56,zeb.x1 λ_ _ _ _ _ _ _=>rfl,
  f57,zec.x1 λ_ _ _ _ _ _ _=>rfl,
  f58,zed.x1 λ_ _ _ _ _ _ _=>rfl,
  f59,_,r6 zee zef zeg,(oM (ds:=[]) 5 zeh (by rintro us h;obtain _|⟨_,_|⟨_,_|⟨_,_|⟨_,_|⟨_,_|⟨_,us⟩⟩⟩⟩⟩⟩:=us<;>first|(cases h;done)|exact⟨_,rfl,rfl⟩)),
  f60,zei.x2 λ_ _ _ _ _ _ _ _=>rfl,
  f61,zej.x1 λ_ _ _ _ _ _ _=>rfl,
  f62,zek.x6 λ_ _ _ _ _ _ _ _ _ _ _ _=>rfl,
  f63,zel.x2 λ_ _ _ _ _ _ _ _=>rfl,
  f64,zem.x6 λ_ _ _ _ _ _ _ _ _ _ _ _=>rfl,
  f65,zen.x2 λ_ _ _ _ _ _ _ _=>rfl,
  f66,_,r6 zeo zep zeq,(oM (ds:=[]) 7 zer (by rintro us h;obtain _|⟨_,_|⟨_,_|⟨_,_|⟨_,_|⟨_,_|⟨_,_|⟨_,_|⟨_,us⟩⟩⟩⟩⟩⟩⟩⟩:=us<;>first|(cases h;done)|exact⟨_,rfl,rfl⟩)),
  f67,zes.x2 λ_ _ _ _ _ _ _ _=>rfl,
  f68,zet.x6 λ_ _ _ _ _ _ _ _ _ _ _ _=>rfl,
  f69,zeu.x2 λ_ _ _ _ _ _ _ _=>rfl,
  f70,zev.x5 λ_ _ _ _ _ _ _ _ _ _ _=>rfl,
  f71,zew.x2 λ_ _ _ _ _ _ _ _=>rfl,
  f72,zex.x3 λ_ _ _ _ _ _ _ _ _=>rfl,
  f73,zey.x2 λ_ _ _ _ _ _ _ _=>rfl,
  f74,zez.x4 λ_ _ _ _ _ _ _ _ _ _=>rfl,
  f75,zfa.x2 λ_ _ _ _ _ _ _ _=>rfl,
  f76,_,r6 zfb zfc zfd,(oM (ds:=[]) 6 zfe (by rintro us h;obtain _|⟨_,_|⟨_,_|⟨_,_|⟨_,_|⟨_,_|⟨_,_|⟨_,us⟩⟩⟩⟩⟩⟩⟩:=us<;>first|(cases h;done)|exact⟨_,rfl,rfl⟩)),
  f77,zff.x1 λ_ _ _ _ _ _ _=>rfl,
  f78,zfg.x1 λ_ _ _ _ _ _ _=>rfl,
  f79,zfh.x2 λ_ _ _ _ _ _ _ _=>rfl,
  f80,zfi.x2 λ_ _ _ _ _ _ _ _=>rfl,
  f81,zfj.x2 λ_ _ _ _ _ _ _ _=>rfl,
  f82,zfk.x2 λ_ _ _ _ _ _ _ _=>rfl,
  f83,zfl.x3 λ_ _ _ _ _ _ _ _ _=>rfl,
  f84,zfm.x1 λ_ _ _ _ _ _ _=>rfl,
  W.mg_of X G y0,
  W.mg_of X G y1,
  W.mg_of X G y2,
  W.mg_of X G y3,
  W.mg_of X G y4,
  W.mg_of X G y5,
  W.mg_of X G y6,
  W.mg_of X G y7,
  W.mg_of X G y8,
  W.mg_of X G y9,
  W.mg_of X G y10,
  W.mg_of X G y11,
  W.mg_of X G y12,
  W.mg_of X G y13,
  W.mg_of X G y14,
  W.mg_of X G y15,
  W.mg_of X G y16,
  W.mg_of X G y17,
  W.mg_of X G y18,
  W.mg_of X G y19,
  W.mg_of X G y20,
  W.mg_of X G y21,
  W.mg_of X G y22,
  W.mg_of X G y23,
  W.mg_of X G y24,
  W.mg_of X G y25,
  W.mg_of X G y26,
  W.mg_of X G y27,
  W.mg_of X G y28,
  W.mg_of X G y29,
  W.mg_of X G y30,
  ⟨[.int 1 zbc],.cons ⟨_,rfl⟩ (.nil),oM 4 zeh (by rintro us h;obtain _|⟨_,_|⟨_,_|⟨_,_|⟨_,_|⟨_,us⟩⟩⟩⟩⟩:=us<;>first|(cases h;done)|exact⟨_,rfl,rfl⟩)⟩,
  ⟨[.none,.int 1 zbc],.cons rfl (.cons ⟨_,rfl⟩ (.nil)),oM 3 zeh (by rintro us h;obtain _|⟨_,_|⟨_,_|⟨_,_|⟨_,us⟩⟩⟩⟩:=us<;>first|(cases h;done)|exact⟨_,rfl,rfl⟩)⟩,
  ⟨[.int 0 zbr],.cons ⟨_,rfl⟩ (.nil),oM 6 zer (by rintro us h;obtain _|⟨_,_|⟨_,_|⟨_,_|⟨_,_|⟨_,_|⟨_,_|⟨_,us⟩⟩⟩⟩⟩⟩⟩:=us<;>first|(cases h;done)|exact⟨_,rfl,rfl⟩)⟩,
  ⟨[.int 0 zcg],.cons ⟨_,rfl⟩ (.nil),oM 5 zfe (by rintro us h;obtain _|⟨_,_|⟨_,_|⟨_,_|⟨_,_|⟨_,_|⟨_,us⟩⟩⟩⟩⟩⟩:=us<;>first|(cases h;done)|exact⟨_,rfl,rfl⟩)⟩,
  C31,W.mg_of X G y31,
  C32,W.mg_of X G y32,
  C33,W.mg_of X G y33,
  C34,W.mg_of X G y34,
  C35,W.mg_of X G y35,
  C36,W.mg_of X G y36,
  C37,W.mg_of X G y37,
  C38,W.mg_of X G y38,
  C39,W.mg_of X G y39,
  C40,W.mg_of X G y40,
  C41,W.mg_of X G y41,
  zfn,
  y42,
  y53,
  y54,
  y55,
  y56,
  y57,
  y58,
  y59,
  zfo,
  y43,
  y60,
  y61,
  y62,
  y63,
  y64,
  y65,
  y66,
  y67,
  zfp,
  y44,
  y68,
  y69,
  zfq,
  y45,
  y70,
  y71,
  zfr,
  y46,
  y72,
  y73,
  zfs,
  y47,
  y74,
  y75,
  zft,
  y48,
  y76,
  y77,
  zfu,
  y49,
  y78,
  y79,
  zfv,
  y50,
  y80,
  y81,
  zfw,
  y51,
  y82,
  y83,
  zfx,
  y52,
  y84,
  y85,
  y86,
  y87,
  y88,
  y89,
  y90,
  y91,
  ⟨zfy,zfz,zga⟩,
  W.mg_none_of X G zgb,
  W.mg_none_of X G zgc,
  W.mg_none_of X G zgd,
  W.mg_none_of X G zge,
  W.mg_none_of X G zgf,
  W.mg_none_of X G zgg,
  W.mg_none_of X G zgh,
  W.mg_none_of X G zgi,
  W.mg_none_of X G zgj,
  W.mg_none_of X G zgk,
  W.mg_none_of X G zgl,
  W.mg_none_of X G zgm,
  W.mg_none_of X G zgn,
  ⟨zcl,W.mg_of X G zgo⟩⟩ h1 h2 h3⟩
theorem walk{l:W.OpenLaw}{q:fh}{loose:List Str}{XP:(Str->Option ah)->Heap->Prop}{YP:gh->Heap->Prop}{d d2:DefRec}{K:Params->W.Frag}(hn:l.most=some 63)(hdf:d.params.defaults=[])(hrec:d2∈PyProof.Rows.recsOf q)(hd2:d2.name= "_law_door")(hnt:∀w:gh,W.noTabs (K w.params)=true)
  (hY:∀(w:gh) (h:Heap),YP w h->(K w.params).In h)
  (F:∀(w:gh) (mg:Str->Option ah) (fa:Addr) (h:Heap),(K w.params).In h->h.Ns bh mg->mg d.name=some (.ref fa) →
   ∃(fd:gv) (f2:Addr) (fd2:gv),mg "_law_door" =some (.ref f2)/\(∃oc od osl,(K w.params).lookup f2=some ⟨oc,od,.func fd2,osl⟩)/\(∀(s:bb) (u:ah),BindsTo s fd ⟨[u],[]⟩ [("_law_script",u)])/\∀(zgp:Heap) (cL PL:Addr),fd2.code= .ref cL->W.CodeHd zgp cL PL->zgp.BuiltinsAt mg PL->FnOk l.prog w (K w.params) mg zgp CX0 20 fa fd ["_law_script"] (z8 (K w.params) PL)) :
  W.WalkO q loose XP YP l.row.toRowW d [] (λf vs=>PySem.call f vs) :=
 L2.walk_ofT2 (d2:=d2) (n:=63) (k:=20) (x:= "_law_script") (CX:=λ_=>CX0) (sp:=λw PL=>z8 (K w.params) PL) hn (by decide) hdf ⟨rfl,by decide,by decide⟩ hrec hnt hY (λw mg fa h a b c=>by rw[hd2];exact F w mg fa h a b c) (λ_ _ _ a ns hl hS hP=>⟨a,ns,rfl,hS,hl,hP,λ_=>rfl⟩) λ_ _ _ _ _ z=>z
end Prf
open PySem.W PyProof.Rows
set_option maxRecDepth 100000 in
set_option maxHeartbeats 0 in
theorem PySem.Challenge.cw_firstout_k82_whole_more_never_hurts_holds : PySem.Challenge.rw_firstout_k82_whole_more_never_hurts.Holds := by
 refine Hd ?_
 k_fill
 refine Prf.walk (l:=PySem.Challenge.rw_firstout_k82_whole_more_never_hurts) rfl rfl (se (p:=λe=>e.name==("_law_door" :Str)) rfl) rfl (λw=>by kernel_rfl) (λw h Y=>W.km_in_of Y) ?F
 case F =>
  intro w mg fa h KX G hmg;refine' Prf.all_mk KX G hmg ?_ ?_ ?_ ?_ ?_ ?_ ?_ ?_ ?_ ?_ ?_ ?_ ?_ ?_ ?_ ?_ ?_ ?_ ?_ ?_ ?_ ?_ ?_ ?_ ?_ ?_ ?_ ?_ ?_ ?_ ?_ ?_ ?_ ?_ ?_ ?_ ?_ ?_ ?_ ?_ ?_ ?_ ?_ ?_ ?_ ?_ ?_ ?_ ?_ ?_ ?_ ?_ ?_ ?_ ?_ ?_ ?_ ?_ ?_ ?_ ?_ ?_ ?_ ?_ ?_ ?_ ?_ ?_ ?_ ?_ ?_ ?_ ?_ ?_ ?_ ?_ ?_ ?_ ?_ ?_ ?_ ?_ ?_ ?_ ?_ ?_ ?_ ?_ ?_ ?_ ?_ ?_ ?_ ?_ ?_ ?_ ?_ ?_ ?_ ?_ ?_ ?_ ?_ ?_ ?_ ?_ ?_ ?_ ?_ ?_ ?_ ?_ ?_ ?_ ?_ ?_ ?_ ?_ ?_ ?_ ?_ ?_ ?_ ?_ ?_ ?_ ?_ ?_ ?_ ?_ ?_ ?_ ?_ ?_ ?_ ?_ ?_ ?_ ?_ ?_ ?_ ?_ ?_ ?_ ?_ ?_ ?_ ?_ ?_ ?_ ?_ ?_ ?_ ?_ ?_ ?_ ?_ ?_ ?_ ?_ ?_ ?_ ?_ ?_ ?_ ?_ ?_ ?_ ?_ ?_ ?_ ?_ ?_ ?_ ?_ ?_ ?_ ?_ ?_ ?_ ?_ ?_ ?_ ?_ ?_ ?_ ?_ ?_ ?_ ?_ ?_ ?_ ?_ ?_ ?_ ?_ ?_ ?_ ?_ ?_ ?_ ?_ ?_ ?_ ?_ ?_ ?_
  any_goals first|k_is|(apply L2.FnL.mk<;>k_is)|exact L2.FnL.mk (by k_is) (by k_is) (by k_is)|(apply L2.Meth.mk<;>k_is)|(apply L2.Mk.mk<;>k_is)|(refine' Prf.DCls.mk (L2.ICls.mk (L2.Cls.mk ?_ ?_ ?_ ?_) ?_ ?_ ?_ ?_) ?_<;>first|k_is|kernel_rfl)|fail
