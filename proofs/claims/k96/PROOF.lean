import PyProof.Rows.All
import Wide.All
import OpenK.AllK
import Wide.FinOn
import Lean
import PySem.Challenge.RW_backindex_k96_whole_two_desks
open List renaming length->Qa,getD_eq_getElem?_getD->Qc,getElem?_eq_getElem->Qd,getElem?_eq_some_iff->Qh,range->Qi,getElem?_map->Qm,getElem?_append_right->Qt,getElem?_append_left->Qx,replicate->Qy,mem_range->QA,countP_cons->QB,mem_of_getElem?->QD,take_length->QE,not_mem_nil->QF,toArray->QI,take_succ_cons->QJ,take_append_drop->QK,take_of_length_le->QL,getElem_mem->QN,lookup_cons->QP,cons_lt_cons_iff->QS,pairwise_cons->QU,take_succ->QZ,not_lt->Q1,range_succ->Q4,drop_eq_getElem_cons->Q7,countP_eq_zero->Q8,mem_of_mem_take->Uc,take_zero->Ue,mem_map->Uf,flatten_cons->Ug,find?_cons->Uj,pairwise_iff_getElem->Ul,getElem?_eq_none->Uo,getElem?_drop->Uq,mem_of_mem_drop->Uu,forIn_cons->Uw,getElem?_range->Ux,filterMap_cons->Uy,drop_eq_nil_of_le->UA,drop_length->UE,drop_zero->UF,countP_append->UG,head_eq_of_cons_eq->UM,ext_getElem->UN,drop_drop->UO,nodup_cons->UR,countP_map->US,sum_cons->UT,getElem?_reverse->UU,filterMap_append->UV,take_sublist->UW,getElem_take->UX,range'->UZ,pairwise_append->U0,getElem?_set_ne->U5,getElem?_take_of_lt->U7,mem_filterMap->U8,getElem?_cons_succ->U9,pairwise_map->Vd,drop_sublist->Ve,perm_append_comm->Vi,getElem?_toArray->Vj,getElem_map->Vk,mem_iff_getElem->Vm,lookup->Vn,mem_filter->Vo,lt_irrefl->Vp,isPrefixOf_iff_prefix->Vq,getElem_range->Vr,getElem?_take->Vs,getElem_drop->Vt,ext_getElem?->Vu,any_cons->Vw,getElem?_replicate->Vy,range_succ_eq_map->Vz,count_cons->VD,mem_iff_getElem?->VG,eq_nil_or_concat->VH,countP_le_length->VI,concat_eq_append->VJ,getElem?_of_mem->VM,takeWhile_cons->VQ,filter_sublist->VR,countP_pos_iff->VS,reverse_cons->VX,zipIdx_cons->V2,mem_reverse->V3,take_append_of_le_length->V7,eq_nil_of_length_eq_zero->V8,takeWhile_append_of_pos->Wb,of_mem_zip->Wc,idxOf_lt_length_of_mem->We,take_take->Wg,takeWhile_cons_of_pos->Wh,nodup_iff_pairwise_ne->Wi,length_eraseIdx_of_lt->Wj,forIn_nil->Wl,foldl->Wm,mem_of_find?_eq_some->Wr,getElem?_zip_eq_some->Ws,length_filterMap_le->Wt,length_erase_of_mem->Wu,pairwise_singleton->Wx,countP_cons_of_pos->Wy,countP_cons_of_neg->Wz,append_cancel_left->WA,getElem?_set_self->WC,isPrefixOf_cons₂->WI,set->WN,reverse_reverse->WO,mem_erase_of_ne->WP,getLast?_concat->WQ,reverse_append->WT,lt_of_le_of_lt->WU,length_flatten->WV,flatten_append->WW,drop_succ_cons->WX,filter_append->W4,mem_range'_1->W7,range'_succ->jd,nil_lt_cons->je,le_antisymm->jf,getElem_inj->jg,filter_cons->jh,any_eq_true->ji,zipIdx_nil->jl,length_zip->jm,foldl_cons->jn,take_left->jq,range_add->jr,map->js,drop_take->jt,drop_left->ju,take_add->jx,lt_trans->jy,all_cons->jz,filter->jH,Nodup->jJ,length_map->jO,length_append->jR,length_cons->jV,length_singleton->jW,length_take->jZ,mem_append_right->j0,mem_singleton->j5,size_toArray->j7,mem_cons_of_mem->ua,mem_cons_self->ub,length_drop->uf,map_append->uh,mem_cons->ui,map_cons->uo,append_assoc->uq,mem_append->ut,replicate_succ->uw,length_nil->uC,length_range->uF,map_congr_left->uM,cons_append->uN,length_reverse->uV,map_singleton->uZ,map_map->u6,nil_append->u9,mem_append_left->vh,length_eq_zero_iff->vw,append_nil->vx,length_replicate->vE,length_pos_iff->vU,replicate_zero->Qal,set_cons_zero->Qar,set_cons_succ->Qas,map_nil->QaR,map_reverse->Qbe
open PySem.W renaming Frag->Qb,kas_item->VW,OpenLaw->VY,kas_range->WM,WalkO->W9,kas_item->u8,mg_none_of->vb,mg_of->vc,findIn->vi,keepIn->vB,nsIn->vG,emptyDict->v7,codeIn->Qan,callWith_K->Qao,kia_one->Qaq,fnOf->Qat,plainGet->QaI,kas_ask->QaS,instObj->QaT,hasDictIn->QaU,kla_obj->Qa3,excIn->Qa4,plainOver->Qa7,hideAll->Qbj,tabObj->Qbp,mroIn->Qbr,codeHdIn->Qbv
open PySem.Str renaming ofString->Qe,empty->VO,length->VV,join->WS,append->jK
open PySem.Heap renaming get?_push_of_some->Qf,get?_push_size->Ql,lt_size->Qn,get?_update_self->Q9,size_push->Uh,get?_update_other->UB,FlyingW->VA,HeldW->W6,MadeExcOf->jv,ExtBut->jI
open Nat renaming le_refl->Qg,zero_le->Qo,lt_of_lt_of_le->Qp,ne_of_lt->Qu,le_trans->QC,lt_irrefl->QT,ne_of_gt->QY,min_eq_left->Q5,le_add_right->Q6,le_of_lt->Ua,sub_self->Ui,lt_or_ge->Ur,add_zero->Us,lt_of_le_of_lt->UH,min_eq_right->U6,le_succ->Vb,add_sub_cancel_left->Vc,sub_zero->Vg,lt_succ_self->Vl,lt_succ_of_lt->Vv,zero_add->VC,not_lt_zero->VF,lt_trichotomy->VZ,le_of_eq->V0,add_comm->V1,le_of_not_lt->V6,add_assoc->Ww,mul_zero->WE,min_self->WF,lt_trans->WG,le_of_succ_le_succ->WH,le_succ_of_le->jc,succ_le_succ->jk,toDigits->jF,mul_succ->jG,mod_lt->jL
open Int renaming toNat_natCast->Qj,emod_lt_of_pos->QM,emod_nonneg->QR,zero_add->WJ,toNat_of_nonneg->W5
open Bool renaming false_ne_true->Qk,and_eq_true->QW,false_eq_true->QX,not_eq_true'->Q3,or_eq_true->Uk,eq_iff_iff->UL,not_false->Vf,not_true->Vx,and_false->VN,or_false->Wv,or_eq_false_iff->WR,not_eq_false->W8,true_and->jA,or_true->jE
open Array renaming length_toList->Qq,getElem?_eq_getElem->QO,getD_eq_getD_getElem?->QV,getElem?_toList->Um,getElem?_eq_none->Uz,size_push->VB,forIn_toList->VT,append_assoc->VU,getElem?_setIfInBounds->V9,getElem?_eq_some_iff->Wf,toList->WB,mem_toList_iff->WK,ext_getElem?->WY
open Option renaming map_eq_some_iff->Qv,bind_eq_some_iff->Ub,isSome_map->Va,map->VP,getD_none->WZ,bind_some->W3,toList->jj,none->jw
open PySem.Value renaming ref->Qw,none->QG,isStrOf->Ud,type->UY,str->Vh,int->VL,bool->Wd,float->WD,isStrOf_shape->WL,builtin->jo,isStr->jB,isInt->jC,bytes->jD
open PySem.F renaming plainAttrs_str->Qz,plainAttrs_list->Ut,type_str_join->UC,slot_str_join->UD,type_list_append->UJ,slot_list_append->UK,type_str_split->UP,slot_str_split->UQ,type_str_partition->V4,slot_str_partition->V5,type_str_strip->Wn,type_str_count->Wo,slot_str_strip->Wp,slot_str_count->Wq
open PyProof.Rows.KeyOrd renaming kle_trans->QH,kle_refl->Uv,kle_of_klt->UI
open PySem renaming wpAny_bind->jM,wpAny_pure->jN,Addr->jP,Shared->jQ,wpAny->jS,sizeLine_eq->jT,mainGlobals->jX,Program->j8,starEach->uc,model->ud,foldedSetIterable->ue,World->uj,wpAny_callSpecial?_slot->uk,wpAny_call_entry->ur,Around->uv,bootBuiltins->ux,assignEach->uz,wpAny_holding->uA,wpAny_setField_rec->uB,compareOp->uD,wpAny_mono->uE,wpAny_attempt->uG,wpAny_field->uH,Expr->uI,wpAny_Call_Name_kw->uJ,builtinsNs->uK,rawInt->uL,builtinLookup_eq_fast->uO,codeAny_builtin->uQ,codeAny_mono->uR,wpAny_newObj_type->uS,wpAny_seqItems->uT,pyNext->uU,typeIs_str->uW,wpAny_askSetting->uX,FuncData->uY,wpAny_setState_of->u5,isSubtype_type->u7,wpAny_rule->vf,typeLookup_type->vg,wpAny_setEntries_of->vj,plainId_quiet->vn,wpAny_specialOf->vy,binaryOp->vA,call_meets->vC,wpAny_isInstance->vD,wpAny_passesOwn->vF,SetTable->vH,compEnvC->vI,Model->vJ,IsZip->vK,wpAny_call->vL,sysModules->vM,wpAny_of_eq->vN,strIterType->vO,pickOrder->vP,PassesOwn->vQ,wpAny_typeOf->vR,wpAny_truthy_bool->vS,wpAny_fieldsOf->vT,wpAny_pyIter_zip->vX,typeLookup->vY,swapsWith->vZ,scanBound->v0,backTo->v8,codeAny->Qaa,attributeBase->Qab,sliceBounds->Qac,keywordEach->Qad,holding->Qag,inplaceOp->Qai,wpAny_newTuple->Qaj,setsByText->Qak,bindArgs->Qap,behindInMarks->Qau,ZipApart->Qaw,revObj->Qax,assign->Qay,wpAny_execs_nil->Qaz,letOwnedTupleGo->QaA,wpAny_updateSeq_pair->QaC,wpAny_runValue->QaD,wpAny_letGo->QaE,slotArgs->QaF,relayAll->QaG,pyIter->QaH,isSubtype_stop->QaK,firstArgMember->QaL,entryFor_alias->QaM,entryFor->QaN,codeAny_extend_loopS->QaO,backToKw->QaP,NameKind->QaQ,collect->QaV,BindsTo->QaW,wpAny_onRaise->QaX,wpAny_newList->QaY,tupleKind_room_in1->QaZ,Params->Qa0,wpAny_pyIter_slot->Qa1,relabel->Qa2,callerA->Qa5,GenState->Qa6,getMethod->Qa8,fromIndex->Qa9,entryFor_of_tree->Qba,argsOk->Qbb,subscripted->Qbc,Draws->Qbf,wpAny_updateSeq->Qbh,standAt->Qbi,getItem->Qbk,Keyword->Qbl,ItemsOf->Qbm,wpAny_setField->Qbn,wpAny_load->Qbo,setField->Qbq,field->Qbt,evalEach->Qbu,Result->Qbw,wpAny_letOwnedTupleGo_zip->Qbx
open PyProof.Rows renaming wpS_bind->jU,wpS_pure->jY,SortSt->j9,wpS_forRange->uP,wpS_mono->u0,seqObj->vd,envOfC->ve,SortKind->vm,Keyed->vo,pendingOf->vq,KeyOrd->vV,wpS_modify->vW,listUpdate_at->v9,get?_update_seq->Qae,wpS_get->Qaf,AllBare->Qah,failedOf->Qam,wpS_lift->Qav,arrOf->QaB,oneType'->QaJ,seqEpoch_at->Qbd,Call_->Qbg,keyKind'->Qbs
set_option Elab.async false
set_option linter.all false
set_option maxRecDepth 100000
set_option maxHeartbeats 4000000
noncomputable section
open List (append_assoc append_nil cons_append length_append length_cons length_drop length_eq_zero_iff length_map length_nil length_pos_iff length_range length_replicate length_reverse length_singleton length_take map_append map_congr_left map_cons map_map map_nil map_reverse map_singleton map_take mem_append mem_append_left mem_append_right mem_cons mem_cons_of_mem mem_cons_self mem_singleton nil_append replicate_succ replicate_zero set_cons_succ set_cons_zero size_toArray)
open PySem.W (CodeHd InstAt binds_K callWith_K callWith_K0 cellsFrom_some clsIn codeHdIn codeHd_of_K codeIn emptyDict excIn findIn fnOf handedIn hasDictIn hideAll hideAll_get instObj isFn kas_ask kas_kind kat_snds keepIn kia_one kitOne kitx_list kla_fn kla_obj lookIn makesIn methodCall_KW methodObj mg_none_of mg_of mroIn nsIn of_hideAll plainGet plainGet_of plainOver recIn tabObj takerIn typeIn)
structure PySem.W.Fast:Prop where
 (tw4002698402003144926 tw9561035730914288122 tw10420435230868920865 tw5567139674713997512 tw16624834004666997552 tw10694094743451060587 tw10513036956447990040 tw4495356018134100892 tw16958868901536455146 tw9238184845456620641 tw4497593104249179899 tw3571301738991649903 tw12936509668776432373 tw388967186469507515 tw13847653426279013227 tw7750381971406524755 tw2406418343105907130 tw13627878869996072419 tw15010427862489116881 tw11556354933169530980 tw8663965761855296273 tw10417054318602766884 tw1863788232594941368 tw1807541299518536262 tw599698357726841990 tw16545042908188221052 tw11272436093118268313 tw11809770631637697599 tw13011435716497778609 tw18126491389867691737 tw8960690736430990748 tw9029940970821238236 tw10399646225610054143 tw3183437719277729017 tw17689552859997041491 tw14576560222633360148 tw1134477744325643997 tw10296900969480556567 tw4575017502963270849 tw13805930034869599266 tw10018689751445057176 tw12485196585408966029 tw15349543208062042153 tw16030380507212495547 tw3410137911003249513 tw379338551007670786 tw12610037675187274222 tw288199323873801742 tw6228590024323764151 tw16294119486214437030 tw16690860056337850824 tw13885928907209630042 tw12264430091416767764 tw2079512108786593160 tw13404173540882145229 tw12134704198394083468 tw1006123084549611557 tw7527515122463908976 tw8799215587992514881 tw16481421659207318022:True)
 (tw6969630582736778515 tw10954500138956327422 tw4603961923957032477 tw3858346678576259645 tw12242055998438430531 tw7244069874935432976 tw9505208253248744456 tw12979892662500377904 tw12903225111196772744 tw15766552487291243581 tw15300045236205983866 tw9213463650046400749 tw762842678724892361 tw3808701397553861861 tw4943387640438566913 tw6182413688221361363 tw9624252438935114450 tw6561255259422364603 tw10944143262635671767 tw11600913411413079764 tw9824127922624659355 tw12141076937110430039 tw8523782047539656273 tw11702547028370245362 tw17029396098572050028 tw13398322486239492027 tw7710056347607676560 tw10088551412031815151 tw6133819772541902587 tw18177333633848083025 tw513078290389362674 tw11119321522431420349 tw5907720018826396061 tw12589833375073000456 tw54422612614308207 tw14712860023769654741 tw2124635155177466645 tw9408044501902075150 tw14514574694281933667 tw4131280841342710300 tw11053590363540205579 tw9180886864469551813 tw3448265152894708636 tw13215375999481432587 tw5089501238261932115 tw15461794153771831785 tw14202729620552073433 tw12286197404651069732 tw8113317679188664862 tw15511725279311606898 tw15094070446382742556 tw14408263383304667246 tw14123476958144395628 tw4790362856679886419 tw15332284553119226430 tw14372326583703697107 tw746421607680982681 tw15402615681283844616 tw12364480004732682104 tw16893324917134778823:True)
 (tw9826907377849679794 tw18088508966240673735 tw14399682689219816302 tw12261589492042876686 tw1570658078778534055 tw2159301962500119379 tw15324267361269912641 tw17689535683892537953 tw5150678513963236871 tw8264552557790712309 tw11640079731030161688 tw14328385104348780661 tw3527610259190050075 tw8231169316069148202 tw17355681028607753296 tw260242778364557089 tw14049518693295589720 tw14432833297989563874 tw841029977694479915 tw10198334511016482138 tw13089480590220965856 tw15484385175714576578 tw15444644406023225982 tw771590865768306324 tw13355014496450232092 tw1081013779097411116 tw7496465562565903329 tw8494742405309178376 tw14023586241455194439 tw18340980699086969804 tw1093540760100385567 tw15823480397204163019 tw4030564863692374852 tw10998196830031730108 tw9307462700923694025 tw17190397667353991217 tw9630726488591972198 tw14380223903738004248 tw1372183899724350845 tw1789575490083880350 tw13245830633071128924 tw17980210059858771637 tw10098301707590959229 tw16703227272681597116 tw10640696366070144716 tw7121505971418923213 tw14528495064121136685 tw7620258757936408087 tw13580528027070505720 tw13904267344682877411 tw9419456170141381283 tw14131827004264741300 tw447551982006301395 tw13929961112290842917 tw11428175418833110605 tw9001559830628572265 tw4238360172116505871 tw11809898603167520240 tw14121124624466789939 tw11631945417053347900:True)
 (tw14997473718684811565 tw316498861602000588 tw15806707871524583159 tw14053443915486585061 tw3022452299354637878 tw2479109235123749860 tw15998522205683987761 tw6916029683420205329 tw7860478769706824577 tw973958137821988273 tw14734289482903956096 tw13359881360068760663 tw10017141860411502450 tw5937948803346083996 tw16614428092638922449 tw6617580806840055349 tw2747349996167005834 tw7977994705822175778 tw6203089729156447309 tw9811757785877506265 tw5002438722372890300 tw14318465675869828512 tw10864271722169437082 tw5432315841183103673 tw5217336673701782134 tw4923242080439764713 tw6297083124347563439 tw7610219768927066651 tw8927828801713847819 tw5315774339340832066 tw2582043123487250432 tw16961977436135820588 tw12277093137826004299 tw5541415564166750193 tw5267693864290727643 tw4300769091188869732 tw8438532798538409778 tw10474774437166099293 tw12216242548349262518 tw13342976454137871518 tw10543442343599731071 tw11980339392871065736 tw16098866408842963714 tw5216452578176922725 tw4064258042525569512 tw1973769003903959479 tw1981707741488205399 tw13333079380274421827 tw11901878967260351769 tw157470376232403668 tw18064046047668547831 tw9154302090499293651 tw5737525797817515418 tw4559806507364565936 tw5539650036679701836 tw988852542216899605 tw14533404438797499133 tw16186269007510280365 tw3792702290111487728 tw3482571058819712008:True)
 (tw11115751915425078748 tw7359673671581475196 tw4508826476732960957 tw12662375466347965963 tw10979569931134544925 tw9916279917834066463 tw12711178764625261500 tw16018768218837786703 tw10081101790742468481 tw12153453743436203884 tw13166305759069288332 tw2745991450073554892 tw11889831027320343925 tw1504468429427906584 tw1152126909954244112 tw2008484836309818194 tw16009153704897136781 tw1993843081010417974 tw8474604271303343492 tw8867546095434957613 tw7080026781848676179 tw7493517399946974724 tw10991698504226243589 tw9904577417658830461 tw13123637395815061 tw3041108849469685340 tw1027949389443544799 tw15683821421968494516 tw3773949186784119395 tw10922554989402397591 tw2976652167014054729 tw1904630394061276282 tw8809207004222861427 tw5612239380842926088 tw8088789009375095818 tw13145549195149463775 tw4882683212956255753 tw14111939618210838560 tw15772604176795900668 tw17045331692803004729 tw3016350638224456986 tw4441776320266899060 tw4831575845650669708 tw16232267048132426978 tw8813192740181488008 tw6585186401595966966 tw12479717629702282091 tw12399663925825337574 tw15547633821515710250 tw5520918370548350252 tw739440972628098009 tw1911268014370037966 tw10789116428680910717 tw1163769360490274056 tw2275147227176623547 tw4127167556277837997 tw2246162190027707449 tw10119540280415043263 tw8790003332248982746 tw16126243687204739092:True)
 (tw7619868487100056965 tw11434225492491899582 tw6804373656667017282 tw9694918210956165093 tw4535209792302576846 tw7038038359773160673 tw6970001836093043345 tw5797175000383014196 tw10115804199601703293 tw16177262763611900665 tw4747920246480836911 tw9553648395031197570 tw3862450138959414035 tw14938070433050307039 tw10278914348724559787 tw13336471415724546160 tw15444437279139240268 tw12868834381031020704 tw7537728817957965812 tw14981372523680468464 tw16210996894733119337 tw13271509906170184200 tw3041184690055468072 tw18300176296182660881 tw487692849727992421 tw18171793385819792036 tw2848402742656521101 tw1082938246340095520 tw12218034683428724104 tw4157963979703818795 tw3824346369509095876 tw6729082141842762826 tw13530547505395598282 tw10782204661002283491 tw12396200724344997795 tw7793528208725185489 tw4815952453381611235 tw893635211754149675 tw5380220615487034097 tw11712723756118026568 tw11417425639508875460 tw6396661976469954508 tw10747842953900224627 tw6421363708294776655 tw16685487372700407794 tw12207348824882552137 tw10084353503065039332 tw5182820020428962140 tw12551587957907008852 tw1792872526417174763 tw17995738467501659374 tw12823235834362018419 tw7811032711392084103 tw1835082819324522333 tw959724839084101793 tw6334484606698757718 tw3818819677297341322 tw8436270568003075658 tw2102533112363238666 tw17888918828912416739:True)
 (tw8569926541727082886 tw3919016825627204553 tw1852859634033196949 tw16660153728833408295 tw8726448065885384168 tw3147120090679222549 tw1493631518757919584 tw14349817983263037829 tw6685729540539090800 tw5943488581404190994 tw3210709000911192721 tw17475954247600529140 tw16579663112751578984 tw14246895681892693320 tw13176099086529237557 tw11606075432194332821 tw5076632755735050790 tw4597088460357590179 tw1188596753662472786 tw11569076451162823910 tw9604607037751423328 tw3691796580147074972 tw1798435483463514905 tw17705496790241259235 tw10988594890527123330 tw2103112441920879585 tw17239588273178016461 tw14655958131007152339 tw13684068300550403438 tw11937289213069802312 tw3079095349131688079 tw14855907193413371702 tw5271552872673081957 tw15222823238249488941 tw233692108261226463 tw6981092089451690975 tw16276833150419816270 tw16809257741817748201 tw3074983258346713953 tw4357658060501716462 tw13938439946337199498 tw8431867721125296261 tw16036256145155784962 tw10853301598894026618 tw14594220178604655202 tw15221652198263956186:True)
noncomputable section
set_option compiler.extract_closed false
set_option bootstrap.genMatcherCode false
set_option hygiene false
section
open Option renaming some->Qr,none->Qs
local macro_rules|`(($a,$b,*))=>`(⟨$a,$b,*⟩)|`(tactic|show $a)=>`(tactic|refine $a)
local macro_rules| `(tactic|rfl')=> `(tactic|decide +kernel)| `(tactic|ac_nf)=> `(tactic|(first|show Or.inl rfl|show Or.inr rfl))| `(tactic|lia)=> `(tactic|first|lia -verbose|omega)
set_option hygiene false
local macro_rules|`(⋯)=>`(by lia)|`(∅)=>`(by decide)
theorem ZI{G:Prop}{p q:Prop}(h:p/\q)(f:p->q->G):G:=f h.1 h.2
theorem ZL{G:Prop}{p q r:Prop}(h:p/\q/\r)(f:p->q->r->G):G:=ZI h.2 (f h.1)
theorem za{G:Prop}{p q r s:Prop}(h:p/\q/\r/\s)(f:p->q->r->s->G):G:=ZL h.2 (f h.1)
theorem qN{G:Prop}{p q r s t:Prop}(h:p/\q/\r/\s/\t)(f:p->q->r->s->t->G):G:=za h.2 (f h.1)
theorem ZO{G:Prop}{p q r s t u:Prop}(h:p/\q/\r/\s/\t/\u)(f:p->q->r->s->t->u->G):G:=qN h.2 (f h.1)
theorem zI{G:Prop}{p:α->Prop}(h:∃a,p a)(f:∀a,p a->G):G:=h.elim f
theorem Zf{G:Prop}{p q:α->Prop}(h:∃a,p a/\q a)(f:∀a,p a->q a->G):G:=h.elim λa h=>ZI h (f a)
theorem Zz{G:Prop}{p q r:α->Prop}(h:∃a,p a/\q a/\r a)(f:∀a,p a->q a->r a->G):G:=h.elim λa h=>ZL h (f a)
theorem zh{G:Prop}{p q r s:α->Prop}(h:∃a,p a/\q a/\r a/\s a)(f:∀a,p a->q a->r a->s a->G):G:=h.elim λa h=>za h (f a)
theorem JN{G:Prop}{p q r s t:α->Prop}(h:∃a,p a/\q a/\r a/\s a/\t a)(f:∀a,p a->q a->r a->s a->t a->G):G:=h.elim λa h=>qN h (f a)
theorem zQ{G:Prop}{p:α->β->Prop}(h:∃a b,p a b)(f:∀a b,p a b->G):G:=h.elim λa h=>zI h (f a)
theorem ZS{G:Prop}{p q:α->β->Prop}(h:∃a b,p a b/\q a b)(f:∀a b,p a b->q a b->G):G:=h.elim λa h=>Zf h (f a)
theorem Zy{G:Prop}{p q r:α->β->Prop}(h:∃a b,p a b/\q a b/\r a b)(f:∀a b,p a b->q a b->r a b->G):G:=h.elim λa h=>Zz h (f a)
theorem ze{G:Prop}{p q r s:α->β->Prop}(h:∃a b,p a b/\q a b/\r a b/\s a b)(f:∀a b,p a b->q a b->r a b->s a b->G):G:=h.elim λa h=>zh h (f a)
theorem cC{G:Prop}{p q r s t:α->β->Prop}(h:∃a b,p a b/\q a b/\r a b/\s a b/\t a b)(f:∀a b,p a b->q a b->r a b->s a b->t a b->G):G:=h.elim λa h=>JN h (f a)
theorem ZH{G:Prop}{p:α->β->γ->Prop}(h:∃a b c,p a b c)(f:∀a b c,p a b c->G):G:=h.elim λa h=>zQ h (f a)
theorem Jo{G:Prop}{p q:α->β->γ->Prop}(h:∃a b c,p a b c/\q a b c)(f:∀a b c,p a b c->q a b c->G):G:=h.elim λa h=>ZS h (f a)
theorem Z6{G:Prop}{p q r:α->β->γ->Prop}(h:∃a b c,p a b c/\q a b c/\r a b c)(f:∀a b c,p a b c->q a b c->r a b c->G):G:=h.elim λa h=>Zy h (f a)
theorem cD{G:Prop}{p q r s:α->β->γ->Prop}(h:∃a b c,p a b c/\q a b c/\r a b c/\s a b c)(f:∀a b c,p a b c->q a b c->r a b c->s a b c->G):G:=h.elim λa h=>ze h (f a)
theorem kN{G:Prop}{p q r s t:α->β->γ->Prop}(h:∃a b c,p a b c/\q a b c/\r a b c/\s a b c/\t a b c)(f:∀a b c,p a b c->q a b c->r a b c->s a b c->t a b c->G):G:=h.elim λa h=>cC h (f a)
abbrev z9:=PySem.Str->Option PySem.Value
abbrev Zg:=List Nat
abbrev ZT:=List PySem.Str
abbrev ZY:=List PySem.Value
abbrev ZW:=PySem.Value->PySem.Shared->Prop
abbrev zN:=List (PySem.Addr×PySem.Obj)
abbrev J2:=List (Nat×Nat)
abbrev fB:=List (Nat×Nat×Nat)
theorem Zo{c:Prop}{h:Decidable c}(n:¬c){α:Sort u}{t e:α}:ite c t e=e:=if_neg n
theorem Zx{c:Prop}{h:Decidable c}(n:c){α:Sort u}{t e:α}:ite c t e=t:=if_pos n
theorem ZD{a b:Prop}(x:a)(y:¬a):b:=absurd x y
namespace L2
def ZF:Lean.Syntax:=Lean.Unhygienic.run `(Lean.Parser.Tactic.tacticSeq|rfl)
def z8:Lean.Syntax:=Lean.Unhygienic.run `(Lean.Parser.Tactic.tacticSeq|decide)
def qK:Lean.Syntax:=Lean.Unhygienic.run `(Lean.Parser.Tactic.tacticSeq|intro _;rfl)
def gw:Lean.Syntax:=Lean.Unhygienic.run `(Lean.Parser.Tactic.tacticSeq|rfl')
def Cc:Lean.Syntax:=Lean.Unhygienic.run `(Lean.Parser.Tactic.tacticSeq|first|show trivial|show((rfl,rfl,rfl),trivial)|show((rfl,rfl,rfl),(rfl,rfl,rfl),trivial)|show((rfl,rfl,rfl),(rfl,rfl,rfl),(rfl,rfl,rfl),trivial))
def Ce:Lean.Syntax:=Lean.Unhygienic.run `(Lean.Parser.Tactic.tacticSeq|show λ_ _ _ _=>qai 0 (by change jJ (_++js _ _);rfl') rfl (Or.inl rfl) (Or.inr rfl))
def Gz:Lean.Syntax:=Lean.Unhygienic.run `(Lean.Parser.Tactic.tacticSeq|first|show .inl rfl|show .inr rfl|assumption)
def GA:Lean.Syntax:=Lean.Unhygienic.run `(Lean.Parser.Tactic.tacticSeq|intro _ _ _ _ H;(repeat(first|show aR_all H λ_ _ H=>?_|show aS_all H λ_ _ H=>?_|show aI_all H λ_ _ H=>?_|show aB_all H λ_ _ H=>?_));show a0_all H λ_=>rfl)
def GB:Lean.Syntax:=Lean.Unhygienic.run `(Lean.Parser.Tactic.tacticSeq|first|show Or.inl rfl|show Or.inr (Or.inl rfl)|show Or.inr (Or.inr rfl))
def NK:Lean.Syntax:=Lean.Unhygienic.run `(Lean.Parser.Tactic.tacticSeq|show λ_ _ _ _=>qai 1 (by change jJ (_++js _ _);rfl') rfl (Or.inl rfl) (Or.inr rfl))
def Oo:Lean.Syntax:=Lean.Unhygienic.run `(Lean.Parser.Tactic.tacticSeq|ac_nf)
def Oq:Lean.Syntax:=Lean.Unhygienic.run `(Lean.Parser.Tactic.tacticSeq|first|show nomark _|with_unfolding_all rfl)
def Ot:Lean.Syntax:=Lean.Unhygienic.run `(Lean.Parser.Tactic.tacticSeq|show λ_ _=>rfl)
open PySem PySem.Spec PyProof.Rows
abbrev Key:=Sum Int Str
noncomputable def pH:Key->Value->Bool
 | .inl k,v=>jC k v
 | .inr x,v=>Ud x v
noncomputable def Zaq(w:uj):Key->Int
 | .inl k=>hashInt k
 | .inr x=>hashStr w x
theorem Y1:∀{k:Key} {v:Value},pH k v=true->(∃i t,k=Sum.inl i/\v=VL i t)\/(∃x t,k=Sum.inr x/\v=Vh x t)
 | .inl i,v,h=>by obtain⟨t,e⟩:=Value.isInt_shape (k:=i) (v:=v) h;show .inl (i,t,rfl,e)
 | .inr x,v,h=>by obtain⟨t,e⟩:=WL (x:=x) (v:=v) h;show .inr (x,t,rfl,e)
theorem Fw(i:Int)(t:Tok):pH (.inl i) (.int i t)=true:=by simp[pH,jC]
theorem Fx(x:Str)(t:Tok):pH (.inr x) (.str x t)=true:=by simp[pH,Ud]
theorem Px(a b:Int):decide ((Sum.inl a:Key)=Sum.inl b)=(a==b):=by by_cases e:a=b;subst e;simp;have h:¬(Sum.inl a:Key)=Sum.inl b:=λq=>e (Sum.inl.inj q);rw[decide_eq_false h];show(beq_eq_false_iff_ne.mpr e).symm
theorem PB(a b:Str):decide ((Sum.inr a:Key)=Sum.inr b)=decide (a=b):=by by_cases e:a=b;subst e;simp;have h:¬(Sum.inr a:Key)=Sum.inr b:=λq=>e (Sum.inr.inj q);rw[decide_eq_false h,decide_eq_false e]
theorem Py(a:Int)(b:Str):decide ((Sum.inl a:Key)=Sum.inr b)=false:=decide_eq_false (λq=>nomatch q)
theorem Pz(a:Str)(b:Int):decide ((Sum.inr a:Key)=Sum.inl b)=false:=decide_eq_false (λq=>nomatch q)
noncomputable def YK(prog:j8)(w:uj):PySem.KeyKind prog w Key where
 is:=pH
 hash:=Zaq w
 inj:=λv a b I S=>by
  rcases Y1 I with⟨i,t,rfl,rfl⟩|⟨x,t,rfl,rfl⟩
  .rcases Y1 S with⟨j,u,rfl,e⟩|⟨y,u,rfl,e⟩
   .injection e with E _;rw[E]
   .show nomatch e
  .rcases Y1 S with⟨j,u,rfl,e⟩|⟨y,u,rfl,e⟩
   .show nomatch e
   .injection e with E _;rw[E]
 byValue:=λk v h=>by rcases Y1 h with⟨i,t,rfl,rfl⟩|⟨x,t,rfl,rfl⟩<;>rfl
 pyHash:=λH h=>by
  rcases Y1 H with⟨i,t,rfl,rfl⟩|⟨x,t,rfl,rfl⟩
  .show wpAny_pyHash_int h
  .show wpAny_pyHash_str h
 eqBool:=λB H h=>by
  rcases Y1 B with⟨i,t,rfl,rfl⟩|⟨x,t,rfl,rfl⟩
  .rcases Y1 H with⟨j,u,rfl,rfl⟩|⟨y,u,rfl,rfl⟩
   .rw[Px]at h;show wpAny_eqBool_int h
   .rw[Py]at h;show SeqAt.EqAt.int_str i t y u _ _ _ _ h
  .rcases Y1 H with⟨j,u,rfl,rfl⟩|⟨y,u,rfl,rfl⟩
   .rw[Pz]at h;show SeqAt.EqAt.str_int x t j u _ _ _ _ h
   .rw[PB]at h;show wpAny_eqBool_str h
 «strs»:=λk x t v h=>by
  rcases Y1 h with⟨i,u,rfl,e⟩|⟨y,u,rfl,e⟩
  .show nomatch e
  .injection e with E _;subst E;cases v<;>rfl
theorem Bt(prog:j8)(w:uj)(i:Int)(t:Tok):(YK prog w).is (.inl i) (.int i t)=true:=Fw i t
theorem Bu(prog:j8)(w:uj)(x:Str)(t:Tok):(YK prog w).is (.inr x) (.str x t)=true:=Fx x t
inductive V where
 |non|bl (b:Bool)|int (i:Int)|str (x:Str)|byt (b:Array UInt8)|flt (b:UInt64)|ref (a:jP)|ty (n:String)
 deriving DecidableEq
abbrev ZE:=List V
def zf:V->Value->Prop
 | .non,u=>u=QG
 | .bl b,u=>u=Wd b
 | .int i,u=>∃t,u=VL i t
 | .str x,u=>∃t,u=Vh x t
 | .byt b,u=>∃t,u=jD b t
 | .flt b,u=>∃t,u=WD b t
 | .ref a,u=>u=Qw a
 | .ty n,u=>u=UY n
abbrev ZQ:ZE->ZY->Prop:=Paired zf
theorem ZQ.length(r:ZQ xs us):Qa xs=Qa us:=Paired.length r
theorem ZQ.get:∀{d:ZE} {U:ZY} {i:Nat} {x:V},ZQ d U->d[i]?=Qr x->∃u,U[i]?=Qr u/\zf x u
 |_,_,_,_,.nil,e=>by simp at e
 |_,_,0,_,.cons r _,e=>by simp at e;subst e;show(_,rfl,r)
 |_,_,i+1,x,.cons _ t,e=>by obtain⟨u,H,I⟩:=ZQ.get (i:=i) (x:=x) t (by simpa using e);show(u,by simpa using H,I)
theorem ZQ.set(r:zf x u):∀{d:ZE} {U:ZY} (i:Nat),ZQ d U->ZQ (d.set i x) (U.set i u)
 |_,_,_,.nil=>.nil
 |_,_,0,.cons _ t=>.cons r t
 |_,_,i+1,.cons q t=>.cons q (ZQ.set r i t)
theorem ZQ.append:∀{x y:ZE} {u Z:ZY},ZQ x u->ZQ y Z->ZQ (x++y) (u++Z):=by intro x y u Z h s;induction h with|nil=>show s|cons r t I=>show .cons r I
theorem ZQ.take:∀{x:ZE} {u:ZY} (n:Nat),ZQ x u->ZQ (x.take n) (u.take n)
 |_,_,0,_=>.nil
 |_,_,_+1,.nil=>.nil
 |_,_,n+1,.cons r t=>.cons r (ZQ.take n t)
theorem ZQ.drop:∀{x:ZE} {u:ZY} (n:Nat),ZQ x u->ZQ (x.drop n) (u.drop n)
 |_,_,0,r=>r
 |_,_,_+1,.nil=>.nil
 |_,_,n+1,.cons _ t=>ZQ.drop n t
def iZ:Option V->Option Value->Prop
 |some v,Qr u=>zf v u
 |none,Qs=>True
 |_,_=>False
def KV{d:Type}:List (d×V)->List (d×Value)->Prop:=Paired λ(p:d×V) (q:d×Value)=>p.1=q.1/\zf p.2 q.2
noncomputable def kV:Key->V
 | .inl i=>.int i
 | .inr x=>.str x
inductive HO where
 |lst (xs:ZE)
 |tup (xs:ZE)
 |dK (kvs:List (Key×V))|dT (kvs:List (List Key×V))
 |set (S:Int->Bool) (n:Nat)
 |ins (C dx:jP) (fs:List (Str×V))
 |own (x:jP)
 |xd (fs:List (Str×V))
 |met (f x:jP)
 |rng (lo hi:Int)
 |frz (o:Obj) (u:HO)
 |tbl (ps:Array Value)
 |ext (φ:Heap->Prop)
abbrev Hp:=jP->Option HO
noncomputable def upd(H:Hp)(a:jP)(o:HO):Hp:=λb=>if b=a then Qr o else H b
theorem Zi:upd H a o a=Qr o:=by unfold upd;rw[Zx rfl]
theorem Zn(h:b≠a):upd H a o b=H b:=by unfold upd;rw[Zo h]
theorem nq:upd (upd H a o) a u=upd H a u:=by
 funext b;unfold upd;split<;>rfl
theorem ma{H:Hp}{a b:jP}{o u:HO}(h:H a=Qr o)(B:H b=Qr u)(d:o≠u):a≠b:=by intro e;subst e;rw[h]at B;show d (Option.some.inj B)
theorem Zm{H:Hp}{a b:jP}{o:HO}(h:H a=Qr o)(B:H b=Qs):a≠b:=by intro e;subst e;rw[h]at B;cases B
section
variable(P:j8)(w:uj)
def Yn(H:Hp)(h:Heap)(a:jP):HO->Prop
 | .lst d=>Qa d<=sizeLine/\∃(I:ZY) (n:Nat),ZQ d I/\h.get? a=Qr {cls:=.type "list",data:=.seq I.toArray n}
 | .tup d=>Qa d<=sizeLine/\∃I:ZY,ZQ d I/\IsTup h a I.toArray
 | .dK y=>Qa y<=sizeLine/\(a==vM)=false/\∃Y,KV y Y/\h.DictOf (YK P w) a Y
 | .dT _=>False
 | .set S n=>h.SetOf (intKind P w) a S n
 | .ins C D g=>H D=Qr (.own a)/\Qa g<=1000/\D≠a/\h.get? a=Qr (QaT C D)/\
  ∃m,h.Ns1 D m/\(∀f,iZ (g.lookup f) (m f))/\PySem.Within m (g.map (·.1))
 | .own _=>∃o,h.get? a=Qr o
 | .xd g=>∃m,h.Ns1 a m/\∀f,iZ (g.lookup f) (m f)
 | .rng lo p=>∃t u v,h.get? a=Qr {cls:=.type "range",data:=.fields #[.int lo t,.int p u,.int 1 v]}
 | .frz o u=>h.get? a=Qr o/\Yn H h a u
 | .tbl E=>h.get? a=Qr {cls:=.none,data:=.fields E}
 | .met f x=>h.get? a=Qr (methodObj (.ref f) (.ref x))
 | .ext M=>M h/\(∃o,h.get? a=Qr o)/\∀z J:Heap,M z->(∀o,z.get? a=Qr o->J.get? a=Qr o)->M J
def HOk(H:Hp)(h:Heap):Prop:=∀a o,H a=Qr o->Yn P w H h a o
end
section
theorem Yn.lt(x:Yn P w H h a o):a<h.objs.size:=by
 cases o with
 |lst d=>show ZI x λ_ z=>ZS z λ_ _ _ e=>Qn e
 |tup d=>show ZI x λ_ z=>Zf z λ_ _ p=>p.lt
 |dK B=>show ZL x λ_ _ z=>Zf z λ_ _ z=>Jo z λo _ _ e _=>Qn e
 |dT B=>show False.elim x
 |set S n=>show ZH x λo _ _ z=>Zf z λ_ e _=>Qn e
 |ins C D g=>show qN x λ_ _ _ e _=>Qn e
 |own y=>obtain⟨_,e⟩:=x;show Qn e
 |xd g=>obtain⟨_,⟨_,_,_,e,_⟩,_⟩:=x;show Qn e
 |rng lo m=>show ZH x λ_ _ _ e=>Qn e
 |frz O u=>obtain⟨e,_⟩:=x;show Qn e
 |tbl E=>show Qn (show h.get? a=Qr _ from x)
 |met f y=>show Qn (show h.get? a=Qr _ from x)
 |ext M=>obtain⟨_,⟨_,e⟩,_⟩:=x;show Qn e
theorem Yn.stay(x:Yn P w H h a o)(k:∀b u,(b=a\/H b=Qr (.own a))->h.get? b=Qr u->h'.get? b=Qr u)
 (R:∀b,H b=Qr (.own a)->H' b=Qr (.own a)) (ht:∀b g,H b=Qr (.tup g)->H' b=Qr (.tup g)):Yn P w H' h' a o:=by
 induction o with
 |lst g=>show ZI x λz Z=>ZS Z λI n r e=>(z,I,n,r,k _ _ (.inl rfl) e)
 |tup g=>show ZI x λz Z=>Zf Z λI r Z=>Zf Z λO e c=>(z,I,r,O,k _ _ (.inl rfl) e,c)
 |dK D=>show ZL x λz y Z=>Zf Z λY r Z=>Jo Z λO E B e c=>(z,y,Y,r,O,E,B,k _ _ (.inl rfl) e,c)
 |dT D=>show False.elim x
 |set S n=>show ZH x λO E B Z=>Zf Z λt e c=>(O,E,B,t,k _ _ (.inl rfl) e,c)
 |ins C dx j=>
  obtain⟨d,z,ne,e,m,⟨J,E,B,Q,c⟩,r⟩:=x;show(R _ d,z,ne,k _ _ (.inl rfl) e,m,(J,E,B,k _ _ (.inr d) Q,c),r)
 |own y=>obtain⟨O,e⟩:=x;show(O,k _ _ (.inl rfl) e)
 |xd j=>obtain⟨m,⟨J,E,B,e,c⟩,r⟩:=x;show(m,(J,E,B,k _ _ (.inl rfl) e,c),r)
 |rng lo hi=>show ZH x λt u v e=>(t,u,v,k _ _ (.inl rfl) e)
 |frz O u U=>obtain⟨e,q⟩:=x;show(k _ _ (.inl rfl) e,U q)
 |tbl M=>
  have e:h.get? a=Qr {cls:=.none,data:=.fields M}:=x;change h'.get? a=Qr {cls:=.none,data:=.fields M};show k a _ (.inl rfl) e
 |met f y=>
  have e:h.get? a=Qr (methodObj (.ref f) (.ref y)):=x;change h'.get? a=Qr (methodObj (.ref f) (.ref y));show k a _ (.inl rfl) e
 |ext φ=>obtain⟨p,⟨o,e⟩,st⟩:=x;show(st _ _ p λo q=>k _ _ (.inl rfl) q,(o,k _ _ (.inl rfl) e),st)
theorem HOk.lt(x:HOk P w H h)(e:H a=Qr o):a<h.objs.size:=(x a o e).lt
theorem HOk.fresh(x:HOk P w H h)(e:h.objs.size<=a):H a=none:=by
 cases q:H a with
 |none=>rfl
 |some u=>show ZD (Qp (x.lt q) e) (QT _)
theorem HOk.kept(x:HOk P w H h)(k:∀b u,h.get? b=Qr u->h'.get? b=Qr u):HOk P w H h':=λa o e=>
 (x a o e).stay (λb u _ q=>k b u q) (λ_ q=>q) λ_ _ q=>q
theorem HOk.laid(x:HOk P w H h)(k:∀b u,h.get? b=Qr u->h'.get? b=Qr u)(C:h.objs.size<=a)(new:Yn P w (upd H a o) h' a o):HOk P w (upd H a o) h':=λb u e=>by have j:=x.fresh C;by_cases S:b=a;subst S;rw[Zi]at e;cases e;show new;rw[Zn S]at e;show(x b u e).stay (λc v _ q=>k c v q) (λc q=>by rw[Zn (Zm q j)];show q) λc d q=>by rw[Zn (Zm q j)];show q
end
def Rd(H:Hp)(a:jP)(u:HO):Prop:=H a=Qr u\/∃o,H a=Qr (.frz o u)
theorem Rd.of(h:H a=Qr u):Rd H a u:=.inl h
theorem Rd.ok(r:Rd H a u)(x:HOk P w H h):Yn P w H h a u:=by rcases r with r|⟨o,r⟩;show x a u r;obtain⟨_,q⟩:=x a _ r;show q
def Mut:Option HO->Prop
 |some (.lst _)=>True
 |some (.dK _)=>True
 |some (.dT _)=>True
 |some (.set _ _)=>True
 |some (.ins _ _ _)=>True
 |some (.ext _)=>True
 |_=>False
section
theorem HOk.write(ok:HOk P w H h)(m:Mut (H x))(B:e=x\/H e=Qr (.own x))(k:∀b u,b≠e->h.get? b=Qr u->h'.get? b=Qr u)(M:∃u,h'.get? e=Qr u)
 (new:Yn P w (upd H x o') h' x o'):HOk P w (upd H x o') h':=λb u q=>by
 have t:∀c y,H c=Qr (.own y)->c≠x:=λc y r z=>by subst z;rw[r]at m;show m
 have I:∀c d,H c=Qr (.tup d)->c≠x:=λc d r z=>by subst z;rw[r]at m;show m
 by_cases S:b=x;subst S;rw[Zi]at q;cases q;show new;rw[Zn S]at q;by_cases U:b=e
 .have Q:H b=Qr (.own x):=by rcases B with z|z;show ZD (U.trans z) S;rw[U];show z
  rw[q]at Q;cases Q;obtain⟨v,O⟩:=M;show(v,by rw[U];show O)
 show(ok b u q).stay (λc v f r=>k c v ?_ r) (λc r=>by rw[Zn (t c b r)];show r) λc d r=>by rw[Zn (I c d r)];show r
 rcases f with rfl|f;show U;rintro rfl;rcases B with z|z;show t c b f z;rw[f]at z;cases z;show S rfl
end
structure Un(fs ex:List jP)(H H':Hp)(h h':Heap):Prop where
 keep:∀b o,h.get? b=Qr o->H b=Qs->b∉fs->b∉ex->h'.get? b=Qr o
 slot:∀b o,h.get? b=Qr o->H b=Qs->b∈fs->b∉ex->∃sl,h'.get? b=Qr {o with slots:=sl}
 free:∀b o,h.get? b=Qr o->H b=Qs->b∉ex->H' b=Qs
 there:∀b o,h.get? b=Qr o->b∉ex->∃o',h'.get? b=Qr o'
 tups:∀b xs,H b=Qr (.tup xs)->H' b=Qr (.tup xs)
 frzs:∀b o u,H b=Qr (.frz o u)->H' b=Qr (.frz o u)
 tbls:∀b ps,H b=Qr (.tbl ps)->∃more,H' b=Qr (.tbl (ps++more))
section
theorem Un.any(u:Un d ex H H1 h h1)(q:h.get? b=Qr ob)(n:H b=Qs)(f:b∉ex):∃v,h1.get? b=Qr {ob with slots:=v}:=by by_cases U:b∈d;show u.slot b ob q n U f;show(ob.slots,u.keep b ob q n U f)
theorem Un.trans(a:Un fs ex H H1 h h1)(b:Un fs ex H1 H2 h1 h2):Un fs ex H H2 h h2 where
 keep:=λc O q n d f=>b.keep c O (a.keep c O q n d f) (a.free c O q n f) d f
 slot:=λc O q n d f=>by obtain⟨v,E⟩:=a.slot c O q n d f;obtain⟨S,y⟩:=b.slot c _ E (a.free c O q n f) d f;show(S,y)
 free:=λc O q n f=>by obtain⟨Y,E⟩:=a.there c O q f;show b.free c Y E (a.free c O q n f) f
 there:=λc O q f=>by obtain⟨Y,E⟩:=a.there c O q f;show b.there c Y E f
 tups:=λc x q=>b.tups c x (a.tups c x q)
 frzs:=λc O x q=>b.frzs c O x (a.frzs c O x q)
 tbls:=λc p q=>by obtain⟨m,E⟩:=a.tbls c p q;obtain⟨M,y⟩:=b.tbls c _ E;show(m++M,by rw[y,VU])
theorem Un.kept(k:∀b u,h.get? b=Qr u->h'.get? b=Qr u):Un fs ex H H h h':=
 (λb O q _ _ _=>k b O q,λb O q _ _ _=>(O.slots,k b O q),λ_ _ _ n _=>n,λb O q _=>(O,k b O q),λ_ _ q=>q,λ_ _ _ q=>q,λ_ p q=>(#[],by rw[q];simp))
theorem Un.refl:Un fs ex H H h h:=Un.kept λ_ _ q=>q
theorem Un.laid(k:∀b u,h.get? b=Qr u->h'.get? b=Qr u)(C:h.objs.size<=a)(j:H a=Qs):Un fs ex H (upd H a o) h h' where
 keep:=λb u q _ _ _=>k b u q
 slot:=λb u q _ _ _=>(u.slots,k b u q)
 free:=λb u q n _=>by rw[Zn (Qu (Qp (Qn q) C))];show n
 there:=λb u q _=>(u,k b u q)
 tups:=λb x q=>by rw[Zn (Zm q j)];show q
 frzs:=λb u x q=>by rw[Zn (Zm q j)];show q
 tbls:=λb p q=>(#[],by rw[Zn (Zm q j),q];simp)
theorem Un.write(m:Mut (H x))(y:e=x\/H e=Qr (.own x))(k:∀b u,b≠e->h.get? b=Qr u->h'.get? b=Qr u)(M:∃u,h'.get? e=Qr u):Un fs ex H (upd H x o) h h':=by
 have f:∀b,H b=Qs->b≠x:=λb n z=>by subst z;rw[n]at m;show m
 have S:∀b,H b=Qs->b≠e:=λb n z=>by subst z;rcases y with r|r;show f b n r;rw[n]at r;cases r
 have Y:∀b u,H b=Qr u->¬Mut (Qr u)->b≠x:=λb u q t z=>by subst z;rw[q]at m;show t m
 show(λb u q n _ _=>k b u (S b n) q,λb u q n _ _=>(u.slots,k b u (S b n) q),λb u q n _=>by rw[Zn (f b n)];show n,λb u q _=>?_,
  λb d q=>by rw[Zn (Y b _ q λz=>z)];show q,λb u d q=>by rw[Zn (Y b _ q λz=>z)];show q,λb p q=>(#[],by rw[Zn (Y b _ q λz=>z),q];simp))
 by_cases U:b=e;subst U;show M;show(u,k b u U q)
end
noncomputable def trk(h:Heap)(H:Hp):List jP:=(Qi h.objs.size).filter λa=>(H a).isSome
noncomputable def wG(h:Heap)(H:Hp):Heap:=Qbj h (trk h H)
theorem Fs(h:Heap)(H:Hp):(wG h H).objs.size=h.objs.size:=PySem.W.hideAll_size _ _
theorem Iw(e:h.get? b=Qr o)(n:H b=Qs):(wG h H).get? b=Qr o:=
 hideAll_get _ e λY=>by have q:(H b).isSome=true:=(Vo.mp Y).2;rw[n]at q;simp at q
theorem MQ(e:(wG h H).get? b=Qr o):h.get? b=Qr o/\H b=none:=by
 have E:h.get? b=Qr o:=of_hideAll (trk h H) e;show(E,?_)
 cases q:H b with
 |none=>rfl
 |some x=>
  have Y:b∈trk h H:=Vo.mpr (QA.mpr (Qn E),by simp[q]);have z:(wG h H).get? b=none:=PySem.W.hideAll_none (trk h H) Y;rw[z]at e;cases e
noncomputable def L0(g h:Heap)(L:jP):zN:=(Qi h.objs.size).filterMap λa=>if a=L\/(g.get? a).isSome=true then Qs else(h.get? a).map λo=>(a,o)
noncomputable def JP(g h:Heap)(L d:jP):zN:=(L0 g h L).filter λp=>decide (p.1≠d)
structure Mod(K:Qb)(mg:z9)(base:Heap):Prop where
 kin:K.In base
 glob:base.Ns jX mg
 blt:∃mb,base.Ns uK mb/\∀x:Str,x≠"__name__"->mb x=ux x
 nolimit:base.NoLimit
structure Cx where
 prog:j8
 w:uj
 K:Qb
 mg:z9
 base:Heap
 A:uv
 N:ZT
 s₀:jQ
 H₀:Hp
 env:Env
 outer:List Env
 stack:List Env
 ex:List jP
 fn:Str->Bool
 calm:Bool
 pn:zN
 xe:Value->jQ->Prop
abbrev Z2(X:Cx):=ud X.prog X.w
noncomputable def frs(l:List Env):List jP:=l.filterMap (·.frame)
abbrev Cx.fs(X:Cx):List jP:=frs X.outer
def Vis(sc:Scope)(x:Str):Prop:=sc.names.lookup x=Qr .local\/sc.names.lookup x=Qr .cell\/sc.names.lookup x=Qr .free
def Loc(sc:Scope)(x:Str):Prop:=sc.names.lookup x=Qr .local\/sc.names.lookup x=Qr .cell
def Zad(env:Env)(h:Heap)(m:z9)(x:Str)(u:Value):Prop:=
 (env.kindOf x=Qr .local/\m x=Qr u)\/((env.kindOf x=Qr .cell\/env.kindOf x=Qr .free)/\∃c,env.cells.lookup x=Qr c/\h.IsCell c (Qr u))
structure Cx.Ok(X:Cx):Prop where
 mod:Mod X.K X.mg X.base
 kind:X.env.scope.kind=.function
 glob:X.env.globals=jX
 blt:X.env.builtins=uK
 above:X.s₀.heap.objs.size<=X.env.locals
 inj:∀x y c,X.env.cells.lookup x=Qr c->X.env.cells.lookup y=Qr c->x=y
 has:∀x,(X.env.kindOf x=Qr .cell\/X.env.kindOf x=Qr .free)->∃c,X.env.cells.lookup x=Qr c
 cab:∀x c,X.fn x=true->X.env.cells.lookup x=Qr c->X.s₀.heap.objs.size<=c
 hd:X.calm=true->X.A.handled=Qs
 frames:X.A.frames=Qr X.stack
 stk:X.stack=X.outer\/(X.stack=X.env::X.outer/\X.env.frame=Qr X.env.locals)
 exf:∀b∈X.ex,b≠X.env.locals/\∀x c,X.env.cells.lookup x=Qr c->c≠b
 bs:∀b o,X.base.get? b=Qr o->X.s₀.heap.get? b=Qr o/\X.H₀ b=Qs
 bsz:X.base.objs.size<=X.s₀.heap.objs.size
 noex:∀b o,X.base.get? b=Qr o->b∉X.ex
 exfs:∀b∈X.ex,b∉X.fs
 funs:X.s₀.heap.FunFrames X.base X.outer
 frf:∀b∈X.fs,X.H₀ b=Qs
structure Inv(X:Cx)(Zc:zN)(σ:List (Option V))(H:Hp)(s:jQ):Prop where
 ok:X.Ok
 os:s.os=X.s₀.os
 bare:Qah s.gens
 base:Un X.fs X.ex X.H₀ H X.s₀.heap s.heap
 loc:∃m,s.heap.Ns X.env.locals m/\∀(i:Nat) (x:Str) (v:V),X.N[i]?=Qr x->σ[i]?=Qr (Qr v)->Vis X.env.scope x->∃u,zf v u/\Zad X.env s.heap m x u
 cell:∀x c,X.env.cells.lookup x=Qr c->∃v,s.heap.IsCell c v
 free:H X.env.locals=Qs
 freeC:∀x c,X.env.cells.lookup x=Qr c->H c=Qs
 pin:∀p∈X.pn++Zc,s.heap.get? p.1=Qr p.2/\H p.1=Qs/\p.1≠X.env.locals/\p.1∉X.fs/\∀v,p.2.data≠ .cell v
 hok:HOk X.prog X.w H s.heap
 len:Qa σ=Qa X.N
section
variable{X:Cx}{Zc:zN}{σ:List (Option V)}{H H':Hp}{s:jQ}{h':Heap}
theorem Cx.Ok.nofr(ok:X.Ok)(e:X.base.get? b=Qr o):b∉X.fs:=λS=>by have:=(ok.funs.mem S).1;rw[e]at this;cases this
theorem Inv.bs(I:Inv X Zc σ H s):∀b o,X.base.get? b=Qr o->s.heap.get? b=Qr o/\H b=none:=λb o e=>
 (I.base.keep b o (I.ok.bs b o e).1 (I.ok.bs b o e).2 (I.ok.nofr e) (I.ok.noex b o e),I.base.free b o (I.ok.bs b o e).1 (I.ok.bs b o e).2 (I.ok.noex b o e))
theorem Inv.bk(I:Inv X Zc σ H s):∀b o,X.base.get? b=Qr o->s.heap.get? b=Qr o:=λb o e=>(I.bs b o e).1
theorem Inv.mod(I:Inv X Zc σ H s):Mod X.K X.mg X.base:=I.ok.mod
theorem Inv.kIn(I:Inv X Zc σ H s):X.K.In s.heap:=I.ok.mod.kin.keeps I.bk
theorem Inv.nolimit(I:Inv X Zc σ H s):s.heap.NoLimit:=I.ok.mod.nolimit.keeps I.bk
theorem Inv.lt(I:Inv X Zc σ H s):X.env.locals<s.heap.objs.size:=let (_,hn,_):=I.loc;hn.lt
theorem Inv.sz(I:Inv X Zc σ H s):X.s₀.heap.objs.size<=s.heap.objs.size:=QC I.ok.above (Ua I.lt)
theorem Inv.nofs(I:Inv X Zc σ H s)(h:s.heap.objs.size<=a):a∉X.fs:=λS=>by show ZI (I.ok.funs.mem S) λ_ z=>Zf z λo t _=>ZD (Qp (Qn t) (QC I.sz h)) (QT _)
theorem Inv.cne(I:Inv X Zc σ H s):∀x c,X.env.cells.lookup x=Qr c->c≠X.env.locals:=λx c e z=>by show ZS (I.cell x c e) λv o t hd=>?_;obtain⟨m,⟨O,E,u,f,Z,_⟩,_⟩:=I.loc;rw[z,f]at t;cases t;rw[Z]at hd;cases hd
theorem Inv.funs(I:Inv X Zc σ H s):s.heap.FunFrames X.base X.outer:=by
 have all:∀(l:List Env),(∀b∈frs l,b∈X.fs)->X.s₀.heap.FunFrames X.base l->s.heap.FunFrames X.base l:=by
  intro l
  induction l with
  |nil=>intro _ _;trivial
  |cons env r d=>
   intro g O;obtain⟨E,⟨L,o,J,j,t,hd⟩,Y⟩:=O;have M:L∈X.fs:=g L (by unfold frs;rw[Uy,J];show ub);obtain⟨v,e⟩:=I.base.slot L o t (I.ok.frf L M) M λz=>I.ok.exfs L z M;show(E,(L,_,J,j,e,hd),d (λb S=>g b (by unfold frs;rw[Uy,J];show ua _ S)) Y)
 show all X.outer (λ_ S=>S) I.ok.funs
theorem Inv.stack(I:Inv X Zc σ H s):s.heap.FunFrames X.base X.stack:=by
 rcases I.ok.stk with e|⟨e,J⟩;rw[e];show I.funs;rw[e];show Zf I.loc λm j _=>?_
 show .cons (by rw[I.ok.kind];decide) J j ?_ I.funs;show Heap.get?_none_of_le (QC I.ok.bsz I.ok.above)
theorem Inv.stkSub(I:Inv X Zc σ H s):∀b∈frs X.stack,b∈X.env.locals::X.fs:=λb S=>by rcases I.ok.stk with e|⟨e,J⟩;rw[e]at S;show ua _ S;rw[e]at S;unfold frs at S;rw[Uy,J]at S;show S
theorem Inv.stkFree(I:Inv X Zc σ H s):∀b∈frs X.stack,H b=none:=λb S=>by rcases ui.mp (I.stkSub b S)with e|S;rw[e];show I.free;show ZI (I.ok.funs.mem S) λ_ Z=>Zf Z λo t _=>I.base.free b o t (I.ok.frf b S) λz=>I.ok.exfs b z S
theorem Inv.step{g':Array Qa6}{t':Nat}{d':Drawn}{ch:List jP}(I:Inv X Zc σ H s)
 (g:∀b∈ch,(b∈X.ex\/X.s₀.heap.objs.size<=b)/\b≠X.env.locals/\(∀x c,X.env.cells.lookup x=Qr c->c≠b)/\∀p∈X.pn++Zc,p.1≠b)
 (keep:∀b o,b≠X.env.locals->b∉X.fs->b∉ch->s.heap.get? b=Qr o->H b=Qs->h'.get? b=Qr o)
 (slot:∀b o,b≠X.env.locals->b∈X.fs->b∉ch->s.heap.get? b=Qr o->H b=Qs->∃R,h'.get? b=Qr {o with slots:=R}) (free:∀b o,b∉ch->s.heap.get? b=Qr o->H b=Qs->H' b=Qs)
 (there:∀b o,b∉ch->s.heap.get? b=Qr o->∃O,h'.get? b=Qr O)
 (tups:∀b j,H b=Qr (.tup j)->H' b=Qr (.tup j)) (frzs:∀b o u,H b=Qr (.frz o u)->H' b=Qr (.frz o u)) (tbls:∀b Q,H b=Qr (.tbl Q)->∃M,H' b=Qr (.tbl (Q++M)))
 (ns:∀m,s.heap.Ns X.env.locals m->h'.Ns X.env.locals m) (hok:HOk X.prog X.w H' h') (hg:Qah g'):
 Inv X Zc σ H' {s with heap:=h',gens:=g',drawn:=d',toks:=t'}:=by
 have P:∀b o,X.s₀.heap.get? b=Qr o->b≠X.env.locals:=λb o e=>Qu (Qp (Qn e) I.ok.above);have J:∀b o,X.s₀.heap.get? b=Qr o->b∉X.ex->b∉ch:=λb o e f S=>by rcases(g b S).1 with z|z;show f z;show ZD (Qp (Qn e) z) (QT _)
 have C:∀x c,X.env.cells.lookup x=Qr c->∀v,s.heap.IsCell c v->h'.IsCell c v:=λx c e v D=>by
  show Zf D λo t hd=>?_;clear D;have y:c∉ch:=λz=>(g c z).2.2.1 x c e rfl;by_cases Z:c∈X.fs
  .obtain⟨R,q⟩:=slot c o (I.cne x c e) Z y t (I.freeC x c e);show(_,q,hd)
  show(o,keep c o (I.cne x c e) Z y t (I.freeC x c e),hd)
 show(I.ok,I.os,hg,(λb o e n S f=>?_,λb o e n S f=>?_,λb o e n f=>?_,λb o e f=>?_,λb j e=>tups b j (I.base.tups b j e),λb o j e=>frzs b o j (I.base.frzs b o j e),λb Q e=>?_),?_,λx c e=>?_,?_,λx c e=>?_,λp hp=>?_,hok,I.len);show keep b o (P b o e) S (J b o e f) (I.base.keep b o e n S f) (I.base.free b o e n f)
 .obtain⟨R,E⟩:=I.base.slot b o e n S f;obtain⟨Y,B⟩:=slot b _ (P b o e) S (J b o e f) E (I.base.free b o e n f);show(Y,B)
 .obtain⟨O,E⟩:=I.base.there b o e f;show free b O (J b o e f) E (I.base.free b o e n f)
 .obtain⟨O,E⟩:=I.base.there b o e f;show there b O (J b o e f) E
 .obtain⟨m1,E⟩:=I.base.tbls b Q e;obtain⟨m2,B⟩:=tbls b _ E;show(m1++m2,by rw[B,VU])
 .show Zf I.loc λm hn hl=>?_;show(m,ns m hn,λi x v E B e3=>?_);show Zf (hl i x v E B e3) λu r l=>?_;show(u,r,?_);rcases l with l|⟨k,c,e,z⟩;show .inl l;show .inr (k,c,e,C x c e _ z)
 .obtain⟨v,z⟩:=I.cell x c e;show(v,C x c e v z)
 .obtain⟨m,⟨o,_,_,t,_⟩,_⟩:=I.loc;show free _ o (λz=>(g _ z).2.1 rfl) t I.free
 show ZS (I.cell x c e) λv o t hd=>free c o (λz=>(g c z).2.2.1 x c e rfl) t (I.freeC x c e);show qN (I.pin p hp) λe n ne nf d=>?_;have y:p.1∉ch:=λz=>(g p.1 z).2.2.2 p hp rfl;show(keep p.1 p.2 ne nf y e n,free p.1 p.2 y e n,ne,nf,d)
theorem Inv.un{t':Nat}(I:Inv X Zc σ H s)(u:Un X.fs [] H H' s.heap h')(hok:HOk X.prog X.w H' h'):Inv X Zc σ H' {s with heap:=h',toks:=t'}:=by
 obtain⟨m,⟨o,Z,v,t,r⟩,_⟩:=id I.loc;obtain⟨x,J⟩:=u.any t I.free (by simp)
 show I.step (g':=s.gens) (d':=s.drawn) (ch:=[]) (λ_ z=>nomatch z) (λb o _ S _ e n=>u.keep b o e n S (by simp)) (λb o _ S _ e n=>u.slot b o e n S (by simp)) (λb o _ e n=>u.free b o e n (by simp)) (λb o _ e=>u.there b o e (by simp)) u.tups u.frzs u.tbls (λM Y=>by
  show Jo Y λO E g f p=>?_;clear Y;rw[t]at f;cases f;show(_,E,g,J,p)) hok I.bare
theorem Inv.call{g':Array Qa6}{t':Nat}{d':Drawn}{ch:List jP}(I:Inv X Zc σ H s)(u:Un (frs X.stack) ch H H' s.heap h')(hok:HOk X.prog X.w H' h')(Q:Qah g')
 (g:∀b∈ch,(b∈X.ex\/X.s₀.heap.objs.size<=b)/\b≠X.env.locals/\(∀x c,X.env.cells.lookup x=Qr c->c≠b)/\∀p∈X.pn++Zc,p.1≠b):
 Inv X Zc σ H' {s with heap:=h',gens:=g',drawn:=d',toks:=t'}:=by
 obtain⟨m,⟨o,Z,B,t,r⟩,_⟩:=id I.loc;obtain⟨C,J⟩:=u.any t I.free λz=>(g _ z).2.1 rfl
 show I.step (ch:=ch) g (λb o J S d e n=>u.keep b o e n (λz=>(ui.mp (I.stkSub b z)).elim J S) d) (λb o _ _ d e n=>u.any e n d) (λb o d e n=>u.free b o e n d) (λb o d e=>u.there b o e d) u.tups u.frzs u.tbls (λM Y=>by
  show Jo Y λO E j f y=>?_;clear Y;rw[t]at f;cases f;show(_,E,j,J,y)) hok Q
theorem Inv.turned{t':Nat}{it:jP}(I:Inv X Zc σ H s)(k:∀b o,b≠it->s.heap.get? b=Qr o->h'.get? b=Qr o)(j:H it=Qs)(J:it≠X.env.locals)
 (B:it∈X.ex\/X.s₀.heap.objs.size<=it) (M:∀x c,X.env.cells.lookup x=Qr c->c≠it) (Q:∀p∈X.pn++Zc,p.1≠it):Inv X Zc σ H {s with heap:=h',toks:=t'}:=by
 have y:∀b u,H b=Qr u->b≠it:=λb u e z=>by rw[z,j]at e;cases e
 show I.step (g':=s.gens) (d':=s.drawn) (ch:=[it]) (λb S=>?_) (λb o _ _ d e _=>k b o (λz=>d (by simp[z])) e) (λb o _ _ d e _=>(o.slots,k b o (λz=>d (by simp[z])) e)) (λ_ _ _ _ n=>n)
  (λb o d e=>(o,k b o (λz=>d (by simp[z])) e)) (λ_ _ e=>e) (λ_ _ _ e=>e) (λb P e=>(#[],by rw[e];simp)) (λm Y=>?_) (λb u e=>?_) I.bare
 .have e:b=it:=by simpa using S
  subst e;show(B,J,M,Q)
 show Jo Y λo E D C r=>(o,E,D,k _ o (Ne.symm J) C,r);show(I.hok b u e).stay (λc v d q=>k c v ?_ q) (λ_ q=>q) λ_ _ q=>q;rcases d with z|z;rw[z];show y b u e;show y c _ z
theorem Inv.tok(I:Inv X Zc σ H s)(t:Nat):Inv X Zc σ H {s with toks:=t}:=I.un (h':=s.heap) (t':=t) Un.refl I.hok
theorem Inv.kept(I:Inv X Zc σ H s)(k:∀b u,s.heap.get? b=Qr u->h'.get? b=Qr u):Inv X Zc σ H {s with heap:=h',toks:=t'}:=I.un (Un.kept k) (I.hok.kept k)
theorem Inv.laid(I:Inv X Zc σ H s)(k:∀b u,s.heap.get? b=Qr u->h'.get? b=Qr u)(C:s.heap.objs.size<=a)(new:Yn X.prog X.w (upd H a o) h' a o):
 Inv X Zc σ (upd H a o) {s with heap:=h',toks:=t'}:=I.un (Un.laid k C (I.hok.fresh C)) (I.hok.laid k C new)
theorem Inv.write(I:Inv X Zc σ H s)(m:Mut (H x))(y:e=x\/H e=Qr (.own x))(k:∀b u,b≠e->s.heap.get? b=Qr u->h'.get? b=Qr u)(M:∃u,h'.get? e=Qr u)
 (new:Yn X.prog X.w (upd H x o) h' x o):Inv X Zc σ (upd H x o) {s with heap:=h',toks:=p}:=I.un (Un.write m y k M) (I.hok.write m y k M new)
theorem Inv.weak(I:Inv X Zc σ H s)(O:Qa σ'=Qa σ)(w:∀(i:Nat) v,σ'[i]?=Qr (Qr v)->σ[i]?=Qr (Qr v)):Inv X Zc σ' H s:=
 (I.ok,I.os,I.bare,I.base,let (m,hn,hl'):=I.loc;(m,hn,λi x v E y J=>hl' i x v E (w i v y) J),I.cell,I.free,I.freeC,I.pin,I.hok,O.trans I.len)
theorem Inv.pins_of(I:Inv X Zc σ H s)(h:∀p∈P,s.heap.get? p.1=Qr p.2/\H p.1=Qs/\p.1≠X.env.locals/\p.1∉X.fs/\∀v,p.2.data≠ .cell v):Inv X P σ H s:=
 (I.ok,I.os,I.bare,I.base,I.loc,I.cell,I.free,I.freeC,λp C=>(ut.mp C).elim (λz=>I.pin p (vh _ z)) (h p),I.hok,I.len)
theorem Bw{N:ZT}(d:N.Nodup){i j:Nat}{x:Str}(a:N[i]?=Qr x)(b:N[j]?=Qr x):i=j:=by obtain⟨z,E⟩:=Qh.mp a;obtain⟨I,y⟩:=Qh.mp b;show(jg d).mp (E.trans y.symm)
theorem F8{M:vJ}{A:uv}{E:ZW}{i:Nat}{x:Str}{v:V}{u:Value}{Q:Unit->jQ->Prop}(I:Inv X Zc σ H s)(hN:X.N.Nodup)(Z:X.N[i]?=Qr x)(C:Loc X.env.scope x)(r:zf v u)
 (h:∀s',Inv X Zc (σ.set i (Qr v)) H s'->(∃a,Heap.SameBut a s.heap s'.heap/\(a=X.env.locals\/X.env.cells.lookup x=Qr a))->Q () s') (hf:autoParam (X.fn x=true\/X.env.scope.names.lookup x=Qr .local) Gz):jS M A (storeName X.env x u) Q E s:=by
 show Zf (id I.loc) λm hn hl=>?_;have a2:(X.env.scope.kind==.class || (X.env.scope.kind==.module && X.env.locals !=X.env.globals))=false:=by rw[I.ok.kind];rfl
 have P:i<Qa σ:=by rw[I.len];show(Qh.mp Z).1
 have U:=I.cne;have B:∀{a:jP} {h':Heap},(∃o,s.heap.get? a=Qr o/\H a=Qs)->Heap.SameBut a s.heap h'->HOk X.prog X.w H h':=λ{a h'} ha g b ob e=>by show Zf ha λ_ _ O=>?_;clear ha;show(I.hok b ob e).stay (λc w' f q=>(g.2 c ?_).trans q) (λ_ q=>q) λ_ _ q=>q;rintro rfl;rcases f with rfl|f;rw[O]at e;cases e;rw[O]at f;cases f
 rcases C with J|J
 .show wpAny_storeName_local J hn (λh' a6 g=>?_) a2;show Jo (id hn) λoL _ _ a7 _=>?_;show h _ (I.ok,I.os,I.bare,(λb o e n S C=>?_,λb o e n S C=>?_,I.base.free,λb o e C=>?_,I.base.tups,I.base.frzs,I.base.tbls),(_,a6,λj y v' t D e3=>?_),λy c e=>?_,I.free,I.freeC,λp hp=>?_,B (oL,a7,I.free) g,by simpa using I.len) (_,g,.inl rfl);show(g.2 b (Qu (Qp (Qn e) I.ok.above))).trans (I.base.keep b o e n S C)
  .obtain⟨sl,t⟩:=I.base.slot b o e n S C;show(sl,(g.2 b (Qu (Qp (Qn e) I.ok.above))).trans t)
  .obtain⟨o',t⟩:=I.base.there b o e C;show(o',(g.2 b (Qu (Qp (Qn e) I.ok.above))).trans t)
  .by_cases R:j=i
   .subst R;rw[Z]at t;cases t;rw[WC P]at D;cases D;show(u,r,.inl (J,by simp))
   rw[U5 (Ne.symm R)]at D;show Zf (hl j y v' t D e3) λu' r' q=>?_;show(u',r',?_);rcases q with⟨k,e⟩|⟨k,c,e,z⟩
   .show .inl (k,?_);have:y≠x:=λe=>R (Bw hN t (e▸Z));simp[this,e]
   show .inr (k,c,e,z.sameBut g (U y c e))
  .obtain⟨w',z⟩:=I.cell y c e;show(w',z.sameBut g (U y c e))
  show qN (I.pin p hp) λe n ne nf d=>((g.2 p.1 ne).trans e,n,ne,nf,d)
 have Y:X.fn x=true:=by rcases hf with z|z;show z;rw[z]at J;cases J
 obtain⟨c,f⟩:=I.ok.has x (.inl J);obtain⟨w',z⟩:=I.cell x c f;show wpAny_storeName_cell I.ok.kind J f z (λh' a1 g=>?_);show Zf (id z) λoc a4 a5=>?_;show h {s with heap:=h'} (I.ok,I.os,I.bare,(λb o e n S C=>?_,λb o e n S C=>?_,I.base.free,λb o e C=>?_,I.base.tups,I.base.frzs,I.base.tbls),(m,hn.sameBut g (Ne.symm (U x c f)),λj y v' t D e3=>?_),λy c' e=>?_,I.free,I.freeC,λp hp=>?_,B (oc,a4,I.freeC x c f) g,by simpa using I.len) (c,g,.inr f);show(g.2 b (Qu (Qp (Qn e) (I.ok.cab x c Y f)))).trans (I.base.keep b o e n S C)
 .obtain⟨sl,t⟩:=I.base.slot b o e n S C;show(sl,(g.2 b (Qu (Qp (Qn e) (I.ok.cab x c Y f)))).trans t)
 .obtain⟨o',t⟩:=I.base.there b o e C;show(o',(g.2 b (Qu (Qp (Qn e) (I.ok.cab x c Y f)))).trans t)
 .by_cases R:j=i
  .subst R;rw[Z]at t;cases t;rw[WC P]at D;cases D;show(u,r,.inr (.inl J,c,f,a1))
  rw[U5 (Ne.symm R)]at D;show Zf (hl j y v' t D e3) λu' r' q=>?_;show(u',r',?_);rcases q with q|⟨k,c',e,z'⟩;show .inl q;show .inr (k,c',e,z'.sameBut g ?_);rintro rfl;show R (Bw hN t (I.ok.inj _ _ _ e f▸Z))
 .by_cases a3:c'=c;subst a3;show(_,a1);obtain⟨w2,z2⟩:=I.cell y c' e;show(w2,z2.sameBut g a3)
 show qN (I.pin p hp) λe n ne nf d=>?_;show((g.2 p.1 ?_).trans e,n,ne,nf,d);intro q;rw[q,a4]at e;have q':oc=p.2:=Option.some.inj e;show d w' (by rw[<-q'];show a5)
theorem nh{E:ZW}{Q:Unit->jQ->Prop}(I:Inv X Zc σ H s)(d:X.N.Nodup)(m:X.N[i]?=Qr x)(f:Loc X.env.scope x)(r:zf v u)
 (h:∀S,Inv X Zc (σ.set i (Qr v)) H S->Q () S) (J:autoParam (X.fn x=true\/X.env.scope.names.lookup x=Qr .local) Gz):jS M A (storeName X.env x u) Q E s:=
 F8 I d m f r (λS O _=>h S O) J
theorem Inv.call'(I:Inv X Zc σ H s)(v:s'.os=s.os)(u:Un (frs X.stack) ch H H' s.heap s'.heap)(hok:HOk X.prog X.w H' s'.heap)(Q:Qah s'.gens)
 (d:∀b∈ch,(b∈X.ex\/X.s₀.heap.objs.size<=b)/\b≠X.env.locals/\(∀x c,X.env.cells.lookup x=Qr c->c≠b)/\∀p∈X.pn++Zc,p.1≠b):Inv X Zc σ H' s':=by
 obtain⟨h',g,D,t,O⟩:=s';have e:O=s.os:=v;subst e;show I.call (g':=g) (t':=t) (d':=D) u hok Q d
end
abbrev XK:=Value->Option jP->Hp->Prop
abbrev St:=List (Option V)
abbrev VK:=V->Hp->Prop
abbrev TE:=St->Hp->VK->Prop
abbrev TT:=St->Hp->(Bool->Hp->Prop)->Prop
abbrev TA:=St->Hp->(ZE->Hp->Prop)->Prop
structure iY where
 nx:St->Hp->Prop
 rt:VK
 bk:St->Hp->Prop:=λ_ _=>False
 ct:St->Hp->Prop:=λ_ _=>False
abbrev TS:=iY->St->Hp->Prop
def EP(X:Cx)(z:zN)(D:St)(Q:VK)(u:Value)(S:jQ):Prop:=∃v H,Inv X z D H S/\zf v u/\Q v H
def TP(X:Cx)(z:zN)(D:St)(Q:Bool->Hp->Prop)(b:Bool)(S:jQ):Prop:=∃H,Inv X z D H S/\Q b H
def AP(X:Cx)(z:zN)(D:St)(Q:ZE->Hp->Prop)(u:ZY)(S:jQ):Prop:=∃v H,Inv X z D H S/\ZQ v u/\Q v H
def SP(X:Cx)(z:zN)(D:iY)(f:Flow)(S:jQ):Prop:=
 match f with
 | .next=>∃d H,Inv X z d H S/\D.nx d H
 | .brk=>∃d H,Inv X z d H S/\D.bk d H
 | .cont=>∃d H,Inv X z d H S/\D.ct d H
 | .ret u=>∃v d H,Inv X z d H S/\zf v u/\D.rt v H
def PE(X:Cx)(e:uI)(t:TE):Prop:=
 ∀(z:zN) (s:jQ) (D:St) (H:Hp) (Q:VK),Inv X z D H s->t D H Q->jS (Z2 X) X.A (eval e X.env) (EP X z D Q) X.xe s
def PT(X:Cx)(e:uI)(t:TT):Prop:=
 ∀(z:zN) (s:jQ) (D:St) (H:Hp) (Q:Bool->Hp->Prop),Inv X z D H s->t D H Q->jS (Z2 X) X.A (isTrue e X.env (eval e X.env)) (TP X z D Q) X.xe s
def PW(X:Cx)(e:uI)(t:TT):Prop:=
 ∀(m:Sem Value) (z:zN) (s:jQ) (D:St) (H:Hp) (Q:Bool->Hp->Prop),Inv X z D H s->t D H Q->jS (Z2 X) X.A (isTrue e X.env m) (TP X z D Q) X.xe s
theorem PW.pt(h:PW X e t):PT X e t:=h _
def PA(X:Cx)(E:List uI)(t:TA):Prop:=
 ∀(pos:Pos) (z:zN) (s:jQ) (D:St) (H:Hp) (Q:ZE->Hp->Prop),Inv X z D H s->t D H Q->jS (Z2 X) X.A (spliced (v8 pos (uc E X.env))) (AP X z D Q) X.xe s
def PS(X:Cx)(st:Stmt)(t:TS):Prop:=
 ∀(z:zN) (s:jQ) (E:St) (H:Hp) (D:iY),Inv X z E H s->t D E H->jS (Z2 X) X.A (exec st X.env) (SP X z D) X.xe s
def PSs(X:Cx)(st:List Stmt)(t:TS):Prop:=
 ∀(z:zN) (s:jQ) (E:St) (H:Hp) (D:iY),Inv X z E H s->t D E H->jS (Z2 X) X.A (execs st X.env) (SP X z D) X.xe s
theorem thn{α:Type}{t:Sem α}{Q q:α->jQ->Prop}{M:vJ}{A:uv}{E:ZW}{s:jQ}(h:jS M A t Q E s)(H:∀a s,Q a s->q a s):jS M A t q E s:=uE h H λ_ _ x=>x
section
variable{X:Cx}
def X0(i:Nat):TE:=λD H Q=>∃v,D[i]?=Qr (Qr v)/\Q v H
def tC(v:V):TE:=λ_ H Q=>Q v H
theorem Ru(g:X.N[i]?=Qr x)(P:Vis X.env.scope x)(hd:autoParam ((x==("__debug__":Str))=false) z8)(M:autoParam ((x==("__classdict__":Str))=false) z8):PE X (.Name x pos) (X0 i):=by intro z s D H Q I h;show Zf h ?_;clear h;intro v e h;show Zf I.loc λm j O=>?_;show Zf (O i x v g e P) λu r l=>?_;have f:EP X z D Q u s:=(v,H,I,r,h);rcases l with⟨E,Y⟩|⟨E,c,d,p⟩;show wpAny_Name (wpAny_loadName_local I.ok.kind E j Y f) hd;rcases E with E|E;show wpAny_Name (wpAny_loadName_cell I.ok.kind E d p f) hd;show wpAny_Name (wpAny_loadName_free I.ok.kind E d p f M) hd
theorem Zl{i j pos}:PE X (.Constant (.int i) j pos) (tC (.int i)):=λ_ _ _ H _ I h=>wpAny_Constant_int (.int i,H,I.tok _,(_,rfl),h)
theorem mF{b j pos}:PE X (.Constant (.bool b) j pos) (tC (.bl b)):=λ_ _ _ H _ I h=>Constant_bool (.bl b,H,I,rfl,h)
theorem kR{j pos}:PE X (.Constant .none j pos) (tC .non):=λ_ _ _ H _ I h=>Constant_none (.non,H,I,rfl,h)
theorem Zr{x j pos}:PE X (.Constant (.str x) j pos) (tC (.str x)):=λ_ _ _ H _ I h=>Calls.Constant_str (.str x,H,I.tok _,(_,rfl),h)
def Gl(X:Cx)(x:Str):Prop:=X.env.kindOf x=Qr .globalImplicit
theorem da{E:ZW}{Q:ZW}(I:Inv X Zc σ H s)(R:Gl X x)(Y:X.mg x=Qr u)(h:Q u s)
 (hd:autoParam ((x==("__debug__":Str))=false) z8):jS (Z2 X) X.A (eval (.Name x pos) X.env) Q E s:=
 Calls.Name_function_global I.ok.kind R (Calls.loadGlobal_global (by rw[I.ok.glob];show I.mod.glob.keeps I.bk) Y h) hd
theorem JL{E:ZW}{Q:ZW}(I:Inv X Zc σ H s)(R:Gl X x)(Y:X.mg x=Qs)(M:ux x=Qr u)(h:Q u s)
 (j:autoParam (x≠"__name__") z8) (hd:autoParam ((x==("__debug__":Str))=false) z8):jS (Z2 X) X.A (eval (.Name x pos) X.env) Q E s:=by
 show Zf I.mod.blt λm y J=>Calls.Name_function_global I.ok.kind R (Calls.loadGlobal_builtin (by rw[I.ok.glob];show I.mod.glob.keeps I.bk) Y (by rw[I.ok.blt];show y.keeps I.bk) ((J x j).trans M) h) hd
theorem fV(Q:Gl X x)(Y:X.mg x=Qr u)(r:zf v u)(hd:autoParam ((x==("__debug__":Str))=false) z8):PE X (.Name x pos) (tC v):=
 λ_ _ _ H _ I h=>da I Q Y (v,H,I,r,h) hd
theorem MX(Q:Gl X x)(Y:X.mg x=Qs)(M:ux x=Qr u)(r:zf v u)(j:autoParam (x≠"__name__") z8)(hd:autoParam ((x==("__debug__":Str))=false) z8):PE X (.Name x pos) (tC v):=
 λ_ _ _ H _ I h=>JL I Q Y M (v,H,I,r,h) j hd
variable{a b:uI}{ta tb:TE}{pos:Pos}
def PC(X:Cx)(O:CmpOp)(a b:uI)(t:TE):Prop:=
 ∀(z:zN) (s:jQ) (D:St) (H:Hp) (Q:VK),Inv X z D H s->t D H Q->
  jS (Z2 X) X.A (eval a X.env) (λv S=>jS (Z2 X) X.A (eval b X.env) (λu d=>jS (Z2 X) X.A (uD O v u) (EP X z D Q) X.xe d) X.xe S) X.xe s
def tB(t:TE):TT:=λD H Q=>t D H λx E=>∃c,x=.bl c/\Q c E
theorem yP{O:CmpOp}{t:TE}(h:PC X O a b t)(y:Qau O b=false:=by first|show nobehind _ ∅ ∅|rfl):PT X (.Compare a [O] [b] pos) (tB t):=by intro Z s D H Q I U;show wpAny_isTrue_Compare1 (thn (h Z s D H _ I U) λv S y=>thn y λu p J=>thn J λc B M=>Zy M λx E P r Y=>?_) y;clear M;show Zf Y λd z q=>?_;clear Y;subst z;cases r;show vS (E,P,q)
variable{tA tB':TT}{JP:List uI}
def Ge(t u:TT):TT:=λD H Q=>t D H λc E=>if c=true then u D E Q else Q false E
def tOr(t u:TT):TT:=λD H Q=>t D H λc E=>if c=true then Q true E else u D E Q
def Gh(t:TT):TT:=λD H Q=>t D H λc E=>Q (!c) E
theorem mM(J:PT X a tA):PW X (.BoolOp .And [a] pos) tA:=by
 intro U z s D H Q I h;show isTrue_and (thn (J z s D H Q I h) λc S e=>?_)
 cases c with
 |true=>show isTrue_and_nil e
 |false=>show e
theorem iy(J:PT X a tA):PW X (.BoolOp .Or [a] pos) tA:=by
 intro U z s D H Q I h;show isTrue_or (thn (J z s D H Q I h) λc S e=>?_)
 cases c with
 |false=>show isTrue_or_nil e
 |true=>show e
theorem tR(M:PT X a tA)(S:PW X (.BoolOp .And (b::JP) pos) tB'):PW X (.BoolOp .And (a::b::JP) pos) (Ge tA tB'):=by
 intro U z s D H Q I h;show isTrue_and (thn (M z s D H _ I h) λc d t=>Zf t λE J q=>?_);clear t
 cases c with
 |true=>show S U z d D E Q J q
 |false=>show(E,J,q)
theorem mO(O:PT X a tA)(S:PW X (.BoolOp .Or (b::JP) pos) tB'):PW X (.BoolOp .Or (a::b::JP) pos) (tOr tA tB'):=by
 intro U z s D H Q I h;show isTrue_or (thn (O z s D H _ I h) λc d M=>Zf M λE J q=>?_);clear M
 cases c with
 |true=>show(E,J,q)
 |false=>show S U z d D E Q J q
theorem yQ(J:PT X a tA):PT X (.UnaryOp .Not a pos) (Gh tA):=by intro z s D H Q I h;show isTrue_not (J z s D H (λc E=>Q (!c) E) I h)
def XQ(ta tb:TE):TE:=λD H Q=>ta D H λx E=>∃c,x=.bl c/\if c=true then tb D E Q else Q (.bl false) E
theorem Rt{op}(h:PE X a t):PE X (.BoolOp op [a] pos) t:=λz s D H Q I U=>BoolOp_one (h z s D H Q I U)
theorem Rq(M:PE X a ta)(S:PE X (.BoolOp .And (b::JP) pos) tb):PE X (.BoolOp .And (a::b::JP) pos) (XQ ta tb):=by
 intro Z s D H Q I h;show BoolOp_and (thn (M Z s D H _ I h) λv f d=>Zy d λx E J r q=>?_);clear d;show Zf q ?_;clear q;intro c z q;subst z;cases r;show vS ?_
 cases c with
 |true=>show S Z f D E Q J q
 |false=>show(.bl false,E,J,rfl,q)
def tIf(t:TT)(ta tb:TE):TE:=λD H Q=>t D H λc E=>if c=true then ta D E Q else tb D E Q
theorem KL{c:uI}(f:PT X c tA)(M:PE X a ta)(U:PE X b tb):PE X (.IfExp c a b pos) (tIf tA ta tb):=by
 intro Z s D H Q I h;show wpAny_IfExp (thn (f Z s D H _ I h) λd S z=>Zf z λE J q=>?_);clear z
 cases d with
 |true=>show M Z S D E Q J q
 |false=>show U Z S D E Q J q
end
def SqL(K:Qb)(H:Hp)(a:jP)(x:ZE):Prop:=
 Rd H a (.lst x)\/
  ∃(o:Obj) (I:Array Value) (n:Nat),K.lookup a=Qr o/\o.cls=.type "list"/\o.dict=Qs/\o.data=.seq I n/\I.size<=sizeLine/\ZQ x I.toList
def SqT(K:Qb)(H:Hp)(a:jP)(x:ZE):Prop:=
 Rd H a (.tup x)\/
  ∃(o:Obj) (I:Array Value) (n:Nat),K.lookup a=Qr o/\o.cls=.type "tuple"/\o.data=.seq I n/\I.size<=sizeLine/\ZQ x I.toList
noncomputable def Zah:Value->Option V
 | .none=>Qr .non
 | .bool b=>Qr (.bl b)
 | .int i _=>Qr (.int i)
 | .str x _=>Qr (.str x)
 | .bytes b _=>Qr (.byt b)
 | .float b _=>Qr (.flt b)
 | .ref a=>Qr (.ref a)
 | .type n=>Qr (.ty n)
 |_=>Qs
theorem zf.abs(r:zf x u):Zah u=Qr x:=by
 cases x with
 |non=>cases r;rfl
 |bl _=>cases r;rfl
 |int _=>obtain⟨t,rfl⟩:=r;rfl
 |str _=>obtain⟨t,rfl⟩:=r;rfl
 |byt _=>obtain⟨t,rfl⟩:=r;rfl
 |flt _=>obtain⟨t,rfl⟩:=r;rfl
 |ref _=>cases r;rfl
 |ty _=>cases r;rfl
theorem zf.inj(r:zf x u)(q:zf y u):x=y:=Option.some.inj (r.abs.symm.trans q.abs)
theorem ZQ.inj:∀{x y:ZE} {u:ZY},ZQ x u->ZQ y u->x=y:=by intro x y u h g;induction h generalizing y with|nil=>cases g;rfl|cons r t I=>cases g with|cons R m=>rw[r.inj R,I m]
section
theorem SqL.of{K:Qb}(h:H a=Qr (.lst xs)):SqL K H a xs:=.inl (.inl h)
theorem SqT.of{K:Qb}(h:H a=Qr (.tup xs)):SqT K H a xs:=.inl (.inl h)
theorem Inv.list(I:Inv X Zc σ H s)(h:SqL X.K H a xs):∃Y:ZY,ZQ xs Y/\PlainL s.heap a Y.toArray/\Qa xs<=sizeLine:=by
 rcases h with h|⟨o,Y,n,E,d,hd,g,y,r⟩
 .obtain⟨z,Y,n,r,e⟩:=h.ok I.hok;show(Y,r,(_,n,e,rfl,rfl,rfl),z)
 show(Y.toList,r,(o,n,I.kIn a o E,d,hd,by simpa using g),?_);have e:=r.length;simp only[Qq]at e
 lia
theorem Inv.tuple(I:Inv X Zc σ H s)(h:SqT X.K H a xs):∃Y:ZY,ZQ xs Y/\IsTup s.heap a Y.toArray/\Qa xs<=sizeLine:=by
 rcases h with h|⟨o,Y,n,E,d,g,y,r⟩;show ZI (h.ok I.hok) λz Z=>Zf Z λY r p=>(Y,r,p,z)
 show(Y.toList,r,(o,I.kIn a o E,d,n,by simpa using g),?_);have e:=r.length;simp only[Qq]at e
 lia
theorem Inv.list_inj(I:Inv X Zc σ H s)(h:SqL X.K H a xs)(B:SqL X.K H a ys):xs=ys:=by
 obtain⟨Z,r,⟨o,n,e,_,_,d⟩,_⟩:=I.list h;obtain⟨Y,R,⟨O,S,E,_,_,D⟩,_⟩:=I.list B;rw[e]at E;cases E;rw[d]at D;injection D with d1 _;have:Z=Y:=by simpa using congrArg WB d1
 subst this;show r.inj R
theorem Inv.tuple_inj(I:Inv X Zc σ H s)(h:SqT X.K H a xs)(B:SqT X.K H a ys):xs=ys:=by
 obtain⟨Z,r,⟨o,e,_,n,d⟩,_⟩:=I.tuple h;obtain⟨Y,R,⟨O,E,_,S,D⟩,_⟩:=I.tuple B;rw[e]at E;cases E;rw[d]at D;injection D with d1 _;have:Z=Y:=by simpa using congrArg WB d1
 subst this;show r.inj R
end
abbrev Cx.wish(X:Cx)(E:ZW):Cx:= {X with xe:=E}
abbrev Cx.nox(X:Cx):Cx:=X.wish λ_ _=>False
theorem Cx.Ok.wish{X:Cx}(ok:X.Ok)(E:ZW):(X.wish E).Ok:=
 (ok.mod,ok.kind,ok.glob,ok.blt,ok.above,ok.inj,ok.has,ok.cab,ok.hd,ok.frames,ok.stk,ok.exf,ok.bs,ok.bsz,ok.noex,ok.exfs,ok.funs,ok.frf)
theorem Cx.Ok.unwish{X:Cx}{E:ZW}(ok:(X.wish E).Ok):X.Ok:=
 (ok.mod,ok.kind,ok.glob,ok.blt,ok.above,ok.inj,ok.has,ok.cab,ok.hd,ok.frames,ok.stk,ok.exf,ok.bs,ok.bsz,ok.noex,ok.exfs,ok.funs,ok.frf)
section
variable{E:ZW}
theorem Inv.wish(I:Inv X Zc σ H s)(E:ZW):Inv (X.wish E) Zc σ H s:=(I.ok.wish E,I.os,I.bare,I.base,I.loc,I.cell,I.free,I.freeC,I.pin,I.hok,I.len)
theorem Inv.unwish(I:Inv (X.wish E) Zc σ H s):Inv X Zc σ H s:=(I.ok.unwish,I.os,I.bare,I.base,I.loc,I.cell,I.free,I.freeC,I.pin,I.hok,I.len)
theorem SP.unwish(h:SP (X.wish E) Zc D f s'):SP X Zc D f s':=by
 cases f with
 |next=>show ZS h λd H I q=>(d,H,I.unwish,q)
 |brk=>show ZS h λd H I q=>(d,H,I.unwish,q)
 |cont=>show ZS h λd H I q=>(d,H,I.unwish,q)
 |ret u=>show Z6 h λv d H I r q=>(v,d,H,I.unwish,r,q)
theorem PSs.nox{st:List Stmt}{t:TS}(h:PSs X.nox st t):PSs X st t:=λZ s J H D I U=>
 uE (h Z s J H D (I.wish _) U) (λ_ _ q=>q.unwish) λ_ _ z=>False.elim z
end
section
variable{X:Cx}{st:Stmt}{JP:List Stmt}{t u:TS}{e:uI}{te:TE}{pos:Pos}
def xK:TS:=λD E H=>D.nx E H
def Gj(t u:TS):TS:=λD E H=>t {D with nx:=u D} E H
theorem ZG:PSs X [] xK:=λ_ _ D H _ I h=>Qaz (D,H,I,h)
theorem Ze(x:PS X st t)(M:PSs X JP u):PSs X (st::JP) (Gj t u):=by
 intro z s E H D I h;show wpAny_execs_cons (thn (x z s E H {D with nx:=u D} I h) λf S q=>?_)
 cases f with
 |next=>
  show ZS q λd J O q=>M z S d J D O q
 |ret v=>show q
 |brk=>show q
 |cont=>show q
theorem Zj(x:PS X st t):PSs X [st] t:=by
 intro z s E H D I h;show wpAny_execs_cons (thn (x z s E H D I h) λf S q=>?_)
 cases f with
 |next=>show Qaz q
 |ret v=>show q
 |brk=>show q
 |cont=>show q
def Sa:TS:=λD E H=>D.bk E H
theorem KW:PS X (.Break pos) Sa:=λ_ _ D H _ I h=>wpAny_Break (D,H,I,h)
theorem Inv.quiet(I:Inv X Zc σ H s):interactive X.env=false:=by simp[interactive,I.ok.kind]
def xJ(te:TE):TS:=λD E H=>te E H λ_ I=>D.nx E I
theorem qR(y:PE X e te)(g:autoParam (vZ e Qs pos.line X.env=pure false) ZF):PS X (.Expr e pos) (xJ te):=by intro z s E H D I h;show wpAny_Expr_any (thn (y z s E H _ I h) λv S U=>Zy U λx J M r q=>(E,J,M,q)) I.quiet g
def Gi(te:TE):TS:=λD E H=>te E H D.rt
theorem ZC(y:PE X e te):PS X (.Return (Qr e) pos) (Gi te):=by intro z s E H D I h;show wpAny_Return_some (thn (y z s E H _ I h) λv S r=>Zy r λx J M R q=>(x,E,J,M,R,q))
def xM:TS:=λD _ H=>D.rt .non H
theorem Nc:PS X (.Return Qs pos) xM:=λ_ _ D H _ I h=>wpAny_Return_none (.non,D,H,I,rfl,h)
def Gf(c:TT)(t u:TS):TS:=λD E H=>c E H λb I=>if b=true then t D E I else u D E I
theorem Z5{c:uI}{a b:List Stmt}{O:TT}(f:PT X c O)(Q:PSs X a t)(U:PSs X b u):PS X (.If c a b pos) (Gf O t u):=by
 intro z s E H D I h;show wpAny_If (thn (f z s E H _ I h) λd S P=>Zf P λJ M q=>?_);clear P
 cases d with
 |true=>show Q z S E J D M q
 |false=>show U z S E J D M q
end
abbrev TG:=V->St->Hp->(St->Hp->Prop)->Prop
abbrev TGs:=ZE->St->Hp->(St->Hp->Prop)->Prop
def PG(X:Cx)(j:uI)(t:TG):Prop:=
 ∀(z:zN) (s:jQ) (D:St) (H:Hp) (v:V) (u:Value) (Q:St->Hp->Prop),Inv X z D H s->zf v u->t v D H Q->
  jS (Z2 X) X.A (Qay j X.env u) (λ_ S=>∃d I,Inv X z d I S/\Q d I) X.xe s
def PGs(X:Cx)(R:List uI)(t:TGs):Prop:=
 ∀(z:zN) (s:jQ) (D:St) (H:Hp) (v:ZE) (u:ZY) (Q:St->Hp->Prop),Inv X z D H s->ZQ v u->t v D H Q->
  jS (Z2 X) X.A (assignInOrder ((uz R X.env).map (·.2)) u) (λ_ S=>∃d I,Inv X z d I S/\Q d I) X.xe s
abbrev LX:=V->V->V->Hp->(Hp->Prop)->Prop
def OI(X:Cx)(t:LX):Prop:=
 ∀(z:zN) (s:jQ) (D:St) (H:Hp) (o i v:V) (O P u:Value) (Q:Hp->Prop),Inv X z D H s->zf o O->zf i P->zf v u->t o i v H Q->
  jS (Z2 X) X.A (setItem O P u) (λ_ S=>∃I,Inv X z D I S/\Q I) X.xe s
abbrev TIp:=V->V->Hp->VK->Prop
def PIp(X:Cx)(O:Operator)(t:TIp):Prop:=
 ∀(z:zN) (s:jQ) (D:St) (H:Hp) (x y:V) (v u:Value) (Q:VK),Inv X z D H s->zf x v->zf y u->t x y H Q->
  jS (Z2 X) X.A (Qai O v u) (EP X z D Q) X.xe s
section
def qW(i:Nat):TG:=λv D H Q=>Q (D.set i (Qr v)) H
theorem qai(i:Nat)(d:X.N.Nodup)(m:autoParam (X.N[i]?=Qr x) ZF)(f:autoParam (Loc X.env.scope x) Oo)(J:autoParam (X.fn x=true\/X.env.scope.names.lookup x=Qr .local) Gz):PG X (.Name x pos) (qW i):=by intro z s D H v u Q I r h;show wpAny_assign_Name (nh I d m f r (λS M=>(_,H,M,h)) J)
def CJ:TGs:=λv D H Q=>v=[]/\Q D H
def pF(t:TG)(u:TGs):TGs:=λY D H Q=>∃v r,Y=v::r/\t v D H λd I=>u r d I Q
theorem fY:PGs X [] CJ:=by intro z s D H v u Q I r h;obtain⟨e,h⟩:=h;subst e;cases r;show assignInOrder_nil (D,H,I,h)
theorem Y4{e:uI}{E:List uI}{t:TG}{u:TGs}(x:PG X e t)(J:PGs X E u)
 (g:autoParam ((uz (e::E) X.env).map (·.2)=Qay e X.env::(uz E X.env).map (·.2)) ZF):PGs X (e::E) (pF t u):=by
 intro z s D H d U Q I r h;show ZS h ?_;clear h;intro v P q h;subst q
 cases r with
 |cons r R=>
  rw[g];show assignInOrder_cons (thn (x z s D H _ _ _ I r h) λ_ S p=>ZS p λZ M O Y=>?_);show J z S Z M _ _ Q O R Y
def A6(K:Qb)(n:Nat)(t:TGs):TG:=λv D H Q=>∃a x,v=.ref a/\SqT K H a x/\Qa x=n/\t x D H Q
theorem yO(g:X.calm=true)(h:PGs X es t)
 (j:autoParam (Qa (uz es X.env)=n) ZF) (d:autoParam ((uz es X.env).findIdx? (·.1)=Qs) ZF):PG X (.Tuple es k pos) (A6 X.K n t):=by
 intro z s D H v u Q I r U;show ze U ?_;clear U;intro a x E M O U;subst E;cases r;show Zz (I.tuple M) λY p q y=>?_;show assign_Tuple_tuple (I.ok.hd g) q (by simp[j,<-O,p.length]) d λB f=>?_;have J:Inv X z D H {s with heap:=B}:=I.kept (t':=s.toks) λb o e=>f b o (Qu (Qn e)) e;show h z _ D H x _ Q J (by simpa using p) U
def Xb(d U:TE)(t:LX):TG:=λv D H Q=>d D H λo E=>U D E λi O=>t o i v O λY=>Q D Y
theorem Rv{o i:uI}{d Y:TE}{t:LX}(B:PE X o d)(m:PE X i Y)(g:OI X t)
 (J:autoParam (∀v,Qay (.Subscript o i pos) X.env v=(do
  let O <-Qag [v] (eval o X.env)
  let P <-Qag [v,O] (eval i X.env)
  Qbi pos
  Qag [v,O,P] (setItem O P v)
  release [v,O,P] [])) qK):PG X (.Subscript o i pos) (Xb d Y t):=by
 intro Z s D H v u Q I r h;rw[J];show jM (uA (thn (B Z s D H _ I h) λO S M=>Zy M λx E f r1 q=>?_));clear M;show jM (uA (thn (m Z S D E _ f q) λP p U=>Zy U λy R C r2 j=>?_));clear U;show jM (wpAny_standAt (jM (uA (thn (g Z p D R x y v O P u _ C r1 r2 r j) λ_ s3 z=>Zf z λH3 I3 q3=>?_))));show wpAny_release (D,H3,I3,q3)
def we(t:TE)(g:TG):TS:=λD E H=>t E H λx I=>g x E I D.nx
theorem tO{t e:uI}{j:TE}{g:TG}(B:PE X e j)(R:PG X t g)(m:autoParam (swapsWithSole [t] e pos.line X.env=pure false) ZF)(hw:autoParam (swappedStores [t] e X.env=pure Qs) ZF)
 (y:autoParam ((uz [t] X.env).map (·.2)=[Qay t X.env]) ZF):PS X (.Assign [t] e pos) (we j g):=by
 intro z s E H D I h;show wpAny_Assign_stores (thn (B z s E H _ I h) λv S Q=>Zy Q λx J M r Y=>?_) m hw;rw[y];show thn (R z S E J x v _ M r Y) λ_ p q=>q
theorem Zu(i:Nat){x:Str}{e:uI}{t:TE}{p:Pos}(d:X.N.Nodup)(B:PE X e t)(m:autoParam (X.N[i]?=Qr x) ZF)(f:autoParam (Loc X.env.scope x) Oo)(g:autoParam (vZ e (Qr (.Name x p)) pos.line X.env=pure false) ZF)(O:autoParam (X.fn x=true\/X.env.scope.names.lookup x=Qr .local) Gz):
 PS X (.Assign [.Name x p] e pos) (we t (qW i)):=by
 intro z s E H D I h;show wpAny_Assign_Name (thn (B z s E H _ I h) λv S q=>Zy q λy J M r Q=>?_) g;show nh M d m f r (λu R=>(_,J,R,Q)) O
def Zaz(i:Nat)(t:TE)(U:TIp):TS:=λD E H=>∃x,E[i]?=Qr (Qr x)/\t E H λy I=>U x y I λz O=>D.nx (E.set i (Qr z)) O
theorem RH{i:Nat}{x:Str}{e:uI}{g:TE}{O:Operator}{U:TIp}{P:Pos}(hN:X.N.Nodup)(B:X.N[i]?=Qr x)(f:Loc X.env.scope x)(he:PE X e g)(ho:PIp X O U)(hf:autoParam (X.fn x=true\/X.env.scope.names.lookup x=Qr .local) Gz):
 PS X (.AugAssign (.Name x P) O e pos) (Zaz i g U):=by
 intro Z s Q H D I h;show Zf h ?_;clear h;intro v C h;show Zf I.loc λm hn hl=>?_;have M:Vis X.env.scope x:=by rcases f with k|k;show .inl k;show .inr (.inl k)
 show Zf (hl i x v B C M) λu r l=>?_;show wpAny_AugAssign_Name ?_;have go:jS (Z2 X) X.A (eval e X.env) (λw S=>jS (Z2 X) X.A (Qai O u w) (λr t=>jS (Z2 X) X.A (storeName X.env x r) (λ_=>SP X Z D .next) X.xe t) X.xe S) X.xe s:=by show thn (he Z s Q H _ I h) λw j p=>Zy p λy R I1 r1 q1=>?_;clear p;show thn (ho Z j Q R v y u w _ I1 r r1 q1) λz s2 J=>Zy J λzv Y I2 r2 q2=>?_;clear J;show nh I2 hN B f r2 (λs3 I3=>(_,Y,I3,q2)) hf
 rcases l with⟨E,hm⟩|⟨E,c,d,q⟩;show wpAny_loadName_local I.ok.kind E hn hm go;rcases E with E|E;show wpAny_loadName_cell I.ok.kind E d q go;rcases f with k|k
 .have:X.env.scope.names.lookup x=Qr .free:=E;rw[k]at this;cases this
 have:X.env.scope.names.lookup x=Qr .free:=E;rw[k]at this;cases this
end
section
def Sb(c:TT)(t:TS):TS:=λD E H=>∃W:Nat->St->Hp->Prop,(∃m,W m E H)/\∀m E H,W m E H->
 c E H λb J=>if b=true then ∃N:St->Hp->Prop,(∀d I,N d I->∃M,M<m/\W M d I)/\t {D with nx:=N,ct:=N,bk:=D.nx} E J else D.nx E J
theorem K1{c:uI}{B:List Stmt}{u:TT}{S:TS}(C:vQ (Z2 X) X.A X.env X.xe)(hc:PT X c u)(hb:PSs X B S):PS X (.While c B [] pos) (Sb u S):=by
 intro z s y H D I h;obtain⟨W,⟨m0,w0⟩,m⟩:=h;show wpAny_While (codeAny_whileLoop (λn s'=>∃d P,Inv X z d P s'/\W n d P) ?_ m0 (y,H,I,w0));show λn s1 r=>ZS r λZ E I1 w1=>?_;clear r;show vF C (thn (hc z s1 Z E _ I1 (m n Z E w1)) λb s2 J=>Zf J λR U Q=>?_);clear J
 cases b with
 |true=>
  show Zf Q ?_;clear Q;intro N x Q;rw[Zx rfl];show vF C (thn (hb z s2 Z R _ U Q) λf s3 q=>?_)
  cases f with
  |next=>
   show ZS q λt Y j p=>?_;clear q;show Zf (x t Y p) λM g O=>(M,g,t,Y,j,O)
  |cont=>
   show ZS q λt Y j p=>?_;clear q;show Zf (x t Y p) λM g O=>(M,g,t,Y,j,O)
  |brk=>show q
  |ret v=>show q
 |false=>
  rw[Zo Qk];show Qaz (Z,R,U,Q)
end
structure It where
 go:Nat->Hp->Prop
 yld:Nat->Hp->V->Hp->Prop
 stop:Nat->Hp->Prop
def gN(X:Cx)(z:zN)(H:Hp)(b:jP):Prop:=
 H b=Qs/\b≠X.env.locals/\b∉X.fs/\(b∈X.ex\/X.s₀.heap.objs.size<=b)/\(∀x c,X.env.cells.lookup x=Qr c->c≠b)/\∀p∈X.pn++z,p.1≠b
theorem Inv.fpOk(I:Inv X Zc σ H s)(S:s.heap.objs.size<=b)(j:H' b=Qs):gN X Zc H' b:=by
 show(j,QY (Qp I.lt S),I.nofs S,.inr (QC I.sz S),λx c e z=>?_,λp C z=>?_)
 .obtain⟨v,q⟩:=I.cell x c e;show ZD (Qp q.lt (by rw[z];show S)) (QT _)
 show ZD (Qp (Qn (I.pin p C).1) (by rw[z];show S)) (QT _)
structure Am(P:j8)(w:uj)(K:Qb)(tg:uI)(J:It)(fp:List jP)(it:jP)(tn:Nat->Heap->Prop):Prop where
 mem:it∈fp
 obj:∀i h,tn i h->∀b∈fp,∃o,h.get? b=Qr o/\∀v,o.data≠ .cell v
 keep:∀i h h',tn i h->(∀b∈fp,∀o,h.get? b=Qr o->h'.get? b=Qr o)->tn i h'
 item:∀(X:Cx),X.prog=P->X.w=w->X.K=K->X.calm=true->∀(i:Nat) (Zc:zN) (s:jQ) (σ:St) (H:Hp) (E:ZW),Inv X Zc σ H s->(∀b∈fp,gN X Zc H b)->tn i s.heap->J.go i H->
  jS (ud P w) X.A (uU (.ref it)) (λr s1=>∃u,r=Qr u/\
   jS (ud P w) X.A (QaA tg (.ref it) u) (λ_ s2=>∃x H',Inv X Zc σ H' s2/\zf x u/\J.yld i H x H'/\tn (i+1) s2.heap/\∀b∈fp,H' b=Qs) E s1) E s
 done:∀(X:Cx),X.prog=P->X.w=w->X.K=K->X.calm=true->∀(i:Nat) (Zc:zN) (s:jQ) (σ:St) (H:Hp) (E:ZW),Inv X Zc σ H s->(∀b∈fp,gN X Zc H b)->tn i s.heap->J.stop i H->
  jS (ud P w) X.A (uU (.ref it)) (λr s1=>r=Qs/\Inv X Zc σ H s1) E s
 self:∀(A:uv) (i:Nat) (s:jQ) (Q:ZW) (E:ZW),tn i s.heap->Q (.ref it) s->jS (ud P w) A (QaH (.ref it)) Q E s
abbrev TI:=St->Hp->(It->Hp->Prop)->Prop
def PIE(X:Cx)(z:zN)(D:St)(B:uI)(R:It->Hp->Prop)(I:Value)(S:jQ):Prop:=
 ∃(t:jP) (f:List jP) (U:Nat->Heap->Prop) (J:It) (H:Hp),I=.ref t/\Inv X z D H S/\Am X.prog X.w X.K B J f t U/\U 0 S.heap/\(∀b∈f,gN X z H b)/\R J H
def PI(X:Cx)(t iter:uI)(d:TI):Prop:=
 ∀(z:zN) (s:jQ) (D:St) (H:Hp) (R:It->Hp->Prop),Inv X z D H s->d D H R->
  jS (Z2 X) X.A (eval iter X.env) (λv S=>jS (Z2 X) X.A (QaH v) (PIE X z D t R) X.xe S) X.xe s
theorem Ef{E:ZW}{Q:Unit->jQ->Prop}(t:s.heap.get? it=Qr o)(d:o.cls=.type n)(hd:o.data=.fields vs)
 (j:["enumerate","zip","dict_itemiterator","dict_reverseitemiterator","odict_iterator","itertools.zip_longest","itertools.pairwise"].contains n=false) (H:Q () s):jS M A (QaA tg (.ref it) u) Q E s:=by
 unfold QaA
 cases tg<;>first
  |show jN H
  |(cases u<;>first
   |show jN H
   |(show jM (Qbo t ?_)
     rw[d,hd];change jS M A (if(["enumerate","zip","dict_itemiterator","dict_reverseitemiterator","odict_iterator","itertools.zip_longest","itertools.pairwise"].contains n && vs[0]?==Qr (uL _))=true then _ else _) Q E s;rw[Zo (by intro h;rw[j,Bool.false_and]at h;cases h)];show jN H))
noncomputable def Itl(K:Qb)(a:jP):It:=
 (λi H=>∃d x,SqL K H a d/\d[i]?=Qr x,λi H x I=>I=H/\∀d,SqL K H a d->d[i]?=Qr x,λi H=>∃d,SqL K H a d/\Qa d<=i)
noncomputable def Itt(K:Qb)(a:jP):It:=
 (λi H=>∃d x,SqT K H a d/\d[i]?=Qr x,λi H x I=>I=H/\∀d,SqT K H a d->d[i]?=Qr x,λi H=>∃d,SqT K H a d/\Qa d<=i)
noncomputable def Itr(lo:Int)(n:Nat):It:=(λi _=>i<n,λi H x I=>I=H/\x=.int (lo+i),λi _=>n<=i)
theorem Gq{P:j8}{w:uj}{K:Qb}{tg:uI}(a t:jP):Am P w K tg (Itl K a) [t] t (λi h=>h.IsListIter t a i) where
 mem:=by simp
 obj:=λi h st b S=>by
  have e:b=t:=by simpa using S
  subst e;show Zz st λo e c d=>(o,e,λv z=>by rw[d]at z;cases z)
 keep:=λi h B st k=>st.at λo e=>k t (by simp) o e
 item:=by intro X C U y hc i Zc s D H E I J st Q;subst C U y;show ZS Q λxs x O f=>?_;clear Q;show Zz (I.list O) λY r p hz=>?_;show Zf (r.get f) λu hu ru=>?_;show ZO (J t (by simp)) λg q f2 m Z j=>?_;show wpAny_pyNext_list_item st p.isList (x:=u) (by simpa using hu) λB M sb=>?_;have I1:Inv X Zc D H {s with heap:=B}:=I.turned (t':=s.toks) (λb o S e=>(sb.2 b S).trans e) g q m Z j;show Zz (id M) λo e c d=>(u,rfl,Ef (s:= {s with heap:=B}) e c d ∅ (x,H,I1,ru,(rfl,λys hy=>by rw[I.list_inj hy O];show f),M,λb S=>(J b S).1))
 done:=by intro X C U y hc i Zc s D H E I J st Q;subst C U y;show Zf Q λxs O f=>?_;clear Q;show Zz (I.list O) λY r p hz=>?_;show ZO (J t (by simp)) λg q f2 m Z j=>?_;have hl:=r.length;show wpAny_pyNext_list_end (I.ok.hd hc) st p.isList (by simp;lia) λB eb=>(rfl,I.turned (t':=s.toks) (λb o S e=>eb b o S e) g q m Z j)
 self:=λ_ _ _ _ _ st h=>wpAny_pyIter_listiter st h
theorem Dw{P:j8}{w:uj}{K:Qb}{tg:uI}(a t:jP):Am P w K tg (Itt K a) [t] t (λi h=>h.IsTupleIter t a i) where
 mem:=by simp
 obj:=λi h st b S=>by
  have e:b=t:=by simpa using S
  subst e;show Zz st λo e c d=>(o,e,λv z=>by rw[d]at z;cases z)
 keep:=λi h B st k=>st.at λo e=>k t (by simp) o e
 item:=by intro X C U y hc i Zc s D H E I J st Q;subst C U y;show ZS Q λxs x O f=>?_;clear Q;show Zz (I.tuple O) λY r p hz=>?_;show Zf (r.get f) λu hu ru=>?_;show ZO (J t (by simp)) λg q f2 m Z j=>?_;show wpAny_pyNext_tuple_item st (show s.heap.IsTuple a Y.toArray from p) (x:=u) (by simpa using hu) λB M sb=>?_;have I1:Inv X Zc D H {s with heap:=B}:=I.turned (t':=s.toks) (λb o S e=>(sb.2 b S).trans e) g q m Z j;show Zz (id M) λo e c d=>(u,rfl,Ef (s:= {s with heap:=B}) e c d ∅ (x,H,I1,ru,(rfl,λys hy=>by rw[I.tuple_inj hy O];show f),M,λb S=>(J b S).1))
 done:=by intro X C U y hc i Zc s D H E I J st Q;subst C U y;show Zf Q λxs O f=>?_;clear Q;show Zz (I.tuple O) λY r p hz=>?_;show ZO (J t (by simp)) λg q f2 m Z j=>?_;have hl:=r.length;show wpAny_pyNext_tuple_end (I.ok.hd hc) st (show s.heap.IsTuple a Y.toArray from p) (by simp;lia) λB eb=>(rfl,I.turned (t':=s.toks) (λb o S e=>eb b o S e) g q m Z j)
 self:=λ_ _ _ _ _ st h=>wpAny_pyIter_tupleiter st h
theorem Dv{P:j8}{w:uj}{K:Qb}{tg:uI}(u:jP)(lo:Int)(n:Nat):Am P w K tg (Itr lo n) [u] u (λi h=>IsRangeIter h u (lo+(i:Nat) * 1) ((n:Int)-(i:Nat)) 1) where
 mem:=by simp
 obj:=λi h st b S=>by
  have e:b=u:=by simpa using S
  subst e
  show(_,st,λv z=>by
   have z':Data.fields _=Data.cell v:=z;cases z')
 keep:=λi h B st k=>k u (by simp) _ st
 item:=by intro X y U x d i Z s D H E I J st Q;subst y U x;show ZO (J u (by simp)) λg q C O Y j=>?_;have W:=Walks.range (prog:=X.prog) (w:=X.w) (I.ok.hd d) u lo 1 n;show W.item i s _ _ Q st λv B p r M kk=>?_;obtain⟨t,rfl⟩:=r;have m:Inv X Z D H {s with heap:=B,toks:=p}:=I.turned (λb o S e=>kk b o (by simpa using S) e) g q O Y j;show(_,rfl,Ef (s:= {s with heap:=B,toks:=p}) (n:="range_iterator") M rfl rfl ∅ (.int (lo+i),H,m,(t,?_),(rfl,rfl),M,λb S=>(J b S).1));rw[Int.mul_one]
 done:=by intro X y U x d i Z s D H E I J st Q;subst y U x;show ZO (J u (by simp)) λg q C O Y j=>wpAny_pyNext_range_end (I.ok.hd d) st (by have:n<=i:=Q;lia) λB eb=>(rfl,I.turned (t':=s.toks) (λb o S e=>eb b o S e) g q O Y j)
 self:=λ_ _ _ _ _ st h=>wpAny_pyIter_rangeiter st h
section
def Xd(K:Qb)(tl:TE):TI:=λD H R=>tl D H λx E=>∃a,x=.ref a/\(∃d,SqL K E a d)/\R (Itl K a) E
def Zal(K:Qb)(tl:TE):TI:=λD H R=>tl D H λx E=>∃a,x=.ref a/\(∃d,SqT K E a d)/\R (Itt K a) E
theorem mJ{l:uI}{tl:TE}(O:PE X l tl):PI X tg l (Xd X.K tl):=by
 intro z s D H R I h;show thn (O z s D H _ I h) λv S d=>Zy d λx E J r Q=>?_;clear d;obtain⟨a,e,⟨f,M⟩,q⟩:=Q;subst e;cases r;show Zz (J.list M) λY t p y=>?_;show wpAny_pyIter_list p.isList ?_;show(S.heap.objs.size,[S.heap.objs.size],_,_,E,rfl,J.kept (t':=S.toks) λb o e=>Qf _ e,Gq a _,(_,Ql _ rfl,rfl,rfl),λb U=>?_,q);have e:b=S.heap.objs.size:=by simpa using U
 subst e;show J.fpOk (Qg _) (J.hok.fresh (Qg _))
theorem Rx(O:PE X l tl):PI X tg l (Zal X.K tl):=by
 intro z s D H R I h;show thn (O z s D H _ I h) λv S B=>Zy B λx E J r Q=>?_;clear B;obtain⟨a,e,⟨d,M⟩,q⟩:=Q;subst e;cases r;show Zz (J.tuple M) λY t p y=>?_;show wpAny_pyIter_tuple (show S.heap.IsTuple a Y.toArray from p) ?_;show(S.heap.objs.size,[S.heap.objs.size],_,_,E,rfl,J.kept (t':=S.toks) λb o e=>Qf _ e,Dw a _,(_,Ql _ rfl,rfl,rfl),λb U=>?_,q);have e:b=S.heap.objs.size:=by simpa using U
 subst e;show J.fpOk (Qg _) (J.hok.fresh (Qg _))
theorem BQ{z:zN}{D:St}{H:Hp}{s:jQ}{R:It->Hp->Prop}{E:ZW}{lo m:Int}{t u v:Tok}{p:Nat}(I:Inv X z D H s)(x: -(2 ^ 62)<=lo)(M:lo<2 ^ 62)(Q: -(2 ^ 62)<=m)(g:m<2 ^ 62)
 (q:R (Itr lo (m-lo).toNat) H):jS (Z2 X) X.A (QaH (.ref s.heap.objs.size)) (PIE X z D tg R) E {s with heap:=s.heap.push {cls:=.type "range",data:=.fields #[.int lo t,.int m u,.int 1 v]},toks:=p}:=by
 show wpAny_pyIter_range (IsRange.new ..) (small_one x M Q g) ?_;have J:Inv X z D H {s with heap:=s.heap.push {cls:=.type "range",data:=.fields #[.int lo t,.int m u,.int 1 v]},toks:=p}:=I.kept λb o e=>Qf _ e
 show((s.heap.push {cls:=.type "range",data:=.fields #[.int lo t,.int m u,.int 1 v]}).objs.size,[(s.heap.push {cls:=.type "range",data:=.fields #[.int lo t,.int m u,.int 1 v]}).objs.size],_,_,H,rfl,
  J.kept (t':=p) λb o e=>Qf _ e,Dv _ lo (m-lo).toNat,?_,λb U=>?_,q)
 .have r:lo+((0:Nat):Int) * 1=lo:=by simp
  have y:(((m-lo).toNat:Nat):Int)-((0:Nat):Int)=Builtin.Range.rangeSize lo m 1:=by rw[rangeSize_one];split<;>lia
  change IsRangeIter _ _ (lo+((0:Nat):Int) * 1) ((((m-lo).toNat:Nat):Int)-((0:Nat):Int)) 1;rw[r,y];show Ql _ rfl
 have e:b=(s.heap.push {cls:=.type "range",data:=.fields #[.int lo t,.int m u,.int 1 v]}).objs.size:=by simpa using U
 subst e;show J.fpOk (Qg _) (J.hok.fresh (Qg _))
def Xf(t:TA):TI:=λD H R=>t D H λv E=>∃j:Int,v=[.int j]/\ -(2 ^ 62)<=j/\j<2 ^ 62/\R (Itr 0 j.toNat) E
def Xg(t:TA):TI:=λD H R=>t D H λv E=>∃i j:Int,v=[.int i,.int j]/\(-(2 ^ 62)<=i/\i<2 ^ 62/\ -(2 ^ 62)<=j/\j<2 ^ 62)/\R (Itr i (j-i).toNat) E
theorem FU{a:uI}{u:TA}{p pos:Pos}(S:Gl X "range")(Y:X.mg "range"=Qs)(J:PA X [a] u)(g:autoParam (uc [a] X.env=[(false,eval a X.env)]) ZF):PI X tg (.Call (.Name "range" p) [a] [] pos) (Xf u):=by
 intro z s D H R I h;show Qbg (JL I S Y boot_range (PyProof.Rows.callWith_type1 (thn (J pos z s D H _ I h) λU f Z=>Zy Z λv E M d Q=>?_) g rfl));clear Z;show zh Q ?_;clear Q;intro j e Q m q;subst e
 cases d with
 |cons r B=>
  cases B;obtain⟨t,rfl⟩:=r;show call_range_1 (BQ M ⋯ ⋯ Q m (by simpa using q))
theorem xD(S:Gl X "range")(Y:X.mg "range"=Qs)(J:PA X [a,b] ta)(g:autoParam (uc [a,b] X.env=[(false,eval a X.env),(false,eval b X.env)]) ZF)(y:autoParam (uc [b] X.env=[(false,eval b X.env)]) ZF):
 PI X tg (.Call (.Name "range" p) [a,b] [] pos) (Xg ta):=by
 intro z s D H R I h;show Qbg (JL I S Y boot_range (PyProof.Rows.callWith_type1 (thn (J pos z s D H _ I h) λU O x=>Zy x λv E M d Q=>?_) (by rw[g,y]) (by rw[y];rfl)));clear x;obtain⟨i,j,e,⟨Q,m,u,C⟩,q⟩:=Q;subst e
 cases d with
 |cons r B=>
  cases B with
  |cons f B=>
   cases B;obtain⟨t,rfl⟩:=r;obtain⟨P,rfl⟩:=f;show call_range_2 (BQ M Q m u C q)
def ZaB(f:TI)(g:TG)(t:TS):TS:=λD E H=>f E H λJ O=>∃W:Nat->Nat->St->Hp->Prop,(∃m,W 0 m E O)/\∀i m E H,W i m E H->
 (J.stop i H/\D.nx E H)\/(J.go i H/\∃N:St->Hp->Prop,(∀d I,N d I->∃M,M<m/\W (i+1) M d I)/\∀x I,J.yld i H x I->g x E I λj P=>t {D with nx:=N,ct:=N,bk:=D.nx} j P)
noncomputable def ix(f:List jP)(h:Heap):zN:=f.filterMap λb=>(h.get? b).map λo=>(b,o)
theorem fT(H:b∈fp)(e:h.get? b=Qr o):(b,o)∈ix fp h:=U8.mpr (b,H,by rw[e];rfl)
theorem xA(C:p∈ix fp h):p.1∈fp/\h.get? p.1=Qr p.2:=by
 show Zf (U8.mp C) λb H e=>?_
 cases q:h.get? b with
 |none=>rw[q]at e;cases e
 |some o=>
  rw[q]at e;have E:(b,o)=p:=Option.some.inj e;subst E;show(H,q)
theorem Inv.pinned(I:Inv X Zc σ H s)(J:∀b∈f,gN X Zc H b)(t:∀b∈f,∃o,s.heap.get? b=Qr o/\∀v,o.data≠ .cell v):Inv X (Zc++ix f s.heap) σ H s:=
 I.pins_of λp C=>(ut.mp C).elim (λz=>I.pin p (j0 _ z)) λz=>by obtain⟨S,e⟩:=xA z;show za (J p.1 S) λg q B _=>?_;show Zf (t p.1 S) λo E d=>?_;rw[e]at E;cases E;show(e,g,q,B,d)
theorem Inv.unpinned(I:Inv X (Zc++pl) σ H s):Inv X Zc σ H s:=I.pins_of λp C=>I.pin p (j0 _ (vh _ C))
theorem oB(E:vQ (Z2 X) X.A X.env X.xe)(hc:X.calm=true)(hi:PI X tg iter wi)(hg:PG X tg g)(S:PSs X body tb)
 (hs:autoParam (∀x,ue iter X.env x=pure x) qK):PS X (.For tg iter body [] pos) (ZaB wi g tb):=by
 intro Z s σ H D I h;show wpAny_For (thn (hi Z s σ H _ I h) λv s1 h1=>thn h1 λa7 s2 h2=>?_) hs;obtain⟨it,R,tn,J,H2,e,I2,T,a4,f2,W,⟨m0,w0⟩,a1⟩:=h2;subst e;have q:∀{O:Hp},(∀b∈R,O b=Qs)->∀b∈R,gN X Z O b:=λhn b S=>(hn b S,(f2 b S).2);show codeAny_forLoop_any (λn s'=>∃i p O,Inv X Z p O s'/\tn i s'.heap/\(∀b∈R,O b=Qs)/\W i n p O) ?_ m0 (0,σ,H2,I2,a4,λb S=>(f2 b S).1,w0);show λn s3 zr=>cD zr λi t H3 I3 U a2 w3=>?_;clear zr;rcases a1 i n t H3 w3 with⟨stop,qn⟩|⟨go,N,hN,step⟩
 .show vF E (thn (T.done X rfl rfl rfl hc i Z s3 t H3 X.xe I3 (q a2) U stop) λr s4 a3=>?_);obtain⟨hr,I4⟩:=a3;subst hr;show Qaz (t,H3,I4,qn)
 show vF E (thn (T.item X rfl rfl rfl hc i Z s3 t H3 X.xe I3 (q a2) U go) λr s4 y=>Zf y λu hr h4=>?_);clear y;subst hr;show vF E (thn h4 λ_ s5 C=>cC C λx H5 I5 r5 y5 B a6=>?_);clear C;have a5:=I5.pinned (q a6) (T.obj _ _ B);show vF E (thn (hg _ s5 t H5 x u _ a5 r5 (step x H5 y5)) λ_ s6 z=>ZS z λσ6 H6 I6 q6=>?_);clear z;show vF E (thn (S _ s6 σ6 H6 _ I6 q6) λf s7 Q=>?_);have again:∀{j:St} {M:Hp},Inv X (Z++ix R s5.heap) j M s7->N j M->∃m,m<n/\∃i p O,Inv X Z p O s7/\tn i s7.heap/\(∀b∈R,O b=Qs)/\W i m p O:=λ{j M} P Y=>by show Zf (hN j M Y) λm' hm w7=>?_;show(m',hm,i+1,j,M,P.unpinned,T.keep _ _ _ B λb S o e=>(P.pin (b,o) (j0 _ (j0 _ (fT S e)))).1,λb S=>?_,w7);show Zf (T.obj _ _ B b S) λo e d=>(P.pin (b,o) (j0 _ (j0 _ (fT S e)))).2.1
 cases f with
 |next=>show ZS Q λj M P Y=>again P Y
 |cont=>show ZS Q λj M P Y=>again P Y
 |brk=>show ZS Q λj M P Q=>(j,M,P.unpinned,Q)
 |ret v=>show Z6 Q λx7 j M P r7 Q=>(x7,j,M,P.unpinned,r7,Q)
end
theorem Mr{K:Qb}{a:jP}{d:ZE}{g:TG}{t:TS}{D:iY}{E:St}{H:Hp}(P:Nat->St->Hp->Prop)(v:P 0 E H)(R:∀i E H,i<=Qa d->P i E H->SqT K H a d)
 (u:∀i x E H,d[i]?=Qr x->P i E H->g x E H λj O=>t {D with nx:=P (i+1),ct:=P (i+1),bk:=D.nx} j O) (hd:∀E H,P (Qa d) E H->D.nx E H):
 ∃W:Nat->Nat->St->Hp->Prop,(∃m,W 0 m E H)/\∀i m E H,W i m E H->
  ((Itt K a).stop i H/\D.nx E H)\/((Itt K a).go i H/\∃N:St->Hp->Prop,(∀f I,N f I->∃Q,Q<m/\W (i+1) Q f I)/\∀x I,(Itt K a).yld i H x I->g x E I λj O=>t {D with nx:=N,ct:=N,bk:=D.nx} j O):=by
 show(λi m E H=>m=Qa d-i/\i<=Qa d/\P i E H,(Qa d,by simp,Qo _,v),?_);show λi m E H Z=>ZL Z λz r p=>?_;clear Z;subst z;have q:=R i E H r p;by_cases M:i<Qa d
 .show .inr ((d,d[i],q,by simp[M]),P (i+1),λf I Y=>(Qa d-(i+1),⋯,rfl,M,Y),λx I y=>?_);obtain⟨e,y⟩:=y;subst e;show u i x E _ (y d q) p
 have e:i=Qa d:=⋯
 subst e;show .inl ((d,q,Qg _),hd E H p)
theorem xq{lo:Int}{n:Nat}{g:TG}{t:TS}{D:iY}{E:St}{H:Hp}(P:Nat->St->Hp->Prop)(r:P 0 E H)
 (q:∀i E H,i<n->P i E H->g (.int (lo+i)) E H λj O=>t {D with nx:=P (i+1),ct:=P (i+1),bk:=D.nx} j O) (hd:∀E H,P n E H->D.nx E H):
 ∃W:Nat->Nat->St->Hp->Prop,(∃m,W 0 m E H)/\∀i m E H,W i m E H->
  ((Itr lo n).stop i H/\D.nx E H)\/((Itr lo n).go i H/\∃N:St->Hp->Prop,(∀d I,N d I->∃Q,Q<m/\W (i+1) Q d I)/\∀x I,(Itr lo n).yld i H x I->g x E I λj O=>t {D with nx:=N,ct:=N,bk:=D.nx} j O):=by
 show(λi m E H=>m=n-i/\i<=n/\P i E H,(n,by simp,Qo _,r),?_);show λi m E H Z=>ZL Z λz u p=>?_;clear Z;subst z;by_cases M:i<n
 .show .inr (M,P (i+1),λd I Y=>(n-(i+1),⋯,rfl,M,Y),λx I y=>?_);obtain⟨e,y⟩:=y;subst e y;show q i E _ M p
 have e:i=n:=⋯
 subst e;show .inl (Qg _,hd E H p)
abbrev R2:=V->V->Hp->VK->Prop
def OpR(X:Cx)(f:Value->Value->Sem Value)(r:R2):Prop:=
 ∀(z:zN) (s:jQ) (D:St) (H:Hp) (x y:V) (v u:Value) (Q:VK),Inv X z D H s->zf x v->zf y u->r x y H Q->
  jS (Z2 X) X.A (f v u) (EP X z D Q) X.xe s
def UnR(X:Cx)(f:Value->Sem Value)(r:V->Hp->VK->Prop):Prop:=
 ∀(z:zN) (s:jQ) (D:St) (H:Hp) (x:V) (v:Value) (Q:VK),Inv X z D H s->zf x v->r x H Q->
  jS (Z2 X) X.A (f v) (EP X z D Q) X.xe s
def JU(X:Cx)(f:Value)(r:ZE->Hp->VK->Prop):Prop:=
 ∀(z:zN) (s:jQ) (D:St) (H:Hp) (x:ZE) (u:ZY) (Q:VK),Inv X z D H s->ZQ x u->r x H Q->
  jS (Z2 X) X.A (call f u) (EP X z D Q) X.xe s
def Zaf(X:Cx)(r:V->Hp->(Bool->Hp->Prop)->Prop):Prop:=
 ∀(z:zN) (s:jQ) (D:St) (H:Hp) (x:V) (v:Value) (Q:Bool->Hp->Prop),Inv X z D H s->zf x v->r x H Q->
  jS (Z2 X) X.A (truthy v) (TP X z D Q) X.xe s
def tOp(r:R2)(u t:TE):TE:=λD H Q=>u D H λx E=>t D E λy O=>r x y O Q
def tUn(r:V->Hp->VK->Prop)(t:TE):TE:=λD H Q=>t D H λx E=>r x E Q
def rI(C:Int->Int->Prop)(g:Int->Int->V):R2:=λx y H Q=>∃i j,x=.int i/\y=.int j/\C i j/\Q (g i j) H
def rI0(g:Int->Int->V):R2:=λx y H Q=>∃i j,x=.int i/\y=.int j/\Q (g i j) H
def rU(g:Int->V):V->Hp->VK->Prop:=λx H Q=>∃i,x=.int i/\Q (g i) H
section
theorem OU(J:PE X a ta)(U:PE X b tb){R:V->V->Hp->Prop}(I:Inv X Zc σ H s)
 (h:ta σ H λx E=>tb σ E λy O=>R x y O) {Q:ZW} {f:Value->Value->Sem Value}
 (P:∀v u p x y O,Inv X Zc σ O p->zf x v->zf y u->R x y O->jS (Z2 X) X.A (f v u) Q X.xe p):
 jS (Z2 X) X.A (eval a X.env) (λv S=>jS (Z2 X) X.A (eval b X.env) (λu d=>jS (Z2 X) X.A (f v u) Q X.xe d) X.xe S) X.xe s:=by
 show thn (J Zc s σ H _ I h) λv g Y=>Zy Y λx E M r q=>?_;clear Y;show thn (U Zc g σ E _ M q) λu p z=>Zy z λy O Z m j=>?_;show P v u p x y O Z r m j
theorem Zt(t:OpR X (vA op) r)(J:PE X a ta)(S:PE X b tb):PE X (.BinOp a op b pos) (tOp r ta tb):=by intro z s D H Q I h;show wpAny_BinOp (OU J S I h λv u p x y O Y R U q=>t z p D O x y v u Q Y R U q)
theorem N7{r:V->Hp->VK->Prop}(t:UnR X (unaryOp op) r)(J:PE X a ta):PE X (.UnaryOp op a pos) (tUn r ta):=by intro z s D H Q I h;show UnaryOp_ (thn (J z s D H _ I h) λv d S=>Zy S λx E M R q=>t z d D E x v Q M R q)
theorem opI{f:Value->Value->Sem Value}{C:Int->Int->Prop}{g:Int->Int->Int}
 (rule:∀(i j:Int) (t u:Tok) (s:jQ) (Q:ZW) (E:ZW),C i j->Q (.int (g i j) s.toks) {s with toks:=s.toks+1}->jS (Z2 X) X.A (f (.int i t) (.int j u)) Q E s):
 OpR X f (rI C λi j=>.int (g i j)):=by
 intro B s D H x y v u Q I r R h;show ze h λi j z Z d q=>?_;clear h;subst z;subst Z;obtain⟨t,rfl⟩:=r;obtain⟨p,rfl⟩:=R;show rule i j t p s _ _ d (.int (g i j),H,I.tok _,(_,rfl),q)
theorem MR{f:Value->Value->Sem Value}{g:Int->Int->Int}
 (rule:∀(i j:Int) (t u:Tok) (s:jQ) (Q:ZW) (E:ZW),Q (.int (g i j) s.toks) {s with toks:=s.toks+1}->jS (Z2 X) X.A (f (.int i t) (.int j u)) Q E s):
 OpR X f (rI0 λi j=>.int (g i j)):=by
 intro B s D H x y v u Q I r R h;show Zy h λi j z Z q=>?_;clear h;subst z;subst Z;obtain⟨t,rfl⟩:=r;obtain⟨p,rfl⟩:=R;show rule i j t p s _ _ (.int (g i j),H,I.tok _,(_,rfl),q)
theorem Rh{f:Value->Value->Sem Value}{g:Int->Int->Bool}
 (rule:∀(i j:Int) (t u:Tok) (s:jQ) (Q:ZW) (E:ZW),Q (.bool (g i j)) s->jS (Z2 X) X.A (f (.int i t) (.int j u)) Q E s):
 OpR X f (rI0 λi j=>.bl (g i j)):=by
 intro p s D H x y v u Q I r R h;show Zy h λi j z Z q=>?_;clear h;subst z;subst Z;obtain⟨t,rfl⟩:=r;obtain⟨m,rfl⟩:=R;show rule i j t m s _ _ (.bl (g i j),H,I,rfl,q)
def Sl(i j:Int):Prop:=0<j/\j<1073741824
def Sm(i j:Int):Prop:=0<=j/\j<=1000000/\i.natAbs<2 ^ 64
def LV(i j:Int):Prop:=(-(2 ^ 64)<i/\i<2 ^ 64)\/(-(2 ^ 64)<j/\j<2 ^ 64)
theorem LV.ok(h:LV i j):IntMulOk i j:=by rcases h with⟨H,I⟩|⟨H,I⟩;show .of_left (intBits_le_64 H I);show .of_right (intBits_le_64 H I)
theorem Ri:OpR X (vA .Add) (rI0 λi j=>.int (i+j)):=MR λ_ _ _ _ _ _ _ q=>add_int q
theorem Rp:OpR X (vA .Sub) (rI0 λi j=>.int (i-j)):=MR λ_ _ _ _ _ _ _ q=>sub_int q
theorem Rm:OpR X (vA .Mult) (rI LV λi j=>.int (i * j)):=opI λ_ _ _ _ _ _ _ H q=>mul_int q H.ok
theorem MS:OpR X (vA .FloorDiv) (rI Sl λi j=>.int (i/j)):=opI λi j _ _ _ _ _ H q=>by have x:(0:Int)<j:=H.1;have I:j<1073741824:=H.2;show floordiv_int ⋯ (by rw[Int.fdiv_eq_ediv_of_nonneg i ⋯];show q) (.inl (PyProof.noPylong_small ⋯))
theorem Rl:OpR X (vA .Mod) (rI (λ_ j=>0<j) λi j=>.int (i%j)):=opI λi j _ _ _ _ _ H q=>by have x:(0:Int)<j:=H;show mod_int' ⋯ (by rw[Int.fmod_eq_emod_of_nonneg i ⋯];show q)
theorem Rn:OpR X (vA .Pow) (rI Sm λi j=>.int (i ^ j.toNat)):=opI λ_ _ _ _ _ _ _ H q=>pow_int_small H.1 H.2.1 H.2.2 q
theorem Mz:OpR X (Qai .Add) (rI0 λi j=>.int (i+j)):=MR λ_ _ _ _ _ _ _ q=>iadd_int q
theorem MA:OpR X (Qai .Sub) (rI0 λi j=>.int (i-j)):=MR λ_ _ _ _ _ _ _ q=>isub_int q
theorem unI{f:Value->Sem Value}{g:Int->Int}
 (rule:∀(i:Int) (t:Tok) (s:jQ) (Q:ZW) (E:ZW),Q (.int (g i) s.toks) {s with toks:=s.toks+1}->jS (Z2 X) X.A (f (.int i t)) Q E s):
 UnR X f (rU λi=>.int (g i)):=by
 intro Z s D H x v Q I r h;show Zf h λi z q=>?_;clear h;subst z;obtain⟨t,rfl⟩:=r;show rule i t s _ _ (.int (g i),H,I.tok _,(_,rfl),q)
theorem Sh:UnR X (unaryOp .USub) (rU λi=>.int (-i)):=unI λ_ _ _ _ _ q=>neg_int q
end
noncomputable def RS:V->V->Bool
 | .non,.non=>true| .non,.int _=>true| .int _,.non=>true| .non,.bl _=>true| .bl _,.non=>true| .non,.str _=>true| .str _,.non=>true
 | .int _,.int _=>true| .bl _,.bl _=>true| .str _,.str _=>true| .byt _,.byt _=>true
 | .int _,.str _=>true| .str _,.int _=>true| .bl _,.str _=>true| .str _,.bl _=>true
 |_,_=>false
def rEq:R2:=λx y H Q=>RS x y=true/\Q (.bl (decide (x=y))) H
def rNe:R2:=λx y H Q=>RS x y=true/\Q (.bl (!decide (x=y))) H
theorem D7:decide (V.int i=V.int j)=(i==j):=by rw[UL];simp
theorem HX:decide (V.bl i=V.bl j)=(i==j):=by rw[UL];simp
theorem D8:decide (V.str i=V.str j)=(i==j):=by rw[UL];simp
theorem D6:decide (V.byt i=V.byt j)=(i.toList==j.toList):=by rw[UL];cases i;cases j;simp
section
theorem zi(I:Inv X Zc σ H s)(q:Q (.bl k) H)(e:k=k'):EP X Zc σ Q (.bool k') s:=by subst e;show(.bl k,H,I,rfl,q)
theorem Xx:OpR X (uD .Eq) rEq:=by
 intro z s D H x y v u Q I R r h;obtain⟨g,q⟩:=h
 cases x with
 |non=>
  cases R
  cases y with
  |non=>cases r;show PySem.EqNone.eq_none_none (zi I q (by simp))
  |bl j=>cases r;show PySem.EqNone.eq_none_bool (zi I q (by simp))
  |int j=>obtain⟨m,rfl⟩:=r;show PySem.EqNone.eq_none_int (zi I q (by simp))
  |str j=>obtain⟨m,rfl⟩:=r;show PySem.EqNone.eq_none_str (zi I q (by simp))
  |_=>show ZD (show false=true from g) Qk
 |bl i=>
  cases R
  cases y with
  |non=>cases r;show PySem.EqNone.eq_bool_none (zi I q (by simp))
  |bl j=>cases r;show eq_bool (zi I q HX)
  |str j=>obtain⟨m,rfl⟩:=r;show PySem.EqMixed.eq_bool_str (zi I q (by simp))
  |_=>show ZD (show false=true from g) Qk
 |int i=>
  obtain⟨t,rfl⟩:=R
  cases y with
  |non=>cases r;show PySem.EqNone.eq_int_none (zi I q (by simp))
  |int j=>obtain⟨m,rfl⟩:=r;show eq_int (zi I q D7)
  |str j=>obtain⟨m,rfl⟩:=r;show PySem.EqMixed.eq_int_str (zi I q (by simp))
  |_=>show ZD (show false=true from g) Qk
 |str i=>
  obtain⟨t,rfl⟩:=R
  cases y with
  |non=>cases r;show PySem.EqNone.eq_str_none (zi I q (by simp))
  |bl j=>cases r;show PySem.EqMixed.eq_str_bool (zi I q (by simp))
  |int j=>obtain⟨m,rfl⟩:=r;show PySem.EqMixed.eq_str_int (zi I q (by simp))
  |str j=>obtain⟨m,rfl⟩:=r;show eq_str (zi I q D8)
  |_=>show ZD (show false=true from g) Qk
 |byt i=>
  obtain⟨t,rfl⟩:=R
  cases y with
  |byt j=>obtain⟨m,rfl⟩:=r;show PySem.W.eq_bytes (zi I q D6)
  |_=>show ZD (show false=true from g) Qk
 |_=>cases y<;>show ZD (show false=true from g) Qk
theorem XB:OpR X (uD .NotEq) rNe:=by
 intro z s D H x y v u Q I R r h;obtain⟨g,q⟩:=h
 cases x with
 |non=>
  cases R
  cases y with
  |non=>cases r;show PySem.EqNone.ne_none_none (zi I q (by simp))
  |bl j=>cases r;show PySem.EqNone.ne_none_bool (zi I q (by simp))
  |int j=>obtain⟨m,rfl⟩:=r;show PySem.EqNone.ne_none_int (zi I q (by simp))
  |str j=>obtain⟨m,rfl⟩:=r;show PySem.EqNone.ne_none_str (zi I q (by simp))
  |_=>show ZD (show false=true from g) Qk
 |bl i=>
  cases R
  cases y with
  |non=>cases r;show PySem.EqNone.ne_bool_none (zi I q (by simp))
  |bl j=>cases r;show ne_bool (zi I q (congrArg not HX))
  |str j=>obtain⟨m,rfl⟩:=r;show PySem.EqMixed.ne_bool_str (zi I q (by simp))
  |_=>show ZD (show false=true from g) Qk
 |int i=>
  obtain⟨t,rfl⟩:=R
  cases y with
  |non=>cases r;show PySem.EqNone.ne_int_none (zi I q (by simp))
  |int j=>obtain⟨m,rfl⟩:=r;show ne_int (zi I q (congrArg not D7))
  |str j=>obtain⟨m,rfl⟩:=r;show PySem.EqMixed.ne_int_str (zi I q (by simp))
  |_=>show ZD (show false=true from g) Qk
 |str i=>
  obtain⟨t,rfl⟩:=R
  cases y with
  |non=>cases r;show PySem.EqNone.ne_str_none (zi I q (by simp))
  |bl j=>cases r;show PySem.EqMixed.ne_str_bool (zi I q (by simp))
  |int j=>obtain⟨m,rfl⟩:=r;show PySem.EqMixed.ne_str_int (zi I q (by simp))
  |str j=>obtain⟨m,rfl⟩:=r;show ne_str (zi I q (congrArg not D8))
  |_=>show ZD (show false=true from g) Qk
 |byt i=>
  obtain⟨t,rfl⟩:=R
  cases y with
  |byt j=>obtain⟨m,rfl⟩:=r;show PySem.W.ne_bytes (zi I q (congrArg not D6))
  |_=>show ZD (show false=true from g) Qk
 |_=>cases y<;>show ZD (show false=true from g) Qk
theorem XA:OpR X (uD .Lt) (rI0 λi j=>.bl (decide (i<j))):=Rh λ_ _ _ _ _ _ _ q=>lt_int q
theorem Xz:OpR X (uD .LtE) (rI0 λi j=>.bl (decide (i<=j))):=Rh λ_ _ _ _ _ _ _ q=>le_int q
theorem Xy:OpR X (uD .Gt) (rI0 λi j=>.bl (decide (j<i))):=Rh λ_ _ _ _ _ _ _ q=>gt_int q
theorem FO:OpR X (uD .Lt) (λx y H Q=>∃i j,x=.str i/\y=.str j/\Q (.bl (decide (i.cps.toList<j.cps.toList))) H):=by intro m s D H x y v u Q I r R h;show Zy h λi j z Z q=>?_;clear h;subst z;subst Z;obtain⟨t,rfl⟩:=r;obtain⟨p,rfl⟩:=R;show lt_str (zi I q rfl)
theorem Rk:OpR X (uD .Is) (λx y H Q=>y=.non/\Q (.bl (decide (x=.non))) H):=by
 intro z s D H x y v u Q I r R h;obtain⟨rfl,q⟩:=h;cases R;show is_none_gen (zi I q ?_)
 cases x<;>first
  |(cases r;rfl)
  |(obtain⟨t,rfl⟩:=r;rfl)
theorem nomark(b:uI)(h:autoParam (op≠ .In) z8)(H:autoParam (op≠ .NotIn) z8):Qau op b=false:=by
 have E:(op==CmpOp.In)=false:=by cases op<;>first|rfl|show ZD rfl h
 have x:(op==CmpOp.NotIn)=false:=by cases op<;>first|rfl|show ZD rfl H
 cases b<;>first|rfl|(show(_ && (op==CmpOp.In || op==CmpOp.NotIn) && _)=false;rw[E,x];simp)
theorem MZ(t:OpR X (uD op) r)(J:PE X a ta)(S:PE X b tb)(Y:Qau op b=false):PE X (.Compare a [op] [b] pos) (tOp r ta tb):=by intro z s D H Q I h;show wpAny_Compare1 (OU J S I h λv u p x y O Z R U q=>t z p D O x y v u Q Z R U q) Y
def TH(K:Qb)(x:V)(H:Hp)(k:Bool):Prop:=
 match x with
 | .non=>k=false
 | .bl b=>k=b
 | .int i=>k=(i !=0)
 | .str y=>y.length<=sizeLine/\k=((y.length:Int) !=0)
 | .byt y=>y.size<=sizeLine/\k=((y.size:Int) !=0)
 | .ref p=>(∃d,SqL K H p d/\k= !d.isEmpty)\/(∃d,SqT K H p d/\k= !d.isEmpty)\/∃z,H p=Qr (.dK z)/\k= !z.isEmpty
 |_=>False
theorem CN{d:Type}{y:List (d×V)}{v:List (d×Value)}(r:KV y v):(!v.isEmpty)= !y.isEmpty:=by cases r<;>rfl
theorem sT(r:ZQ xs its):(!its.toArray.isEmpty)= !xs.isEmpty:=by cases r<;>simp
theorem ir:(sizeLine:Nat)<2 ^ 63:=by rw[jT];decide
theorem Se:Zaf X (λx H Q=>∃k,TH X.K x H k/\Q k H):=by
 intro M s J H x v Q I R h;show Zf h λk e q=>?_;clear h;have O:=ir;have j:sizeLine=16777216:=jT
 cases x with
 |non=>
  cases R;have E:k=false:=e;subst E;show truthy_none (H,I,q)
 |bl b=>
  cases R;have E:k=b:=e;subst E;show vS (H,I,q)
 |int i=>
  obtain⟨t,rfl⟩:=R;have E:k=(i !=0):=e;subst E;show PySem.P.truthy_int (H,I,q)
 |str y=>
  obtain⟨t,rfl⟩:=R;obtain⟨C,E⟩:y.length<=sizeLine/\k=((y.length:Int) !=0):=e;subst E;show PySem.P.truthy_str ⋯ (H,I.tok _,q)
 |byt y=>
  obtain⟨t,rfl⟩:=R;obtain⟨C,E⟩:y.size<=sizeLine/\k=((y.size:Int) !=0):=e;subst E;show PySem.W.truthy_bytes ⋯ (H,I.tok _,q)
 |ref p=>
  cases R;have E:(∃d,SqL X.K H p d/\k= !d.isEmpty)\/(∃d,SqT X.K H p d/\k= !d.isEmpty)\/∃z,H p=Qr (.dK z)/\k= !z.isEmpty:=e;rcases E with⟨d,f,E⟩|⟨d,f,E⟩|⟨z,f,E⟩
  .subst E;show Zz (I.list f) λZ r u B=>?_;have D:=r.length;show wpAny_truthy_list u.isList (by simp only[j7];lia) (H,I.tok _,by rw[sT r];show q)
  .subst E;show Zz (I.tuple f) λZ r u B=>?_;have D:=r.length;show truthy_tuple u (by simp only[j7];lia) (H,I.tok _,by rw[sT r];show q)
  subst E;obtain⟨B,g,Y,r,m⟩:z.length<=sizeLine/\(p==vM)=false/\∃Y,KV z Y/\s.heap.DictOf (YK X.prog X.w) p Y:=I.hok p _ f;have D:z.length=Y.length:=Paired.length r;show wpAny_truthy_dict g m ⋯ (H,I.tok _,by rw[CN r];show q)
 |_=>show(show False from e).elim
theorem Dc:OpR X (vA .Add) (λx y H Q=>∃i j,x=.str i/\y=.str j/\i.length+j.length<=sizeLine/\Q (.str (i++j)) H):=by intro p s D H x y v u Q I r R h;show ze h λi j z Z B q=>?_;clear h;subst z;subst Z;obtain⟨t,rfl⟩:=r;obtain⟨m,rfl⟩:=R;show add_str (λm C=>(.str (i++j),H,I.tok _,(_,rfl),q)) B
theorem Ba:OpR X (Qai .Add) (λx y H Q=>∃i j,x=.str i/\y=.str j/\i.length+j.length<=sizeLine/\Q (.str (i++j)) H):=by intro p s D H x y v u Q I r R h;show ze h λi j z Z B q=>?_;clear h;subst z;subst Z;obtain⟨t,rfl⟩:=r;obtain⟨m,rfl⟩:=R;show iadd_str (λm C=>(.str (i++j),H,I.tok _,(_,rfl),q)) B
theorem J1(r:ZQ [x] us):∃u,us=[u]/\zf x u:=by
 cases r with
 |cons R m=>cases m;show(_,rfl,R)
theorem wq(r:ZQ [x,y] us):∃u t,us=[u,t]/\zf x u/\zf y t:=by
 cases r with
 |cons R m=>
  cases m with
  |cons v E=>cases E;show(_,_,rfl,R,v)
theorem E5(d:X.calm=true):JU X (.builtin "max") (λx H Q=>∃i j,x=[.int i,.int j]/\Q (.int (if j>i then j else i)) H):=by intro Z s D H x U Q I r h;show ZS h λi j z q=>?_;clear h;subst z;obtain⟨u,y,rfl,⟨t,rfl⟩,⟨m,rfl⟩⟩:=wq r;show max_two_ints (I.ok.hd d) λB p k=>(_,H,I.kept k,?_,q);by_cases v:j>i;rw[Zx v,Zx v];show(_,rfl);rw[Zo v,Zo v];show(_,rfl)
theorem E6(d:X.calm=true):JU X (.builtin "min") (λx H Q=>∃i j,x=[.int i,.int j]/\Q (.int (if j<i then j else i)) H):=by intro Z s D H x U Q I r h;show ZS h λi j z q=>?_;clear h;subst z;obtain⟨u,y,rfl,⟨t,rfl⟩,⟨m,rfl⟩⟩:=wq r;show min_two_ints (I.ok.hd d) λB p k=>(_,H,I.kept k,?_,q);by_cases v:j<i;rw[Zx v,Zx v];show(_,rfl);rw[Zo v,Zo v];show(_,rfl)
end
structure Ck(h:Heap)(x dx C:jP)(mA:z9):Prop where
 obj:h.get? x=Qr (QaT C dx)
 ns:h.Ns1 dx mA
 ne:dx≠x
theorem FC{h:Heap}{d:jP}{m:z9}(n:h.Ns1 d m):∃O,h.get? d=Qr O/\∀name,lookIn name O=Qr (m name):=by
 show kN n λo E v u hd I _ Y=>?_;clear n;show(o,u,λname=>?_);have e:=Y name;unfold nsFind findBy at e;rw[<-Array.find?_toList]at e;unfold lookIn;rw[hd];dsimp only;split
 .rename_i y q;rw[q]at e;show congrArg Qr e
 rename_i q;rw[q]at e;have a:E.toList.any (·.refKey)=false:=by rw[List.any_eq_false];intro y p;show zQ (I y (WK.mp p)) λz t H=>?_;simp[DictEntry.refKey,H]
 have f:¬E.toList.any (·.refKey)=true:=by rw[a];show Qk
 rw[Zo f];show congrArg Qr e
theorem Ck.look{m:z9}(I:Ck h x dx C m):∃O,InstAt h x (QaT C dx) C (Qr O)/\∀name,lookIn name O=Qr (m name):=
 let (O,ho,hl):=FC I.ns
 (O,(I.obj,rfl,rfl,ho),hl)
section
variable{prog:j8}{w:uj}{A:uv}{E:ZW}{s:jQ}{K:Qb}{x dx C f:jP}{mA:z9}{name:Str}{v:Value}
theorem Mu{Q:ZW}(X:K.In s.heap)(I:Ck s.heap x dx C mA)(R:QaI K C name=true)(d:QaU K C=true)
 (M:vi K (.ref C) name=Qr Qs) (P:mA name=Qr v) (H:handedIn v=true) (h:Q v {s with toks:=s.toks+1}):
 jS (ud prog w) A (getAttr (.ref x) name expr) Q E s:=by
 show Zf I.look λS J O=>PySem.W.get_value X J (plainGet_of R).1 (PySem.W.findObj_own d M rfl (by rw[O,P])) H h
theorem Iq{Q:Value×ZY->jQ->Prop}(X:K.In s.heap)(I:Ck s.heap x dx C mA)(H:QaI K C name=true)
 (M:vi K (.ref C) name=Qr (Qr (.ref f))) (q:isFn K (.ref f)=true) (P:mA name=Qs) (h:Q (.ref f,[.ref x]) s):
 jS (ud prog w) A (Qa8 (.ref x) name pl) Q E s:=by
 show Zf I.look λR J O=>PySem.W.method_fn X J (plainGet_of H).1 (plainGet_of H).2 M (beq_iff_eq.mp q) (by change(lookIn name R).map (·.isSome)=Qr false;rw[O,P];rfl) h
theorem Nw{Q:Unit->jQ->Prop}(X:K.In s.heap)(I:Ck s.heap x dx C mA)
 (j:vi K (.ref C) "__setattr__"=Qr (Qr (.builtin "object.__setattr__"))) (O:Qa7 K C=true) (q:takerIn K C name=Qr Qs) (m:QaU K C=true)
 (hw:PySem.Within mA ns) (u:ns.length<=sizeLine)
 (h:∀D,Ck D x dx C (λy=>if y=name then Qr v else mA y)->Heap.SameBut dx s.heap D->Q () {s with heap:=D,toks:=s.toks+2}):
 jS (ud prog w) A (setAttr (.ref x) name v) Q E s:=by
 show Zf I.look λY J U=>?_;show PySem.W.set_plain X J j (PySem.W.osa_open (s:= {s with toks:=s.toks+1}) (r:=Qs) X J O q λb=>?_);show Zf (PySem.W.any_some m) λcd d Z=>?_;have g:s.heap.get? x=Qr (.ref C,Qr dx,.plain,#[]):=I.obj;show jM (jN (jM (jM (wpAny_loadPart g (jM (PySem.W.Looks.here (s:= {s with toks:=s.toks+1}) (PySem.W.looks_clsIn X d) ?_))))));rw[Z];show jN (a:=Qr dx) (jM (jN (jM ?_)));show wpAny_nsSet1 (s:= {s with toks:=s.toks+1}) I.ns λD B H=>?_;show Z6 (B.count (PySem.Within.cons name v hw)) λoD S P M z p=>?_;show jM (wpAny_lookBehind M (by rw[z];show pastItsLine_dict (QC p (by rw[jV];lia))) ?_);show jN (h _ ((H.2 _ (Ne.symm I.ne)).trans I.obj,B,I.ne) H)
theorem Bo{R:Qbw->jQ->Prop}(X:K.In s.heap)(Y:makesIn K C=true)
 (m:vi K (.ref C) "__init__"=Qr (Qr (.ref f))) (I:typeIn K (.ref f)=Qr (.type "function"))
 (h:Qaa (ud prog w) (A.under (.builtin "type.__call__" (.ref C::vs,kw))) (.call (.ref f) (.ref (s.heap.objs.size+1)::vs,kw)) (PySem.W.InitBack (s.heap.objs.size+1) R)
  {s with heap:=(s.heap.push v7).push (QaT C s.heap.objs.size)}):
 Qaa (ud prog w) A (.call (.ref C) (vs,kw)) R s:=by
 obtain⟨j,g,d,t,os⟩:=s;show PySem.W.make_core (PySem.W.makes_of X Y) (PySem.W.looks_findIn X m) (λself=>PySem.W.bind_fn X self I) (.inl rfl) h
end
noncomputable def qm(f:Str)(v:V):List (Str×V)->List (Str×V)
 |[]=>[(f,v)]
 |(g,x)::r=>if g=f then(g,v)::r else(g,x)::qm f v r
theorem pK(f g:Str)(v:V):∀d:List (Str×V),(qm f v d).lookup g=if g=f then Qr v else d.lookup g
 |[]=>by
  change Vn g [(f,v)]=_;by_cases h:g=f
  .have H:(g==f)=true:=beq_iff_eq.mpr h;simp only[Vn,H,Zx h]
  have H:(g==f)=false:=beq_eq_false_iff_ne.mpr h;simp only[Vn,H,Zo h]
 |(k,x)::r=>by
  have I:=pK f g v r;rw[show qm f v ((k,x)::r)=(if k=f then(k,v)::r else(k,x)::qm f v r)from rfl];by_cases E:k=f
  .rw[Zx E];by_cases h:g=k
   .have H:(g==k)=true:=beq_iff_eq.mpr h;simp only[Vn,H,Zx (h.trans E)]
   have H:(g==k)=false:=beq_eq_false_iff_ne.mpr h;simp only[Vn,H,Zo (λe:g=f=>h (e.trans E.symm))]
  rw[Zo E];by_cases h:g=k
  .have H:(g==k)=true:=beq_iff_eq.mpr h;simp only[Vn,H,Zo (λe:g=f=>E (h.symm.trans e))]
  have H:(g==k)=false:=beq_eq_false_iff_ne.mpr h;simp only[Vn,H];show I
theorem nO(f:Str)(v:V):∀d:List (Str×V),f∈(qm f v d).map (·.1)/\∀g,g∈d.map (·.1)->g∈(qm f v d).map (·.1)
 |[]=>(by simp[qm],λg h=>by simp at h)
 |(k,x)::r=>by
  obtain⟨I,J⟩:=nO f v r;rw[show qm f v ((k,x)::r)=(if k=f then(k,v)::r else(k,x)::qm f v r)from rfl];by_cases H:k=f
  .rw[Zx H];subst H;show(by simp,λg h=>by simpa using h)
  rw[Zo H];show(?_,λg h=>?_)
  .rw[uo];show ua _ I
  rw[uo]at h ⊢
  rcases ui.mp h with e|e;show ui.mpr (.inl e);show ua _ (J g e)
theorem pI(f:Str)(v:V):∀d:List (Str×V),(qm f v d).length<=d.length+1
 |[]=>by simp[qm]
 |(k,x)::r=>by have I:=pI f v r;rw[show qm f v ((k,x)::r)=(if k=f then(k,v)::r else(k,x)::qm f v r)from rfl];by_cases H:k=f;rw[Zx H,jV,jV];lia;rw[Zo H,jV,jV];lia
theorem iZ.some_of(r:iZ (Qr v) o):∃u,o=Qr u/\zf v u:=by
 cases o with
 |none=>show(show False from r).elim
 |some u=>show(u,rfl,r)
theorem iZ.none_of(r:iZ Qs o):o=none:=by
 cases o with
 |none=>rfl
 |some u=>show(show False from r).elim
theorem Fm(r:zf v u):handedIn u=true:=by
 cases v with
 |non=>cases(show u=QG from r);rfl
 |bl b=>cases(show u=Wd b from r);rfl
 |int i=>obtain⟨t,e⟩:=(show ∃t,u=VL i t from r);cases e;rfl
 |str x=>obtain⟨t,e⟩:=(show ∃t,u=Vh x t from r);cases e;rfl
 |byt b=>obtain⟨t,e⟩:=(show ∃t,u=jD b t from r);cases e;rfl
 |flt b=>obtain⟨t,e⟩:=(show ∃t,u=WD b t from r);cases e;rfl
 |ref a=>cases(show u=Qw a from r);rfl
 |ty n=>cases(show u=UY n from r);rfl
section
theorem rT(hok:HOk P w H h)(e:H a=Qr (.ins C dx fs)):∃m,Ck h a dx C m/\(∀f,iZ (fs.lookup f) (m f))/\PySem.Within m (fs.map (·.1))/\fs.length<=1000/\H dx=Qr (.own a):=by show qN ((show Yn P w H h a (.ins C dx fs)from hok a _ e)) λd z ne O Z=>Zz Z λm n r q=>(m,(O,n,ne),r,q,z,d)
end
structure Cls(K:Qb)(C:jP):Prop where
 pg:QaI K C VO=true
 hd:QaU K C=true
 po:Qa7 K C=true
 sa:vi K (.ref C) "__setattr__"=Qr (Qr (.builtin "object.__setattr__"))
theorem Cls.get{K:Qb}{C:jP}(c:Cls K C)(f:Str):QaI K C f=true:=c.pg
def qV(K:Qb)(C:jP)(f:Str):Prop:=vi K (.ref C) f=Qr Qs
theorem qV.taker{K:Qb}{C:jP}{f:Str}(n:qV K C f):takerIn K C f=Qr none:=by unfold takerIn;rw[show vi K (.ref C) f=Qr Qs from n];rfl
structure OG(K:Qb)(C:jP)(m:Str)(f:jP):Prop where
 at_:vi K (.ref C) m=Qr (Qr (.ref f))
 fn:isFn K (.ref f)=true
 kp:vB K (.ref f)=true
section
variable{E:ZW}
theorem CK{Q:ZW}(I:Inv X Zc σ H s)(e:H a=Qr (.ins C dx fs))(c:Cls X.K C)(n:qV X.K C f)(l:fs.lookup f=Qr v)
 (h:∀u S,Inv X Zc σ H S->zf v u->Q u S):jS (Z2 X) A (getAttr (.ref a) f b) Q E s:=by
 show JN (rT I.hok e) λm O r _ _ _=>?_;show Zf (iZ.some_of (v:=v) (o:=m f) (by rw[<-l];show r f)) λu B R=>Mu I.kIn O (c.get f) c.hd n B (Fm R) (h u _ (I.tok _) R)
theorem sP{Q:Value×ZY->jQ->Prop}(I:Inv X Zc σ H s)(e:H a=Qr (.ins C dx fs))(c:Cls X.K C)(k:OG X.K C m g)(l:fs.lookup m=Qs)
 (h:Q (.ref g,[.ref a]) s):jS (Z2 X) A (Qa8 (.ref a) m pl) Q E s:=by
 show JN (rT I.hok e) λM O r _ _ _=>?_;have j:M m=none:=iZ.none_of (by rw[<-l];show r m);show Iq I.kIn O (c.get m) k.at_ k.fn j h
theorem Dm{Q:Unit->jQ->Prop}(I:Inv X Zc σ H s)(e:H a=Qr (.ins C dx fs))(c:Cls X.K C)(n:qV X.K C f)(P:fs.length<1000)(Y:zf y u)
 (h:∀S,Inv X Zc σ (upd H a (.ins C dx (qm f y fs))) S->Q () S):jS (Z2 X) A (setAttr (.ref a) f u) Q E s:=by
 show JN (rT I.hok e) λm O r j _ t=>?_;have D:(fs.map (·.1)).length<=sizeLine:=by rw[jO,jT];lia
 show Nw I.kIn O c.sa c.po n.taker c.hd j D λB d J=>h _ ?_;have hd:∃o,B.get? dx=Qr o:=let (o,_,_,e',_):=d.ns;(o,e');show I.write (x:=a) (e:=dx) (by rw[e];show True.intro) (.inr t) (λb q U z=>(J.2 b U).trans z) hd ?_;show(by rw[Zn O.ne];show t,?_,O.ne,d.obj,_,d.ns,λg=>?_,λg R=>?_);have:=pI f y fs;lia
 .change iZ ((qm f y fs).lookup g) (if g=f then Qr u else m g);rw[pK];by_cases q:g=f;rw[Zx q,Zx q];show Y;rw[Zo q,Zo q];show r g
 by_cases q:g=f;rw[q];show(nO f y fs).1;show(nO f y fs).2 g (j g λz=>R ?_);change(if g=f then Qr u else m g)=Qs;rw[Zo q];show z
theorem Inv.made(I:Inv X Zc σ H s):Inv X Zc σ (upd (upd H s.heap.objs.size (.own (s.heap.objs.size+1))) (s.heap.objs.size+1) (.ins C s.heap.objs.size []))
 {s with heap:=(s.heap.push v7).push (QaT C s.heap.objs.size)}:=by
 have p:(s.heap.push v7).get? s.heap.objs.size=Qr v7:=Ql s.heap rfl;have x:((s.heap.push v7).push (QaT C s.heap.objs.size)).get? (s.heap.objs.size+1)=Qr (QaT C s.heap.objs.size):=by have:=Ql (s.heap.push v7) (o:=QaT C s.heap.objs.size) rfl;rwa[Uh]at this
 have M:(s.heap.push v7).Ns s.heap.objs.size (λ_=>Qs):=(v7,#[],_,p,rfl,(λe z=>ZD z (by simp)),λ_=>rfl);have J:=I.laid (a:=s.heap.objs.size) (o:=.own (s.heap.objs.size+1)) (h':=s.heap.push v7) (t':=s.toks) (λb u q=>Qf _ q) (Qg _) (_,p);show J.laid (a:=s.heap.objs.size+1) (o:=.ins C s.heap.objs.size []) (t':=s.toks) (λb u q=>Qf _ q) (V0 (Uh _ _)) ?_;have ne:s.heap.objs.size≠s.heap.objs.size+1:=Qu (Vl _);show(by rw[Zn ne,Zi],Qo _,ne,x,λ_=>Qs,(Heap.Ns1.of_empty M).at λo q=>Qf _ q,λ_=>True.intro,λy r=>ZD rfl r)
theorem L6{Q:ZW}(H:Qab e f env (eval e env)=eval e env)
 (h:jS (ud prog w) A (eval e env) (λo S=>jS (ud prog w) A (getAttr o f true) Q E S) E s):jS (ud prog w) A (eval (.Attribute e f pos) env) Q E s:=
 Attribute_any_ h (by rw[arm_eval_Attribute,H])
end
def ZaA(K:Qb)(t:TE)(f:Str):TE:=λD H Q=>t D H λx E=>∃a C S d v,x=.ref a/\E a=Qr (.ins C S d)/\Cls K C/\qV K C f/\d.lookup f=Qr v/\Q v E
def Zaw(K:Qb)(t u:TE)(f:Str):TS:=λD E H=>u E H λy I=>t E I λx O=>∃a C S d,x=.ref a/\O a=Qr (.ins C S d)/\Cls K C/\qV K C f/\d.length<1000/\
 D.nx E (upd O a (.ins C S (qm f y d)))
section
theorem Rr(y:PE X e ta)(S:Qab e f X.env (eval e X.env)=eval e X.env):PE X (.Attribute e f pos) (ZaA X.K ta f):=by intro Z s D H Q I h;show L6 S (thn (y Z s D H _ I h) λu d U=>Zy U λx E J r z=>ZH z λa C Y z=>zQ z λj v z=>ZO z λex B c n l q=>?_);clear U;subst ex;obtain rfl:u=Qw a:=r;show CK J B c n l λt p R g=>(v,E,R,g,q)
theorem RI(M:PE X o ta)(U:PE X value tv)(g:vZ value (Qr (.Attribute o f pos')) pos.line X.env=pure false):PS X (.Assign [.Attribute o f pos'] value pos) (Zaw X.K ta tv f):=by intro Z s E H D I h;show plainObj_wpAny_Assign_Attribute (thn (U Z s E H _ I h) λu S P=>Zy P λy J O R q=>?_) g;clear P;show thn (M Z S E J _ O q) λj t p=>Zy p λx m Y r z=>ZH z λa C v z=>zI z λfs z=>ZO z λex B c n l Q=>?_;clear p;subst ex;obtain rfl:j=Qw a:=r;show Dm Y B c n l R λs3 d=>(E,_,d,Q)
end
section
variable{E:ZW}{Q:ZW}
inductive kB(K:Qb)(H:Hp):V->Value->Prop where
 |non:kB K H .non (.type "NoneType")
 |bl (x:Bool):kB K H (.bl x) (.type "bool")
 |int (i:Int):kB K H (.int i) (.type "int")
 |str (x:Str):kB K H (.str x) (.type "str")
 |flt (x:UInt64):kB K H (.flt x) (.type "float")
 |lst {a:jP} {xs:ZE} (e:H a=Qr (.lst xs)):kB K H (.ref a) (.type "list")
 |frz {a:jP} {o:Obj} {xs:ZE} (e:H a=Qr (.frz o (.lst xs))):kB K H (.ref a) (.type "list")
 |tup {a:jP} {xs:ZE} (e:H a=Qr (.tup xs)):kB K H (.ref a) (.type "tuple")
 |dK {a:jP} {kvs:List (Key×V)} (e:H a=Qr (.dK kvs)):kB K H (.ref a) (.type "dict")
 |dT {a:jP} {kvs:List (List Key×V)} (e:H a=Qr (.dT kvs)):kB K H (.ref a) (.type "dict")
 |ins {a C dx:jP} {fs:List (Str×V)} (e:H a=Qr (.ins C dx fs)) (cl:Cls K C) (ha:vi K (.ref C) "__class__"=Qr (Qr (.builtin "object.__class__")))
  (hn:PySem.W.specialIn K (.builtin "object.__class__") "__get__"=Qr (Qr (.builtin "getset_descriptor.__get__"))) (htk:PySem.W.takesIn K (.builtin "object.__class__")=Qr true)
  (hm:Qbr K C (.type "object")=Qr true):kB K H (.ref a) (.ref C)
theorem Fv(I:Inv X Zc σ H s)(r:zf x u)(ty:kB X.K H x t)(e:kitOne X.K t c=Qr b)(h:∀S,Q (.bool b) {s with toks:=S}):
 jS (Z2 X) A (call (.builtin "isinstance") [u,c]) Q E s:=by
 cases ty with
 |non=>cases(show u=QG from r);show Qaq PySem.W.kitx_none I.kIn True.intro e (λz=>nomatch z) h
 |bl y=>cases(show u=Wd y from r);show Qaq PySem.W.kitx_bool I.kIn True.intro e (λz=>nomatch z) h
 |int i=>obtain⟨t,q⟩:=(show ∃t,u=VL i t from r);cases q;show Qaq PySem.W.kitx_int I.kIn True.intro e (λz=>nomatch z) h
 |str y=>obtain⟨t,q⟩:=(show ∃t,u=Vh y t from r);cases q;show Qaq PySem.W.kitx_str I.kIn True.intro e (λz=>nomatch z) h
 |flt y=>obtain⟨t,q⟩:=(show ∃t,u=WD y t from r);cases q;show Qaq PySem.W.kitx_float I.kIn True.intro e (λz=>nomatch z) h
 |@lst a d B=>
  cases(show u=Qw a from r);show ZI ((show Yn X.prog X.w H s.heap a (.lst d)from I.hok a _ B)) λ_ Z=>ZS Z λ_ n _ D=>Qaq kitx_list I.kIn (_,D,rfl) e (λz=>nomatch z) h
 |@frz a U d B=>
  cases(show u=Qw a from r);show ZL ((show Yn X.prog X.w H s.heap a (.frz U (.lst d))from I.hok a _ B)) λ_ _ Z=>ZS Z λ_ n _ D=>Qaq kitx_list I.kIn (_,D,rfl) e (λz=>nomatch z) h
 |@tup a d B=>
  cases(show u=Qw a from r);show ZI ((show Yn X.prog X.w H s.heap a (.tup d)from I.hok a _ B)) λ_ Z=>Zf Z λ_ _ p=>?_;clear Z;show Zz p λo D P _=>Qaq PySem.W.kitx_tuple I.kIn (o,D,P) e (λz=>nomatch z) h
 |@dK a M B=>
  cases(show u=Qw a from r);show ZL ((show Yn X.prog X.w H s.heap a (.dK M)from I.hok a _ B)) λ_ _ Z=>Zf Z λg _ p=>?_;clear Z;show Z6 p λo m ep D P _=>Qaq PySem.W.kitx_dict I.kIn (o,D,P.1) e (λz=>nomatch z) h
 |@dT a M B=>show False.elim (show Yn X.prog X.w H s.heap a (.dT M)from I.hok a _ B)
 |@ins a C dx fs B cl R j v Y=>
  cases(show u=Qw a from r);show Zf (rT I.hok B) λmA O _=>?_;show Zf O.look λod J _=>Qaq (PySem.W.kitx_own (cl.get _) cl.hd R j v Y) I.kIn J e (λz=>nomatch z) h
end
structure YN(k:Nat)(A:uv):Prop where
 hd:A.handled=Qs
 dp:A.depth+3 * k+5<recursionLimit
 un:A.units+16 * k+200<cLine
theorem YN.mono(r:YN k A)(h:j<=k):YN j A:=(r.hd,by have:=r.dp;lia,by have:=r.un;lia)
theorem YN.deeper(r:YN (k+1) A)(env:Env):YN k (A.deeper env):=
 (r.hd,by have:=r.dp;change A.depth+1+3 * k+5<_;lia,by have:=r.un;change A.units+3+16 * k+200<_;lia)
theorem CW{A:uv}{C:jP}{u:ZY}{d:List (Str×Value)}:(A.under (.builtin "type.__call__" (.ref C::u,d))).depth=A.depth+1:=by
 first|rfl|simp[Around.under,Code.weight,Code.isCreation,Code.isGuard,Code.isCaller,Code.frames,Code.isFrame,guardIds]
theorem CY{A:uv}{C:jP}{u:ZY}{d:List (Str×Value)}:(A.under (.builtin "type.__call__" (.ref C::u,d))).units=A.units+1:=by
 first|rfl|simp[Around.under,Code.cUnits,Code.frames,Code.isFrame]
theorem YN.make(r:YN (k+1) A)(C:jP)(u:ZY)(d:List (Str×Value)):YN k (A.under (.builtin "type.__call__" (.ref C::u,d))):=
 (r.hd,by have:=r.dp;rw[CW];lia,by have:=r.un;rw[CY];lia)
theorem YN.depth(r:YN k A):A.depth<recursionLimit:=by have:=r.dp;lia
theorem YN.units(r:YN k A):A.units+64<cLine:=by have:=r.un;lia
def oU:TA:=λ_ H Q=>Q [] H
def kj(t:TE)(I:TA):TA:=λD H Q=>t D H λx E=>I D E λd O=>Q (x::d) O
section
theorem iu:PA X [] oU:=λ_ _ _ _ H Q I h=>Calls.spliced_nil ([],H,I,.nil,h)
abbrev kc(X:Cx)(e:uI)(E:List uI):Prop:=uc (e::E) X.env=(false,eval e X.env)::uc E X.env
abbrev rL(X:Cx)(pos:Pos)(E:List uI):Prop:=(v8 pos (uc E X.env)).any (·.1)=false
theorem Zk(M:PE X e te)(Y:PA X es t)(g:autoParam (kc X e es) ZF):PA X (e::es) (kj te t):=by intro pos z s E H Q I h;rw[g];change jS _ _ (spliced ((false,eval e X.env)::v8 pos (uc es X.env))) _ _ s;show Calls.spliced_cons (thn (M z s E H _ I h) λu S D=>Zy D λx J P r q=>?_);clear D;show thn (Y pos z S E J _ P q) λU p d=>Zy d λf O R m j=>(x::f,O,R,.cons r m,j)
def Gk(t:TA):TE:=λD H Q=>t D H λx E=>x.length<=sizeLine/\∀p,E p=Qs->Q (.ref p) (upd E p (.tup x))
def Gg(t:TA):TE:=λD H Q=>t D H λx E=>x.length<=sizeLine/\∀p,E p=Qs->Q (.ref p) (upd E p (.lst x))
theorem zm{x1}(h:PA X es t):PE X (.Tuple es x1 pos) (Gk t):=by intro Z s D H Q I O;show wpAny_Tuple_spliced (thn (h pos Z s D H _ I O) λU S m=>ze m λx E J r z q=>?_);clear m;show(by rw[<-r.length];show z,?_);have M:E S.heap.objs.size=none:=J.hok.fresh (Qg _);show(.ref S.heap.objs.size,upd E S.heap.objs.size (.tup x),J.laid (t':=S.toks) (λb u e=>Qf _ e) (Qg _) ?_,rfl,q _ M);show(z,U,r,(_,Ql _ rfl,rfl,_,rfl))
theorem fW(h:PA X es t):PE X (.List es pos) (Gg t):=by intro Z s D H Q I P;show wpAny_List_spliced (thn (h pos Z s D H _ I P) λU S J=>ze J λx E M r z q=>?_);clear J;show(by rw[<-r.length];show z,?_);have O:E S.heap.objs.size=none:=M.hok.fresh (Qg _);show(.ref S.heap.objs.size,upd E S.heap.objs.size (.lst x),M.laid (t':=S.toks) (λb u e=>Qf _ e) (Qg _) ?_,rfl,q _ O);show(z,U,0,r,Ql _ rfl)
end
abbrev Sp:=ZE->Hp->VK->XK->Prop
abbrev CXT:=List Env->Hp->jQ->XK->Value->jQ->Prop
structure Cj(P:j8)(w:uj)(K:Qb)(mg:z9)(base:Heap)(A:uv)(outer:List Env)(s:jQ)(H:Hp):Prop where
 frames:A.frames=Qr outer
 mod:Mod K mg base
 bs:∀b o,base.get? b=Qr o->s.heap.get? b=Qr o/\H b=Qs
 bsz:base.objs.size<=s.heap.objs.size
 funs:s.heap.FunFrames base outer
 frf:∀b∈frs outer,H b=Qs
 hok:HOk P w H s.heap
 bare:Qah s.gens
def CE(outer:List Env)(P:j8)(w:uj)(H:Hp)(s:jQ)(Q:VK)(u:Value)(S:jQ):Prop:=
 ∃v I,S.os=s.os/\Qah S.gens/\Un (frs outer) [] H I s.heap S.heap/\HOk P w I S.heap/\zf v u/\Q v I
def CR(C:CXT)(outer:List Env)(P:j8)(w:uj)(H:Hp)(s:jQ)(Q:VK)(E:XK)(r:Qbw)(S:jQ):Prop:=
 match r with
 | .ok (.ret u)=>CE outer P w H s Q u S
 | .ok _=>False
 | .error e=>C outer H s E e S
structure Z0(P:j8)(w:uj)(K:Qb)(mg:z9)(base:Heap)(CX:CXT)(k:Nat)(f:jP)(fd:uY)(ps:ZT)(sp:Sp):Prop where
 len:∀vs H Q E,sp vs H Q E->vs.length=ps.length
 run:∀(A:uv) (outer:List Env) (s:jQ) (H:Hp) (args:Args) (us:ZY) (vs:ZE) (Q:VK) (E:XK),YN k A->Cj P w K mg base A outer s H->QaW s fd args (ps.zip us)->ZQ vs us->sp vs H Q E->
  Qaa (ud P w) A (.call (.ref f) args) (CR CX outer P w H s Q E) s
theorem Cj.make{P:j8}{w:uj}{K:Qb}{mg:z9}{base:Heap}{A:uv}{outer:List Env}{s:jQ}{H:Hp}(e:Cj P w K mg base A outer s H)(C:jP)(u:ZY)(d:List (Str×Value)):
 Cj P w K mg base (A.under (.builtin "type.__call__" (.ref C::u,d))) outer s H:=(by first|show e.frames|(simpa [Around.under,Code.envs,Code.isFrame,pushEnvs]using e.frames),e.mod,e.bs,e.bsz,e.funs,e.frf,e.hok,e.bare)
section
theorem Inv.env0(I:Inv X Zc σ H s):Cj X.prog X.w X.K X.mg X.base X.A X.stack s H:=
 (I.ok.frames,I.ok.mod,I.bs,QC I.ok.bsz I.sz,I.stack,I.stkFree,I.hok,I.bare)
theorem Inv.after(I:Inv X Zc σ H s)(h:CE X.stack X.prog X.w H s Q u s'):EP X Zc σ Q u s':=by show zQ h λv J Z=>ZO Z λos bare un hok r q=>?_;clear Z h;obtain⟨f,g,d,t,O⟩:=s';obtain rfl:O=s.os:=os;show(v,J,I.call (h':=f) (g':=g) (d':=d) (t':=t) (ch:=[]) un hok bare (λb z=>ZD z (by simp)),r,q)
end
def Ob(S:Sp)(d:ZE)(E:XK)(t:TA):TE:=λD H Q=>t D H λv I=>S (v++d) I Q E
def Lv(C:jP)(m:Str)(j:Sp)(d:ZE)(E:XK)(u:TE)(t:TA):TE:=λD H Q=>u D H λx I=>∃a S f,x=.ref a/\I a=Qr (.ins C S f)/\f.lookup m=Qs/\
 t D I λv O=>j (x::(v++d)) O Q E
def B6(C:jP)(S:Sp)(D:ZE)(E:XK)(t:TA):TE:=λJ H Q=>t J H λY I=>∀x d,I x=Qs->I d=Qs->d≠x->
 S (.ref x::(Y++D)) (upd (upd I d (.own x)) x (.ins C d [])) (λv O=>v=.non/\Q (.ref x) O) E
def bL(K:Qb)(f:uY)(p:ZT)(d:ZY):Prop:=
 ∀(s:jQ) (u:ZY),K.In s.heap->(u++d).length=p.length->QaW s f (u,[]) (p.zip (u++d))
theorem bL.all{K:Qb}{f:uY}{p:ZT}(h:∀u:ZY,u.length=p.length->Qap f (u,[])=pure (p.zip u)):bL K f p []:=λs u _ H=>by
 rw[vx]at H ⊢
 show .of_eq (h u H)
def g8(C:CXT)(X:Cx)(E:XK):Prop:=∀(z:zN) (D:St) (H:Hp) (s:jQ) (e:Value) (S:jQ),Inv X z D H s->C X.stack H s E e S->X.xe e S
section
theorem Dl(F:Z0 X.prog X.w X.K X.mg X.base CX k f fd ps sp)(Y:YN k X.A)(S:bL X.K fd ps ds)(hd:ZQ dvs ds)(g:g8 CX X E)
 (I:Inv X Zc σ H s) (r:ZQ vs us) (h:sp (vs++dvs) H Q E):jS (Z2 X) X.A (call (.ref f) us) (EP X Zc σ Q) X.xe s:=by
 have R:ZQ (vs++dvs) (us++ds):=r.append hd;have O:(us++ds).length=ps.length:=by rw[<-R.length];show F.len _ _ _ _ h
 show vL (uR (F.run X.A X.stack s H (us,[]) (us++ds) (vs++dvs) Q E Y I.env0 (S s us I.kIn O) R h) λr j M=>?_)
 cases r with
 |error e=>show g Zc σ H s e j I M
 |ok J=>
  cases J with
  |ret u=>show I.after M
  |next=>show False.elim M
  |brk=>show False.elim M
  |cont=>show False.elim M
theorem MY(F:Z0 X.prog X.w X.K X.mg X.base CX k f fd ps sp)(Y:YN k X.A)(R:Gl X x)(Z:X.mg x=Qr (.ref f))(M:vB X.K (.ref f)=true)(U:bL X.K fd ps ds)(hd:ZQ dvs ds)(j:g8 CX X E)
 (O:PA X (e::es) t) (u:autoParam ((x==("__debug__":Str))=false) z8) (y:autoParam (kc X e es) ZF) (S:autoParam (rL X pos es) ZF):
 PE X (.Call (.Name x p) (e::es) [] pos) (Ob sp dvs E t):=by
 intro z s D H Q I h;show uJ (da I R Z ?_ u);show Qao (h₀:=X.base) I.ok.mod.kin M (thn (O pos z s D H _ I h) λm d g=>Zy g λv P J r q=>?_) y S;show(J.kIn,?_);show Dl F Y U hd j J r q
theorem KG(F:Z0 X.prog X.w X.K X.mg X.base CX k f fd ps sp)(Y:YN k X.A)(R:Gl X x)(Z:X.mg x=Qr (.ref f))(J:vB X.K (.ref f)=true)(S:bL X.K fd ps ds)(hd:ZQ dvs ds)(g:g8 CX X E)
 (q:autoParam ((x==("__debug__":Str))=false) z8):PE X (.Call (.Name x p) [] [] pos) (Ob sp dvs E oU):=by
 intro z s D H Q I h;show uJ (da I R Z ?_ q);show callWith_K0 I.kIn J (Dl (us:=[]) F Y S hd g I .nil h)
theorem M4(he:PE X o ta)(c:Cls X.K C)(Y:OG X.K C m f)(F:Z0 X.prog X.w X.K X.mg X.base CX k f fd ps sp)(y:YN k X.A)(j:bL X.K fd ps ds)(hd:ZQ dvs ds)(p:g8 CX X E)(ha:PA X (e::es) t)
 (g:autoParam (kc X e es) ZF) (S:autoParam (rL X pos es) ZF)
 (ht:autoParam (eval (.Call (.Attribute o m apos) (e::es) [] pos) X.env=(do
  let O <-eval o X.env
  Qbi apos.atName
  let (f,first) <-Qag [O] (Qa8 O m pl)
  callWith pos f first (v8 pos (uc (e::es) X.env)) (QaP pos (Qad [] X.env)))) ZF):
 PE X (.Call (.Attribute o m apos) (e::es) [] pos) (Lv C m sp dvs E ta t):=by
 intro z s D H Q I h;show methodCall_KW (pl:=pl) (thn (he z s D H _ I h) λu B J=>Zy J λx P M rx Z=>cD Z λa dx fs ex ea l q=>?_) ht;clear J;subst ex;obtain rfl:u=Qw a:=rx;show sP M ea c Y l ?_;show Qao (first:=[.ref a]) (h₀:=X.base) I.ok.mod.kin Y.kp (thn (ha pos z B D P _ M q) λU s2 d=>Zy d λv H2 R r q2=>?_) g S;clear d;show(R.kIn,?_);show Dl (us:=.ref a::U) (vs:=.ref a::v) F y j hd p R (.cons rfl r) q2
structure Mk(K:Qb)(C f:jP):Prop where
 makes:makesIn K C=true
 init:vi K (.ref C) "__init__"=Qr (Qr (.ref f))
 fn:isFn K (.ref f)=true
 kp:vB K (.ref C)=true
theorem BX(M:Mk X.K C f)(F:Z0 X.prog X.w X.K X.mg X.base CX k f fd ps sp)(Y:YN (k+1) X.A)(S:bL X.K fd ps ds)(hd:ZQ dvs ds)
 (g:g8 CX X E) (I:Inv X Zc σ H s) (r:ZQ vs us)
 (h:∀x d,H x=Qs->H d=Qs->d≠x->sp (.ref x::(vs++dvs)) (upd (upd H d (.own x)) x (.ins C d [])) (λv P=>v=.non/\Q (.ref x) P) E):
 jS (Z2 X) X.A (call (.ref C) us) (EP X Zc σ Q) X.xe s:=by
 have O:=h (s.heap.objs.size+1) s.heap.objs.size (I.hok.fresh (Vb _)) (I.hok.fresh (Qg _)) (Qu (Vl _));have R:=Inv.made (C:=C) I;have m:ZQ (V.ref (s.heap.objs.size+1)::(vs++dvs)) (Qw (s.heap.objs.size+1)::(us++ds)):=.cons rfl (r.append hd);have U:(Qw (s.heap.objs.size+1)::us++ds).length=ps.length:=by have e:=m.length;rw[F.len _ _ _ _ O]at e;show e.symm
 show vL (Bo (f:=f) I.kIn M.makes M.init (beq_iff_eq.mp M.fn) (uR (F.run _ X.stack _ _ (Qw (s.heap.objs.size+1)::us,[]) (Qw (s.heap.objs.size+1)::(us++ds)) _ _ E (Y.make C us [])
  (R.env0.make C us []) (S _ (Qw (s.heap.objs.size+1)::us) R.kIn U) m O) λr j z=>?_))
 cases r with
 |error e=>show g Zc σ _ _ e j R z
 |ok Z=>
  cases Z with
  |ret u=>
   show ze (R.after z) λv J t p B q=>?_;subst B;show(p,(V.ref (s.heap.objs.size+1),J,t,rfl,q))
  |next=>show False.elim z
  |brk=>show False.elim z
  |cont=>show False.elim z
theorem M1(M:Mk X.K C f)(F:Z0 X.prog X.w X.K X.mg X.base CX k f fd ps sp)(Z:YN (k+1) X.A)(R:Gl X x)(d:X.mg x=Qr (.ref C))(U:bL X.K fd ps ds)(hd:ZQ dvs ds)(g:g8 CX X E)
 (O:PA X (e::es) t) (u:autoParam ((x==("__debug__":Str))=false) z8) (y:autoParam (kc X e es) ZF) (S:autoParam (rL X pos es) ZF):
 PE X (.Call (.Name x p) (e::es) [] pos) (B6 C sp dvs E t):=by
 intro z s D H Q I h;show uJ (da I R d ?_ u);show Qao (h₀:=X.base) I.ok.mod.kin M.kp (thn (O pos z s D H _ I h) λm j Y=>Zy Y λv P J r q=>?_) y S;show(J.kIn,?_);show BX M F Z U hd g J r q
theorem KN(M:Mk X.K C f)(F:Z0 X.prog X.w X.K X.mg X.base CX k f fd ps sp)(Y:YN (k+1) X.A)(R:Gl X x)(Z:X.mg x=Qr (.ref C))(S:bL X.K fd ps ds)(hd:ZQ dvs ds)(g:g8 CX X E)
 (q:autoParam ((x==("__debug__":Str))=false) z8):PE X (.Call (.Name x p) [] [] pos) (B6 C sp dvs E oU):=by
 intro z s D H Q I h;show uJ (da I R Z ?_ q);show callWith_K0 I.kIn M.kp (BX (us:=[]) M F Y S hd g I .nil h)
end
structure ZA(N P:ZT)(sc:Scope):Prop where
 kind:sc.kind=.function
 co:sc.isCoroutine=false
 gen:sc.isGenerator=false
 nd:N.Nodup
 pre:N.take P.length=P
 par:∀x∈P,sc.names.lookup x=Qr .local\/sc.names.lookup x=Qr .cell
 nofree:∀y∈sc.names,y.2≠ .free
theorem xh{kindOf:Str->Option QaQ}:∀{B:List (Str×Value)} {m:z9},(∀v,(x,v)∉B)->bindL kindOf B m x=m x
 |[],_,_=>rfl
 |(n,v)::r,m,h=>by
  unfold bindL;rw[xh λw H=>h w (ua _ H)];split
  .have:x≠n:=by rintro rfl;show h v ub
   simp[this]
  rfl
theorem xf{kindOf:Str->Option QaQ}:∀{B:List (Str×Value)} {m:z9},(∀v,(x,v)∉B)->bindC kindOf B m x=m x
 |[],_,_=>rfl
 |(n,v)::r,m,h=>by
  unfold bindC;rw[xf λw H=>h w (ua _ H)];split;rfl;have:x≠n:=by rintro rfl;show h v ub
  simp[this]
theorem xg{kindOf:Str->Option QaQ}:∀{P:ZT} {Y:ZY} {i:Nat} {m:z9},P.Nodup->P[i]?=Qr x->Y[i]?=Qr v->kindOf x=Qr .local->
 bindL kindOf (P.zip Y) m x=Qr v
 |[],_,_,_,_,h,_,_=>by simp at h
 |_::_,[],_,_,_,_,h,_=>by simp at h
 |p::P,w::Y,0,m,nd,H,I,E=>by simp at H I;subst H;subst I;change bindL kindOf ((p,w)::P.zip Y) m p=_;unfold bindL;rw[xh λv M=>(UR.mp nd).1 (Wc M).1,Zx E];simp
 |p::P,w::Y,i+1,m,nd,H,I,E=>by change bindL kindOf ((p,w)::P.zip Y) m x=_;unfold bindL;show xg (i:=i) (UR.mp nd).2 (by simpa using H) (by simpa using I) E
theorem xc{kindOf:Str->Option QaQ}:∀{P:ZT} {Y:ZY} {i:Nat} {m:z9},P.Nodup->P[i]?=Qr x->Y[i]?=Qr v->kindOf x≠Qr .local->
 bindC kindOf (P.zip Y) m x=Qr v
 |[],_,_,_,_,h,_,_=>by simp at h
 |_::_,[],_,_,_,_,h,_=>by simp at h
 |p::P,w::Y,0,m,nd,H,I,E=>by simp at H I;subst H;subst I;change bindC kindOf ((p,w)::P.zip Y) m p=_;unfold bindC;rw[xf λv M=>(UR.mp nd).1 (Wc M).1,Zo E];simp
 |p::P,w::Y,i+1,m,nd,H,I,E=>by change bindC kindOf ((p,w)::P.zip Y) m x=_;unfold bindC;show xc (i:=i) (UR.mp nd).2 (by simpa using H) (by simpa using I) E
noncomputable def JZ(N:ZT)(v:ZE):St:=v.map Qr++Qy (N.length-v.length) Qs
noncomputable def dH(C:CXT)(P:j8)(w:uj)(K:Qb)(mg:z9)(base:Heap)(N:ZT)(q:Str)(S:Scope)(f:jP)(cd:Value)(A:uv)(outer:List Env)(s:jQ)(H:Hp)(E:XK):Cx where
 prog:=P
 w:=w
 K:=K
 mg:=mg
 base:=base
 A:=A.deeper (ve q S s.heap.objs.size f cd)
 N:=N
 s₀:=s
 H₀:=H
 env:=ve q S s.heap.objs.size f cd
 outer:=outer
 stack:=ve q S s.heap.objs.size f cd::outer
 ex:=[]
 calm:=true
 fn:=λ_=>true
 pn:=[]
 xe:=λe j=>jS (ud P w) (A.deeper (ve q S s.heap.objs.size f cd)) (leaving (ve q S s.heap.objs.size f cd) e) (λ_ U=>C outer H s E e U) (λr U=>C outer H s E r U) j
theorem AB{sc:Scope}{n:Nat}{x:Str}(h:sc.names.lookup x=Qr .cell):∃c,(cellsFrom n sc.names []).lookup x=Qr c:=by have q:=cellsFrom_some sc.names n [] (.inl h);show Option.isSome_iff_exists.mp q
theorem Fu{CX:CXT}{P:j8}{w:uj}{K:Qb}{mg:z9}{base:Heap}{N J:ZT}{Q:Str}{U:Scope}{f:jP}{cd:Value}{A:uv}{outer:List Env}{s D:jQ}{H:Hp}{E:XK}{g:ZY}{Y:ZE}
 (S:ZA N J U) (hd:A.handled=Qs) (d:Cj P w K mg base A outer s H) (hl:Y.length=J.length) (r:ZQ Y g)
 (x:InCallC s s.heap.objs.size (bindL (ve Q U s.heap.objs.size f cd).kindOf (J.zip g) λ_=>Qs) (cellsFrom (s.heap.objs.size+1) U.names []) (bindC (ve Q U s.heap.objs.size f cd).kindOf (J.zip g) λ_=>Qs) D):
 Inv (dH CX P w K mg base N Q U f cd A outer s H E) [] (JZ N Y) H D:=by
 have a1:J.length<=N.length:=by have:=congrArg Qa S.pre;rw[jZ]at this;lia
 show ZS x.done λB tk j O=>?_;subst j;have Z:∀b:jP,b∉(dH CX P w K mg base N Q U f cd A outer s H E).ex:=λb z=>ZD (show b∈([]:List jP)from z) (by simp)
 show((d.mod,S.kind,rfl,rfl,Qg _,λy z c B I=>?_,λy t=>?_,λy c _ h=>?_,λ_=>hd,Around.frames_deeper d.frames,.inr (rfl,rfl),λb z=>ZD z (Z b),d.bs,d.bsz,λb _ _=>Z b,λb z=>ZD z (Z b),d.funs,d.frf),
  rfl,d.bare,Un.kept O,(_,x.toInCall.ns,λi y v B I h3=>?_),λy c h=>(_,x.cell y c h),d.hok.fresh (Qg _),λy c h=>?_,λp C=>ZD (show p∈([]:zN)from C) (by simp),d.hok.kept O,?_)
 show name_of_addr x.apart (PySem.mem_of_lookup B) (PySem.mem_of_lookup I)
 .have t:U.names.lookup y=Qr .cell\/U.names.lookup y=Qr .free:=t;rcases t with t|t;show AB t;show ZD rfl (S.nofree _ (PySem.mem_of_lookup t))
 show Ua (x.above y c (PySem.mem_of_lookup h))
 .have m:i<Y.length:=by unfold JZ at I;by_cases m:i<Y.length;show m;rw[Qt (by simpa using m)]at I;rw[Vy]at I;split at I<;>cases I
  have ha:Y[i]?=Qr v:=by
   unfold JZ at I;rw[Qx (by simpa using m),Qm]at I
   cases e:Y[i]? with
   |none=>rw[e]at I;cases I
   |some a=>rw[e]at I;cases I;rfl
  show Zf (r.get ha) λu R rv=>?_;have C:J[i]?=Qr y:=by rw[<-S.pre,U7 ⋯];show B
  have M:J.Nodup:=by rw[<-S.pre];show S.nd.sublist (UW _ _)
  show(u,rv,?_);rcases S.par y (QD C)with k|k;show .inl (k,xg M C R k);obtain⟨c,e⟩:=AB (n:=s.heap.objs.size+1) k;show .inr (.inl k,c,e,?_);have q:=x.cell y c e;rw[xc M C R (by change U.names.lookup y≠_;rw[k];decide)]at q;show q
 show d.hok.fresh (Ua (x.above y c (PySem.mem_of_lookup h)));unfold JZ;change _=N.length;rw[jR,jO,vE]
 lia
theorem A4{CX:CXT}{P:j8}{w:uj}{K:Qb}{mg:z9}{base:Heap}{k:Nat}{f:jP}{name M:Str}{p:Arguments}{B:List Stmt}{U:Scope}{dV kV R pm C ct oc:Value}{an od:Option jP}
 {a3:Array (Option Value)} {N ps:ZT} {sp:Sp} (lk:K.lookup f=Qr (oc,od,.func (Qat name M p B U dV kV R pm an C ct),a3)) (a2:Qan K C M=true) (S:ZA N ps U)
 (len:∀Y H Q E,sp Y H Q E->Y.length=ps.length)
 (z:∀(A:uv) (outer:List Env) (s:jQ) (H:Hp) (Y:ZE) (Q:VK) (E:XK),YN k (A.deeper (ve M U s.heap.objs.size f C))->sp Y H Q E->
  ∃t,PSs (dH CX P w K mg base N M U f C A outer s H E) B t/\t {nx:=λ_ O=>Q .non O,rt:=Q} (JZ N Y) H):
 Z0 P w K mg base CX (k+1) f (Qat name M p B U dV kV R pm an C ct) ps sp:=by
 show(len,λA outer s H args us Y Q E hr j hb r Z=>?_);have hl:=len _ _ _ _ Z;have KX:K.In s.heap:=j.mod.kin.keeps λb o e=>(j.bs b o e).1;have a1:s.heap.NoLimit:=j.mod.nolimit.keeps λb o e=>(j.bs b o e).1;have D:∀y∈ps.zip us,U.names.lookup y.1=Qr .local\/(U.names.lookup y.1=Qr .cell/\((cellsFrom (s.heap.objs.size+1) U.names []).lookup y.1).isSome=true):=λ(n,v) hy=>by rcases S.par n (Wc hy).1 with q|q;show .inl q;show .inr (q,cellsFrom_some _ _ _ (.inl q))
 show codeAny_call_function hr.depth (KX _ _ lk) rfl S.co S.gen rfl (PySem.W.codeRec_of KX a2) (hb _ _ _ _ ?_);show wpAny_newFunctionEnv_cells S.kind D λenv he s1 x=>?_;subst he;show(a1.keeps x.toInCall.keep,codeAny_func ?_);show Zf (z A outer s H Y Q E (hr.deeper _) Z) λt ht hq=>?_;have I:Inv (dH CX P w K mg base N M U f C A outer s H E) [] (JZ N Y) H s1:=Fu S hr.hd j hl r x;show uE (ht [] s1 (JZ N Y) H _ I hq) (λfl s' g=>?_) λe s' g=>g
 have m:∀{d:St} {O:Hp} {v:V} {u:Value},Inv (dH CX P w K mg base N M U f C A outer s H E) [] d O s'->zf v u->Q v O->CE outer P w H s Q u s':=
  λ{d O v u} J rv q=>(v,O,J.os,J.bare,J.base,J.hok,rv,q)
 cases fl with
 |ret u=>
  show Z6 g λv d O J rv q=>m J rv q
 |next=>
  show ZS g λd O J q=>m (v:=V.non) (u:=QG) J rfl q
 |brk=>
  show ZS g λ_ _ _ q=>False.elim q
 |cont=>
  show ZS g λ_ _ _ q=>False.elim q
section
variable{X:Cx}{x:Str}{p pos:Pos}{e:uI}{es:List uI}{t:TA}{id T:String}{r:ZE->Hp->VK->Prop}
def tCB(r:ZE->Hp->VK->Prop)(t:TA):TE:=λD H Q=>t D H λv E=>r v E Q
theorem qk(d:JU X (.builtin id) r)(R:Gl X x)(Y:X.mg x=Qs)(O:ux x=Qr (.builtin id))(J:PA X (e::es) t)(j:autoParam (x≠"__name__") z8)(q:autoParam ((x==("__debug__":Str))=false) z8)
 (he:autoParam (kc X e es) ZF) (S:autoParam (rL X pos es) ZF):PE X (.Call (.Name x p) (e::es) [] pos) (tCB r t):=by
 intro z s D H Q I h;show uJ (JL I R Y O ?_ j q);show PyProof.Rows.callWith_builtin1 (thn (J pos z s D H _ I h) λu f Z=>Zy Z λv E M m g=>d z f D E v u Q M m g) he S
theorem Yt(d:JU X (.type T) r)(R:Gl X x)(Y:X.mg x=Qs)(O:ux x=Qr (.type T))(J:PA X (e::es) t)(j:autoParam (x≠"__name__") z8)(q:autoParam ((x==("__debug__":Str))=false) z8)
 (B:autoParam (kc X e es) ZF) (S:autoParam (rL X pos es) ZF):PE X (.Call (.Name x p) (e::es) [] pos) (tCB r t):=by
 intro z s D H Q I h;show uJ (JL I R Y O ?_ j q);show PyProof.Rows.callWith_type1 (thn (J pos z s D H _ I h) λu f y=>Zy y λv E M g Z=>d z f D E v u Q M g Z) B S
end
end L2
namespace HT
open PySem PyProof.Rows
section
variable{E:ZW}
noncomputable def sIx(n d:Nat):Option Int->Nat
 |none=>d
 |some v=>if v<0 then(v+(n:Int)).toNat else min v.toNat n
theorem Le(n d:Nat)(hd:d<=n)(o:Option Int):sIx n d o<=n:=by
 cases o with
 |none=>show hd
 |some v=>
  change(if v<0 then(v+(n:Int)).toNat else min v.toNat n)<=n;by_cases H:v<0;rw[Zx H];lia;rw[Zo H];show Nat.min_le_right _ _
end
end HT
namespace L2
open PySem PySem.Spec PyProof.Rows
abbrev TO:=St->Hp->(Option Int->Hp->Prop)->Prop
def PO(X:Cx)(e:Option uI)(t:TO):Prop:=
 ∀(z:zN) (s:jQ) (D:St) (H:Hp) (Q:Option Int->Hp->Prop),Inv X z D H s->t D H Q->
  jS (Z2 X) X.A (evalPart e X.env) (λu S=>∃o I,Inv X z D I S/\IsPart u o/\Q o I) X.xe s
def iX:TO:=λ_ H Q=>Q Qs H
def XY(t:TE):TO:=λD H Q=>t D H λx E=>∃i,x=.int i/\Q (Qr i) E
section
variable{X:Cx}{e:uI}{te:TE}{lo hi:Option uI}{tl th:TO}{pos p2:Pos}
theorem qd:PO X Qs iX:=by intro z s D H Q I h;rw[evalPart_none];show jN (Qs,H,I,.none,h)
theorem Na(h:PE X e te):PO X (Qr e) (XY te):=by intro m s D H Q I U;rw[evalPart_some];show thn (h m s D H _ I U) λu S Y=>Zy Y λx E J r Z=>?_;clear Y;show Zf Z λi z q=>?_;clear Z;subst z;obtain⟨t,rfl⟩:=r;show(Qr i,E,J,.int i t,q)
def SlR(X:Cx)(r:V->Option Int->Option Int->Hp->VK->Prop):Prop:=
 ∀(z:zN) (s:jQ) (D:St) (H:Hp) (x:V) (v E q:Value) (lo hi:Option Int) (S:jP) (Q:VK),Inv X z D H s->zf x v->s.heap.IsSliceOf S E q .none->IsPart E lo->IsPart q hi->r x lo hi H Q->
  ∃T id,vY (.type T) "__getitem__"=pure (Qr (.builtin id))/\s.TypeIs v T/\jS (Z2 X) X.A (Qbk v (.ref S)) (EP X z D Q) X.xe s
def tSl(r:V->Option Int->Option Int->Hp->VK->Prop)(te:TE)(tl th:TO):TE:=λD H Q=>te D H λx E=>tl D E λl O=>th D O λu Y=>r x l u Y Q
theorem KO{r:V->Option Int->Option Int->Hp->VK->Prop}(Z:SlR X r)(he:PE X e te)(P:PO X lo tl)(hu:PO X hi th):PE X (.Subscript e (.Slice lo hi Qs p2) pos) (tSl r te tl th):=by intro z s D H Q I h;show Subscript_ (thn (he z s D H _ I h) λv f t=>Zy t λx J M r1 g=>?_);clear t;show wpAny_Slice (thn (P z f D J _ M g) λE B U=>Zy U λl O I2 pl m=>?_);clear U;show thn (hu z B D O _ I2 m) λy S p=>Zy p λu Y I3 pu q3=>?_;clear p;rw[evalPart_none];show jN ?_;have I4:Inv X z D Y {S with heap:=S.heap.push {cls:=.type "slice",data:=.fields #[E,y,.none]} }:=I3.kept (t':=S.toks) λb ob q=>Qf _ q;show Zy (Z z {S with heap:=S.heap.push {cls:=.type "slice",data:=.fields #[E,y,.none]} } D Y x v E y l u S.heap.objs.size Q I4 r1 (Heap.IsSliceOf.new ..) pl pu q3) λT id hT C j=>?_;change jS (Z2 X) X.A (subscriptTail e (.Slice lo hi Qs p2) v (.ref S.heap.objs.size)) (EP X z D Q) X.xe {S with heap:=S.heap.push {cls:=.type "slice",data:=.fields #[E,y,.none]} };show tail_any (ops:=[.ref S.heap.objs.size,v]) C hT j (by with_unfolding_all rfl)
noncomputable def Mi(x:ZE)(lo hi:Option Int):ZE:=(x.drop (HT.sIx x.length 0 lo)).take (HT.sIx x.length x.length hi-HT.sIx x.length 0 lo)
theorem AJ(x:ZE)(lo hi:Option Int):(Mi x lo hi).length<=x.length:=by
 unfold Mi;rw[jZ,uf]
 lia
end
noncomputable def ixN(n:Nat)(i:Int):Option Nat:=if 0<=i then(if i<n then Qr i.toNat else Qs)else if -(n:Int)<=i then Qr (i+n).toNat else Qs
noncomputable def atI{α:Type}(x:List α)(i:Int):Option α:=(ixN x.length i).bind λj=>x[j]?
theorem Ej(h:ixN n i=Qr j):seqIndex? i n=Qr j/\j<n/\ -(n:Int)<=i/\i<n:=by
 unfold ixN at h;by_cases m:0<=i
 .rw[Zx m]at h;by_cases H:i<n
  .rw[Zx H]at h;have e:i.toNat=j:=Option.some.inj h;show(by rw[seqIndex_of m H,e],⋯,⋯,H)
  rw[Zo H]at h;cases h
 rw[Zo m]at h;by_cases H: -(n:Int)<=i
 .rw[Zx H]at h;have e:(i+n).toNat=j:=Option.some.inj h;show(by rw[seqIndex_neg ⋯ H,e],⋯,H,⋯)
 rw[Zo H]at h;cases h
theorem x8{α:Type}{x:List α}{i:Int}{v:α}(h:atI x i=Qr v):∃j,seqIndex? i x.length=Qr j/\x[j]?=Qr v/\j<x.length/\ -(x.length:Int)<=i/\i<x.length:=by
 unfold atI at h
 cases e:ixN x.length i with
 |none=>rw[e]at h;cases h
 |some j=>
  rw[e]at h;show za (Ej e) λH I Q d=>(j,H,h,I,Q,d)
def xY(b:uI):Prop:=∀o i,Qbc b false o i=operate [o,i] (Qbk o i)
def IxR(X:Cx)(r:R2):Prop:=
 ∀(Z S:uI) (z:zN) (s:jQ) (D:St) (H:Hp) (x y:V) (v u:Value) (Q:VK),Inv X z D H s->zf x v->zf y u->r x y H Q->
  Qbc S false v u=operate [v,u] (Qbk v u)->jS (Z2 X) X.A (subscriptTail Z S v u) (EP X z D Q) X.xe s
def MtR(X:Cx)(id:String)(r:V->ZE->Hp->VK->Prop):Prop:=
 ∀(z:zN) (s:jQ) (D:St) (H:Hp) (x:V) (d:ZE) (v:Value) (u:ZY) (Q:VK),Inv X z D H s->zf x v->ZQ d u->r x d H Q->
  jS (Z2 X) X.A (call (.builtin id) (v::u)) (EP X z D Q) X.xe s
section
variable{X:Cx}{a b:uI}{ta tb:TE}{pos:Pos}
theorem Et(Y:IxR X r)(J:PE X a ta)(S:PE X b tb)(g:xY b):PE X (.Subscript a b pos) (tOp r ta tb):=by intro z s D H Q I h;show Subscript_ (OU J S I h λv u p x y O Z R U q=>Y a b z p D O x y v u Q Z R U q (g _ _))
def Zas(K:Qb):R2:=λx y H Q=>∃p d i v,x=.ref p/\y=.int i/\SqL K H p d/\atI d i=Qr v/\Q v H
def Zau(K:Qb):R2:=λx y H Q=>∃p d i v,x=.ref p/\y=.int i/\SqT K H p d/\atI d i=Qr v/\Q v H
def Zat:R2:=λx y H Q=>∃z i c,x=.str z/\y=.int i/\z.length<=sizeLine/\atI z.cps.toList i=Qr c/\Q (.str ⟨#[c]⟩) H
theorem MB:IxR X (Zas X.K):=by
 intro d S E s D H x y v u Q I rx ry h J;show ZH h λp xs i g=>JN g λz Z R hq he q=>?_;clear g h;subst Z;subst R;cases rx;obtain⟨t,rfl⟩:=ry;show Zz (I.list hq) λY r P hz=>?_;show JN (x8 he) λj B U h3 h4 h5=>?_;show Zf (r.get U) λw O m=>?_;have hl:=r.length;have hn:=ir;have f:EP X E D Q w s:=(z,H,I,m,q);by_cases M:0<=i
 .have C:i.toNat=j:=by rw[seqIndex_of M h5]at B;show Option.some.inj B
  show item_listR P.isList M ⋯ (by rw[C];simpa using O) f J
 have C:(i+(Y.toArray.size:Int)).toNat=j:=by rw[seqIndex_neg ⋯ h4]at B;rw[j7,<-hl];show Option.some.inj B
 show subscriptTail_builtinR (x:=w) P.isList.typeIs slot_list_getitem.lookup
  (wpAny_getItem_list_neg (Q:=λr s'=>r=w/\EP X E D Q r s') P.isList ⋯ (by rw[j7]<;>lia) ⋯ (by rw[C];simpa using O) (rfl,f)) J
theorem Po:IxR X (Zau X.K):=by
 intro d S B s D H x y v u Q I U ry h g;show ZH h λp xs i Y=>JN Y λz Z R hq he q=>?_;clear Y h;subst Z;subst R;cases U;obtain⟨t,rfl⟩:=ry;show Zz (I.tuple hq) λM r P hz=>?_;show JN (x8 he) λj C J h3 h4 h5=>?_;show Zf (r.get J) λw ew m=>?_;have O:=r.length;have hn:=ir;have f:EP X B D Q w s:=(z,H,I,m,q)
 show subscriptTail_builtinR (x:=w) P.typeIs slot_tuple_getitem.lookup
  (getItem_tuple (j:=j) (Q:=λr E=>r=w/\EP X B D Q r E) P ⋯ ⋯ (by rw[j7,<-O];show C) (by simpa using ew) (rfl,f)) g
theorem Pn:IxR X Zat:=by
 intro d S p s P H x y v u Q I r R h g;show kN h λz i c Z B hz M q=>?_;clear h;subst Z;subst B;obtain⟨t,rfl⟩:=r;obtain⟨Y,rfl⟩:=R;show JN (x8 M) λj C J h3 f m=>?_;have O:z.cps.toList.length=z.length:=by simp[VV]
 rw[O]at C f m;have U:=ir
 show tail_any (uW s z t) slot_str_getitem.lookup (getItem_str (c:=c) (by
  have E:decide (i < -(2 ^ 63:Int))=false:=decide_eq_false ⋯;have D:decide (i ≥ 2 ^ 63)=false:=decide_eq_false ⋯;rw[E,D,Wv]) (by rw[C];simpa using J) (.str ⟨#[c]⟩,H,I.tok _,(_,rfl),q)) g
theorem CZ(I:ZY)(n j:Nat)(u:Value):Obj.mapSeq (·.setIfInBounds j u) {cls:=.type "list",data:=.seq I.toArray n}= {cls:=.type "list",data:=.seq (I.set j u).toArray n}:=by simp[Obj.mapSeq]
theorem Inv.lst(I:Inv X Zc σ H s)(h:H p=Qr (.lst xs)):
 ∃(Y:ZY) (n:Nat),ZQ xs Y/\s.heap.get? p=Qr {cls:=.type "list",data:=.seq Y.toArray n}/\xs.length<=sizeLine:=by
 show ZI (I.hok p _ h) λz Z=>ZS Z λY n r e=>(Y,n,r,e,z)
theorem Inv.lstUpd{z:zN}{D:St}{H:Hp}{s:jQ}{p:jP}{d y:ZE}{Z Y:ZY}{n S:Nat}{f:Obj->Obj}(I:Inv X z D H s)(h:H p=Qr (.lst d))
 (v:s.heap.get? p=Qr {cls:=.type "list",data:=.seq Z.toArray n}) (J:f {cls:=.type "list",data:=.seq Z.toArray n}= {cls:=.type "list",data:=.seq Y.toArray S}) (r:ZQ y Y) (B:y.length<=sizeLine) (t:Nat):
 Inv X z D (upd H p (.lst y)) {s with heap:=s.heap.update p f,toks:=t}:=by
 have e:(s.heap.update p f).get? p=Qr {cls:=.type "list",data:=.seq Y.toArray S}:=by rw[Q9 f v (by rw[J]<;>rfl),J]
 show I.write (x:=p) (e:=p) (by rw[h];trivial) (.inl rfl) (λb u U q=>(UB _ _ (Ne.symm U)).trans q) (_,e) ?_;show(B,Y,S,r,e)
def XH:V->V->V->Hp->(Hp->Prop)->Prop:=λo i v H Q=>∃p x k j,o=.ref p/\i=.int k/\H p=Qr (.lst x)/\ixN x.length k=Qr j/\Q (upd H p (.lst (x.set j v)))
theorem Lf:OI X XH:=by
 intro B s D H o i v ov iv u Q I ro ri U h;show ZH h λp g k d=>JN d λj z Z C J q=>?_;clear d h;subst z;subst Z;cases ro;obtain⟨t,rfl⟩:=ri;show Zy (I.lst C) λY n r y P=>?_;show za (Ej J) λx h2 R f=>?_;have O:=r.length;have hn:=ir
 have M:Inv X B D (upd H p (.lst (g.set j v))) {s with heap:=s.heap.update p (Obj.mapSeq (·.setIfInBounds j u))}:=
  I.lstUpd C y (CZ Y n j u) (r.set U j) (by rw[List.length_set];show P) s.toks
 by_cases m:0<=k
 .have E:k.toNat=j:=by rw[seqIndex_of m f]at x;show Option.some.inj x
  show PySem.W.ki_setAt y m ⋯ (by rw[j7,<-O];show f) (by rw[E];show(_,M,q))
 have E:(k+(Y.toArray.size:Int)).toNat=j:=by rw[seqIndex_neg ⋯ R]at x;rw[j7,<-O];show Option.some.inj x
 show PySem.W.ki_setBack y ⋯ (by rw[j7,<-O];show R) ⋯ (by rw[E];show(_,M,q))
theorem Ae(lo H:Option Int)(n:Nat):(Qac lo H Qs n).1=((HT.sIx n 0 lo:Nat):Int)/\(Qac lo H Qs n).2.1=((HT.sIx n n H:Nat):Int)/\(Qac lo H Qs n).2.2=1:=by
 show(?_,?_,rfl)
 .cases lo with
  |none=>simp[Qac,HT.sIx]
  |some i=>
   simp only[Qac,HT.sIx,WZ,show(1:Int)>0 by decide,if_true];by_cases h:i<0
   .simp only[h,if_true]<;>lia
   simp only[h,if_false]<;>lia
 cases H with
 |none=>simp[Qac,HT.sIx]
 |some i=>
  simp only[Qac,HT.sIx,WZ,show(1:Int)>0 by decide,if_true];by_cases h:i<0
  .simp only[h,if_true]<;>lia
  simp only[h,if_false]<;>lia
theorem wW(I:ZY)(lo H:Option Int):slicePick I.toArray lo H Qs=((I.drop (HT.sIx I.length 0 lo)).take (HT.sIx I.length I.length H-HT.sIx I.length 0 lo)).toArray:=by show ZL (Ae lo H I.toArray.size) λx J Q=>?_;unfold slicePick;rw[x,J,Q];simp only[sliceRange_one,pick_run,j7]<;>rfl
def Zav(K:Qb):V->Option Int->Option Int->Hp->VK->Prop:=λx lo m H Q=>∃a d,x=.ref a/\SqL K H a d/\∀p,H p=Qs->Q (.ref p) (upd H p (.lst (Mi d lo m)))
theorem Nx:SlR X (Zav X.K):=by intro Z s E H x v J u lo m S Q I R g p P h;show Zy h λa d z f q=>?_;clear h;subst z;cases R;show Zz (I.list f) λY r t y=>?_;have D:=r.length;show("list",_,slot_list_getitem.lookup,t.isList.typeIs,?_);show wpAny_getItem_list_slice t.isList g p P .none (by simp) ?_ (by rw[j7]<;>lia);rw[wW,<-D];show(.ref s.heap.objs.size,_,I.laid (t':=s.toks) (o:=.lst (Mi d lo m)) (λb O q=>Qf _ q) (Qg _) ?_,rfl,q _ (I.hok.fresh (Qg _)));show(QC (AJ d lo m) y,_,0,(r.drop (HT.sIx d.length 0 lo)).take (HT.sIx d.length d.length m-HT.sIx d.length 0 lo),Ql _ rfl)
noncomputable def dM:V->Bool
 | .non=>true
 | .bl _=>true
 | .int _=>true
 | .str _=>true
 |_=>false
noncomputable def eqV:V->V->Bool
 | .non,.non=>true
 | .bl a,.bl b=>a==b
 | .bl a,.int b=>(if a then 1 else 0)==b
 | .int a,.bl b=>a==(if b then 1 else 0)
 | .int a,.int b=>a==b
 | .str a,.str b=>a==b
 |_,_=>false
theorem Ib(R:zf y u)(r:zf x v)(j:dM y=true)(f:dM x=true):SeqAt.EqAt A s u v (eqV y x):=by
 cases y with
 |non=>
  cases R
  cases x with
  |non=>cases r;show SeqAt.EqAt.same _
  |bl b=>cases r;show SeqAt.EqAt.none_bool b
  |int b=>obtain⟨t,rfl⟩:=r;show SeqAt.EqAt.none_int b t
  |str b=>obtain⟨t,rfl⟩:=r;show SeqAt.EqAt.none_str b t
  |_=>show ZD (show false=true from f) Qk
 |bl a=>
  cases R
  cases x with
  |non=>cases r;show SeqAt.EqAt.bool_none a
  |bl b=>cases r;show SeqAt.EqAt.bool_bool a b
  |int b=>obtain⟨t,rfl⟩:=r;show SeqAt.EqAt.bool_int a b t
  |str b=>obtain⟨t,rfl⟩:=r;show SeqAt.EqAt.bool_str a b t
  |_=>show ZD (show false=true from f) Qk
 |int a=>
  obtain⟨m,rfl⟩:=R
  cases x with
  |non=>cases r;show SeqAt.EqAt.int_none a m
  |bl b=>cases r;show SeqAt.EqAt.int_bool a m b
  |int b=>obtain⟨t,rfl⟩:=r;show SeqAt.EqAt.int_int a m b t
  |str b=>obtain⟨t,rfl⟩:=r;show SeqAt.EqAt.int_str a m b t
  |_=>show ZD (show false=true from f) Qk
 |str a=>
  obtain⟨m,rfl⟩:=R
  cases x with
  |non=>cases r;show SeqAt.EqAt.str_none a m
  |bl b=>cases r;show SeqAt.EqAt.str_bool a m b
  |int b=>obtain⟨t,rfl⟩:=r;show SeqAt.EqAt.str_int a m b t
  |str b=>obtain⟨t,rfl⟩:=r;show SeqAt.EqAt.str_str a m b t
  |_=>show ZD (show false=true from f) Qk
 |_=>show ZD (show false=true from j) Qk
noncomputable def eqU(x:V)(u:Value):Bool:=match u with
 | .none=>eqV .non x
 | .bool b=>eqV (.bl b) x
 | .int i _=>eqV (.int i) x
 | .str z _=>eqV (.str z) x
 |_=>false
theorem Ic(r:zf y u)(f:dM y=true):eqU x u=eqV y x:=by
 cases y with
 |non=>cases r;rfl
 |bl b=>cases r;rfl
 |int i=>obtain⟨t,rfl⟩:=r;rfl
 |str z=>obtain⟨t,rfl⟩:=r;rfl
 |_=>show ZD (show false=true from f) Qk
theorem DV:∀{d:ZE} {u:ZY},ZQ d u->d.all dM=true->u.any (eqU x)=d.any λy=>eqV y x:=by
 intro d u h;induction h with
 |nil=>intro _;rfl
 |cons r t I=>intro f;rw[jz,QW]at f;rw[Vw,Vw,Ic r f.1,I f.2]
theorem tj(R:zf x v)(Y:dM x=true):∀{d:ZE} {U:ZY},ZQ d U->d.all dM=true->∀u∈U,SeqAt.EqAt A s u v (eqU x u)
 |_,_,.nil,_=>λu H=>by cases H
 |y::d,u::U,.cons r t,f=>λp H=>by rw[jz,QW]at f;rcases ui.mp H with rfl|H;rw[Ic r f.1];show Ib r R f.1 Y;show tj R Y t f.2 p H
noncomputable def inV(x:V)(d:ZE):Bool:=d.any λy=>eqV y x
def rIn(K:Qb)(neg:Bool):R2:=λx y H Q=>∃p d,y=.ref p/\(SqL K H p d\/SqT K H p d)/\dM x=true/\d.all dM=true/\Q (.bl (if neg then !inV x d else inV x d)) H
theorem FN:OpR X (uD .In) (rIn X.K false):=by
 intro m s D H x y v u Q I R S h;show cC h λp d z M Z f q=>?_;clear h;subst z;cases S;rcases M with M|M
 .show Zz (I.list M) λY r P B=>?_;show SeqAt.in_listAt (eqU x) P.isList (λw U=>tj R Z r f w (by simpa using U)) (.bl _,H,I,rfl,?_);rw[show Y.toArray.any (eqU x)=Y.any (eqU x)by simp,DV r f];show q
 show Zz (I.tuple M) λY r P B=>?_;show SeqAt.in_tupleAt (eqU x) P (λw U=>tj R Z r f w (by simpa using U)) (.bl _,H,I,rfl,?_);rw[show Y.toArray.any (eqU x)=Y.any (eqU x)by simp,DV r f];show q
theorem yf:JU X (.builtin "len") (λx H Q=>∃p y,x=[.ref p]/\(SqL X.K H p y\/SqT X.K H p y)/\Q (.int y.length) H):=by
 intro m s E H x U Q I r h;show Zy h λp y z M q=>?_;clear h;subst z;show Zf (J1 r) λu Z J=>?_;subst Z;cases J;have j:=ir;rcases M with M|M
 .show Zz (I.list M) λY R P B=>?_;have D:=R.length;show Calls.call_len_list P.isList (by simp only[j7]<;>lia) (.int y.length,H,I.tok _,(s.toks+1,by rw[j7,D]),q)
 show Zz (I.tuple M) λY R P B=>?_;have D:=R.length;show len_tuple P (by simp only[j7]<;>lia) (.int y.length,H,I.tok _,(s.toks+1,by rw[j7,D]),q)
theorem yg:JU X (.builtin "len") (λx H Q=>∃z,x=[.str z]/\z.length<=sizeLine/\Q (.int z.length) H):=by intro m s D H x U Q I r h;show Zz h λz Z y q=>?_;clear h;subst Z;show Zf (J1 r) λu Z Y=>zI Y λt j=>?_;clear Y;subst Z;subst j;have p:=ir;show len_str ⋯ (.int z.length,H,I.tok _,(_,rfl),q)
def tyV(K:Qb)(T:String)(x:V)(H:Hp):Prop:=match x with
 | .str _=>T="str"
 | .int _=>T="int"
 | .ref p=>(T="list"/\∃d,SqL K H p d)\/(T="tuple"/\∃o,K.lookup p=Qr o/\o.cls=.type "tuple"/\o.dict=Qs)\/
  (T="dict"/\((∃y,H p=Qr (.dK y))\/∃y,H p=Qr (.dT y)))\/(T="set"/\∃S n,H p=Qr (.set S n))
 |_=>False
theorem LF(I:Inv X Zc σ H s)(r:zf x v)(ty:tyV X.K T x H):
 s.TypeIs v T/\∀a,v=.ref a->∃O,s.heap.get? a=Qr O/\O.dict=none:=by
 cases x with
 |str z=>
  obtain⟨t,rfl⟩:=r;cases(show T="str"from ty);show(uW s z t,λ_ e=>nomatch e)
 |int i=>
  obtain⟨t,rfl⟩:=r;cases(show T="int"from ty);show(typeIs_int s i t,λ_ e=>nomatch e)
 |ref p=>
  cases r;rcases ty with⟨rfl,f,M⟩|⟨rfl,o,E,d,hd⟩|⟨rfl,E⟩|⟨rfl,S,n,E⟩
  .show Zz (I.list M) λY _ P _=>?_;show(P.isList.typeIs,λa e=>?_);cases e;show ze P λo n e c hd _=>(o,e,hd)
  .show((o,I.kIn p o E,d),λa e=>?_);cases e;show(o,I.kIn _ o E,hd)
  .have z:∃o,s.heap.get? p=Qr o/\o.ExactDict:=by
    rcases E with⟨y,E⟩|⟨y,E⟩;show ZL (I.hok p _ E) λ_ _ Z=>Zf Z λ_ _ Z=>Z6 Z λo _ _ e ex _=>(o,e,ex)
    show False.elim (show Yn X.prog X.w H s.heap p (.dT y)from I.hok p _ E)
   show Zf z λo e ex=>?_;clear z;show((o,e,ex.1),λa B=>?_);cases B;show(o,e,ex.2.1)
  show ZH (I.hok p _ E) λo _ _ Z=>Zz Z λ_ e ex _=>?_;clear Z;show((o,e,ex.1),λa B=>?_);cases B;show(o,e,ex.2.1)
 |_=>show False.elim ty
def Ln(K:Qb)(T:String)(r:V->ZE->Hp->VK->Prop)(t:TE):TE:=λD H Q=>t D H λx E=>tyV K T x E/\r x [] E Q
def tBM(K:Qb)(T:String)(r:V->ZE->Hp->VK->Prop)(f:TE)(t:TA):TE:=λD H Q=>f D H λx E=>tyV K T x E/\t D E λd O=>r x d O Q
variable{o e:uI}{es:List uI}{to:TE}{t:TA}{name:Str}{apos cpos:Pos}{T id:String}{r:V->ZE->Hp->VK->Prop}
theorem XC(pa:PlainAttrs T)(slot:Slot T name id)(U:typeOf (.builtin id)=pure (.type "method_descriptor"))(q:MtR X id r)(ho:PE X o to)(C:PA X (e::es) t)
 (S:autoParam (Qab o name X.env (eval o X.env)=eval o X.env) ZF)
 (D:autoParam (((v8 cpos (uc (e::es) X.env)).all (λx=> !x.1) && (QaP cpos (Qad [] X.env)).all (λx=>x.1.isSome)
  && decide ((e::es).length+([]:List Qbl).length+(if([]:List Qbl).isEmpty then 0 else 1)<30))=true) ZF)
 (f:autoParam ((apos.endLine==cpos.line)=true) ZF) (j:autoParam (kc X e es) ZF) (J:autoParam ((v8 cpos (uc es X.env)).any (·.1)=false) ZF):
 PE X (.Call (.Attribute o name apos) (e::es) [] cpos) (tBM X.K T r to t):=by
 intro z s E H Q I h;show wpAny_Call_method_late S D f rfl (thn (ho z s E H _ I h) λv g m=>ze m λx Z O R ty q1=>?_);clear m;obtain⟨y,P⟩:=LF O R ty;show(T,id,pa,slot,U,y,P,?_);have B:=C cpos z g E Z _ O q1
 rw[j]at B ⊢
 show Calls.callWith_builtin (by change(false || (v8 cpos (uc es X.env)).any (·.1))=false;rw[J]<;>rfl) (Calls.evalArgs_plain ?_);show thn B λu p M=>Zy M λY d I2 r2 q2=>q z p E d x Y v u Q I2 R r2 q2
end
def MtM(X:Cx)(id:String)(r:V->ZE->Hp->VK->Prop):Prop:=
 ∀(z:zN) (s:jQ) (D:St) (H:Hp) (x:V) (d:ZE) (v:Value) (u:ZY) (Q:VK),Inv X z D H s->zf x v->ZQ d u->r x d H Q->
  jS (Z2 X) X.A (call (.builtin id) (v::u)) (EP X z D Q) X.xe s
theorem ZQ.one:∀{x:V} {U:ZY},ZQ [x] U->∃u,U=[u]/\zf x u:=by intro x U h;cases h with|cons r t=>cases t;show(_,rfl,r)
theorem ZQ.reverse(h:ZQ xs us):ZQ xs.reverse us.reverse:=by
 induction h with
 |nil=>show .nil
 |cons r t I=>rw[VX,VX];show ZQ.append I (.cons r .nil)
theorem ZQ.rep(h:ZQ xs us):∀k:Nat,ZQ (Qy k xs).flatten (Qy k us).flatten
 |0=>.nil
 |k+1=>by rw[uw,uw,Ug,Ug];show ZQ.append h (ZQ.rep h k)
theorem xp(I:ZY):∀(k:Nat) (d:ZY),
 Wm (λt x=>t++x) d.toArray (Qy k I.toArray)=(d++(Qy k I).flatten).toArray
 |0,d=>by simp
 |k+1,d=>by
  have e:d.toArray++I.toArray=(d++I).toArray:=by simp
  have E:(d++I)++(Qy k I).flatten=d++(Qy (k+1) I).flatten:=by rw[uw,Ug,uq]
  rw[<-E,<-xp I k (d++I),<-e,uw,jn]
section
theorem Inv.lset{Y its':ZY}{n:Nat}{f:Array Value->Array Value}{m:Nat}(I:Inv X Zc σ H s)(U:H l=Qr (.lst xs))
 (e:s.heap.get? l=Qr {cls:=.type "list",data:=.seq Y.toArray n}) (J:f Y.toArray=its'.toArray) (M:ZQ ys its') (y:ys.length<=sizeLine):
 Inv X Zc σ (upd H l (.lst ys)) {s with heap:=s.heap.update l (Obj.mapSeq f),toks:=m}:=by
 have q:=PySem.IsL.update e f;rw[J]at q;show I.write (x:=l) (e:=l) (by rw[U];show trivial) (.inl rfl) (λj u S B=>(UB s.heap (Obj.mapSeq f) (Ne.symm S)).trans B) (_,q) ?_;show(y,its',_,M,q)
theorem Inv.lnew(I:Inv X Zc σ H s)(M:ZQ ys Y)(y:ys.length<=sizeLine):
 Inv X Zc σ (upd H s.heap.objs.size (.lst ys)) {s with heap:=s.heap.push {cls:=.type "list",data:=.seq Y.toArray},toks:=t'}:=
 I.laid (λ_ _ q=>Qf _ q) (Qg _) (y,Y,0,M,Ql _ rfl)
theorem Inv.fresh(I:Inv X Zc σ H s):H s.heap.objs.size=none:=I.hok.fresh (Qg _)
theorem Inv.lstM(I:Inv X Zc σ H s)(S:H l=Qr (.lst xs)):xs.length<=sizeLine/\∃(Y:ZY) (n:Nat),ZQ xs Y/\xs.length=Y.length/\s.heap.get? l=Qr {cls:=.type "list",data:=.seq Y.toArray n}:=by show ZI (I.hok l _ S) λz Z=>ZS Z λY n r e=>(z,Y,n,r,r.length,e)
theorem Kt(h:n<=sizeLine):Builtin.List.listTooLong n=false:=by unfold Builtin.List.listTooLong;show decide_eq_false ⋯
end
section
def EE:V->ZE->Hp->VK->Prop:=λx v H Q=>∃l d y,x=.ref l/\v=[y]/\H l=Qr (.lst d)/\d.length<sizeLine/\Q .non (upd H l (.lst (d++[y])))
theorem fg:MtM X "list.append" EE:=by
 intro t s D H x m v U Q I R p h;show kN h λl g y j B S C q=>?_;clear h;subst j;subst B;cases R;show Zf p.one λu Z f=>?_;subst Z;show ZI (I.lstM S) λz d=>Zy d λY n r O e=>?_;clear d;show vC F.slot_list_append (_,e,rfl) F.entry_list_append (F.args_list_append_2 _ _) (PySem.list_append l Y.toArray n u (by rw[j7];lia)) (e,?_);show(.non,_,I.lset (its':=Y++[u]) S e (by simp) (r.append (.cons f .nil)) ?_,rfl,q);rw[jR,jW]
 lia
def RL:R2:=λx y H Q=>∃l b d z,x=.ref l/\y=.ref b/\H l=Qr (.lst d)/\H b=Qr (.lst z)/\d.length+z.length<=sizeLine/\∀p,H p=Qs->Q (.ref p) (upd H p (.lst (d++z)))
theorem Rj:OpR X (vA .Add) RL:=by
 intro p s D H x y v u Q I J S h;show ZH h λl b f Z=>zI Z λzs Z=>ZO Z λB R U M j q=>?_;clear Z h;subst B;subst R;cases J;cases S;show ZI (I.lstM U) λz Z=>Zy Z λY n r O e=>?_;clear Z;show ZI (I.lstM M) λz2 Z=>Zy Z λd t m g E=>?_;clear Z;show PySem.P.add_list e E ?_ (by rw[j7,j7];lia);have C:Y.toArray++d.toArray=(Y++d).toArray:=by simp
 rw[C];show(.ref _,_,I.lnew (t':=s.toks) (r.append m) (by rw[jR];lia),rfl,q _ I.fresh)
def RM:R2:=λx y H Q=>∃l k d,x=.ref l/\y=.int k/\H l=Qr (.lst d)/\ -(2 ^ 63)<=k/\k<2 ^ 63/\d.length * k.toNat<=sizeLine/\
 ∀p,H p=Qs->Q (.ref p) (upd H p (.lst (Qy k.toNat d).flatten))
theorem MF{α:Type}(x:List α)(k:Nat):(Qy k x).flatten.length=k * x.length:=by
 induction k with
 |zero=>simp
 |succ k I=>rw[uw,Ug,jR,I,Nat.succ_mul,V1]
theorem Ro:OpR X (vA .Mult) RM:=by
 intro Zc s σ H x y v u Q I g ry h;show ZH h λl k xs Z=>ZO Z λj E hH P R Z=>ZI Z λO q=>?_;clear Z h;subst j;subst E;cases g;obtain⟨t,rfl⟩:=ry;show ZI (I.lstM hH) λz Z=>Zy Z λY n r d e=>?_;clear Z;have D:Y.toArray.size * k.toNat<=sizeLine:=by rw[j7,<-d];show O
 have B:¬Y.toArray.size * k.toNat>(2 ^ 63-1)/8:=by
  have:(sizeLine:Nat)<=(2 ^ 63-1)/8:=by decide
  lia
 have C:¬(!Builtin.List.listFitsIndex k)=true:=by rw[fitsIndex_both P R];show Qk
 have p:¬Builtin.List.listTooLong (Y.toArray.size * k.toNat)=true:=by rw[Kt D];show Qk
 have f:Wm (λM J=>M++J) #[] (Qy (if Y.toArray.isEmpty=true then 0 else k.toNat) Y.toArray)=(Qy k.toNat Y).flatten.toArray:=by
  have f0:∀m:Nat,Wm (λM J=>M++J) #[] (Qy m Y.toArray)=(Qy m Y).flatten.toArray:=λm=>by have:=xp Y m [];rw[u9]at this;show this
  rw[f0]
  cases Y with
  |nil=>simp
  |cons a r'=>rw[Zo (by simp)]
 show wpAny_binaryOp_repeat_ref (T:="list") (U:="int") ∅ (_,e,rfl) (λS=>typeIs_int S k t) noFill_list_mul F.fills_int_mul F.slot_int_rmul repeat_list F.slot_int_index.lookup
  (vC F.slot_int_rmul (typeIs_int s k t) F.entry_int_rmul (F.args_int_rmul_2 _ _) (int___rmul___int_list k t l Y.toArray n)
   (e,rfl,(_,e,rfl),vC F.slot_list_mul (_,e,rfl) F.entry_list_mul (F.args_list_mul_2 _ _) (AutoListH.list___mul___list_int_3 l Y.toArray n k t C B p) (e,?_)))
 rw[f];show(.ref _,_,I.lnew (t':=s.toks) (r.rep k.toNat) (by rw[MF,Nat.mul_comm];show O),rfl,q _ I.fresh)
end
end L2
namespace Att
open PySem PySem.W PySem.Calls PyProof.Rows
theorem rn:∀(ns:List Int) (v:ZY),WellAll P h v (ns.map WData.int)->IntsAre v ns:=by
 intro ns
 induction ns with
 |nil=>
  intro v w;rw[QaR]at w;cases w;show .nil
 |cons n ns I=>
  intro v w;rw[uo]at w
  cases w with
  |cons a b=>
   cases a;show .cons _ _ (I _ b)
theorem F5{l:OpenLaw}{n:Nat}(t:l.most=Qr n){P:Qa0}{h:Heap}{args:List WData}{vals:ZY}
 (H:l.row.toRowW.claim.pre args=true) (p:WellAll P h vals args):
 ∃a v ns,vals=[Qw a]/\args=[WData.list (ns.map WData.int)]/\h.get? a=Qr {cls:=.type "list",data:=.seq v.toArray}/\IntsAre v ns/\ns.length<=n:=by
 have g:WShape.hasAll [] args [.list .int]=true:=(pre_splitW H).1;have j:l.pre.holds [] {args:=args}=true:=(pre_splitW H).2;show Zy (hasAllW_cons g) λd r z x I=>?_;subst z;obtain rfl:=hasAllW_nil I;show Zf (hasW_list x) λE Z R=>?_;subst Z;obtain⟨ns,rfl⟩:=items_int R
 have D:ns.length<=n:=by
  unfold OpenLaw.pre at j;have f:(WTm.not (.lt (.lit (.int (n:Int))) (.len (.arg 0)))).holds [] {args:=[.list (ns.map .int)]}=true:=by have f:=(holds_andW j).1;rw[t]at f;show f
  have m:=condW_of f (w_not (w_lt w_lit (w_len_list (w_arg rfl))));rw[jO]at m;show V6 λq=>?_;have y:(n:Int)<((ns.length:Nat):Int):=⋯
  first
   |(rw[decide_eq_true y]at m;show ZD m ∅)
   |(simp at m;lia)
 cases p with
 |cons C B=>
  cases B
  cases C with
  |list u Q=>show(_,_,ns,rfl,rfl,u,rn ns _ Q,D)
theorem FW(l:OpenLaw)(args:List WData):l.row.toRowW.claim.post args (.bool true) args=true:=
 postW_of (r:=l.row.toRowW) (X:=(true==true))
  (show WShape.has [] (.bool true) .bool=true by first|rfl|decide|simp[WShape.has,WShape.arms,WShape.armsAll])
  (show(WTm.eq .res (.lit (.bool true))).value [] {args:=args,res:=Qr (.bool true),after:=args}=Qr (.bool (true==true))from w_eq_bool (w_res rfl) w_lit) rfl
theorem Ar{l:OpenLaw}{n:Nat}{q:j8}{j:ZT}{Q:(z9)->Heap->Prop}{P:uj->Heap->Prop}{d:DefRec}
 (hn:l.most=Qr n) (I:d.params.defaults=[])
 (call:∀(w:uj) (s₀ S:jQ) (mg u:z9) (C:jP) (o:Obj) (p cd D:Value) (a:jP) (v:ZY) (ns:List Int),
  Ground q j [] Q w s₀ mg u S.heap->P w S.heap->
  S.heap.get? C=Qr o->o.data=.func (docDef d.name d.params d.body d.scope p cd D)->S.heap.CodeRec cd d.name->mg d.name=Qr (.ref C)->
  S.heap.get? a=Qr {cls:=.type "list",data:=.seq v.toArray}->IntsAre v ns->ns.length<=n->S.gens=#[]->
  Qaa (ud l.prog w) Qa5 (.call (.ref C) ([.ref a],[])) (λr m=>r=.ok (.ret (.bool true))/\OldK S.heap m.heap/\m.os=S.os/\Qah m.gens) S):
 WalkO q j Q P l.row.toRowW d [] (λf v=>PySem.call f v):=by
 intro w s₀ S mg u G Y C o p cd D dV kV ho hd M g J hg args vals as x R a2 y a1;obtain rfl:dV=.none:=Dflts.none g I;obtain rfl:kV=.none:=Dflts.noKw g;show kN (F5 hn x y) λa v ns Z B t H E=>?_;subst Z;subst B;show enter_call (uR (call w s₀ S mg u C o p cd D a v ns G Y ho (fd_plain hd) M J t H E hg) λr m O=>?_);show za O λz U h3 h4=>?_;clear O;subst z;show(.inl (.bool true,.bool true,[],rfl,λ_=>rfl,.bool true,FW l _,λ_=>(List.Pairwise.nil,λ_ hm=>(nomatch hm))),U,h3,h4)
end Att
namespace L2
open PySem PySem.Spec PyProof.Rows
theorem Gv:∀{v:ZY} {ns:List Int},IntsAre v ns->ZQ (ns.map V.int) v:=by intro v ns h;induction h with|nil=>show .nil|cons n t h I=>show .cons (t,rfl) I
noncomputable def zY(s:Stmt):Arguments:=match s with
 | .FunctionDef _ a _ _ _ _ _ _ _ _=>a
 |_=> {posonlyargs:=[],args:=[],vararg:=Qs,kwonlyargs:=[],kw_defaults:=[],kwarg:=Qs,defaults:=[]}
noncomputable def zz(s:Stmt):List Stmt:=match s with
 | .FunctionDef _ _ b _ _ _ _ _ _ _=>b
 |_=>[]
noncomputable def Zq(s:Stmt):Scope:=match s with
 | .FunctionDef _ _ _ _ _ _ sc _ _ _=>sc
 |_=> {kind:=.function,names:=[],isGenerator:=false,isCoroutine:=false}
abbrev CX0:CXT:=λ_ _ _ _ _ _=>False
abbrev E0:XK:=λ_ _ _=>False
theorem BI:g8 CX0 X E0:=λ_ _ _ _ _ _ _ h=>h.elim
structure Fun(K:Qb)(x qual:Str)(st:Stmt)(f:jP)(fd:uY):Prop where
 ex:∃(oc:Value) (od:Option jP) (kV doc pm:Value) (an:Option jP) (cdv ct:Value) (osl:Array (Option Value)),
  fd=Qat x qual (zY st) (zz st) (Zq st) .none kV doc pm an cdv ct/\K.lookup f=Qr (oc,od,.func fd,osl)/\Qan K cdv qual=true
 kp:vB K (.ref f)=true
section
variable{P:j8}{w:uj}{K:Qb}{mg:z9}{base:Heap}
theorem Fun.ok{x I:Str}{st:Stmt}{f:jP}{g:uY}{N p:ZT}{k:Nat}{j:Sp}(F:Fun K x I st f g)(S:ZA N p (Zq st))
 (y:∀(C:Value) (A:uv) (outer:List Env) (s:jQ) (H:Hp) (v:ZE) (Q:VK) (E:XK),YN k (A.deeper (ve I (Zq st) s.heap.objs.size f C))->j v H Q E->
  ∃t,PSs (dH CX0 P w K mg base N I (Zq st) f C A outer s H E).nox (zz st) t/\t {nx:=λ_ J=>Q .non J,rt:=Q} (JZ N v) H) (len:autoParam (∀v H Q E,j v H Q E->v.length=p.length) GA):Z0 P w K mg base CX0 (k+1) f g p j:=by
 show ZH F.ex λD U kV z=>ZH z λd B m z=>Z6 z λC ct R Z lk M=>?_;clear z;subst Z;show A4 lk M S len λA outer s H v Q E Y O=>?_;show Zf (y C A outer s H v Q E Y O) λt h q=>(t,h.nox,q)
theorem Fun.binds{x q:Str}{st:Stmt}{f:jP}{g:uY}{ps:ZT}(F:Fun K x q st f g)
 (h:∀(kV d p:Value) (O:Option jP) (C ct:Value) (u:ZY),u.length=ps.length->Qap (Qat x q (zY st) (zz st) (Zq st) .none kV d p O C ct) (u,[])=pure (ps.zip u)):bL K g ps []:=by
 show ZH F.ex λy I kV z=>ZH z λd p O z=>Z6 z λC ct R Z lk H=>?_;subst Z;show .all (h kV d p O C ct)
theorem nM{x q:Str}{st:Stmt}{f:jP}{y:Value}{H Q:Option jP}{O:Array (Option Value)}{kV d p C ct:Value}(l:K.lookup f=Qr (y,H,.func (Qat x q (zY st) (zz st) (Zq st) .none kV d p Q C ct),O))
 (c:Qan K C q=true) (k:vB K (.ref f)=true):Fun K x q st f (Qat x q (zY st) (zz st) (Zq st) .none kV d p Q C ct):=((y,H,kV,d,p,Q,C,ct,O,rfl,l,c),k)
end
theorem lU(H:YN k A):A.units+1<cLine:=UH (Nat.add_le_add_left (by decide:1<=64) _) H.units
section
theorem pv(i:Nat)(d:autoParam (X.N[i]?=Qr x) ZF)(M:autoParam (Vis X.env.scope x) GB)(hd:autoParam ((x==("__debug__":Str))=false) z8)
 (H:autoParam ((x==("__classdict__":Str))=false) z8):PE X (.Name x pos) (X0 i):=Ru d M hd H
end
theorem Bc{A B:Prop}(h:B):if false=true then A else B:=by rw[Zo Qk];show h
theorem Bd{A B:Prop}(h:A):if true=true then A else B:=by rw[Zx rfl];show h
theorem zF{c A B:Prop}[Decidable c](H:c->A)(I:¬c->B):if c then A else B:=by
 by_cases h:c
 .rw[Zx h];show H h
 rw[Zo h];show I h
def Zw(H I:Hp):Prop:=∀b o,H b=Qr o->I b=Qr o
theorem Zw.refl(H:Hp):Zw H H:=λ_ _ h=>h
theorem Zw.trans(a:Zw H H1)(b:Zw H1 H2):Zw H H2:=λc o h=>b c o (a c o h)
theorem Zw.free(e:Zw H H')(h:H' l=jw):H l=jw:=by
 cases q:H l with
 |none=>rfl
 |some o=>
  rw[e l o q]at h;cases h
theorem Zw.seq{K:Qb}{H I:Hp}{a:jP}{x:ZE}(e:Zw H I)(h:SqL K H a x):SqL K I a x:=by rcases h with(h|⟨o,h⟩)|h;show .inl (.inl (e _ _ h));show .inl (.inr (o,e _ _ h));show .inr h
section
variable{P:ZE->Prop}{r:ZE}{x:V}
def aR(k:jP->ZE->Prop):ZE->Prop
 | .ref a::r=>k a r
 |_=>False
def aS(k:Str->ZE->Prop):ZE->Prop
 | .str a::r=>k a r
 |_=>False
def aI(k:Int->ZE->Prop):ZE->Prop
 | .int a::r=>k a r
 |_=>False
def aB(k:Bool->ZE->Prop):ZE->Prop
 | .bl a::r=>k a r
 |_=>False
def a0(p:Prop):ZE->Prop
 |[]=>p
 |_=>False
def o0(p:Prop)(k:ZE->Prop):ZE->Prop
 |[]=>p
 |v::r=>k (v::r)
def aV(k:V->ZE->Prop):ZE->Prop
 |v::r=>k v r
 |_=>False
theorem aRm{k:jP->ZE->Prop}(h:aR k (x::r)):∃a,x=.ref a/\k a r:=by cases x<;>first|show(_,rfl,h)|show h.elim
theorem aSm{k:Str->ZE->Prop}(h:aS k (x::r)):∃a,x=.str a/\k a r:=by cases x<;>first|show(_,rfl,h)|show h.elim
theorem aIm{k:Int->ZE->Prop}(h:aI k (x::r)):∃a,x=.int a/\k a r:=by cases x<;>first|show(_,rfl,h)|show h.elim
theorem aBm{k:Bool->ZE->Prop}(h:aB k (x::r)):∃a,x=.bl a/\k a r:=by cases x<;>first|show(_,rfl,h)|show h.elim
@[elab_as_elim] theorem aR_all{k:jP->ZE->Prop}(x:aR k r)(h:∀a r,k a r->P (.ref a::r)):P r:=by
 cases r with
 |nil=>show x.elim
 |cons v r=>obtain⟨a,rfl,x⟩:=aRm x;show h _ _ x
@[elab_as_elim] theorem aS_all{k:Str->ZE->Prop}(x:aS k r)(h:∀a r,k a r->P (.str a::r)):P r:=by
 cases r with
 |nil=>show x.elim
 |cons v r=>obtain⟨a,rfl,x⟩:=aSm x;show h _ _ x
@[elab_as_elim] theorem aI_all{k:Int->ZE->Prop}(x:aI k r)(h:∀a r,k a r->P (.int a::r)):P r:=by
 cases r with
 |nil=>show x.elim
 |cons v r=>obtain⟨a,rfl,x⟩:=aIm x;show h _ _ x
@[elab_as_elim] theorem aB_all{k:Bool->ZE->Prop}(x:aB k r)(h:∀a r,k a r->P (.bl a::r)):P r:=by
 cases r with
 |nil=>show x.elim
 |cons v r=>obtain⟨a,rfl,x⟩:=aBm x;show h _ _ x
@[elab_as_elim] theorem a0_all{p:Prop}(x:a0 p r)(h:p->P []):P r:=by
 cases r with
 |nil=>show h x
 |cons _ _=>show x.elim
theorem OL{k:Str->ZE->Prop}(h:aS k r):∃a s,r=.str a::s/\k a s:=aS_all h λa s h=>(a,s,rfl,h)
theorem Zag{k:Int->ZE->Prop}(h:aI k r):∃a s,r=.int a::s/\k a s:=aI_all h λa s h=>(a,s,rfl,h)
theorem EZ{k:V->ZE->Prop}(h:aV k r):∃v s,r=v::s/\k v s:=by
 cases r with
 |nil=>show h.elim
 |cons v s=>show(v,s,rfl,h)
theorem Ao{p:Prop}(h:a0 p r):r=[]/\p:=a0_all (P:=λr=>r=[]/\p) h λh=>(rfl,h)
theorem aR1{k:jP->Prop}(h:aR (λa=>a0 (k a)) r):∃a,r=[.ref a]/\k a:=aR_all h λa _ h=>a0_all (P:=λr=>∃b,V.ref a::r=[.ref b]/\k b) h λh=>(a,rfl,h)
theorem aS1{k:Str->Prop}(h:aS (λa=>a0 (k a)) r):∃a,r=[.str a]/\k a:=aS_all h λa _ h=>a0_all (P:=λr=>∃b,V.str a::r=[.str b]/\k b) h λh=>(a,rfl,h)
theorem aI1{k:Int->Prop}(h:aI (λa=>a0 (k a)) r):∃a,r=[.int a]/\k a:=aI_all h λa _ h=>a0_all (P:=λr=>∃b,V.int a::r=[.int b]/\k b) h λh=>(a,rfl,h)
theorem aR2{k:jP->jP->Prop}(h:aR (λa=>aR λb=>a0 (k a b)) r):∃a b,r=[.ref a,.ref b]/\k a b:=aR_all h λa _ h=>by obtain⟨b,rfl,h⟩:=aR1 h;show(a,b,rfl,h)
theorem aS2{k:Str->Str->Prop}(h:aS (λa=>aS λb=>a0 (k a b)) r):∃a b,r=[.str a,.str b]/\k a b:=aS_all h λa _ h=>by obtain⟨b,rfl,h⟩:=aS1 h;show(a,b,rfl,h)
theorem aI2{k:Int->Int->Prop}(h:aI (λa=>aI λb=>a0 (k a b)) r):∃a b,r=[.int a,.int b]/\k a b:=aI_all h λa _ h=>by obtain⟨b,rfl,h⟩:=aI1 h;show(a,b,rfl,h)
end
noncomputable def T(l:Zg):Str:=⟨l.toArray⟩
noncomputable def L(z:Str):Zg:=z.cps.toList
theorem L_T(l:Zg):L (T l)=l:=by unfold L T;simp
theorem T_L(z:Str):T (L z)=z:=by cases z;simp[T,L]
theorem zC(z:Str):Qa (L z)=z.length:=by simp[L,VV]
theorem DT(l:Zg):(T l).length=Qa l:=by simp[T,VV]
theorem Ak(a b:Zg):T a++T b=T (a++b):=by change jK (T a) (T b)=T (a++b);simp[jK,T]
theorem xb:T a=T b↔a=b:=by
 constructor
 .intro h;have:=congrArg L h;rwa[L_T,L_T]at this
 intro h;rw[h]
noncomputable def gS:St->Nat->Option V
 |[],_=>Qs
 |a::_,0=>a
 |_::r,n+1=>gS r n
theorem sO:∀{D:St} {i:Nat} {v:V},gS D i=Qr v->D[i]?=Qr (Qr v)
 |[],_,_,h=>by simp[gS]at h
 |a::_,0,v,h=>by have h:a=Qr v:=h;simp[h]
 |_::r,n+1,v,h=>by have h:gS r n=Qr v:=h;simpa using sO h
def oG(i:Nat):TE:=λD H Q=>match gS D i with
 |some v=>Q v H
 |none=>False
section
theorem qv(i:Nat)(d:autoParam (X.N[i]?=Qr x) ZF)(O:autoParam (Vis X.env.scope x) GB)(hd:autoParam ((x==("__debug__":Str))=false) z8)
 (M:autoParam ((x==("__classdict__":Str))=false) z8):PE X (.Name x pos) (oG i):=by
 intro z s D H Q I h;show pv i d O hd M z s D H Q I ?_;unfold oG at h
 cases e:gS D i with
 |none=>rw[e]at h;show h.elim
 |some v=>rw[e]at h;show(v,sO e,h)
def E1:R2:=λx y H Q=>match x,y with
 | .int i,.int j=>Q (.int (i+j)) H
 | .str a,.str b=>Qa (L a)+Qa (L b)<=sizeLine/\Q (.str (T (L a++L b))) H
 | .ref l,.ref b=>RL (.ref l) (.ref b) H Q
 |_,_=>False
theorem ZJ:OpR X (vA .Add) E1:=by
 intro z s D H x y v u Q I r R h
 cases x<;>cases y<;>first
  |show False.elim h
  |show Ri z s D H _ _ v u Q I r R (_,_,rfl,rfl,h)
  |show Rj z s D H _ _ v u Q I r R h
  |(show Dc z s D H _ _ v u Q I r R (_,_,rfl,rfl,?_,?_)
    rw[<-zC,<-zC];show h.1;rename_i a b;have e:=Ak (L a) (L b);rw[T_L,T_L]at e;rw[e];show h.2)
theorem C7:OpR X (Qai .Add) (λx y H Q=>match x,y with
 | .int i,.int j=>Q (.int (i+j)) H
 | .str a,.str b=>Qa (L a)+Qa (L b)<=sizeLine/\Q (.str (T (L a++L b))) H
 |_,_=>False):=by
 intro z s D H x y v u Q I r R h
 cases x<;>cases y<;>first
  |show False.elim h
  |show Mz z s D H _ _ v u Q I r R (_,_,rfl,rfl,h)
  |(show Ba z s D H _ _ v u Q I r R (_,_,rfl,rfl,?_,?_)
    rw[<-zC,<-zC];show h.1;rename_i a b;have e:=Ak (L a) (L b);rw[T_L,T_L]at e;rw[e];show h.2)
def yw(C:Int->Int->Prop)(g:Int->Int->V):R2:=λx y H Q=>match x,y with
 | .int i,.int j=>C i j/\Q (g i j) H
 |_,_=>False
def lV(g:Int->Int->V):R2:=λx y H Q=>match x,y with
 | .int i,.int j=>Q (g i j) H
 |_,_=>False
theorem C8{f:Value->Value->Sem Value}{C:Int->Int->Prop}{g:Int->Int->V}(h:OpR X f (rI C g)):OpR X f (yw C g):=by
 intro z s D H x y v u Q I r R q
 cases x<;>cases y<;>first
  |show False.elim q
  |show h z s D H _ _ v u Q I r R (_,_,rfl,rfl,q.1,q.2)
theorem rX{f:Value->Value->Sem Value}{g:Int->Int->V}(h:OpR X f (rI0 g)):OpR X f (lV g):=by
 intro z s D H x y v u Q I r R q
 cases x<;>cases y<;>first
  |show False.elim q
  |show h z s D H _ _ v u Q I r R (_,_,rfl,rfl,q)
abbrev wX:R2:=lV λi j=>.int (i-j)
theorem cV:OpR X (vA .Sub) wX:=rX Rp
abbrev ML:R2:=yw (λ_ j=>0<j) λi j=>.int (i%j)
theorem qb:OpR X (vA .Mod) ML:=C8 Rl
abbrev NX:R2:=yw Sl λi j=>.int (i/j)
theorem JM:OpR X (vA .FloorDiv) NX:=C8 MS
abbrev Zar:R2:=yw Sm λi j=>.int (i ^ j.toNat)
theorem Xu:OpR X (vA .Pow) Zar:=C8 Rn
noncomputable def rep(n:Nat)(l:Zg):Zg:=(Qy n l).flatten
theorem Fh(c:List (Array Nat)):∀a:Array Nat,(c.foldl (λx y=>x++y) a).toList=a.toList++(c.map WB).flatten:=by
 induction c with
 |nil=>intro a;simp
 |cons x r I=>intro a;simp[I]
theorem Xp(z:Str)(n:Int):Txt.mul z n=T (rep n.toNat (L z)):=by
 unfold Txt.mul rep;by_cases B:n<1
 .rw[Zx B];have:n.toNat=0:=⋯
  rw[this];rfl
 rw[Zo B];by_cases H:(n==1 || z.length==0)=true
 .rw[Zx H];rcases Uk _ _|>.mp H with e|e
  .have:n=1:=by simpa using e
   subst this;change z=T (List.flatten [L z]);simp[T_L]
  have d:z.length=0:=by simpa using e
  have E:L z=[]:=V8 (by rw[zC];show d);rw[E];have C:z=T []:=by rw[<-E,T_L]
  rw[C]
  congr 1
  simp
 rw[Zo H];have e:=Fh (Qy n.toNat z.cps) #[];rw[<-T_L ⟨_⟩]
 congr 1
 change(Wm (λx y=>x++y) #[] (Qy n.toNat z.cps)).toList=_;rw[e];simp[L]
def FE:R2:=λx y H Q=>match x,y with
 | .int i,.int j=>LV i j/\Q (.int (i * j)) H
 | .str a,.int n=>(-(2 ^ 63)<=n/\n<2 ^ 63/\Qa (L a) * n.toNat<=sizeLine)/\Q (.str (T (rep n.toNat (L a)))) H
 | .ref l,.int k=>RM (.ref l) (.int k) H Q
 |_,_=>False
theorem BA:OpR X (vA .Mult) FE:=by
 intro Z s D H x y v u Q I r R h
 cases x<;>cases y<;>first
  |show False.elim h
  |show Rm Z s D H _ _ v u Q I r R (_,_,rfl,rfl,h.1,h.2)
  |show Ro Z s D H _ _ v u Q I r R h
  |(rename_i a n
    obtain⟨t,e⟩:=r;obtain⟨p,E⟩:=R;subst e E;obtain⟨⟨C,J,S⟩,q⟩:=h;rw[zC]at S;have O:sizeLine=16777216:=jT;show SB.mul (?_,λd m=>?_,λd m=>?_) λp k=>?_;rw[decide_eq_false ⋯,decide_eq_false ⋯];rfl
    .intro M
     have P:n<=(a.length:Int) * n:=by
      have U:a.length≠0:=by intro z;rw[z]at m;simp at m
      have Y:(1:Int)<=(a.length:Int):=⋯
      calc n=1 * n:=⋯
       _<=(a.length:Int) * n:=Int.mul_le_mul_of_nonneg_right Y ⋯
     have g:(a.length:Int) * n<=16777216:=by
      have:((a.length * n.toNat:Nat):Int)<=16777216:=⋯
      rw[Int.natCast_mul,W5 ⋯]at this;show this
     have B:(a.length:Int)<=(2 ^ 63-1)/n:=by
      rw[Int.le_ediv_iff_mul_le ⋯]
      lia
     lia
    .unfold Builtin.Str.tooLong;show decide_eq_false ⋯
    show(.str (T (rep n.toNat (L a))),H,I.tok _,(_,by rw[Xp]),q))
def ltV:R2:=λx y H Q=>match x,y with
 | .int i,.int j=>Q (.bl (decide (i<j))) H
 | .str a,.str b=>Q (.bl (decide (L a<L b))) H
 |_,_=>False
theorem rA:OpR X (uD .Lt) ltV:=by
 intro z s D H x y v u Q I r R h
 cases x<;>cases y<;>first
  |show False.elim h
  |show XA z s D H _ _ v u Q I r R (_,_,rfl,rfl,h)
  |show FO z s D H _ _ v u Q I r R (_,_,rfl,rfl,h)
abbrev leV:R2:=lV λi j=>.bl (decide (i<=j))
abbrev gtV:R2:=lV λi j=>.bl (decide (j<i))
theorem MO:OpR X (uD .LtE) leV:=rX Xz
theorem nT:OpR X (uD .Gt) gtV:=rX Xy
noncomputable def sc:V->V->Option Bool
 | .int i,.int j=>Qr (decide (i=j))
 | .str a,.str b=>Qr (decide (L a=L b))
 | .bl a,.bl b=>Qr (decide (a=b))
 |_,_=>Qs
theorem TC:L a=L b↔a=b:=by
 constructor
 .intro h;rw[<-T_L a,<-T_L b,h]
 intro h;rw[h]
theorem Oa(h:sc x y=Qr b):RS x y=true/\b=decide (x=y):=by
 cases x<;>cases y<;>first
  |show(nomatch (show(Qs:Option Bool)=Qr b from h))
  |(have h:=Option.some.inj h
    subst h;show(rfl,?_);simp[TC])
def eqR:R2:=λx y H Q=>match sc x y with
 |some b=>Q (.bl b) H
 |none=>False
def neR:R2:=λx y H Q=>match sc x y with
 |some b=>Q (.bl (!b)) H
 |none=>False
theorem bf:OpR X (uD .Eq) eqR:=by
 intro Z s D H x y v u Q I r R h;unfold eqR at h
 cases e:sc x y with
 |none=>rw[e]at h;show h.elim
 |some b=>
  rw[e]at h;obtain⟨z,J⟩:=Oa e;subst J;show Xx Z s D H x y v u Q I r R (z,h)
theorem rB:OpR X (uD .NotEq) neR:=by
 intro Z s D H x y v u Q I r R h;unfold neR at h
 cases e:sc x y with
 |none=>rw[e]at h;show h.elim
 |some b=>
  rw[e]at h;obtain⟨z,J⟩:=Oa e;subst J;show XB Z s D H x y v u Q I r R (z,h)
def isV:R2:=λx y H Q=>match y,x with
 | .non,x=>Q (.bl (decide (x=.non))) H
 | .bl b,.bl c=>Q (.bl (c==b)) H
 |_,_=>False
def Bb:R2:=λx y H Q=>match y,x with
 | .non,x=>Q (.bl (!decide (x=.non))) H
 | .bl b,.bl c=>Q (.bl (c !=b)) H
 |_,_=>False
theorem PZ:OpR X (uD .Is) isV:=by
 intro z s D H x y v u Q I r R h
 cases y with
 |non=>show Rk z s D H x _ v u Q I r R (rfl,h)
 |bl b=>
  cases x with
  |bl c=>
   cases r;cases R;show is_bool (zi I h rfl)
  |_=>show False.elim h
 |_=>cases x<;>show False.elim h
def ixV(K:Qb):R2:=λx y H Q=>match x,y with
 | .str z,.int i=>Qa (L z)<=sizeLine/\∃c,atI (L z) i=Qr c/\Q (.str (T [c])) H
 | .ref p,.int i=>∃d v,(SqL K H p d\/SqT K H p d)/\atI d i=Qr v/\Q v H
 |_,_=>False
theorem Zan:IxR X (ixV X.K):=by
 intro Z S z s D H x y v u Q I r R h g
 cases x<;>cases y<;>first
  |show False.elim h
  |(obtain⟨B,c,e,q⟩:=h
    show Pn Z S z s D H _ _ v u Q I r R (_,_,c,rfl,rfl,(by rw[<-zC];show B),e,q) g)
  |(obtain⟨d,w,e|e,E,q⟩:=h
    show MB Z S z s D H _ _ v u Q I r R (_,d,_,w,rfl,rfl,e,E,q) g;show Po Z S z s D H _ _ v u Q I r R (_,d,_,w,rfl,rfl,e,E,q) g)
noncomputable def cut{α:Type}(x:List α)(lo H:Option Int):List α:=(x.drop (HT.sIx (Qa x) 0 lo)).take (HT.sIx (Qa x) (Qa x) H-HT.sIx (Qa x) 0 lo)
theorem cY{α:Type}(x:List α)(lo H:Option Int):Qa (cut x lo H)<=Qa x:=by
 unfold cut;rw[jZ,uf]
 lia
theorem K5(a b:Nat):sliceRange (a:Int) (b:Int) 1=(Qi (b-a)).map λk=>a+k:=by
 unfold sliceRange;have H:(1:Int)>0:=by decide
 simp only[H,if_true];have E:(if(a:Int)<(b:Int)then((b:Int)-(a:Int)+1-1)/1 else 0).toNat=b-a:=by split<;>lia
 rw[E];apply uM;intro k _
 lia
theorem Pp(lo H:Option Int)(n:Nat):Builtin.Str.strSliceIndices lo H 1 n=(Qi (HT.sIx n n H-HT.sIx n 0 lo)).map λk=>HT.sIx n 0 lo+k:=by
 rw[<-K5];have x:(1:Int)>0:=by decide
 have C:∀(i:Int) (d:Nat),max 0 (min (if i<0 then i+(n:Int)else i) (n:Int))=((HT.sIx n d (Qr i):Nat):Int):=by intro i d;change max 0 (min (if i<0 then i+(n:Int)else i) (n:Int))=(((if i<0 then(i+(n:Int)).toNat else min i.toNat n):Nat):Int);by_cases H:i<0;rw[Zx H,Zx H];lia;rw[Zo H,Zo H];lia
 unfold Builtin.Str.strSliceIndices;simp only[x,if_true]
 cases lo with
 |none=>
  cases H with
  |none=>rfl
  |some j=>
   simp only[C j n];rfl
 |some i=>
  cases H with
  |none=>
   simp only[C i 0];rfl
  |some j=>simp only[C i 0,C j n]
theorem KQ(l:Zg)(a:Nat):∀k:Nat,((Qi k).map λm=>a+m).filterMap (λi=>l[i]?)=(l.drop a).take k
 |0=>by simp
 |k+1=>by rw[Q4,uh,UV,KQ l a k,QZ,Uq];cases e:l[a+k]?<;>simp[e]
theorem Ny(z:Str)(lo H:Option Int):Txt.slice z lo H=T (cut (L z) lo H):=by
 unfold Txt.slice;rw[Pp]
 have E:(λi:Nat=>z.cps[i]?)=λi:Nat=>(L z)[i]?:=by
  funext i
  simp[L]
 have O:Qa (L z)=z.length:=zC z;have x:=HT.Le z.length z.length (Qg _) H;have e:T (cut (L z) lo H)=⟨(((Qi (HT.sIx z.length z.length H-HT.sIx z.length 0 lo)).map λk=>HT.sIx z.length 0 lo+k).filterMap λi=>z.cps[i]?).toArray⟩:=by rw[E,KQ];unfold cut T;rw[O]
 rw[<-e];split
 .rename_i h;rw[jO,uF]at h;have I:HT.sIx z.length z.length H-HT.sIx z.length 0 lo=z.length:=by simpa using h
  have Q:HT.sIx z.length 0 lo=0:=by
   by_cases y:z.length=0
   .have:=HT.Le z.length 0 (Qo _) lo
    lia
   lia
  unfold cut;rw[O,I,Q,UF,<-O,QE,T_L]
 rfl
def slV(K:Qb):V->Option Int->Option Int->Hp->VK->Prop:=λx lo m H Q=>match x with
 | .str z=>Qa (L z)<=sizeLine/\Q (.str (T (cut (L z) lo m))) H
 | .ref p=>∃d,SqL K H p d/\∀q,H q=Qs->Q (.ref q) (upd H q (.lst (cut d lo m)))
 |_=>False
theorem Es(h:IsPart v o):∃q:Option (Int×Tok),v=partValue q/\q.map (·.1)=o:=by
 cases h with
 |none=>show(Qs,rfl,rfl)
 |int i t=>show(Qr (i,t),rfl,rfl)
theorem Zax:SlR X (slV X.K):=by
 intro y s D H x v J C lo m S Q I R g P Y h
 cases x with
 |str z=>
  obtain⟨B,q⟩:=h;obtain⟨t,rfl⟩:=R;show Zf (Es P) λl Z E=>?_;subst Z;show Zf (Es Y) λu Z M=>?_;subst Z;show("str",_,F.slot_str_getitem.lookup,uW _ _ _,?_);show wpAny_getItem_str_slice (l:=l) (u:=u) (st:=Qs) g rfl ?_;show post_val_or_str (?_,λr k=>?_)
  .change(Txt.slice z (l.map (·.1)) (u.map (·.1))).length<=sizeLine;show QC (Txt.slice_le z _ _) ?_;rw[<-zC];show B
  show(.str (T (cut (L z) lo m)),H,I.tok _,(r,?_),q);change Vh (Txt.slice z (l.map (·.1)) (u.map (·.1))) r=_;rw[Ny,E,M]
 |ref p=>
  show Zf h λd f q=>Nx y s D H _ v J C lo m S Q I R g P Y (p,d,rfl,f,q)
 |_=>show False.elim h
def wI(K:Qb):ZE->Hp->VK->Prop:=λx H Q=>aV (λv r=>match v with
 | .str z=>a0 (Qa (L z)<=sizeLine/\Q (.int (Qa (L z))) H) r
 | .ref p=>a0 (∃y,(SqL K H p y\/SqT K H p y)/\Q (.int (Qa y)) H) r
 |_=>False) x
theorem TZ:JU X (.builtin "len") (wI X.K):=by
 intro Z s D H x u Q I r h;obtain⟨v,x,rfl,h⟩:=EZ h
 cases v with
 |str z=>obtain⟨rfl,h⟩:=Ao h;show yg Z s D H _ u Q I r (_,rfl,by rw[<-zC];show h.1,by rw[<-zC];show h.2)
 |ref p=>obtain ⟨rfl,y,t,q⟩:=Ao h
         show yf Z s D H _ u Q I r (_,y,rfl,t,q)
 |_=>show h.elim
noncomputable def R6(l p:Zg)(k:Nat):Bool:=decide (k+Qa p<=Qa l/\(l.drop k).take (Qa p)=p)
theorem XN(x y:Str)(k:Nat):(decide (k+y.length<=x.length) && Builtin.Str.subAt x y k)=R6 (L x) (L y) k:=by
 unfold R6 Builtin.Str.subAt;rw[zC,zC];rw[UL];simp only[QW,decide_eq_true_eq,beq_iff_eq];show and_congr_right λ_=>?_;have e:(x.cps.extract k (k+y.length)).toList=((L x).drop k).take y.length:=by simp[L,List.extract_eq_drop_take]
 constructor
 .intro h;rw[<-e,h];rfl
 intro h;apply Array.ext';rw[e,h];rfl
noncomputable def bO(S:Zg):List (Zg)->Zg
 |[]=>[]
 |[x]=>x
 |x::y::r=>x++S++bO S (y::r)
theorem dt:∀d:List (Zg),bO [] d=d.flatten
 |[]=>rfl
 |[x]=>by simp[bO]
 |x::y::r=>by rw[bO,dt (y::r)];simp
theorem CP(S:Str):∀Y:ZT,WS S Y=T (bO (L S) (Y.map L))
 |[]=>rfl
 |[x]=>by change x=T (L x);rw[T_L]
 |x::y::r=>by change x++S++WS S (y::r)=T (L x++L S++bO (L S) ((y::r).map L));rw[CP S (y::r),<-Ak,<-Ak,T_L,T_L]
theorem EK:∀{Z:ZT} {u:ZY},ZQ (Z.map V.str) u->StrsAre u Z:=by
 intro Z
 induction Z with
 |nil=>intro u r;cases r;show .nil
 |cons z r I=>
  intro u h;rw[uo]at h
  cases h with
  |cons R m=>
   obtain⟨t,rfl⟩:=R;show .cons z t (I m)
def pG(K:Qb):V->ZE->Hp->VK->Prop:=λx d H Q=>aS (λa=>aR λp=>a0 (
 ∃z:List (Zg),SqL K H p (z.map λl=>V.str (T l))/\(z.map Qa).sum+Qa z * Qa (L a)<=sizeLine/\Q (.str (T (bO (L a) z))) H
 )) (x::d)
theorem PM:MtR X "str.join" (pG X.K):=by
 intro B s D H x d v U Q I J R h;unfold pG at h;obtain⟨a,rfl,g⟩:=aSm h;clear h;obtain⟨p,rfl,h⟩:=aR1 g;clear g
 ·
  show Zz h λz C y q=>?_;clear h;obtain⟨t,rfl⟩:=J;show Zf (J1 R) λu Z f=>?_;subst Z;cases f;show Zz (I.list C) λY r P _=>?_;have e:(z.map λl=>V.str (T l))=(z.map T).map V.str:=by simp
  rw[e]at r;have O:sizeLine=16777216:=jT;show join_list (ys:=z.map T) P.isList (by simpa using EK r) ?_ λm k=>?_
  .rw[u6,jO,<-zC a]
   have:(VV∘T)=Qa:=by
    funext l
    show DT l
   rw[<-O];change(js (VV∘T) z).sum+_<=_;rw[this];show y
  show(.str (T (bO (L a) z)),H,I.tok _,(m,?_),q);change Vh (Txt.join a (z.map T)) m=_;have E:Txt.join a (z.map T)=WS a (z.map T):=StrLaws.glued_eq_join _ _;rw[E,CP,u6]
  congr 3
  simp[L_T,Function.comp_def]
end
theorem Yn.forget(x:Yn P w H h a o)(y:Yn P w H' h' a o):Yn P w H h' a o:=by
 induction o with
 |frz O u I=>show(y.1,I x.2 y.2)
 |ins C d f=>show(x.1,y.2)
 |dT z=>show False.elim x
 |_=>show y
theorem HOk.forget(x:HOk P w H h)(y:HOk P w H' h')(S:Zw H H'):HOk P w H h':=λa o e=>(x a o e).forget (y a o (S a o e))
section
theorem Zw.upd(e:Zw H H')(n:H' a=Qs):Zw H (upd H' a o):=λb u q=>by have Q:=e b u q;rw[Zn (Zm Q n)];show Q
theorem Zw.updN(n:H a=Qs):Zw H (L2.upd H a o):=Zw.upd (Zw.refl H) n
def tFE(t:TE):TE:=λD H Q=>t D H λv I=>Zw H I/\Q v H
end
structure Fn(P:j8)(w:uj)(K:Qb)(mg:z9)(base:Heap)(k:Nat)(x:Str)(ps:ZT)(sp:Sp):Prop where
 ex:∃f fd,Z0 P w K mg base CX0 k f fd ps sp/\mg x=Qr (.ref f)/\vB K (.ref f)=true/\bL K fd ps []
section
variable{P:j8}{w:uj}{K:Qb}{mg:z9}{base:Heap}
theorem Fun.pure{x I:Str}{st:Stmt}{f:jP}{g:uY}{N p:ZT}{k:Nat}{j:Sp}(F:Fun K x I st f g)(S:ZA N p (Zq st))
 (y:∀(C:Value) (A:uv) (outer:List Env) (s:jQ) (H:Hp) (Y:ZE) (Q:VK) (E:XK),YN k (A.deeper (ve I (Zq st) s.heap.objs.size f C))->j Y H Q E->
  ∃t,PSs (dH CX0 P w K mg base N I (Zq st) f C A outer s H E).nox (zz st) t/\t {nx:=λ_ J=>Zw H J/\Q .non H,rt:=λv J=>Zw H J/\Q v H} (JZ N Y) H) (len:autoParam (∀Y H Q E,j Y H Q E->Qa Y=Qa p) GA):Z0 P w K mg base CX0 (k+1) f g p j:=by
 have F1:Z0 P w K mg base CX0 (k+1) f g p (λY H Q' E=>∃Q,j Y H Q E/\Q'=λv J=>Zw H J/\Q v H):=by show F.ok S (len:=λY H Q E (m,h,_)=>len Y H m E h) λC A outer s H Y Q E d z=>Zf z λm h e=>?_;clear z;subst e;show y C A outer s H Y m E d h
 show(len,λA outer s H args D Y Q E d B U r M=>?_);show uR (F1.run A outer s H args D Y (λv J=>Zw H J/\Q v H) E d B U r (Q,M,rfl)) λr s' h=>?_
 cases r with
 |error e=>show h
 |ok fl=>
  cases fl with
  |ret u=>
   show zQ h λv J Z=>ZO Z λos bare un hok R Z=>ZI Z λO q=>(v,H,os,bare,(un.keep,un.slot,λ_ _ _ n _=>n,un.there,λ_ _ q=>q,λ_ _ _ q=>q,λ_ p q=>(#[],by rw[q];simp)),B.hok.forget hok O,R,q)
  |next=>show h
  |brk=>show h
  |cont=>show h
end
section
def tFn(S:Sp)(t:TA):TE:=λD H Q=>t D H λv E=>S v E Q E0
theorem Z8(F:Fn X.prog X.w X.K X.mg X.base k x ps sp)(Y:YN m X.A)(M:PA X (e::es) t)(r:autoParam (k<=m) z8)(R:autoParam (Gl X x) ZF)(q:autoParam ((x==("__debug__":Str))=false) z8)
 (y:autoParam (kc X e es) ZF) (S:autoParam (rL X pos es) ZF):PE X (.Call (.Name x p) (e::es) [] pos) (tFn sp t):=by
 show ze F.ex λf g F Z J U=>?_;intro z s D H Q I h;show MY F (Y.mono r) R Z J U .nil BI M q y S z s D H Q I ?_;change t D H λv E=>sp (v++[]) E Q E0;simp only[vx];show h
theorem KI(F:Fn X.prog X.w X.K X.mg X.base k x ps sp)(Y:YN k X.A)(R:autoParam (Gl X x) ZF)(q:autoParam ((x==("__debug__":Str))=false) z8):PE X (.Call (.Name x p) [] [] pos) (λ_ H Q=>sp [] H Q E0):=by show ze F.ex λf g F Z E S=>?_;intro z s D H Q I h;show KG F Y R Z E S .nil BI q z s D H Q I h
end
noncomputable def pA:List (Str×QaQ)->List (Str×jP)->List (Str×jP)->Option (List (Str×jP))
 |[],_,d=>Qr d
 |(n,k)::r,cells,d=>if k==.free then(match cells.lookup n with
    |some c=>pA r cells ((n,c)::d)
    |none=>Qs)else pA r cells d
theorem fP(h:pA scope.names env.cells []=Qr cl):closureFor scope env=pure cl:=by
 have all:∀(Q:List (Str×QaQ)) (d:List (Str×jP)),pA Q env.cells d=Qr cl->
  (do
   let mut cs:=d
   for (name,kind) in Q do
    if kind==.free then cs:=(name,<-cellOf env name)::cs
   return cs:Sem (List (Str×jP)))=pure cl:=by
  intro Q
  induction Q with
  |nil=>
   intro d h;cases Option.some.inj (show Qr d=Qr cl from h);rfl
  |cons x r I=>
   intro d h;obtain⟨n,k⟩:=x;unfold pA at h
   dsimp only at I ⊢
   rw[Uw];dsimp only
   cases H:(k==NameKind.free)with
   |false=>
    rw[H]at h
    simp only[H,QX,if_false]at h ⊢
    show I d h
   |true=>
    rw[H]at h
    simp only[H,if_true]at h ⊢
    cases f:env.cells.lookup n with
    |none=>rw[f]at h;cases h
    |some c=>
     rw[f]at h;unfold cellOf;simp only[f];show I ((n,c)::d) h
 show all scope.names [] h
theorem aa:∀(names:List (Str×QaQ)) (f:List (Str×jP)),pA names cells f=Qr cl->
 (∀x c,f.lookup x=Qr c->cells.lookup x=Qr c)->(∀x c,cl.lookup x=Qr c->cells.lookup x=Qr c)/\∀x,((∃c,f.lookup x=Qr c)\/names.lookup x=Qr .free)->∃c,cl.lookup x=Qr c
 |[],f,h,J=>by cases Option.some.inj (show Qr f=Qr cl from h);show(J,λx H=>H.elim id λz=>by simp at z)
 |(n,k)::r,f,h,J=>by
  unfold pA at h
  cases E:(k==NameKind.free)with
  |false=>
   rw[E]at h;simp only[QX,if_false]at h;obtain⟨y,I⟩:=aa r f h J;show(y,λx H=>I x (H.imp id λz=>?_));rw[QP]at z
   cases H:x==n with
   |true=>
    rw[H]at z;cases Option.some.inj z;cases E
   |false=>rw[H]at z;show z
  |true=>
   rw[E]at h;simp only[if_true]at h
   cases g:cells.lookup n with
   |none=>rw[g]at h;cases h
   |some c=>
    rw[g]at h
    obtain⟨y,I⟩:=aa r ((n,c)::f) h (λx d H=>by
     rw[QP]at H
     cases e:x==n with
     |true=>
      rw[e]at H;cases Option.some.inj H;rw[eq_of_beq e];show g
     |false=>rw[e]at H;show J x d H)
    show(y,λx H=>?_)
    cases e:x==n with
    |true=>show I x (.inl (c,by rw[QP,e]))
    |false=>
     show I x ?_;rcases H with⟨d,hd⟩|H;show .inl (d,by rw[QP,e];show hd);rw[QP,e]at H;show .inr H
theorem tT(h:scope.names.lookup x=Qr k):(Qa2 scope env).names.lookup x=Qr (if(k==.free && env.scope.kind==.function && env.kindOf x==Qr .cell)=true then .cell else k):=by
 unfold Qa2;dsimp only;generalize scope.names=names at h
 induction names with
 |nil=>simp at h
 |cons y r I=>
  obtain⟨n,j⟩:=y;rw[uo];rw[QP]at h
  cases e:x==n with
  |true=>
   rw[e]at h;cases Option.some.inj h;have en:=eq_of_beq e;subst en;dsimp only;split<;>rw[QP,beq_self_eq_true]
  |false=>
   rw[e]at h;have:=I h;dsimp only;split<;>(rw[QP,e];show this)
theorem yY(h:scope.names.lookup x=Qs):(Qa2 scope env).names.lookup x=none:=by
 unfold Qa2;dsimp only;generalize scope.names=names at h
 induction names with
 |nil=>rfl
 |cons y r I=>
  obtain⟨n,j⟩:=y;rw[uo];rw[QP]at h
  cases e:x==n with
  |true=>rw[e]at h;cases h
  |false=>
   rw[e]at h;have:=I h;dsimp only;split<;>(rw[QP,e];show this)
def PFs(X:Cx)(I:List uI)(t:TT):Prop:=
 ∀(z:zN) (s:jQ) (D:St) (H:Hp) (Q:Bool->Hp->Prop),Inv X z D H s->t D H Q->
  jS (Z2 X) X.A (forIn I true λc r=>if r=true then do let ok <-isTrue c X.env (eval c X.env);pure (ForInStep.yield ok)else pure (ForInStep.yield r)) (TP X z D Q) X.xe s
theorem fX:PFs X [] (λ_ H Q=>Q true H):=λ_ _ _ H _ I h=>wpAny_tests_nil (H,I,h)
theorem yN(h:PT X c t):PFs X [c] t:=λz s D H Q I q=>wpAny_tests_one (h z s D H Q I q)
def Jp(X:Cx)(S:Scope):List (Str×Nat)->Prop
 |[]=>True
 |(x,j)::r=>(X.N[j]?=Qr x/\X.env.scope.names.lookup x=Qr .cell/\S.names.lookup x=Qr .free)/\Jp X S r
theorem Jp.get:∀{cp:List (Str×Nat)} {i:Nat} {x:Str} {j:Nat},Jp X scope cp->cp[i]?=Qr (x,j)->X.N[j]?=Qr x/\X.env.scope.names.lookup x=Qr .cell/\scope.names.lookup x=Qr .free
 |[],_,_,_,_,e=>by simp at e
 |(y,k)::r,0,x,j,h,e=>by simp at e;obtain⟨rfl,rfl⟩:=e;show h.1
 |_::r,i+1,x,j,h,e=>Jp.get (cp:=r) (i:=i) h.2 (by simpa using e)
noncomputable def eX(n:Nat)(C:List (Str×Nat))(D:St):St:=Qy n Qs++C.map λp=>gS D p.2
noncomputable def cxC(X:Cx)(S:Scope)(z:List (Str×jP))(N:ZT)(f:List jP)(C:jP)(s:jQ)(H:Hp):Cx:=
 {X with N:=N,s₀:=s,H₀:=H,env:=vI S z C X.env,outer:=X.stack,stack:=X.stack,ex:=f,fn:=λ_=>false,pn:=[],xe:=λ_ _=>False}
abbrev o9(X:Cx)(S:Scope)(z:List (Str×jP))(own:List Str)(p:List (Str×Nat))(x:uI)(i:Nat):Prop:=∀f C s H,PG (cxC X S z (own++p.map (·.1)) f C s H) x (qW i)
abbrev gx(X:Cx)(S:Scope)(C:List (Str×jP)):Prop:=pA S.names X.env.cells []=Qr C
abbrev o6(S:Scope):Prop:=∀x∈S.names,x.2=.local->S.names.lookup x.1=Qr .local
abbrev o7(X:Cx)(S:Scope)(z:List (Str×jP))(own:List Str)(p:List (Str×Nat))(E:uI)(t:TE):Prop:=∀f C s H,PE (cxC X S z (own++p.map (·.1)) f C s H) E t
abbrev wx(X:Cx)(S:Scope)(z:List (Str×jP))(own:List Str)(p:List (Str×Nat))(I:List uI)(t:TT):Prop:=∀f C s H,PFs (cxC X S z (own++p.map (·.1)) f C s H) I t
abbrev LQ(X:Cx)(S:Scope)(z:List (Str×jP))(u:Str)(p:Pos)(v:Str)(pv:Pos):Prop:=∀C,(uz [.Name u p,.Name v pv] (vI S z C X.env)).map (·.2)=Qay (.Name u p) (vI S z C X.env)::(uz [.Name v pv] (vI S z C X.env)).map (·.2)
abbrev Cg(X:Cx)(S:Scope)(z:List (Str×jP))(v:Str)(pv:Pos):Prop:=∀C,(uz [.Name v pv] (vI S z C X.env)).map (·.2)=Qay (.Name v pv) (vI S z C X.env)::(uz [] (vI S z C X.env)).map (·.2)
abbrev LR(X:Cx)(S:Scope)(z:List (Str×jP))(u:Str)(p:Pos)(v:Str)(pv:Pos):Prop:=∀C,Qa (uz [.Name u p,.Name v pv] (vI S z C X.env))=2
abbrev LU(X:Cx)(S:Scope)(z:List (Str×jP))(u:Str)(p:Pos)(v:Str)(pv:Pos):Prop:=∀C,(uz [.Name u p,.Name v pv] (vI S z C X.env)).findIdx? (·.1)=Qs
def xa(n:Nat)(g:TG):Prop:=∀x D H Q,g x D H Q->g x D H λd I=>Q d I/\∀j:Nat,n<=j->d[j]?=D[j]?
theorem rQ(h:i<n):xa n (qW i):=λx D H Q q=>(q,λj u=>U5 ⋯)
def EM(n:Nat)(C:List (Str×Nat))(q:TI)(g:TG)(P:TT)(j:TE):TE:=λD H Q=>q D H λJ E=>∃W:Nat->Nat->Hp->ZE->Prop,(∃m,W 0 m E [])/\∀i m O d,W i m O d->
 Qa d<sizeLine/\((J.stop i O/\∀l,O l=Qs->Q (.ref l) (upd O l (.lst d)))\/
  (J.go i O/\∀x Y,J.yld i O x Y->g x (eX n C D) Y λf p=>P f p λb t=>if b=true then j f t λy I=>∃M,M<m/\W (i+1) M I (d++[y])else ∃M,M<m/\W (i+1) M t d))
abbrev kK(I:ZY)(n:Nat):Obj:= {cls:=.type "list",data:=.seq I.toArray n}
section
variable{X:Cx}{Zc:zN}{σ:St}{H2:Hp}{s2:jQ}{scope:Scope}{cl:List (Str×jP)}{own:ZT}{cp:List (Str×Nat)}{fp:List jP}{C D:jP}{h1:Heap}
theorem Me(I:Inv X Zc σ H2 s2)(t:gx X scope cl)(P:scope.kind=.function)(E:∀y∈scope.names,y.2≠ .cell)
 (B:∀b∈fp,gN X Zc H2 b) (U:s2.heap.objs.size<=C) (M:∀b∈fp,b<s2.heap.objs.size) (N:ZT):(cxC X scope cl N fp C s2 H2).Ok:=by
 have j:=(aa scope.names [] t (λx c h=>by simp at h)).1;have r:=(aa scope.names [] t (λx c h=>by simp at h)).2;show(I.ok.mod,P,I.ok.glob,I.ok.blt,U,λx y c h1 O=>I.ok.inj x y c (j x c h1) (j y c O),λx f=>?_,λx c h _=>ZD h (by simp[cxC]),I.ok.hd,I.ok.frames,.inl rfl,λb H=>(?_,λx c h=>?_),I.bs,QC I.ok.bsz I.sz,λb o e H=>?_,λb H J=>?_,I.stack,I.stkFree)
 .have f:(Qa2 scope X.env).names.lookup x=Qr .cell\/(Qa2 scope X.env).names.lookup x=Qr .free:=f
  cases e:scope.names.lookup x with
  |none=>rw[yY e]at f;rcases f with z|z<;>cases z
  |some k=>
   rw[tT e]at f;show r x (.inr ?_);by_cases J:(k==.free && X.env.scope.kind==.function && X.env.kindOf x==Qr .cell)=true
   .have:k=.free:=by simp only[QW]at J;show eq_of_beq J.1.1
    rw[e,this]
   rw[Zo J]at f;rcases f with z|z
   .cases Option.some.inj z;show ZD rfl (E _ (PySem.mem_of_lookup e))
   cases Option.some.inj z;show e
 show Qu (Qp (M b H) U);show(B b H).2.2.2.2.1 x c (j x c h)
 .rcases(B b H).2.2.2.1 with z|z;show I.ok.noex b o e z;show ZD (Qp (Qn e) (QC I.ok.bsz z)) (QT _)
 have J:b∈frs X.stack:=J;rcases ui.mp (I.stkSub b J)with z|z;show(B b H).2.1 z;show(B b H).2.2.1 z
theorem Cy(I:Inv X Zc σ H2 s2)(H:gx X scope cl)(hk:scope.kind=.function)(Q:∀y∈scope.names,y.2≠ .cell)(R:Jp X scope cp)
 (f2:∀b∈fp,gN X Zc H2 b) (U:s2.heap.objs.size<C) (O:∀b∈fp,b<s2.heap.objs.size) (S:h1.Ns C (λ_=>Qs)) (old:∀b o,s2.heap.get? b=Qr o->h1.get? b=Qr o)
 (hD:h1.get? s2.heap.objs.size=Qr (kK [] 0)):
 Inv (cxC X scope cl (own++cp.map (·.1)) fp C s2 H2) [(s2.heap.objs.size,kK [] 0)] (eX (Qa own) cp σ) H2 {s2 with heap:=h1,toks:=tk}:=by
 have ok:=Me I H hk Q f2 (Ua U) O (own++cp.map (·.1));have P:=(aa scope.names [] H (λx c h=>by simp at h)).1;have c2:=(aa scope.names [] H (λx c h=>by simp at h)).2;show Zf (id I.loc) λm hm hl=>?_;show(ok,rfl,I.bare,Un.kept old,(_,S,λi x v E B e3=>?_),λx c e=>?_,I.hok.fresh (Ua U),λx c e=>I.freeC x c (P x c e),λp J=>?_,I.hok.kept old,?_)
 .have E:(own++cp.map (·.1))[i]?=Qr x:=E;unfold eX at B;by_cases f:i<Qa own
  .rw[Qx (by simpa using f),Vy]at B;split at B<;>cases B
  rw[Qt (by simpa using f),vE,Qm]at B;rw[Qt ⋯,Qm]at E
  cases q:cp[i-Qa own]? with
  |none=>rw[q]at E;cases E
  |some p=>
   rw[q]at E B;obtain⟨y,j⟩:=p;cases Option.some.inj E;show ZL (R.get q) λg1 g2 g3=>?_;have e4:gS σ j=Qr v:=Option.some.inj B;show Zf (hl j y v g1 (sO e4) (.inr (.inl g2))) λu r lk=>?_;show(u,r,.inr (?_,?_))
   .left
    change(Qa2 scope X.env).names.lookup y=Qr .cell;rw[tT g3];rw[Zx];have:X.env.kindOf y=Qr .cell:=g2;rw[this,I.ok.kind];rfl
   rcases lk with⟨z,_⟩|⟨_,c,z,zc⟩
   .have z':X.env.scope.names.lookup y=Qr .local:=z;rw[g2]at z';cases z'
   obtain⟨d,hd⟩:=c2 y (.inr g3);have Z:=P y d hd;rw[z]at Z;cases Option.some.inj Z;show Zf zc λo t Y=>(c,hd,o,old _ _ t,Y)
 show ZS (I.cell x c (P x c e)) λv o t hd=>(v,o,old _ _ t,hd)
 .have J:p∈[(s2.heap.objs.size,kK [] 0)]:=J;cases j5.mp J;show(hD,I.hok.fresh (Qg _),Qu U,λM=>?_,λv z=>by cases z);have M:s2.heap.objs.size∈frs X.stack:=M;rcases ui.mp (I.stkSub _ M)with z|z;show QY I.lt z;show I.nofs (Qg _) z
 change Qa (eX (Qa own) cp σ)=Qa (own++cp.map (·.1));unfold eX;simp
theorem AI(I:Inv X Zc σ H2 s2)(M:∀b∈fp,gN X Zc H2 b)
 (g:X'=cxC X scope cl (own++cp.map (·.1)) fp C s2 H2) (Y:s2.heap.objs.size<C) (J:Inv X' [(s2.heap.objs.size,kK its n)] σ' H' s') (t:ZQ acc its) (y:Qa acc<=sizeLine)
 (j:Heap.SameBut C s'.heap h''):H' s2.heap.objs.size=Qs/\Inv X Zc σ (upd H' s2.heap.objs.size (.lst acc)) {s' with heap:=h''}:=by
 subst g;show qN (J.pin (s2.heap.objs.size,kK its n) (j0 _ (j5.mpr rfl))) λP p p3 p4 p5=>?_;have P:s'.heap.get? s2.heap.objs.size=Qr (kK its n):=P;have p:H' s2.heap.objs.size=none:=p;have E:H' C=none:=J.free;have U:∀b o,b≠C->s'.heap.get? b=Qr o->h''.get? b=Qr o:=λb o H e=>(j.2 b H).trans e;have x:∀b o,s2.heap.get? b=Qr o->b≠C:=λb o e=>Qu (WG (Qn e) Y);have O:∀b o,s2.heap.get? b=Qr o->b≠s2.heap.objs.size:=λb o e=>Qu (Qn e);have B:Un (frs X.stack) fp H2 H' s2.heap s'.heap:=J.base
 show(p,I.call' (ch:=fp) J.os (λb o e n H f=>U b o (x b o e) (B.keep b o e n H f),λb o e n H f=>?_,λb o e n f=>?_,λb o e f=>?_,λb d e=>?_,λb o u e=>?_,λb S e=>?_) (λa o e=>?_) J.bare
  λb H=>((M b H).2.2.2.1,(M b H).2.1,(M b H).2.2.2.2.1,(M b H).2.2.2.2.2))
 .obtain⟨v,r⟩:=B.slot b o e n H f;show(v,U b _ (x b o e) r)
 .rw[Zn (O b o e)];show B.free b o e n f
 .obtain⟨Z,r⟩:=B.there b o e f;show(Z,U b Z (x b o e) r)
 .have q:=B.tups b d e;rw[Zn (Zm q p)];show q
 .have q:=B.frzs b o u e;rw[Zn (Zm q p)];show q
 .obtain⟨m,q⟩:=B.tbls b S e;show(m,by rw[Zn (Zm q p)];show q)
 by_cases Q:a=s2.heap.objs.size
 .subst Q;rw[Zi]at e;cases e;show(y,its,n,t,U _ _ (Qu Y) P)
 rw[Zn Q]at e;show(J.hok a o e).stay (λb u H q=>U b u ?_ q) (λb q=>?_) λb d q=>?_
 .rintro rfl;rcases H with z|z
  .subst z;rw[E]at e;cases e
  rw[E]at z;cases z
 .rw[Zn (Zm q p)];show q
 rw[Zn (Zm q p)];show q
end
theorem Gm{α:Type}{t:Sem α}{Q q:α->jQ->Prop}{M:vJ}{A:uv}{E:ZW}{s:jQ}(h:jS M A t Q (λ_ _=>False) s)(H:∀a s,Q a s->q a s):jS M A t q E s:=uE h H λ_ _ x=>x.elim
section
structure TJ(Cd:Cx->Prop)(P:j8)(w:uj)(K:Qb)(tg:uI)(J:It)(fp:List jP)(it:jP)(tn:Nat->Heap->Prop):Prop where
 mem:it∈fp
 obj:∀i h,tn i h->∀b∈fp,∃o,h.get? b=Qr o/\∀v,o.data≠ .cell v
 keep:∀i h h',tn i h->(∀b∈fp,∀o,h.get? b=Qr o->h'.get? b=Qr o)->tn i h'
 item:∀(X:Cx),X.prog=P->X.w=w->X.K=K->Cd X->∀(i:Nat) (Zc:zN) (s:jQ) (σ:St) (H:Hp) (E:ZW),Inv X Zc σ H s->(∀b∈fp,gN X Zc H b)->tn i s.heap->J.go i H->
  jS (ud P w) X.A (uU (.ref it)) (λr s1=>∃u,r=Qr u/\jS (ud P w) X.A (QaA tg (.ref it) u) (λ_ s2=>∃x H',Inv X Zc σ H' s2/\zf x u/\J.yld i H x H'/\tn (i+1) s2.heap/\∀b∈fp,H' b=Qs) E s1) E s
 done:∀(X:Cx),X.prog=P->X.w=w->X.K=K->Cd X->∀(i:Nat) (Zc:zN) (s:jQ) (σ:St) (H:Hp) (E:ZW),Inv X Zc σ H s->(∀b∈fp,gN X Zc H b)->tn i s.heap->J.stop i H->jS (ud P w) X.A (uU (.ref it)) (λr s1=>r=Qs/\Inv X Zc σ H s1) E s
 self:∀(A:uv) (i:Nat) (s:jQ) (Q:ZW) (E:ZW),tn i s.heap->Q (.ref it) s->jS (ud P w) A (QaH (.ref it)) Q E s
def Zae(C:Cx->Prop)(X:Cx)(z:zN)(D:St)(B:uI)(R:It->Hp->Prop)(I:Value)(S:jQ):Prop:=
 ∃(t:jP) (f:List jP) (U:Nat->Heap->Prop) (J:It) (H:Hp),I=.ref t/\Inv X z D H S/\TJ C X.prog X.w X.K B J f t U/\U 0 S.heap/\(∀b∈f,gN X z H b)/\R J H
def PIG(C:Cx->Prop)(X:Cx)(t iter:uI)(d:TI):Prop:=∀(z:zN) (s:jQ) (D:St) (H:Hp) (R:It->Hp->Prop),Inv X z D H s->d D H R->jS (Z2 X) X.A (eval iter X.env) (λv S=>jS (Z2 X) X.A (QaH v) (Zae C X z D t R) X.xe S) X.xe s
theorem PI.toG(h:PI X tg iter wi):PIG (λX=>X.calm=true) X tg iter wi:=λz s D H R I q=>thn (h z s D H R I q) λv d x=>thn x λY p M=>ZH M λt f S Z=>ze Z λJ O e P T r=>(t,f,S,J,O,e,P,(T.mem,T.obj,T.keep,T.item,T.done,T.self),r)
theorem xj{Cd:Cx->Prop}{use:Option (Value->Sem Unit)}{R:ZW}
 (hc:∀f c s H,Cd (cxC X S cl (own++cp.map (·.1)) f c s H)) (a9:gx X S cl) (hk:S.kind=.function) (al:∀y∈S.names,y.2≠ .cell)
 (aM:o6 S) (aL:Jp X S cp) (hi:PIG Cd X target iter wi) (gk:xa (Qa own) g)
 (hg:∀f C s H,PG (cxC X S cl (own++cp.map (·.1)) f C s H) target g) (ht:wx X S cl own cp ifs tc) (he:o7 X S cl own cp elt te)
 (hs:∀x,ue iter X.env x=pure x)
 (I:Inv X Zc σ H s) (h:EM (Qa own) cp wi g tc te σ H Q)
 (aJ:∀{q s5:jQ} {C:jP} {f:List jP} {O M:Hp} {d:ZE} {Y:ZY} {k:Nat},Inv X Zc σ O q->(∀b∈f,gN X Zc O b)->q.heap.objs.size<C->Inv (cxC X S cl (own++cp.map (·.1)) f C q O) [(q.heap.objs.size,kK Y k)] (eX (Qa own) cp σ) M s5->ZQ d Y->Qa d<=sizeLine->(M q.heap.objs.size=Qs->Q (.ref q.heap.objs.size) (upd M q.heap.objs.size (.lst d)))->compPost (Z2 X) X.A X.xe use R (.ref q.heap.objs.size) C (.ok .next) s5):
 jS (Z2 X) X.A (comprehension (.ListComp elt [(target,iter,ifs,0)] S pos) S X.env (firstIterPos [(target,iter,ifs,0)] pos) (newList []) false (eval iter X.env) use) R X.xe s:=by
 show wpAny_comprehension_free (use:=use) rfl hs (fP a9) hk aM (thn (hi Zc s σ H _ I h) λxv s1 h1=>thn h1 λbd q h2=>?_);obtain⟨it,f,tn,J,O,e,I2,Tn,a8,f2,W,⟨m0,w0⟩,aH⟩:=h2;subst e;have Z:∀b∈f,b<q.heap.objs.size:=λb U=>by show Zf (Tn.obj _ _ a8 b U) λo e _=>Qn e
 show uS (wpAny_newFunctionEnv al (by intro y hy;simp at hy) (λh1 a3 a1=>?_) hk)
 dsimp only at a3 a1 ⊢
 generalize hP:q.heap.push {cls:=.type "list",dict:=Qs,data:=.seq ([]:ZY).toArray}=h0 at a3 a1 ⊢
 have b7:h0.objs.size=q.heap.objs.size+1:=by rw[<-hP,Uh]
 generalize be:h0.objs.size=C at a3 a1 b7 ⊢
 have hC:q.heap.objs.size<C:=⋯
 have aG:∀b:jP,b<q.heap.objs.size->b≠C:=λb h=>Qu (WG h hC)
 have old:∀b o,q.heap.get? b=Qr o->h1.get? b=Qr o:=λb o e=>
  (a1.2 b (aG b (Qn e))).trans (by rw[Qf _ (by rw[<-hP];show Qf _ e)])
 have hD:h1.get? q.heap.objs.size=Qr (kK [] 0):=
  (a1.2 _ (Qu hC)).trans (by rw[Qf _ (by rw[<-hP];show Ql _ rfl)])
 have a2:∀{Y:ZY} {k:Nat} {M:Hp},(∀b∈f,M b=Qs)->∀b∈f,gN (cxC X S cl (own++cp.map (·.1)) f C q O) [(q.heap.objs.size,kK Y k)] M b:=λ{Y k M} fr b U=>by
  show(fr b U,aG b (Z b U),λhf=>?_,.inl U,λx c e=>?_,λp E=>?_)
  .have hf:b∈frs X.stack:=hf;rcases ui.mp (I2.stkSub b hf)with z|z;show(f2 b U).2.1 z;show(f2 b U).2.2.1 z
  show(f2 b U).2.2.2.2.1 x c ((aa S.names [] a9 (λx c h=>by simp at h)).1 x c e);have E:p∈[(q.heap.objs.size,kK Y k)]:=E;cases j5.mp E;show QY (Z b U)
 have a6:∀s4:jQ,s4= {q with heap:=h1,toks:=q.toks+Qa ([]:List (Str×Value))}->
  Qaa (Z2 X) X.A (.compLoop (.ListComp elt [(target,iter,ifs,0)] S pos) 0 (.ref it) (.ref q.heap.objs.size) (vI S cl C X.env))
   (compPost (Z2 X) X.A X.xe use R (.ref q.heap.objs.size) C) s4:=by
  intro s4 e4;have I4:Inv (cxC X S cl (own++cp.map (·.1)) f C q O) [(q.heap.objs.size,kK [] 0)] (eX (Qa own) cp σ) O s4:=by rw[e4];show Cy I2 a9 hk al aL f2 hC Z (by simpa using a3) old hD
  have aT:tn 0 s4.heap:=by rw[e4];show Tn.keep _ _ _ a8 λb _ o e=>old b o e
  show codeAny_loop rfl (λn s'=>∃i M d Y k,Inv (cxC X S cl (own++cp.map (·.1)) f C q O) [(q.heap.objs.size,kK Y k)] (eX (Qa own) cp σ) M s'/\ZQ d Y/\tn i s'.heap/\(∀b∈f,M b=Qs)/\W i n M d)
   (λn s' hI=>?_) m0 (0,O,[],[],0,I4,.nil,aT,λb U=>(f2 b U).1,w0)
  show ZH hI λi M d zr=>cC zr λY k I' rv st fr w=>?_;clear zr hI;change jS _ X.A ((compTurn (.ListComp elt [(target,iter,ifs,0)] S pos) 0 (.ref it) (.ref q.heap.objs.size) (vI S cl C X.env)).onRaise (λx=>do noteFrame x (vI S cl C X.env);theTreesLotGoes x)) _ _ s';show wpAny_noted ?_;rw[compTurn_list];show jM (wpAny_standAt (jM ?_));obtain⟨hz,⟨stop,aK⟩|⟨go,step⟩⟩:=aH i n M d w
  .show Gm (Tn.done (cxC X S cl (own++cp.map (·.1)) f C q O) rfl rfl rfl (hc _ _ _ _) i _ s' _ M (λ_ _=>False) I' (a2 fr) st stop) λr s5 aN=>?_;obtain⟨hr,I5⟩:=aN;subst hr;show jN ?_;show aJ I2 f2 hC I5 rv (Ua hz) (aK _)
  show Gm (Tn.item (cxC X S cl (own++cp.map (·.1)) f C q O) rfl rfl rfl (hc _ _ _ _) i _ s' _ M (λ_ _=>False) I' (a2 fr) st go) λr s5 am=>Zf am λu hr h5=>?_;clear am;subst hr;show jM (Gm h5 λ_ s6 an=>cC an λx H6 I6 r6 y6 a4 b6=>?_);clear an;have b4:=I6.pinned (a2 b6) (Tn.obj _ _ a4);show jM (Gm (hg f C q O _ s6 _ H6 x u _ b4 r6 (gk _ _ _ _ (step x H6 y6))) λ_ s7 aw=>Zy aw λm H7 I7 q7 b8=>?_);clear aw;show jM (Gm (ht f C q O _ s7 m H7 _ I7 q7) λb s8 ap=>Zf ap λH8 I8 q8=>?_);clear ap
  have a7:∀{B:Hp} {P:jQ} {ps:zN},Inv (cxC X S cl (own++cp.map (·.1)) f C q O) ps m B P->Inv (cxC X S cl (own++cp.map (·.1)) f C q O) ps (eX (Qa own) cp σ) B P:=λ{B P ps} D=>
   D.weak (by rw[D.len];show I'.len) λj v e=>by
    by_cases hj:Qa own<=j
    .rw[b8 j hj];show e
    unfold eX at e;rw[Qx (by rw[vE];lia),Vy]at e;split at e<;>cases e
  have t:∀{B:Hp} {P:jQ},Inv (cxC X S cl (own++cp.map (·.1)) f C q O) ([(q.heap.objs.size,kK Y k)]++ix f s6.heap) m B P->(∀b∈f,B b=Qs)/\∀b∈f,∀o,s6.heap.get? b=Qr o->P.heap.get? b=Qr o:=λ{B P} D=>by show(λb U=>?_,λb U o e=>?_);show Zf (Tn.obj _ _ a4 b U) λo e _=>(D.pin (b,o) (j0 _ (j0 _ (fT U e)))).2.1;show(D.pin (b,o) (j0 _ (j0 _ (fT U e)))).1
  cases b with
  |false=>
   show Zf q8 λm' ak w8=>?_;clear q8;show jN (rfl,m',ak,i+1,H8,d,Y,k,a7 I8.unpinned,rv,Tn.keep _ _ _ a4 (t I8).2,(t I8).1,w8)
  |true=>
   show jM (jM (Gm (he f C q O _ s8 m H8 _ I8 q8) λuy P as=>Zy as λy B D r9 zr=>Zf zr λm' ak w9=>?_));clear as;have pD:=D.pin (q.heap.objs.size,kK Y k) (j0 _ (vh _ (j5.mpr rfl)));have bc:=rv.length;show jM (wpAny_list_append_plain (items:=Y.toArray) (k,pD.1) (λab pl sb=>?_) (by rw[j7];lia));obtain⟨k',aZ⟩:=pl
   have b0:Inv (cxC X S cl (own++cp.map (·.1)) f C q O) (ix f s6.heap) m B {P with heap:=ab}:=by
    have b5:Inv (cxC X S cl (own++cp.map (·.1)) f C q O) (ix f s6.heap) m B P:=D.pins_of λp E=>D.pin p (j0 _ (j0 _ E));show b5.turned (t':=P.toks) (it:=q.heap.objs.size) (λb o U e=>(sb.2 b U).trans e) pD.2.1 pD.2.2.1 (.inr (Qg _)) (λx c e z=>?_) λp E z=>?_
    .show ZS (D.cell x c e) λv o ho hd=>?_;rw[z,pD.1]at ho;cases ho;cases hd
    have E:p∈ix f s6.heap:=E;show Qu (Z p.1 (xA E).1) z
   have kk:∀b∈f,∀o,s6.heap.get? b=Qr o->ab.get? b=Qr o:=λb U o e=>(sb.2 b (Qu (Z b U))).trans ((t D).2 b U o e);have b3:Inv (cxC X S cl (own++cp.map (·.1)) f C q O) [(q.heap.objs.size,kK (Y++[uy]) k')] m B {P with heap:=ab}:=b0.pins_of λp E=>by cases j5.mp E;show(?_,pD.2.1,pD.2.2.1,pD.2.2.2.1,λv z=>by cases z);rw[aZ];simp
   show jN (jN (rfl,m',ak,i+1,B,d++[y],Y++[uy],k',a7 b3,rv.append (.cons r9 .nil),Tn.keep _ _ _ a4 kk,(t D).1,w9))
 show codeAny_compStart_list (a6 _ rfl) (Tn.self _ 0 _ _ _ (Tn.keep _ _ _ a8 λb _ o e=>old b o e) (a6 _ rfl))
theorem iS{E iter t:uI}{q:List uI}{S:Scope}{pos:Pos}{z:List (Str×jP)}{own:ZT}{p:List (Str×Nat)}{d:TI}{g:TG}{O:TT}{j:TE}
 (r:X.calm=true) (u:gx X S z) (Y:S.kind=.function) (B:∀y∈S.names,y.2≠ .cell)
 (P:o6 S) (J:Jp X S p) (m:PI X t iter d) (gk:xa (Qa own) g)
 (hg:∀D C s H,PG (cxC X S z (own++p.map (·.1)) D C s H) t g) (ht:wx X S z own p q O) (he:o7 X S z own p E j)
 (hs:autoParam (∀x,ue iter X.env x=pure x) qK):PE X (.ListComp E [(t,iter,q,0)] S pos) (EM (Qa own) p d g O j):=by
 intro Zc s σ H Q I h;rw[eval_ListComp];show xj (Cd:=λX=>X.calm=true) (λ_ _ _ _=>r) u Y B P J m.toG gk hg ht he hs I h λ{s2 s5 C D H2 H' R a1 k} I2 f2 hC v rv hz f=>?_;show Zf v.loc λmm M _=>?_;show(mm,M,λa2 U=>?_);obtain⟨Z,I6⟩:=AI I2 f2 rfl hC v rv hz U;show(.ref s2.heap.objs.size,_,I6,rfl,f Z)
end
section
def trV(K:Qb)(t:TE):TT:=λD H Q=>t D H λx I=>match x with
 | .bl b=>Q b I
 | .int i=>Q (i !=0) I
 | .non=>Q false I
 | .str z=>Qa (L z)<=sizeLine/\Q ((Qa (L z):Int) !=0) I
 | .ref p=>∃k,TH K (.ref p) I k/\Q k I
 |_=>False
theorem XF(J:PE X a ta)(y:autoParam (∀m,isTrue a X.env m=(do let v <-m;Qbi a.pos;Qag [v] (truthy v))) qK):PT X a (trV X.K ta):=by
 intro Z s D H Q I h;show isTrue_plain (thn (J Z s D H _ I h) λv S f=>Zy f λx E M r q=>?_) (y _);clear f;show Se Z S D E x v Q M r ?_
 cases x with
 |bl b=>show(b,rfl,q)
 |int i=>show(_,rfl,q)
 |non=>show(false,rfl,q)
 |str z=>show(_,(by rw[<-zC];show q.1,rfl),by rw[<-zC];show q.2)
 |ref p=>show q
 |_=>show False.elim q
def tB2(r:R2)(u t:TE):TT:=λD H Q=>u D H λx E=>t D E λy O=>r x y O λz Y=>match z with
 | .bl b=>Q b Y
 |_=>False
theorem ZV(t:OpR X (uD op) r)(J:PE X a ta)(S:PE X b tb)(Y:autoParam (Qau op b=false) Oq):PT X (.Compare a [op] [b] pos) (tB2 r ta tb):=by
 intro Z s D H Q I h
 show wpAny_isTrue_Compare1 (thn (J Z s D H _ I h) λv d (x,E,M,g,f)=>thn (S Z d D E _ M f) λu p (y,O,R,B,j)=>
  thn (t Z p D O x y v u _ R g B j) λc U (z,m,C,P,q)=>?_) Y
 cases z with
 |bl k=>cases P;show vS (m,C,q)
 |_=>show False.elim q
theorem mG(t:OpR X (uD op) r)(I:PE X a ta)(H:PE X b tb)(Y:autoParam (Qau op b=false) Oq):PE X (.Compare a [op] [b] pos) (tOp r ta tb):=MZ t I H Y
def Gu(u t:TE):TE:=λD H Q=>u D H λx E=>match x with
 | .bl c=>if c=true then t D E Q else Q (.bl false) E
 |_=>False
def vOr(u t:TE):TE:=λD H Q=>u D H λx E=>match x with
 | .bl c=>if c=true then Q (.bl true) E else t D E Q
 |_=>False
def LJ(t:TE):TE:=λD H Q=>t D H λx E=>match x with
 | .bl c=>Q (.bl (!c)) E
 |_=>False
theorem Ko(h:PE X a ta)(z:zN)(s:jQ)(D:St)(H:Hp)(Q j:VK)(I:Inv X z D H s)(q:ta D H Q)(O:∀v J,Q v J->j v J):jS (Z2 X) X.A (eval a X.env) (EP X z D j) X.xe s:=
 thn (h z s D H Q I q) λu S x=>Zy x λv E M r q=>(v,E,M,r,O v E q)
theorem PE.imp(h:PE X e t)(m:∀D H Q,t' D H Q->∃Y,t D H Y/\∀v J,Y v J->Q v J):PE X e t':=λz s D H Q I q=>by show Zf (m D H Q q) λY p x=>Ko h z s D H Y Q I p x
theorem MV{a b:uI}{JP:List uI}{t C:TE}(M:PE X a t)(S:PE X (.BoolOp .And (b::JP) pos) C):PE X (.BoolOp .And (a::b::JP) pos) (Gu t C):=by
 have x:PE X a (λD H Q=>∃Y:VK,t D H Y/\∀v J,Y v J->Q v J):=M.imp λD H Q h=>h;intro z s D H Q I h;show Rq (ta:=λD H Q=>∃Y:VK,t D H Y/\∀v J,Y v J->Q v J) x S z s D H Q I ?_;show(_,h,λv J q=>?_)
 cases v with
 |bl c=>show(c,rfl,q)
 |_=>show False.elim q
def FG:V->Hp->VK->Prop:=λx H Q=>match x with
 | .int i=>Q (.int (-i)) H
 |_=>False
theorem Om:UnR X (unaryOp .USub) FG:=by
 intro z s D H x v Q I r h
 cases x with
 |int i=>show Sh z s D H _ v Q I r (i,rfl,h)
 |_=>show False.elim h
def pT(t:TE):TO:=λD H Q=>t D H λx E=>match x with
 | .int i=>Q (Qr i) E
 |_=>False
theorem aE(h:PE X e te):PO X (Qr e) (pT te):=by
 have B:PE X e (λD H Q=>∃Y:VK,te D H Y/\∀v J,Y v J->Q v J):=h.imp λD H Q h=>h;intro z s D H Q I U;show Na B z s D H Q I ?_;show(_,U,λv J q=>?_)
 cases v with
 |int i=>show(i,rfl,q)
 |_=>show False.elim q
def BP(i:Nat)(t:TE)(U:TIp):TS:=λD E H=>match gS E i with
 |some x=>t E H λy I=>U x y I λz O=>D.nx (E.set i (Qr z)) O
 |none=>False
theorem rZ(t:OpR X (Qai op) ti)(d:X.N.Nodup)(m:X.N[i]?=Qr x)(f:Loc X.env.scope x)(y:PE X e te)(J:autoParam (X.fn x=true\/X.env.scope.names.lookup x=Qr .local) Gz):
 PS X (.AugAssign (.Name x pos') op e pos) (BP i te ti):=by
 intro z s E H D I h;show RH d m f y t J z s E H D I ?_;unfold BP at h
 cases e:gS E i with
 |none=>rw[e]at h;show h.elim
 |some v=>rw[e]at h;show(v,sO e,h)
def tWh(c:TT)(t:TS):TS:=λD E H=>∃W:Nat->St->Hp->Prop,(∃m,W m E H)/\∀m E H,W m E H->
 c E H λb J=>if b=true then t {nx:=λd I=>∃M,M<m/\W M d I,rt:=D.rt,bk:=D.nx,ct:=λd I=>∃M,M<m/\W M d I} E J else D.nx E J
theorem tP(C:vQ (Z2 X) X.A X.env X.xe)(g:PT X c tc)(S:PSs X body tb):PS X (.While c body [] pos) (tWh tc tb):=by
 have P:PT X c (λE H Q=>∃Y:Bool->Hp->Prop,tc E H Y/\∀v O,Y v O->Q v O):=λZ s E H Q I d=>Zf d λY p x=>by clear d;show thn (g Z s E H Y I p) λb r M=>Zf M λJ R q=>by clear M;show(J,R,x b J q)
 intro Z s E H D I h;show Zf h λW j t=>?_;clear h;show K1 C P S Z s E H D I (W,j,λm f J w=>(_,t m f J w,λb U q=>?_))
 cases b with
 |true=>show(_,λ_ _ z=>z,q)
 |false=>show q
def Mp(lo:Int)(n:Nat)(i:Nat)(t:TS):TS:=λD E H=>∃p:Nat->St->Hp->Prop,p 0 E H/\(∀k E H,k<n->p k E H->t {nx:=p (k+1),rt:=D.rt,bk:=D.nx,ct:=p (k+1)} (E.set i (Qr (.int (lo+k)))) H)/\∀E H,p n E H->D.nx E H
def Dt(u:TA)(i:Nat)(t:TS):TS:=λD E H=>u E H λv I=>aI (λj=>a0 (
 (-(2 ^ 62)<=j/\j<2 ^ 62)/\Mp 0 j.toNat i t D E I
 )) v
def Oi(u:TA)(i:Nat)(t:TS):TS:=λD E H=>u E H λv I=>aI (λl=>aI λj=>a0 (
 (-(2 ^ 62)<=l/\l<2 ^ 62/\ -(2 ^ 62)<=j/\j<2 ^ 62)/\Mp l (j-l).toNat i t D E I
 )) v
theorem PA.imp(h:PA X es t)(m:∀D H Q,t' D H Q->∃Y:ZE->Hp->Prop,t D H Y/\∀v J,Y v J->Q v J):PA X es t':=λp z s D H Q I q=>by show Zf (m D H Q q) λY y x=>?_;show thn (h p z s D H Y I y) λU S u=>Zy u λZ E M r q=>(Z,E,M,r,x Z E q)
theorem mL(C:vQ (Z2 X) X.A X.env X.xe)(d:X.calm=true)(f:X.mg "range"=Qs)(P:PA X [a] ta)
 (r:PG X (.Name x pos') (qW i)) (S:PSs X body tb) (g:autoParam (Gl X "range") ZF) (m:autoParam (uc [a] X.env=[(false,eval a X.env)]) ZF) (R:autoParam (∀x,ue (.Call (.Name "range" p) [a] [] p') X.env x=pure x) qK):
 PS X (.For (.Name x pos') (.Call (.Name "range" p) [a] [] p') body [] pos) (Dt ta i tb):=by
 have y:PA X [a] (λE H Q=>∃Y:ZE->Hp->Prop,ta E H Y/\∀v J,Y v J->Q v J):=P.imp λE H Q h=>h;intro Z s E H D I h;show oB C d (FU g f y m) r S R Z s E H D I (_,h,λB H1 q=>?_);obtain⟨j,rfl,q⟩:=aI1 q;obtain⟨⟨z,M⟩,u,t,U,hd⟩:=q;show(_,rfl,z,M,xq u t (λk E H O pv=>U k E H O pv) hd)
theorem Nf(C:vQ (Z2 X) X.A X.env X.xe)(f:X.calm=true)(r:X.mg "range"=Qs)(O:PA X [a,b] ta)
 (R:PG X (.Name x pos') (qW i)) (S:PSs X body tb) (g:autoParam (Gl X "range") ZF) (m:autoParam (uc [a,b] X.env=[(false,eval a X.env),(false,eval b X.env)]) ZF) (y:autoParam (uc [b] X.env=[(false,eval b X.env)]) ZF) (P:autoParam (∀x,ue (.Call (.Name "range" p) [a,b] [] p') X.env x=pure x) qK):
 PS X (.For (.Name x pos') (.Call (.Name "range" p) [a,b] [] p') body [] pos) (Oi ta i tb):=by
 have z:PA X [a,b] (λE H Q=>∃Y:ZE->Hp->Prop,ta E H Y/\∀v J,Y v J->Q v J):=O.imp λE H Q h=>h;intro Z s E H D I h;show oB C f (xD g r z m y) R S P Z s E H D I (_,h,λvs H1 q=>?_);obtain⟨l,j,rfl,q⟩:=aI2 q;show ZI q λB d=>Zz d λu t U hd=>(_,_,rfl,B,xq u t (λk E H M pv=>U k E H M pv) hd)
def Lu(K:Qb)(n:Nat)(C:List (Str×Nat))(tl:TE)(t:TE):TE:=λD H Q=>tl D H λv E=>match v with
 | .ref a=>∃(d:ZE) (f:V->V),SqL K E a d/\Qa d<sizeLine/\(∀x∈d,t ((eX n C D).set 0 (Qr x)) E λy I=>I=E/\y=f x)/\∀l,E l=Qs->Q (.ref l) (upd E l (.lst (d.map f)))
 |_=>False
theorem M3
 (hc:X.calm=true) (t:gx X S cl) (hk:S.kind=.function) (O:∀y∈S.names,y.2≠ .cell)
 (R:o6 S) (P:Jp X S cp) (hi:PE X iter tl) (hn:0<Qa own)
 (hg:o9 X S cl own cp (.Name x px) 0) (he:o7 X S cl own cp elt te)
 (hs:autoParam (∀x,ue iter X.env x=pure x) qK):PE X (.ListComp elt [(.Name x px,iter,[],0)] S pos) (Lu X.K (Qa own) cp tl te):=by
 have a1:PE X iter (λD H Q=>∃Y:VK,tl D H Y/\∀v J,Y v J->Q v J):=hi.imp λD H Q h=>h;have a4:∀B C s H,PE (cxC X S cl (own++cp.map (·.1)) B C s H) elt (λD H Q=>∃Y:VK,te D H Y/\∀v J,Y v J->Q v J):=λB C s H=>(he B C s H).imp λD H Q h=>h;intro Zc s D H Q I h;show iS hc t hk O R P (mJ a1) (rQ hn) hg (λ_ _ _ _=>fX) a4 hs Zc s D H Q I ?_;show(_,h,λv H1 q=>?_)
 cases v with
 |ref a=>
  show ze q ?_;clear q;intro d f j hz u q;show(a,rfl,(d,j),λi m H2 g=>H2=H1/\m=Qa d-i/\i<=Qa d/\g=(d.take i).map f,(Qa d,rfl,rfl,Qo _,rfl),?_);show λi m H2 g zr=>za zr λZ E a5 r=>?_;clear zr;subst Z;subst E;subst r;show(by rw[jO,jZ];lia,?_);by_cases M:i<Qa d
  .show .inr ((d,d[i],j,by simp[M]),λy H3 a2=>?_);obtain⟨e3,y3⟩:=a2;subst e3;have ey:=y3 d j;have p:∃Y:VK,te ((eX (Qa own) cp D).set 0 (Qr y)) H3 Y/\∀z U,Y z U->∃m',m'<Qa d-i/\U=H3/\m'=Qa d-(i+1)/\i+1<=Qa d/\(d.take i).map f++[z]=(d.take (i+1)).map f:=by show(_,u y (QD ey),λz U a3=>?_);obtain⟨e6,ez⟩:=a3;show(Qa d-(i+1),⋯,e6,rfl,M,?_);subst ez;rw[QZ,ey,uh];rfl
   show p
  have e:i=Qa d:=⋯
  subst e;show .inl ((d,j,Qg _),λl hl=>?_);rw[QE];show q l hl
 |_=>show False.elim q
end
end L2
namespace LW
open PySem L2
noncomputable def byL:List Int:=[48271,69621,16807,39373,21401,60493,87721,31337]
noncomputable def tN:List Int:=[99991,99989,99971,99961,99929,99923,99907,99901]
noncomputable def zg:Zg:=(Qi 5).map (λk=>32+k)++(Qi 89).map λk=>38+k
theorem JX:Qa zg=94:=by rfl'
noncomputable def yi(ns:List Int)(k:Int):Int:=if k<Qa ns then ns.getD k.toNat 0 else 0
theorem Y0{α:Type}{x:List α}{i:Int}(d:α)(m:0<=i)(H:i<Qa x):atI x i=Qr (x.getD i.toNat d):=by
 unfold atI ixN;rw[Zx m,Zx H];change x[i.toNat]?=_;rw[Qc];have:i.toNat<Qa x:=⋯
 rw[Qd this];rfl
theorem A7(l:List Int)(i:Nat):(l.map V.int).getD i (V.int 0)=V.int (l.getD i 0):=by rw[Qc,Qc,Qm];cases l[i]?<;>rfl
theorem DX{l:List Int}{i:Int}(m:0<=i)(H:i<Qa l):atI (l.map V.int) i=Qr (V.int (l.getD i.toNat 0)):=by rw[Y0 (V.int 0) m (by simpa using H),A7]
theorem FX{i:Int}(m:0<=i)(H:i<8):0<tN.getD i.toNat 0:=by
 have:i.toNat<8:=⋯
 generalize i.toNat=n at this;have h:∀n:Nat,n<8->0<tN.getD n 0:=by decide
 show h n this
theorem l9{α:Type}{x:List α}{lo H:Option Int}{c:α}(h:c∈cut x lo H):c∈x:=Uu (Uc h)
theorem NY{α E:Type}(g:α->E):∀l:List α,(l.map λc=>[g c]).flatten=l.map g
 |[]=>rfl
 |x::r=>by rw[uo,uo,Ug,NY g r];rfl
theorem Lg(h:i<94):zg.getD i 0∈zg:=by
 have:i<Qa zg:=by rw[JX];show h
 rw[Qc,Qd this];show QN this
theorem XO{α E:Type}(g:α->E):∀l:List α,((l.map λc=>[g c]).map Qa).sum=Qa l
 |[]=>rfl
 |x::r=>by
  rw[uo,uo,UT,XO g r,jV];change 1+Qa r=Qa r+1
  lia
theorem lL:L (Qe "")=[]:=by rfl'
theorem Hz(H:0<=i)(h:l[i.toNat]?=Qr c):atI l i=Qr c:=by have x:=(Qh.mp h).1;unfold atI ixN;rw[Zx H,Zx ⋯];show h
theorem sh(h:upd H p o p'=Qs):upd (upd H p o) p' o' p=Qr o:=by
 have:p≠p':=by rintro rfl;rw[Zi]at h;cases h
 rw[Zn this,Zi]
end LW
namespace L2
open PySem PySem.Spec PyProof.Rows
section
noncomputable def isS(x:V)(n:String):Option Bool:=match x with
 | .int _=>if n="str"then Qr false else Qs
 | .bl _=>if n="str"then Qr false else Qs
 | .str _=>if n="str"then Qr true else Qs
 | .non=>if n="str"then Qr false else Qs
 |_=>Qs
theorem Pj{K:Qb}{H:Hp}{x:V}{n:String}{b:Bool}(h:isS x n=Qr b):∃t,kB K H x t/\kitOne K t (.type n)=Qr b:=by
 cases x<;>unfold isS at h<;>dsimp only at h<;>first|show(_,.int _,?_)|show(_,.bl _,?_)|show(_,.str _,?_)|show(_,.non,?_)|cases h
 all_goals
  repeat(split at h;· (rename_i e;subst e;cases h;rfl))
  cases h
def CO(K:Qb):ZE->Hp->VK->Prop:=λd H Q=>aV (λx=>aV λt r=>match t with
 | .ty n=>a0 (match x with
   | .ref p=>∃b t,kB K H (.ref p) t/\kitOne K t (.type n)=Qr b/\Q (.bl b) H
   |x=>match isS x n with|some b=>Q (.bl b) H|none=>False) r
 |_=>False) d
theorem TY:JU X (.builtin "isinstance") (CO X.K):=by
 intro Z s D H d U Q I r h;obtain⟨x,d,rfl,g⟩:=EZ h;obtain⟨t,d,rfl,g2⟩:=EZ g;clear h g;have j:∀n b t,kB X.K H x t->kitOne X.K t (.type n)=Qr b->Q (.bl b) H->ZQ [x,.ty n] U->jS (Z2 X) X.A (call (.builtin "isinstance") U) (EP X Z D Q) X.xe s:=λn b t ty e q r=>by show Zy (wq r) λu v z f R=>?_;subst z;cases R;show Fv I f ty e λp=>zi (I.tok p) q rfl
 have non:∀n,(match isS x n with|some b=>Q (.bl b) H|none=>False)->ZQ [x,.ty n] U->jS (Z2 X) X.A (call (.builtin "isinstance") U) (EP X Z D Q) X.xe s:=λn h r=>by
  cases e:isS x n with
  |none=>rw[e]at h;show h.elim
  |some b=>rw[e]at h;show Zf (Pj (K:=X.K) (H:=H) e) λt ty E=>j n b t ty E h r
 cases t with
 |ty n=>obtain⟨rfl,O⟩:=Ao g2;clear g2;cases x<;>first|show non n O r|(obtain⟨b,t,ty,e,q⟩:=O;show j n b t ty e q r)
 |_=>show g2.elim
def Bs:ZE->Hp->VK->Prop:=λx H Q=>aI (λi=>aI λj=>a0 (
 Q (.int (min i j)) H
 )) x
def yC:ZE->Hp->VK->Prop:=λx H Q=>aI (λi=>aI λj=>a0 (
 Q (.int (max i j)) H
 )) x
theorem NU(d:X.calm=true):JU X (.builtin "min") Bs:=by
 intro z s D H x u Q I r h;unfold Bs at h;obtain⟨i,j,rfl,h⟩:=aI2 h
 ·
  show E6 d z s D H _ u Q I r (i,j,rfl,?_);have:(if j<i then j else i)=min i j:=by split<;>lia
  rw[this];show h
theorem D0(d:X.calm=true):JU X (.builtin "max") yC:=by
 intro z s D H x u Q I r h;unfold yC at h;obtain⟨i,j,rfl,h⟩:=aI2 h
 ·
  show E5 d z s D H _ u Q I r (i,j,rfl,?_);have:(if j>i then j else i)=max i j:=by split<;>lia
  rw[this];show h
end
section
variable{X:Cx}{K:Qb}{pos:Pos}
theorem Xi(h:X.K=K):IxR X (ixV K):=h▸Zan
theorem XJ(h:X.K=K):SlR X (slV K):=h▸Zax
theorem O2(h:X.K=K):JU X (.builtin "len") (wI K):=h▸TZ
theorem O1(h:X.K=K):JU X (.builtin "isinstance") (CO K):=h▸TY
theorem l6(h:X.K=K):MtR X "str.join" (pG K):=h▸PM
theorem tQ(y:X.K=K)(H:PE X a ta)(x:autoParam (∀m,isTrue a X.env m=(do let v <-m;Qbi a.pos;Qag [v] (truthy v))) qK):PT X a (trV K ta):=by subst y;show XF H x
variable{o e:uI}{es:List uI}{to:TE}{t:TA}{name:Str}{apos cpos:Pos}{T id:String}{r:V->ZE->Hp->VK->Prop}
theorem YH(y:X.K=K)(p:PlainAttrs T)(slot:Slot T name id)(U:typeOf (.builtin id)=pure (.type "method_descriptor"))(Y:MtR X id r)(u:PE X o to)(I:PA X (e::es) t)
 (S:autoParam (Qab o name X.env (eval o X.env)=eval o X.env) ZF)
 (D:autoParam (((v8 cpos (uc (e::es) X.env)).all (λx=> !x.1) && (QaP cpos (Qad [] X.env)).all (λx=>x.1.isSome)
  && decide (Qa (e::es)+Qa ([]:List Qbl)+(if([]:List Qbl).isEmpty then 0 else 1)<30))=true) ZF)
 (f:autoParam ((apos.endLine==cpos.line)=true) ZF) (g:autoParam (kc X e es) ZF) (H:autoParam ((v8 cpos (uc es X.env)).any (·.1)=false) ZF):
 PE X (.Call (.Attribute o name apos) (e::es) [] cpos) (tBM K T r to t):=by
 subst y;show XC p slot U Y u I S D f g H
theorem tL
 (K:Qb) (u:gx X S cl) (m:PE X iter tl)
 (z:o7 X S cl own cp elt te) (B:autoParam (X.K=K) ZF) (d:autoParam (X.calm=true) ZF) (E:autoParam (S.kind=.function) ZF) (H:autoParam (∀y∈S.names,y.2≠ .cell) gw)
 (P:autoParam (o6 S) gw) (I:autoParam (Jp X S cp) Cc) (j:autoParam (0<Qa own) z8) (Q:autoParam (o9 X S cl own cp (.Name x px) 0) Ce) (g:autoParam (∀x,ue iter X.env x=pure x) qK)
 :PE X (.ListComp elt [(.Name x px,iter,[],0)] S pos) (Lu K (Qa own) cp tl te):=by
 subst B;show M3 d u E H P I m j Q z g
end
theorem OY:ux "len"=Qr (.builtin "len"):=by rfl'
theorem wy:ux "isinstance"=Qr (.builtin "isinstance"):=by rfl'
theorem HA:ux "min"=Qr (.builtin "min"):=by rfl'
theorem yc:ux "max"=Qr (.builtin "max"):=by rfl'
theorem nA:ux "sorted"=Qr (.builtin "sorted"):=by rfl'
theorem Mb:ux "list"=Qr (.type "list"):=by rfl'
theorem yb:ux "int"=Qr (.type "int"):=by rfl'
theorem kE:ux "str"=Qr (.type "str"):=by rfl'
theorem Ma:ux "dict"=Qr (.type "dict"):=by rfl'
theorem Aw:ux "range"=Qr (.type "range"):=by rfl'
theorem hV:ux "reversed"=Qr (.type "reversed"):=by rfl'
theorem ya:ux "enumerate"=Qr (.type "enumerate"):=by rfl'
theorem Cu:ux "zip"=Qr (.type "zip"):=by rfl'
end L2
namespace LW
open PySem L2
noncomputable def com:Zg->Zg->Nat
 |a::x,b::y=>if a=b then com x y+1 else 0
 |_,_=>0
theorem yk:∀l p:Zg,com l p<=Qa l/\com l p<=Qa p
 |[],p=>by cases p<;>show(Qo _,Qo _)
 |a::x,[]=>(Qo _,Qo _)
 |a::x,b::y=>by
  unfold com;split
  .have:=yk x y;show(jk this.1,jk this.2)
  show(Qo _,Qo _)
theorem Cw:∀(l p:Zg) (k:Nat),k<=Qa l->k<=Qa p->(∀j:Nat,j<k->l[j]?=p[j]?)->(k=Qa l\/k=Qa p\/l[k]?≠p[k]?)->com l p=k
 |[],p,k,H,I,Q,d=>by
  have:k=0:=by simpa using H
  cases p<;>show this.symm
 |a::x,[],k,H,I,Q,d=>by
  have:k=0:=by simpa using I
  show this.symm
 |a::x,b::y,0,H,I,Q,d=>by unfold com;rw[Zo];rintro rfl;rcases d with z|z|z;simp at z;simp at z;simp at z
 |a::x,b::y,k+1,H,I,Q,d=>by
  have e:a=b:=by simpa using Q 0 (Nat.succ_pos _)
  unfold com;rw[Zx e];rw[Cw x y k (WH H) (WH I) (λj u=>by simpa using Q (j+1) (Nat.succ_lt_succ u)) (by simpa using d)]
theorem lR{l:Zg}{n:Nat}(h:n<Qa l):l[n]?=Qr (l.getD n 0):=by rw[Qc,Qd h];rfl
theorem atN{l:Zg}{n:Nat}(h:n<Qa l):atI l (n:Int)=Qr (l.getD n 0):=Hz (Int.natCast_nonneg n) (by rw[Qj];show lR h)
end LW
namespace LS
open PySem PySem.W PyProof.Rows
abbrev gt(p:Array Nat)(k:Nat):Nat:=p.getD k 0
def Pm(n:Nat)(p:Array Nat):Prop:=p.toList.Perm (Qi n)
theorem Pm.size(h:Pm n p):p.size=n:=by have:=h.length_eq;simpa using this
theorem Pm.lt(h:Pm n p)(E:k<n):gt p k<n:=by
 have g:=h.size
 have:gt p k∈p.toList:=by
  have H:k<p.size:=⋯
  unfold gt;rw[QV,QO H];simp
 have:=h.mem_iff.mp this;simpa using this
section
variable{O:vV}{key:Nat->O.α}{n:Nat}
def Up(key:Nat->O.α)(p:Array Nat)(k:Nat):Prop:=∀i j,i<=j->j<k->O.kle (key (gt p i)) (key (gt p j))
def Dn(key:Nat->O.α)(p:Array Nat)(k:Nat):Prop:=∀i j,i<=j->j<k->O.kle (key (gt p j)) (key (gt p i))
structure EY(key:Nat->O.α)(n:Nat)(J:jQ->Prop)(cmp:Nat->Nat->(Bool->jQ->Prop)->jQ->Prop):Prop where
 ask:∀i j C s,i<n->j<n->J s->(∀s',J s'->C (O.blt (key i) (key j)) s')->cmp i j C s
variable{J:jQ->Prop}{cmp:Nat->Nat->(Bool->jQ->Prop)->jQ->Prop}
end
section
variable{O:vV}{key:Nat->O.α}{n:Nat}
def St(key:Nat->O.α)(p:Array Nat)(k:Nat):Prop:=∀i j,i<j->j<k->key (gt p i)=key (gt p j)->gt p i<gt p j
def Ust(key:Nat->O.α)(p:Array Nat)(k:Nat):Prop:=Up key p k/\St key p k
variable{J:jQ->Prop}{cmp:Nat->Nat->(Bool->jQ->Prop)->jQ->Prop}
end
end LS
namespace LO
noncomputable def eLe(l:Zg)(i j:Nat):Bool:=decide (l.drop i<=l.drop j)
noncomputable def ord(l:Zg):Zg:=(Qi (Qa l+1)).mergeSort (eLe l)
theorem Jw(l:Zg):(ord l).Perm (Qi (Qa l+1)):=List.mergeSort_perm _ _
theorem zT(l:Zg):Qa (ord l)=Qa l+1:=by rw[(Jw l).length_eq,uF]
theorem Y2:i∈ord l↔i<=Qa l:=by
 rw[(Jw l).mem_iff,QA]
 lia
theorem FP(l:Zg):(ord l).Nodup:=(Jw l).symm.nodup List.nodup_range
theorem tH(l:Zg):(ord l).Pairwise (λi j=>l.drop i<=l.drop j):=by
 have h:=List.pairwise_mergeSort (le:=eLe l) (λa b c H I=>by
  unfold eLe at *
  simp only[decide_eq_true_eq]at *
  show List.le_trans H I) (λa b=>by
  unfold eLe;simp only[Uk,decide_eq_true_eq];show List.le_total _ _) (Qi (Qa l+1))
 show h.imp λh=>?_;simpa [eLe]using h
theorem AQ{l:Zg}{i j:Nat}(H:i<=Qa l)(u:j<=Qa l)(h:l.drop i=l.drop j):i=j:=by have:=congrArg Qa h;rw[uf,uf]at this;omega
theorem CA{l:Zg}{i j:Nat}(H:i<=Qa l)(u:j<=Qa l)(m:i≠j)(h:l.drop i<=l.drop j):l.drop i<l.drop j:=by rcases List.le_iff_lt_or_eq.mp h with h|h;show h;show ZD (AQ H u h) m
theorem Ky(l:Zg):(ord l).Pairwise (λi j=>l.drop i<l.drop j):=by have H:=tH l;have I:(ord l).Pairwise (· ≠·):=FP l;have Q:=H.and I;show List.Pairwise.imp_of_mem ?_ Q;intro a b J S h;show CA (Y2.mp J) (Y2.mp S) h.2 h.1
theorem Kz{l p:Zg}(C:p.Perm (Qi (Qa l+1)))(g:p.Pairwise (λi j=>l.drop i<=l.drop j)):p=ord l:=by show List.Perm.eq_of_pairwise (le:=λi j=>l.drop i<=l.drop j) (λa b I H x J=>?_) g (tH l) (C.trans (Jw l).symm);have I:=C.mem_iff.mp I;have H:=Y2.mp H;rw[QA]at I;show AQ ⋯ H (jf x J)
theorem lI{α:Type}{lt:α->α->Bool}(I:∀a,lt a a=false)(E:∀a b,lt a b=true->lt b a=false):∀{d:List α},d.Pairwise (λa b=>lt a b=true)->∀{k:Nat} {x:α},d[k]?=Qr x->d.countP (λa=>lt a x)=k
 |[],_,k,x,h=>by simp at h
 |a::r,H,0,x,h=>by
  simp at h;subst h;rw[QB,I];have:r.countP (λb=>lt b a)=0:=by rw[Q8];intro b S;have:=(QU.mp H).1 b S;rw[E _ _ this];simp
  rw[this];simp
 |a::r,H,k+1,x,h=>by
  have f:r[k]?=Qr x:=by simpa using h
  have g:=lI I E (QU.mp H).2 f;have:lt a x=true:=(QU.mp H).1 x (QD f);rw[QB,g,this];simp
noncomputable def qU(l:Zg)(j:Nat):Nat:=(Qi (Qa l+1)).countP (λi=>decide (l.drop i<l.drop j))
theorem fZ(h:(ord l)[k]?=Qr j):qU l j=k:=by
 have H:(ord l).Pairwise (λa b=>decide (l.drop a<l.drop b)=true):=(Ky l).imp λh=>decide_eq_true h
 have:=lI (lt:=λa b=>decide (l.drop a<l.drop b)) (λa=>decide_eq_false (Vp _)) (λa b h=>by
  have h:=of_decide_eq_true h;show decide_eq_false λz=>Vp _ (jy h z)) H h
 rw[<-this];show((Jw l).countP_eq _).symm
theorem Jx(u:j<=Qa l):(ord l)[qU l j]?=Qr j:=by obtain⟨k,H⟩:=VM (Y2.mpr u);rw[fZ H];show H
theorem r8(H:j<=Qa l):qU l j<Qa l+1:=by have:=(Qh.mp (Jx H)).1;rw[zT]at this;show this
theorem BR(H:i<=Qa l)(u:j<=Qa l)(h:qU l i=qU l j):i=j:=by have a:=Jx H;rw[h,Jx u]at a;show(Option.some.inj a).symm
theorem K6(l:Zg):qU l (Qa l)=0:=by unfold qU;rw[Q8];intro i _;rw[UE];simp
noncomputable def Yb(l:Zg)(p:Nat):Option Nat:=if p=0 then Qs else l[p-1]?
noncomputable def bh(l:Zg):List (Option Nat):=(ord l).map (Yb l)
noncomputable def Z3(l:Zg):Zg:=(ord l).filterMap (Yb l)
noncomputable def qB(l:Zg):Nat:=qU l 0
theorem pP(l:Zg):Qa (bh l)=Qa l+1:=by unfold bh;rw[jO,zT]
theorem mQ{l:Zg}{k j:Nat}(h:(ord l)[k]?=Qr j):(bh l)[k]?=Qr (Yb l j):=by unfold bh;rw[Qm,h];rfl
noncomputable def iq(c:Nat):Option Nat->Bool
 |some d=>decide (d<c)
 |none=>false
noncomputable def less(r:List (Option Nat))(c:Nat):Nat:=r.countP (iq c)
noncomputable def Yo(r:List (Option Nat))(c k:Nat):Nat:=(r.take k).countP (λo=>o==Qr c)
theorem qQ(f:Nat->Bool)(n:Nat):(Qi (n+1)).countP f=(if f 0 then 1 else 0)+(Qi n).countP (λi=>f (i+1)):=by rw[Vz,QB,US];rw[V1];rfl
theorem ae(f:Nat->Bool)(n:Nat):(Qi (n+1)).countP f=(Qi n).countP f+if f n then 1 else 0:=by rw[Q4,UG];simp[QB]
theorem kF{α:Type}(f g h:α->Bool)(d:List α)(H:∀x∈d,(if h x then 1 else 0)=(if f x then 1 else 0)+(if g x then 1 else 0)):d.countP h=d.countP f+d.countP g:=by
 induction d with
 |nil=>rfl
 |cons x r j=>
  have z:=H x (ub);have I:=j λy p=>H y (ua _ p);rw[QB,QB,QB,I,z]
  lia
theorem eY{l:Zg}{i c:Nat}(h:l[i]?=Qr c):l.drop i=c::l.drop (i+1):=by obtain⟨H,rfl⟩:=Qh.mp h;show Q7 H
theorem wg{α:Type}{lt:α->α->Bool}(I:∀a,lt a a=false)(E:∀a b,lt a b=true->lt b a=false)(f:α->Bool):∀{d:List α},d.Pairwise (λa b=>lt a b=true)->∀{k:Nat} {x:α},d[k]?=Qr x->(d.take k).countP f=d.countP (λa=>f a && lt a x)
 |[],_,k,x,h=>by simp at h
 |a::r,H,0,x,h=>by
  simp at h;subst h;rw[Ue,List.countP_nil]
  symm
  rw[Q8];intro b S;rcases ui.mp S with rfl|S;rw[I];simp;have:=(QU.mp H).1 b S;rw[E _ _ this];simp
 |a::r,H,k+1,x,h=>by
  have g:r[k]?=Qr x:=by simpa using h
  have j:=wg I E f (QU.mp H).2 g;have:lt a x=true:=(QU.mp H).1 x (QD g);rw[QJ,QB,QB,j,this];simp
theorem Cn(c:Nat)(h:(ord l)[k]?=Qr j):Yo (bh l) c k=(Qi (Qa l+1)).countP (λi=>(Yb l i==Qr c) && decide (l.drop i<l.drop j)):=by
 have H:(ord l).Pairwise (λa b=>decide (l.drop a<l.drop b)=true):=(Ky l).imp λh=>decide_eq_true h
 have:=wg (lt:=λa b=>decide (l.drop a<l.drop b)) (λa=>decide_eq_false (Vp _)) (λa b h=>by
  have h:=of_decide_eq_true h;show decide_eq_false λz=>Vp _ (jy h z)) (λi=>Yb l i==Qr c) H h
 unfold Yo bh;rw[<-map_take,US];show Eq.trans ?_ (this.trans ((Jw l).countP_eq _));rfl
theorem Bj(l:Zg)(c:Nat):less (bh l) c=(Qi (Qa l+1)).countP (λi=>iq c (Yb l i)):=by unfold less bh;rw[US];show(Jw l).countP_eq _
theorem kC(l:Zg)(i:Nat):Yb l (i+1)=l[i]?:=by unfold Yb;rw[Zo ⋯];rfl
theorem count_cons(l:Zg)(c:Nat)(t:Zg):(Qi (Qa l+1)).countP (λi=>decide (l.drop i<c::t))=1+less (bh l) c+(Qi (Qa l+1)).countP (λi=>(Yb l i==Qr c) && decide (l.drop i<t)):=by
 rw[Bj];rw[ae,qQ (λi=>iq c (Yb l i)),qQ (λi=>(Yb l i==Qr c) && decide (l.drop i<t))];have p:decide (l.drop (Qa l)<c::t)=true:=by rw[UE];simp
 have y:Yb l 0=none:=by unfold Yb;rw[Zx rfl]
 rw[p,y]
 have j:(Qi (Qa l)).countP (λi=>decide (l.drop i<c::t))=(Qi (Qa l)).countP (λi=>iq c (Yb l (i+1)))+(Qi (Qa l)).countP (λi=>(Yb l (i+1)==Qr c) && decide (l.drop (i+1)<t)):=by
  show kF _ _ _ _ λi m=>?_;have m:=QA.mp m;have E:l[i]?=Qr l[i]:=Qd m;rw[kC,E,eY E];change _=(if decide (l[i]<c)=true then 1 else 0)+_;generalize l[i]=d;generalize l.drop (i+1)=u;by_cases x:d<c
  .have H:¬d=c:=⋯
   simp[QS,x,H]
  by_cases H:d=c;simp[QS,H];simp[QS,x,H]
 rw[j,show iq c Qs=false from rfl];simp
 lia
theorem Au{l:Zg}{p c:Nat}(C:p<Qa l)(H:l[p]?=Qr c):qU l p=1+less (bh l) c+Yo (bh l) c (qU l (p+1)):=by have e:=Jx (l:=l) (j:=p+1) (by omega);rw[Cn c e];unfold qU;rw[eY H];show count_cons l c _
abbrev Rs:=List (Option Nat)
noncomputable def bk(r:Rs)(k:Nat):Option Nat:=match r[k]? with
 |some (Qr c)=>Qr (1+less r c+Yo r c k)
 |_=>Qs
noncomputable def CV(r:Rs):Zg:=r.filterMap id
theorem E4(h:k<=k'):Yo rs c k<=Yo rs c k':=by unfold Yo;show List.Sublist.countP_le (List.take_sublist_take_left h)
theorem Av(h:rs[k]?=Qr (Qr c)):Yo rs c (k+1)=Yo rs c k+1:=by unfold Yo;rw[QZ,h,UG];simp[QB]
theorem ny(h:rs[k]?=Qr (Qr c))(H:k<k'):Yo rs c k<Yo rs c k':=by
 have x:=Av h;have I:Yo rs c (k+1)<=Yo rs c k':=E4 H
 lia
theorem Cm(r:Rs)(c:Nat):Yo r c (Qa r)=r.count (Qr c):=by unfold Yo;rw[QE];rfl
theorem fO(h:rs[k]?=Qr (Qr c)):Yo rs c k<rs.count (Qr c):=by rw[<-Cm];show ny h (Qh.mp h).1
theorem Bi(R:Rs)(h:c<d):less R c+R.count (Qr c)<=less R d:=by
 unfold less iq
 induction R with
 |nil=>simp
 |cons o r I=>
  rw[QB,QB,VD]
  cases o with
  |none=>simpa using I
  |some e=>
   by_cases x:e<c
   .have H:e<d:=⋯
    have Q:¬e=c:=⋯
    simp[x,H,Q];lia
   by_cases H:e=c;subst H;simp[h];lia;simp[x,H];split<;>lia
theorem IZ(R:Rs)(c:Nat):less R c+R.count (Qr c)<=Qa (CV R):=by
 unfold less iq CV
 induction R with
 |nil=>simp
 |cons o r d=>
  rw[QB,VD]
  cases o with
  |none=>simpa using d
  |some e=>
   by_cases H:e<c
   .have Q:¬e=c:=⋯
    simp[H,Q];lia
   by_cases I:e=c;subst I;simp;lia;simp[H,I];lia
theorem lH(h:rs[k]?=Qr (Qr c)):bk rs k=Qr (1+less rs c+Yo rs c k):=by unfold bk;rw[h]
theorem NR(h:rs[k]?=Qr (Qr c))(H:rs[J]?=Qr (Qr d))(e:bk rs k=Qr b)(E:bk rs J=Qr b'):b<b'↔c<d\/(c=d/\k<J):=by
 rw[lH h]at e;rw[lH H]at E;cases e;cases E;rcases VZ c d with z|z|z
 .have x:=Bi rs z;have I:=fO h;constructor;intro _;show .inl z;intro _;lia
 .subst z;constructor
  .intro q;show .inr (rfl,?_);rcases VZ k J with y|y|y;show y;subst y;lia;have:=ny H y;lia
  rintro(q|⟨_,q⟩)
  lia
  have:=ny h q;lia
 have x:=Bi rs z;have I:=fO H;constructor;intro q;lia;rintro(q|⟨q,_⟩)<;>lia
theorem OW(e:bk rs k=Qr b)(E:bk rs k'=Qr b):k=k':=by
 have ex:∀{k:Nat},bk rs k=Qr b->∃c,rs[k]?=Qr (Qr c):=by intro k e;unfold bk at e;split at e;rename_i c h;show(c,h);cases e
 obtain⟨c,h⟩:=ex e;obtain⟨d,H⟩:=ex E;have f:=NR h H e E;have m:=NR H h E e;have O:¬(c<d\/(c=d/\k<k')):=λz=>ZD (f.mpr z) (QT _);have Y:¬(d<c\/(d=c/\k'<k)):=λz=>ZD (m.mpr z) (QT _);have:c=d:=⋯
 subst this
 lia
theorem Cq(e:bk rs k=Qr b):1<=b/\b<=Qa (CV rs):=by
 unfold bk at e;split at e
 .rename_i c h;cases e;have H:=IZ rs c;have I:=fO h
  lia
 cases e
noncomputable def rd(r:Rs):Nat->Option Nat
 |0=>Qr 0
 |k+1=>(rd r k).bind (bk r)
theorem oH:∀{i j r:Nat},rd rs i=Qr r->rd rs j=Qr r->i=j
 |0,0,_,_,_=>rfl
 |0,j+1,r,h,H=>by cases h;obtain⟨x,_,e⟩:=Ub.mp H;have:=Cq e;omega
 |i+1,0,r,h,H=>by cases H;obtain⟨x,_,e⟩:=Ub.mp h;have:=Cq e;omega
 |i+1,j+1,r,h,H=>by obtain⟨x,f,e⟩:=Ub.mp h;obtain⟨y,p,E⟩:=Ub.mp H;have:=OW e E;subst this;rw[oH f p]
theorem iU:∀{i j r:Nat},rd rs i=Qr r->j<=i->∃q,rd rs j=Qr q
 |i,j,r,h,u=>by
  by_cases e:j=i;subst e;show(r,h)
  cases i with
  |zero=>show ZD ⋯ e
  |succ i=>
   obtain⟨x,H,_⟩:=Ub.mp h;show iU H ⋯
theorem RN:∀{i r:Nat},rd rs i=Qr r->r<=Qa (CV rs)
 |0,r,h=>by cases h;lia
 |i+1,r,h=>by show Zf (Ub.mp h) λx _ e=>(Cq e).2
def NQ(R:Rs):Prop:=∃r,rd R (Qa (CV R))=Qr r
noncomputable def sI(R:Rs):Nat->Zg
 |0=>[]
 |k+1=>match(rd R k).bind (λr=>(R[r]?).bind id)with
  |some c=>c::sI R k
  |none=>sI R k
theorem xm(h:rd rs k=Qr r)(H:rs[r]?=Qr (Qr c)):sI rs (k+1)=c::sI rs k:=by change(match(rd rs k).bind (λr=>(rs[r]?).bind id)with|some c=>c::sI rs k|none=>sI rs k)=_;rw[h];simp[H]
theorem yW(l:Zg):∀k,k<=Qa l->rd (bh l) k=Qr (qU l (Qa l-k))
 |0,_=>by rw[Vg,K6];rfl
 |k+1,J=>by
  have I:=yW l k (by omega);change(rd (bh l) k).bind (bk (bh l))=_;rw[I];change bk (bh l) (qU l (Qa l-k))=_;have C:Qa l-k-1<Qa l:=by omega
  have H:l[Qa l-k-1]?=Qr (l[Qa l-k-1]):=Qd C;have e:=mQ (Jx (l:=l) (j:=Qa l-k) (by omega));have E:Yb l (Qa l-k)=Qr (l[Qa l-k-1]):=by unfold Yb;rw[Zo (by omega),H]
  rw[E]at e;rw[lH e];have:=Au C H;rw[show Qa l-k-1+1=Qa l-k by omega]at this;rw[show Qa l-(k+1)=Qa l-k-1 by omega,this]
theorem xn(l:Zg):∀k,k<=Qa l->sI (bh l) k=l.drop (Qa l-k)
 |0,_=>by simp[sI]
 |k+1,J=>by
  have I:=xn l k ⋯;have C:Qa l-k-1<Qa l:=⋯
  have H:l[Qa l-k-1]?=Qr (l[Qa l-k-1]):=Qd C;have e:=mQ (Jx (l:=l) (j:=Qa l-k) ⋯);have E:Yb l (Qa l-k)=Qr (l[Qa l-k-1]):=by unfold Yb;rw[Zo ⋯,H]
  rw[E]at e;rw[xm (yW l k ⋯) e,I,show Qa l-(k+1)=Qa l-k-1 by lia];have:=eY H;rw[this,show Qa l-k-1+1=Qa l-k by lia]
theorem xN{α:Type}{D f:α->Bool}:∀{x:List α},x.Pairwise (λa b=>D b=true->D a=true)->(x.take (x.countP D)).countP f=x.countP (λa=>f a && D a)
 |[],_=>rfl
 |a::r,C=>by
  have y:=(QU.mp C).1;have I:=xN (f:=f) (QU.mp C).2
  cases e:D a with
  |true=>
   rw[Wy e,QJ,QB,QB,I,e];simp
  |false=>
   have z:r.countP D=0:=by rw[Q8];intro b H hd;have:=y b H hd;rw[e]at this;cases this
   have Z:r.countP (λa=>f a && D a)=0:=by
    rw[Q8]at z ⊢
    intro b H;have:=z b H;simp[this]
   rw[Wz (by rw[e];simp),z,Ue,QB,Z,e];simp
noncomputable def low(l t:Zg):Nat:=(Qi (Qa l+1)).countP (λi=>decide (l.drop i<t))
noncomputable def dN(l t:Zg)(i:Nat):Bool:=t.isPrefixOf (l.drop i)
noncomputable def ai(l t:Zg):Nat:=(Qi (Qa l+1)).countP (λi=>dN l t i)
noncomputable def nr(l t:Zg)(i:Nat):Bool:=decide (l.drop i<t) || dN l t i
noncomputable def aD(l t:Zg):Nat:=low l t+ai l t
theorem kT:∀{t x:Zg},t.isPrefixOf x=true->¬x<t
 |[],x,_=>List.not_lt_nil _
 |c::t,[],h=>by simp at h
 |c::t,d::x,h=>by
  simp only[WI,QW,beq_iff_eq]at h;rw[QS];rintro(z|⟨_,z⟩)
  lia
  show kT h.2 z
theorem rS(l t:Zg):aD l t=(Qi (Qa l+1)).countP (nr l t):=by
 unfold aD low ai;show(kF _ _ _ _ λi _=>?_).symm;unfold nr
 cases e:dN l t i with
 |false=>cases decide (l.drop i<t)<;>rfl
 |true=>
  have:¬l.drop i<t:=kT e;simp[this]
theorem EJ:∀{t x u:Zg},t<=x->x<=t++u->t.isPrefixOf x=true
 |[],x,u,_,_=>by simp
 |c::t,[],u,h,_=>ZD (je c t) (Q1.mpr h)
 |c::t,d::x,u,y,H=>by
  rw[uN]at H;have a:¬(d::x<c::t):=Q1.mpr y;have b:¬(c::(t++u)<d::x):=Q1.mpr H;rw[QS]at a b;have e:c=d:=by omega
  subst e;simp only[WI,QW,beq_self_eq_true,true_and];show EJ (Q1.mp λz=>a (.inr (rfl,z))) (Q1.mp λz=>b (.inr (rfl,z)))
theorem xO(h:l.drop i<=l.drop j)(H:nr l t j=true):nr l t i=true:=by
 unfold nr dN at *
 rw[Uk,decide_eq_true_eq]at *
 by_cases f:l.drop i<t;show .inl f
 right
 rcases H with H|H;show ZD (WU h H) f;obtain⟨u,B⟩:=Vq.mp H;show EJ (u:=u) (Q1.mp f) ?_;rw[B];show h
theorem Bl{l t:Zg}{i j:Nat}(h:l.drop i<=l.drop j)(H:decide (l.drop j<t)=true):decide (l.drop i<t)=true:=decide_eq_true (WU h (of_decide_eq_true H))
theorem pz{D:Nat->Bool}(c:Nat)(hd:∀i j,l.drop i<=l.drop j->D j=true->D i=true):Yo (bh l) c ((Qi (Qa l+1)).countP D)=(Qi (Qa l+1)).countP (λi=>(Yb l i==Qr c) && D i):=by have h:=xN (f:=λi=>Yb l i==Qr c) (D:=D) ((tH l).imp λ{i j} h=>hd i j h);rw[(Jw l).countP_eq,(Jw l).countP_eq]at h;unfold Yo bh;rw[<-map_take,US];show h
theorem Kg(l:Zg)(c:Nat)(t:Zg):low l (c::t)=1+less (bh l) c+Yo (bh l) c (low l t):=by unfold low;rw[count_cons,pz c λi j=>Bl]
theorem Ft(l:Zg)(c:Nat)(t:Zg):aD l (c::t)=1+less (bh l) c+Yo (bh l) c (aD l t):=by
 rw[rS,rS,pz c λi j=>xO,Bj];rw[ae,qQ (λi=>iq c (Yb l i)),qQ (λi=>(Yb l i==Qr c) && nr l t i)];have q:nr l (c::t) (Qa l)=true:=by unfold nr;rw[UE];simp
 have y:Yb l 0=none:=by unfold Yb;rw[Zx rfl]
 rw[q,y]
 have p:(Qi (Qa l)).countP (nr l (c::t))=(Qi (Qa l)).countP (λi=>iq c (Yb l (i+1)))+(Qi (Qa l)).countP (λi=>(Yb l (i+1)==Qr c) && nr l t (i+1)):=by
  show kF _ _ _ _ λi m=>?_;have m:=QA.mp m;have E:l[i]?=Qr l[i]:=Qd m;unfold nr dN;rw[kC,E,eY E];change _=(if decide (l[i]<c)=true then 1 else 0)+_;generalize l[i]=d;generalize l.drop (i+1)=u;by_cases x:d<c
  .have H:¬d=c:=⋯
   have Q:¬c=d:=⋯
   simp[QS,x,H,Q]
  by_cases H:d=c;simp[QS,H];have Q:¬c=d:=λz=>H z.symm;simp[QS,x,H,Q]
 rw[p,show iq c Qs=false from rfl];simp
 lia
theorem rV(l:Zg):low l []=0:=by unfold low;rw[Q8];intro i _;simp
theorem sR(l:Zg):aD l []=Qa l+1:=by unfold aD ai dN;rw[rV];simp
theorem iT{l t:Zg}{i:Nat}(p:i<=Qa l):dN l t i=true↔low l t<=qU l i/\qU l i<aD l t:=by
 have m:∀{D:Nat->Bool},(∀i j,l.drop i<=l.drop j->D j=true->D i=true)->(D i=true↔qU l i<(Qi (Qa l+1)).countP D):=by
  intro D hd;have g:(ord l).Pairwise (λa b=>D b=true->D a=true):=(tH l).imp λ{i j} h=>hd i j h
  have go:∀{d:Zg} {k x:Nat},d.Pairwise (λa b=>D b=true->D a=true)->d[k]?=Qr x->(D x=true↔k<d.countP D):=by
   intro d
   induction d with
   |nil=>intro k x _ h;simp at h
   |cons a r f=>
    intro k x C h
    cases E:D a with
    |true=>
     rw[Wy E]
     cases k with
     |zero=>simp at h;subst h;simp[E]
     |succ k=>
      have:=f (k:=k) (x:=x) (QU.mp C).2 (by simpa using h);rw[this,Nat.add_lt_add_iff_right]
    |false=>
     have z:r.countP D=0:=by rw[Q8];intro b S hd;have:=(QU.mp C).1 b S hd;rw[E]at this;cases this
     rw[Wz (by rw[E];simp),z];constructor
     .intro H;rcases ui.mp (QD h)with e|e;rw[e,E]at H;cases H;have:=(QU.mp C).1 x e H;rw[E]at this;cases this
     intro H;lia
  have:=go g (Jx p);rwa[(Jw l).countP_eq]at this
 have I:=m (D:=λi=>decide (l.drop i<t)) λi j=>Bl;have P:=m (D:=nr l t) λi j=>xO;rw[rS];have q:low l t=(Qi (Qa l+1)).countP (λi=>decide (l.drop i<t)):=rfl;rw[q];constructor
 .intro h;have n:¬l.drop i<t:=kT h;show(?_,P.mp (by unfold nr;rw[h,jE]));have:¬(decide (l.drop i<t)=true):=by simpa using n
  rw[I]at this
  lia
 rintro⟨h1,h2⟩;have a:=P.mpr h2;have b:¬(decide (l.drop i<t)=true):=by rw[I];lia
 unfold nr at a;rw[Uk]at a;show a.resolve_left b
end LO
namespace L2
open PySem PySem.Spec PyProof.Rows
noncomputable def cxL(X:Cx)(A:uv)(env:Env)(N:ZT)(s:jQ)(H:Hp):Cx:=
 {X with A:=A.deeper env,N:=N,s₀:=s,H₀:=H,env:=env,outer:=X.stack,stack:=env::X.stack,ex:=[],fn:=λ_=>false,pn:=[],xe:=λ_ _=>False}
noncomputable def Bf(v:V)(C:List (Str×Nat))(D:St):St:=Qr v::C.map λp=>gS D p.2
section
theorem Fy(I:Inv X Zc σ H s)(hA:A.frames=Qr X.stack)(hh:A.handled=Qs)(J:gx X S cl)(hk:S.kind=.function)(f:∀y∈S.names,y.2≠ .cell)(g:Jp X S cp)
 (hx:S.names.lookup x=Qr .local) (a6:x∉cp.map (·.1)) (r:zf v u) (e1:env.scope=S) (P:env.locals=s.heap.objs.size) (e3:env.globals=jX) (E:env.cells=cl) (e5:env.frame=Qr s.heap.objs.size) (e6:env.builtins=uK)
 (a1:B.Ns s.heap.objs.size (λy=>[(x,u)].reverse.lookup y)) (old:∀b o,s.heap.get? b=Qr o->B.get? b=Qr o):
 Inv (cxL X A env (x::cp.map (·.1)) s H) [] (Bf v cp σ) H {s with heap:=B,toks:=tk}:=by
 have D:=(aa S.names [] J (λx c h=>by simp at h)).1;have c2:=(aa S.names [] J (λx c h=>by simp at h)).2;show Zf (id I.loc) λm hm hl=>?_;have M:∀y,env.kindOf y=S.names.lookup y:=λy=>by unfold Env.kindOf;rw[e1]
 show((I.ok.mod,?_,e3,e6,?_,?_,?_,λy c z=>ZD z (by simp[cxL]),λ_=>hh,?_,.inr (rfl,?_),λb z=>ZD (show b∈([]:List jP)from z) (by simp),I.bs,QC I.ok.bsz I.sz,λb o _ z=>ZD (show b∈([]:List jP)from z) (by simp),λb z=>ZD (show b∈([]:List jP)from z) (by simp),I.stack,I.stkFree),
  rfl,I.bare,Un.kept old,(λy=>[(x,u)].reverse.lookup y,?_,λi y C Q t q3=>?_),λy c q=>?_,?_,λy c q=>?_,λp hp=>ZD (show p∈([]:zN)from hp) (by simp),I.hok.kept old,?_)
 .change env.scope.kind=.function;rw[e1];show hk
 .change s.heap.objs.size<=env.locals;rw[P];show Qg _
 .intro y z c B O;have B:env.cells.lookup y=Qr c:=B;have O:env.cells.lookup z=Qr c:=O;rw[E]at B O;show I.ok.inj y z c (D y c B) (D z c O)
 .intro y R;change ∃c,env.cells.lookup y=Qr c;rw[E];have R:env.kindOf y=Qr .cell\/env.kindOf y=Qr .free:=R;rw[M]at R;rcases R with z|z;show ZD rfl (f _ (PySem.mem_of_lookup z));show c2 y (.inr z)
 show Around.frames_deeper hA
 .change env.frame=Qr env.locals;rw[e5,P]
 .change B.Ns env.locals _;rw[P];show a1
 .have Q:(x::cp.map (·.1))[i]?=Qr y:=Q;unfold Bf at t
  cases i with
  |zero=>
   cases Q;cases(show Qr v=Qr C from by simpa using t);show(u,r,.inl (by change env.kindOf x=_;rw[M];show hx,by simp))
  |succ i=>
   have Q:(cp.map (·.1))[i]?=Qr y:=by simpa using Q
   have t:(cp.map λp=>gS σ p.2)[i]?=Qr (Qr C):=by simpa using t
   rw[Qm]at Q t
   cases q:cp[i]? with
   |none=>rw[q]at Q;cases Q
   |some p=>
    rw[q]at Q t;obtain⟨Y,j⟩:=p;cases Option.some.inj Q;show ZL (g.get q) λg1 g2 g3=>?_;have a3:gS σ j=Qr C:=Option.some.inj t;show Zf (hl j Y C g1 (sO a3) (.inr (.inl g2))) λu' r' lk=>?_;show(u',r',.inr (.inr (by change env.kindOf Y=_;rw[M];show g3),?_));rcases lk with⟨z,_⟩|⟨_,c,z,zc⟩
    .have z':X.env.scope.names.lookup Y=Qr .local:=z;rw[g2]at z';cases z'
    obtain⟨d,hd⟩:=c2 Y (.inr g3);have Z:=D Y d hd;rw[z]at Z;cases Option.some.inj Z;show Zf zc λo U a2=>(c,by change env.cells.lookup Y=_;rw[E];show hd,o,old _ _ U,a2)
 .have q:env.cells.lookup y=Qr c:=q;rw[E]at q;show ZS (I.cell y c (D y c q)) λC o U hd=>(C,o,old _ _ U,hd)
 .change H env.locals=Qs;rw[P];show I.hok.fresh (Qg _)
 .have q:env.cells.lookup y=Qr c:=q;rw[E]at q;show I.freeC y c (D y c q)
 change Qa (Bf v cp σ)=Qa (x::cp.map (·.1));unfold Bf;simp
theorem IW(I:Inv X Zc σ H s)(hA:A.frames=Qr X.stack)(hh:A.handled=Qs)(hd:A.depth<recursionLimit)
 (t:gx X S cl) (Z:S.kind=.function) (B:∀y∈S.names,y.2≠ .cell) (P:Jp X S cp) (Y:S.names.lookup x=Qr .local) (D:x∉cp.map (·.1)) (E:S.isCoroutine=false) (M:S.isGenerator=false)
 (ho:s.heap.get? f=Qr (Qa3 name qual params body S cl pm C ctv)) (O:s.heap.CodeRec (.ref C) qual)
 (hb:∀u:Value,Qap (kla_fn name qual params body S cl pm (.ref C) ctv) ([u],[])=pure [(x,u)]) (r:zf v u)
 (he:∀A L f C s H,PE (cxL X A (newEnv S L jX cl (qual++".<locals>.") (Qr f) (.ref C) Qs uK) (x::cp.map (·.1)) s H) body te) (h:te (Bf v cp σ) H Q):
 jS (Z2 X) A (call (.ref f) [u]) (EP X Zc σ Q) (λ_ _=>False) s:=by
 show vL (PySem.W.kla_callFunE hd ho rfl E M rfl O ?_);rw[hb u];show jN (wpAny_newFunctionEnv B (λy hy=>?_) (λU R m=>?_) Z)
 .cases j5.mp hy;show Y
 have old:∀b o,s.heap.get? b=Qr o->U.get? b=Qr o:=λb o e=>(m.2 b (Qu (Qn e))).trans (Qf _ e);show(I.nolimit.keeps old,PySem.W.kla_codeExpr ?_);generalize p:newEnv S s.heap.objs.size jX cl (qual++".<locals>.") (Qr f) (.ref C) Qs uK=env;have e1:env.scope=S:=by rw[<-p];rfl
 have e4:env.cells=cl:=by rw[<-p];rfl
 have J:Inv (cxL X A env (x::cp.map (·.1)) s H) [] (Bf v cp σ) H {s with heap:=U,toks:=s.toks+[Prod.mk x u].length}:=
  Fy I hA hh t Z B P Y D r e1 (by rw[<-p];rfl) (by rw[<-p];rfl) e4 (by rw[<-p];rfl) (by rw[<-p];rfl) R old
 show uE ((p▸he A s.heap.objs.size f C s H:PE (cxL X A env (x::cp.map (·.1)) s H) body te) [] _ _ H Q J h) (λw' s' g=>Zy g λy H' j ry q=>?_) λ_ _ z=>False.elim z;show I.after (y,H',j.os,j.bare,j.base,j.hok,ry,q)
end
noncomputable def Ai(c:jP)(q:Str):HO:=.ext λh=>h.CodeRec (.ref c) q
theorem HQ(x:h.CodeRec (.ref c) q):Yn P w H h c (Ai c q):=by show ZH (id x) λC o Y Z=>zh Z λt e u hd M=>?_;clear Z;cases e;show(x,(o,u),λy I z k=>?_);show ZH z λB O v Z=>zh Z λm e a b d=>?_;clear Z z;cases e;show(_,O,v,m,rfl,k O a,b,d)
def Bk(P:jP)(pos:Pos)(q:Str)(H:Hp):Prop:=H P=Qr (.tbl #[])\/∃C,H P=Qr (.tbl #[uL pos.line,uL pos.col,.ref C])/\H C=Qr (Ai C q)
def zy(H I:Hp):Prop:=∀b o,H b=Qr o->I b≠Qs/\((∀p,o≠ .tbl p)->I b=Qr o)
theorem zy.at(a:zy H H')(h:H b=Qr o)(n:∀p,o≠ .tbl p):H' b=Qr o:=(a b o h).2 n
theorem zy.free(a:zy H H')(h:H' b=Qs):H b=none:=by
 cases q:H b with
 |none=>rfl
 |some o=>show ZD h (a b o q).1
theorem zy.refl(H:Hp):zy H H:=λ_ _ h=>(by rw[h];simp,λ_=>h)
theorem zy.trans(a:zy H H1)(b:zy H1 H2):zy H H2:=λc o h=>(λz=>(a c o h).1 (b.free z),λn=>b.at ((a c o h).2 n) n)
theorem Zw.toN(a:Zw H H'):zy H H':=λc o h=>(by rw[a c o h];simp,λ_=>a c o h)
theorem zy.upd(e:zy H H')(n:H' a=Qs):zy H (L2.upd H' a o):=λb u q=>by
 have S:b≠a:=by rintro rfl;show(e b u q).1 n
 rw[Zn S];show e b u q
theorem zy.seq{K:Qb}{H I:Hp}{a:jP}{x:ZE}(e:zy H I)(h:SqL K H a x):SqL K I a x:=by rcases h with(h|⟨o,h⟩)|h;show .inl (.inl (e.at h (by nofun)));show .inl (.inr (o,e.at h (by nofun)));show .inr h
theorem Bk.put(h:Bk P pos q H)(n:H a=Qs):Bk P pos q (L2.upd H a o):=by rcases h with h|⟨C,h,g⟩;show .inl (by rw[Zn (Zm h n)];show h);show .inr (C,by rw[Zn (Zm h n)];show h,by rw[Zn (Zm g n)];show g)
def YZ(P:jP)(H I:Hp):Prop:=∀b o,b≠P->H b=Qr o->I b=Qr o
theorem YZ.refl(P:jP)(H:Hp):YZ P H H:=λ_ _ _ h=>h
theorem YZ.trans(a:YZ P H H1)(b:YZ P H1 H2):YZ P H H2:=λc o n h=>b c o n (a c o n h)
theorem Zw.toE(a:Zw H H'):YZ P H H':=λc o _ h=>a c o h
theorem YZ.upd(e:YZ P H H')(n:H' a=Qs):YZ P H (L2.upd H' a o):=λb u m q=>by have Q:=e b u m q;rw[Zn (Zm Q n)];show Q
theorem Bk.isTbl(h:Bk P pos q H):∃p,H P=Qr (.tbl p):=by rcases h with h|⟨C,h,_⟩;show(_,h);show(_,h)
theorem Bk.keep(b2:Bk P2 pos2 q2 H)(b1:Bk P pos q H)(ne:P2≠P)(S:YZ P H H'):Bk P2 pos2 q2 H':=by obtain⟨p,u⟩:=b1.isTbl;rcases b2 with h|⟨C,h,g⟩;show .inl (S _ _ ne h);show .inr (C,S _ _ ne h,S _ _ (ma g u (by intro z;cases z)) g)
structure DP(X:Cx)(c P:jP):Prop where
 code:X.env.code=.ref c
 hd:CodeHd X.base c P
 bm:∃bm ob,X.mg "__builtins__"=Qr (.ref bm)/\bm≠uK/\X.base.get? bm=Qr ob/\ob.cls=.type "module"/\ob.dict=Qr uK/\ob.data=.plain
section
variable{E:ZW}{Q:ZW}
theorem IV(I:Inv X Zc σ H s)(L:DP X c P)(u:H P=Qr o):s.heap.BuiltinsAt X.mg P/\jX≠P:=by
 show zQ L.bm λbm O Z=>ZO Z λb1 b2 B J U d=>?_;clear Z;have S:=I.bs bm O B;show Z6 (id I.mod.glob) λm Y t g g2 _=>?_;have R:=I.bs jX m g;show((bm,O,b1,b2,?_,?_,S.1,J,U,d),?_)
 .rintro rfl;rw[g]at B;cases B;rw[g2]at d;cases d
 .rintro rfl;rw[S.2]at u;cases u
 intro z;rw[<-z,R.2]at u;cases u
theorem IX(I:Inv X Zc σ H s)(L:DP X c P)(a4:gx X S cl)(a6:defaultsOf j X.env=([],[]))(bk:Bk P pos q H)(hq:X.env.qual++"<lambda>"=q)
 (hQ:∀f m pm J y s',Inv X (Zc++[(f,Qa3 "<lambda>" q j body S cl pm m J)]) σ y s'->y m=Qr (Ai m q)->Bk P pos q y->zy H y->YZ P H y->Q (.ref f) s'):
 jS M A (eval (.Lambda j body S pos) X.env) Q E s:=by
 show PySem.W.kla_eval a6 ?_;rw[hq];have hg:s.heap.Ns jX X.mg:=I.mod.glob.keeps I.bk;have C:CodeHd s.heap c P:=L.hd.keeps I.bk;rcases bk with x|⟨m,x,a5⟩
 .have Y:s.heap.get? P=Qr (Qbp #[]):=I.hok P _ x;obtain⟨U,a9⟩:=IV I L x;show PySem.W.kla_makeFunction (mg:=X.mg) (fP a4) I.ok.glob hg L.code C Y trivial rfl a9 U λm J R tk hx Z a2 a7 ab=>?_;have B:H m=none:=I.hok.fresh Z;have a8:P≠m:=Zm x B;have nP:∀b,H b=Qs->b≠P:=λb n z=>by rw[z,x]at n;cases n
  have old:∀b o,b≠P->s.heap.get? b=Qr o->(R.push (Qa3 "<lambda>" q j body S cl ((X.mg "__name__").getD .none) m J)).get? b=Qr o:=λb o U e=>Qf _ (hx b o U e);have t:(R.push (Qa3 "<lambda>" q j body S cl ((X.mg "__name__").getD .none) m J)).get? P=Qr (Qbp #[uL pos.line,uL pos.col,.ref m]):=Qf _ (by simpa using ab)
  have I1:Inv X Zc σ (upd (upd H P (.tbl #[uL pos.line,uL pos.col,.ref m])) m (Ai m q)) {s with heap:=R.push (Qa3 "<lambda>" q j body S cl ((X.mg "__name__").getD .none) m J),toks:=tk}:=by
   have O:∀b,b≠P->b≠m->upd (upd H P (.tbl #[uL pos.line,uL pos.col,.ref m])) m (Ai m q) b=H b:=λb h1 h2=>by rw[Zn h2,Zn h1]
   show I.un (λb o e n _ _=>old b o (nP b n) e,λb o e n _ _=>(o.slots,old b o (nP b n) e),λb o e n _=>?_,λb o e _=>?_,λb xs e=>?_,λb o u e=>?_,λb ps e=>?_) λb o e=>?_
   .rw[O b (nP b n) (Qu (Qp (Qn e) Z))];show n
   .by_cases U:b=P;subst U;show(_,t);show(o,old b o U e)
   .rw[O b (ma e x (by intro z;cases z)) (Zm e B)];show e
   .rw[O b (ma e x (by intro z;cases z)) (Zm e B)];show e
   .by_cases U:b=P
    .subst U;rw[x]at e;cases e;show(#[uL pos.line,uL pos.col,.ref m],by rw[Zn a8,Zi];simp)
    show(#[],by rw[O b U (Zm e B),e];simp)
   by_cases U:b=m
   .subst U;rw[Zi]at e;cases e;show HQ (a7.push _)
   rw[Zn U]at e;by_cases r:b=P
   .subst r;rw[Zi]at e;cases e;show t
   rw[Zn r]at e;show(I.hok b o e).stay (λd u hd z=>old d u ?_ z) (λd z=>?_) λd xs z=>?_
   .rcases hd with rfl|hd;show r;show ma hd x (by intro z;cases z)
   .rw[O d (ma z x (by intro z;cases z)) (Zm z B)];show z
   rw[O d (ma z x (by intro z;cases z)) (Zm z B)];show z
  have g:s.heap.objs.size<=R.objs.size:=Ua (UH Z a2);show hQ R.objs.size m ((X.mg "__name__").getD .none) J _ _ (I1.pins_of λp D=>?_) Zi (.inr (m,by rw[Zn a8,Zi],Zi)) (λb o e=>?_) λb o U e=>by rw[Zn (Zm e B),Zn U];show e
  .rcases ut.mp D with D|D;show I1.pin p (j0 _ D);cases j5.mp D;show(Ql _ rfl,?_,QY (Qp I.lt g),I.nofs g,λv z=>by cases z);change upd (upd H P _) m _ R.objs.size=Qs;rw[Zn (QY a2),Zn λz=>?_];show I.hok.fresh g;have:=Qn Y;rw[<-z]at this;show ZD (Qp this g) (QT _)
  rw[Zn (Zm e B)];by_cases U:b=P
  .subst U;rw[x]at e;cases e;rw[Zi];show(by simp,λnt=>ZD rfl (nt _))
  rw[Zn U,e];show(by simp,λ_=>rfl)
 have Y:s.heap.get? P=Qr (Qbp #[uL pos.line,uL pos.col,.ref m]):=I.hok P _ x;obtain⟨U,a9⟩:=IV I L x;show PySem.W.kla_makeFunctionHit (cv:=.ref m) (mg:=X.mg) (fP a4) I.ok.glob hg L.code C Y trivial ?_ U λJ R tk hk g=>?_
 .change(if _ then _ else _)=_;rw[Zx (by simp)]
 have I1:Inv X Zc σ H {s with heap:=R.push (Qa3 "<lambda>" q j body S cl ((X.mg "__name__").getD .none) m J),toks:=tk}:=I.kept λb o e=>Qf _ (hk b o e);show hQ R.objs.size m ((X.mg "__name__").getD .none) J H _ (I1.pins_of λp D=>?_) a5 (.inr (m,x,a5)) (zy.refl _) (YZ.refl _ _);rcases ut.mp D with D|D;show I1.pin p (j0 _ D);cases j5.mp D;show(Ql _ rfl,I.hok.fresh g,QY (Qp I.lt g),I.nofs g,λv z=>by cases z)
end
section
structure Own(X:Cx)(Zc:zN)(H:Hp)(D:jP):Prop where
 old:X.s₀.heap.objs.size<=D
 free:H D=Qs
 nl:D≠X.env.locals
 np:∀p∈X.pn++Zc,p.1≠D
theorem Own.fresh(I:Inv X Zc σ H s)(h:s.heap.objs.size<=D):Own X Zc H D:=
 (QC I.sz h,I.hok.fresh h,QY (Qp I.lt h),λp C z=>ZD (Qp (Qn (I.pin p C).1) h) (by rw[z];show QT _))
theorem Inv.cellne(I:Inv X Zc σ H s)(t:s.heap.get? D=Qr o)(hd:∀v,o.data≠ .cell v):∀x c,X.env.cells.lookup x=Qr c->c≠D:=λx c e z=>by show ZS (I.cell x c e) λv O f Z=>?_;rw[z,t]at f;cases f;show hd v Z
theorem Inv.alter(I:Inv X Zc σ H s)(W:Own X Zc H D)(t:s.heap.get? D=Qr o)(hd:∀v,o.data≠ .cell v)(k:∀b u,b≠D->s.heap.get? b=Qr u->B.get? b=Qr u):Inv X Zc σ H {s with heap:=B}:=
 I.turned (t':=s.toks) k W.free W.nl (.inr W.old) (I.cellne t hd) W.np
theorem Inv.ownfs(I:Inv X Zc σ H s)(W:Own X Zc H D):D∉X.fs:=λS=>by show ZI (I.ok.funs.mem S) λ_ z=>Zf z λo t _=>ZD (Qp (Qn t) W.old) (QT _)
theorem Inv.pin1(I:Inv X Zc σ H s)(W:Own X Zc H D)(t:s.heap.get? D=Qr o)(hd:∀v,o.data≠ .cell v):Inv X (Zc++[(D,o)]) σ H s:=I.pins_of λp C=>by rcases ut.mp C with q|q;show I.pin p (j0 _ q);cases j5.mp q;show(t,W.free,W.nl,I.ownfs W,hd)
theorem Inv.unpin(I:Inv X (Zc++ps) σ H s):Inv X Zc σ H s:=I.pins_of λp C=>I.pin p (j0 _ (vh _ C))
theorem Inv.track(I:Inv X Zc σ H s)(W:Own X Zc H D)(j:∀x c,X.env.cells.lookup x=Qr c->c≠D)(new:Yn X.prog X.w (upd H D o) s.heap D o):Inv X Zc σ (upd H D o) s:=by
 have ne:∀b u,H b=Qr u->b≠D:=λb u e=>Zm e W.free;show(I.ok,I.os,I.bare,(I.base.keep,I.base.slot,λb u e n g=>?_,I.base.there,λb f e=>?_,λb u v e=>?_,λb P e=>?_),I.loc,I.cell,?_,λx c e=>?_,λp C=>?_,λb u e=>?_,I.len)
 .rw[Zn (Qu (Qp (Qn e) W.old))];show I.base.free b u e n g
 .have:=I.base.tups b f e;rw[Zn (ne b _ this)];show this
 .have:=I.base.frzs b u v e;rw[Zn (ne b _ this)];show this
 .obtain⟨m,z⟩:=I.base.tbls b P e;show(m,by rw[Zn (ne b _ z)];show z)
 .rw[Zn (Ne.symm W.nl)];show I.free
 .rw[Zn (j x c e)];show I.freeC x c e
 show ZL (I.pin p C) λq r y=>(q,by rw[Zn (W.np p C)];show r,y);by_cases S:b=D
 .subst S;rw[Zi]at e;cases e;show new
 rw[Zn S]at e;show(I.hok b u e).stay (λ_ _ _ z=>z) (λd z=>?_) λd f z=>?_;rw[Zn (ne d _ z)];show z;rw[Zn (ne d _ z)];show z
theorem Nl{A:uv}{E:ZW}{P:PySem.Fin->jQ->Prop}{f:Value}{a m:jP}{q:Nat}{Y:ZY}{d kV:ZE}(rv:ZQ d Y)(hl:Qa kV=Qa Y)(hz:Qa Y<=100000)(I:Inv X Zc σ H s)(Wa:Own X Zc H a)
 (ha:s.heap.get? a=Qr (vd "list" #[] q)) (Wk:Own X (Zc++[(a,vd "list" #[] q)]) H m) (hk:s.heap.get? m=Qr (vd "list" #[] 0))
 (Z:∀ps S (i:Nat) (x:V) (k:V) (u:Value),Inv X (Zc++ps) σ H S->d[i]?=Qr x->kV[i]?=Qr k->zf x u->jS (Z2 X) A (call f [u]) (EP X (Zc++ps) σ λy H'=>H'=H/\y=k) (λ_ _=>False) S)
 (h:∀S p e,Inv X (Zc++[(a,vd "list" #[] q)]) σ H S->S.heap.get? m=Qr (vd "list" (QI p) e)->ZQ kV p->jS (Z2 X) A (ksk_end a false Y.toArray q (.ref m) (QI p)) P E S):
 jS (Z2 X) A (ksk_rest a f false Y.toArray q (.ref m)) P E s:=by
 unfold ksk_rest;show jM (vf ?_)
 first
  |rw[List.forIn_toArray]
  |rw[<-VT]
 have a2:sizeLine=16777216:=jT;show jM (ksk_fold (λi S=>∃p e,Inv X (Zc++[(a,vd "list" #[] q)]) σ H S/\S.heap.get? m=Qr (vd "list" (QI p) e)/\ZQ (kV.take i) p) Y 0 s ([],0,I.pin1 Wa ha (λv z=>by cases z),hk,.nil) (λj u S hu t=>?_) λS t=>?_)
 .show Zy t λp e M J R=>?_;clear t
  rw[VC]at R ⊢
  have hj:j<Qa Y:=(Qh.mp hu).1
  obtain⟨x,hx,rx⟩:∃x,d[j]?=Qr x/\zf x u:=by
   have a1:j<Qa d:=by rw[rv.length];show hj
   have q:d[j]?=Qr d[j]:=Qd a1;obtain⟨u',C,r'⟩:=rv.get q;rw[hu]at C;cases C;show(_,q,r')
  have B:kV[j]?=Qr (kV[j]'⋯):=Qd ⋯;have I2:Inv X (Zc++([(a,vd "list" #[] q)]++[(m,vd "list" (QI p) e)])) σ H S:=by rw[<-uq];show M.pin1 Wk J (λv z=>by cases z)
  show jM (uG (uE (Z _ S j x _ u I2 hx B rx) (λy D g=>ze g λyv H2 Q ry eH ey=>?_) λ_ _ z=>z.elim));clear g;subst eH ey;have r:=(Q.pin (m,vd "list" (QI p) e) (j0 _ (j0 _ (j0 _ (j5.mpr rfl))))).1;have I4:Inv X (Zc++[(a,vd "list" #[] q)]) σ H2 D:=by rw[<-uq]at Q;show Q.unpin
  have lk:=R.length;rw[jZ]at lk;have U:=Heap.SameBut.update D.heap m (Obj.mapSeq (·.push y))
  obtain⟨O,hg⟩:∃O,(D.heap.update m (Obj.mapSeq (·.push y))).get? m=Qr (vd "list" (QI (p++[y])) O):=by
   have:(QI p).push y=QI (p++[y]):=by simp
   rw[<-this];show(_,Qae r (·.push y))
  dsimp only;show jM (v9 r rfl ?_ (by rw[j7];lia) (by rw[VB,j7];lia));show jN (rfl,p++[y],O,I4.alter Wk r (λv z=>by cases z) (λb u hb z=>(U.2 b hb).trans z),hg,?_);rw[QZ,B];show R.append (.cons ry .nil)
 show Zy t λp e M J R=>?_;clear t;rw[VC,<-hl,QE]at R;show jM (listItems_at J rfl ?_);show h S p e M J R
def Aj(prog:j8)(w:uj){O:vV}(j:Nat->O.α)(n:Nat):Prop:=∀(A:uv) (E:ZW) (d:vm) (s:jQ) (q v:ZY),Qa q=Qa v->Qa v=n->2<=n->LS.EY j n (λS=>S=s) (QaS prog w A d q)->
 jS (ud prog w) A ((sortRuns').run (SortSt.mk' d (q.toArray.zip v.toArray) #[] 7 Qs)) (λr S=>S=s/\∃p:Array Nat,LS.Pm n p/\LS.Ust j p n/\QaB r.2=p.map (VW (q.toArray.zip v.toArray))/\Qam r.2=Qs) E s
theorem Pe{A:uv}{E:ZW}{P:PySem.Fin->jQ->Prop}{a m:jP}{e t:Nat}{Y q:ZY}{d:ZE}{κ:vm}{O:vV}{key:Nat->O.α}(rv:ZQ d Y)(f:Qa q=Qa Y)(a6:Qa Y<=100000)(hS:Aj X.prog X.w key (Qa Y))
 (I:Inv X (Zc++[(a,vd "list" #[] t)]) σ H s) (Wa:Own X Zc H a) (Wk:Own X (Zc++[(a,vd "list" #[] t)]) H m) (hk:s.heap.get? m=Qr (vd "list" (QI q) e))
 (x:2<=Qa Y->∀Q:vm->jQ->Prop,Q κ s->jS (Z2 X) A (Qbs (QI q)) Q E s)
 (U:LS.EY key (Qa Y) (λS=>S=s) (QaS X.prog X.w A κ q))
 (h:∀(p:Array Nat) S,LS.Pm (Qa Y) p->LS.Ust key p (Qa Y)->Inv X Zc σ (upd H a (.lst (p.toList.map λi=>d.getD i .non))) S->P (.done (.ret .none)) S):
 jS (Z2 X) A (ksk_end a false Y.toArray t (.ref m) (QI q)) P E s:=by
 have a5:sizeLine=16777216:=jT;have ha:=(I.pin (a,vd "list" #[] t) (j0 _ (j0 _ (j5.mpr rfl)))).1;have a4:m≠a:=λz=>Wk.np (a,vd "list" #[] t) (j0 _ (j0 _ (j5.mpr rfl))) z.symm;have lv:=rv.length
 have tail:∀(st:j9) (p:Array Nat),LS.Pm (Qa Y) p->LS.Ust key p (Qa Y)->QaB st=p.map (VW (q.toArray.zip Y.toArray))->Qam st=Qs->jS (Z2 X) A (ksk_tail a false t (.ref m) st) P E s:=by
  intro st p D hu a3 hf;have B:=kat_snds f a3;have a7:=D.size;unfold ksk_tail;dsimp only;rw[B];have y:=Heap.SameBut.update s.heap m (Obj.mapSeq λ_=>(#[]:Array Value));have J:=(y.2 a a4.symm).trans ha;have a2:=Heap.SameBut.update (s.heap.update m (Obj.mapSeq λ_=>(#[]:Array Value))) a (Obj.mapSeq λ_=>QI (p.toList.map λi=>Y.getD i QG));obtain⟨c2,hg⟩:∃c2,((s.heap.update m (Obj.mapSeq λ_=>(#[]:Array Value))).update a (Obj.mapSeq λ_=>QI (p.toList.map λi=>Y.getD i QG))).get? a=Qr (vd "list" (QI (p.toList.map λi=>Y.getD i QG)) c2):=(_,Qae J (λ_=>QI (p.toList.map λi=>Y.getD i QG)));show jM (v9 hk rfl ?_ (by rw[j7];lia) (Qo _));show jM (QaE ?_);show jM (Qbd J rfl ?_);show jM (v9 J rfl ?_ (Qo _) (by change(QI _).size<=_;rw[j7,jO,Qq];lia));rw[hf];simp only[bne_self_eq_false,QX,if_false];have I1:Inv X (Zc++[(a,vd "list" #[] t)]) σ H {s with heap:=s.heap.update m (Obj.mapSeq λ_=>(#[]:Array Value))}:=I.alter Wk hk (λv z=>by cases z) λb u Z z=>(y.2 b Z).trans z;have I2:Inv X Zc σ H {s with heap:=(s.heap.update m (Obj.mapSeq λ_=>(#[]:Array Value))).update a (Obj.mapSeq λ_=>QI (p.toList.map λi=>Y.getD i QG))}:=I1.unpin.alter (s:= {s with heap:=s.heap.update m (Obj.mapSeq λ_=>(#[]:Array Value))}) Wa J (λv z=>by cases z) λb u Z z=>(a2.2 b Z).trans z;show jN (h p _ D hu (I2.track Wa (I2.cellne hg λv z=>by cases z) ?_));show(by rw[jO,Qq];lia,p.toList.map λi=>Y.getD i QG,c2,?_,hg)
  have all:∀l:Zg,(∀i∈l,i<Qa Y)->ZQ (l.map λi=>d.getD i .non) (l.map λi=>Y.getD i QG):=by
   intro l
   induction l with
   |nil=>intro _;show .nil
   |cons i r ih=>
    intro C;have a8:=C i ub;show .cons ?_ (ih λj g=>C j (ua _ g));have hx:d[i]?=Qr (d.getD i .non):=by rw[Qc,Qd ⋯];rfl
    obtain⟨u,hu,r'⟩:=rv.get hx;change zf (d.getD i .non) (Y.getD i QG);have e:Y.getD i QG=u:=by rw[Qc,hu];rfl
    rw[e];show r'
  show all p.toList λi C=>by have:=D.mem_iff.mp C;show QA.mp this
 unfold ksk_end;dsimp only;rw[Zo Qk];by_cases M:Y.toArray.size<2
 .rw[Zx M,Zx M];show jM (jN ?_);rw[StateT.run_pure];show jM (jN ?_);dsimp only;rw[Zo Qk];rw[j7]at M;show tail _ (QI (Qi (Qa Y))) (by unfold LS.Pm;simp) (λi j a1 g=>?_,λi j a1 g=>by lia) ?_ rfl
  .have:i=j:=⋯
   subst this;show Uv _
  have e:=WM (q.toArray.zip Y.toArray);rw[show(q.toArray.zip Y.toArray).size=Qa Y by simp[f]]at e;show e.symm
 rw[Zo M,Zo M];rw[j7]at M;show jM (x ⋯ _ ?_);rw[Zo Qk];show jM (uE (hS A E κ s q Y f rfl ⋯ U) ?_ λ_ _ z=>z);rintro⟨⟨⟩,st'⟩ S ⟨rfl,p,q1,q2,q3,q4⟩;show tail st' p q1 q2 q3 q4
end
noncomputable def mP(lo H:Int):ZE:=(Qi (H-lo).toNat).map λi:Nat=>V.int (lo+(i:Int))
def Src(K:Qb)(H:Hp)(a:jP)(x:ZE):Prop:=SqL K H a x\/SqT K H a x\/∃lo m:Int,H a=Qr (.rng lo m)/\x=mP lo m/\ -(2 ^ 62)<=lo/\lo<2 ^ 62/\ -(2 ^ 62)<=m/\m<2 ^ 62
section
def XI:ZE->Hp->VK->Prop:=λx H Q=>aI (λl=>o0
 (∀r,H r=Qs->Q (.ref r) (upd H r (.rng 0 l)))
 (aI λj=>a0 (∀r,H r=Qs->Q (.ref r) (upd H r (.rng l j))))
 ) x
theorem D4:JU X (.type "range") XI:=by
 intro v s D H x U Q I r h;obtain⟨l,x,rfl,h⟩:=Zag h
 cases x with
 |nil=>
  show Zf (J1 r) λu Z R=>?_;subst Z;obtain⟨t,rfl⟩:=R;have m:=I.hok.fresh (Qg s.heap.objs.size);show call_range_1 (.ref s.heap.objs.size,_,I.laid (o:=.rng 0 l) (t':=s.toks+1+1) (λb u e=>Qf _ e) (Qg _) (_,_,_,Ql _ rfl),rfl,h _ m)
 |cons w x=>
  obtain⟨j,e,h⟩:=aI1 h;cases e;show Zy (wq r) λu y z R p=>?_;subst z;obtain⟨t,rfl⟩:=R;obtain⟨q,rfl⟩:=p;have m:=I.hok.fresh (Qg s.heap.objs.size);show call_range_2 (.ref s.heap.objs.size,_,I.laid (o:=.rng l j) (t':=s.toks+1) (λb u e=>Qf _ e) (Qg _) (_,_,_,Ql _ rfl),rfl,h _ m)
theorem Lb{lo p:Int}{d:Array Value}{n:Nat}(q:n=(p-lo).toNat)(h:Qbm (λi v=>∃t,v=.int (lo+i * 1) t) d n):ZQ (mP lo p) d.toList:=by
 obtain⟨y,I⟩:=h
 have m:∀(l:ZY) (k:Nat),(∀j v,l[j]?=Qr v->∃t,v=VL (lo+((k+j:Nat):Int)) t)->ZQ ((Qi (Qa l)).map λi=>V.int (lo+((k+i:Nat):Int))) l:=by
  intro l
  induction l with
  |nil=>intro k _;show .nil
  |cons x r g=>
   intro k f;rw[jV,Vz,uo,u6];obtain⟨t,e⟩:=f 0 x rfl;show .cons (t,by simpa using e) ?_;have:=g (k+1) λj v H=>by obtain⟨t,e⟩:=f (j+1) v (by simpa using H);show(t,by rw[e];congr 2;lia)
   have E:((λi=>V.int (lo+((k+i:Nat):Int)))∘Nat.succ)=λi=>V.int (lo+((k+1+i:Nat):Int)):=by
    funext i
    change V.int (lo+((k+(i+1):Nat):Int))=_
    congr 2
    lia
   rw[E];show this
 have:=m d.toList 0 λj v H=>by obtain⟨t,e⟩:=I j v (by simpa using H);show(t,by rw[e];simp)
 rw[Qq,y,q]at this;unfold mP;simpa using this
theorem sF{E:ZW}{Q:ZY->jQ->Prop}(I:Inv X Zc σ H s)(hh:A.handled=Qs)(g:Src X.K H a U)(hz:Qa U<=16777216)
 (h:∀vs B q,ZQ U vs->(∀b o,s.heap.get? b=Qr o->B.get? b=Qr o)->Q vs {s with heap:=B,toks:=q}):jS (Z2 X) A (QaV (.ref a)) Q E s:=by
 have a4:sizeLine=16777216:=jT;rcases g with g|g|⟨lo,x,g,rfl,b1,b2,b3,b4⟩
 .show Zz (I.list g) λY M p a2=>?_;show Zz p.isList λo ho hc Z=>zI Z λn hd=>?_;clear Z;have:=M.length;show wpAny_collect_seq a (.inl rfl) ho hc hd (λB k=>h Y B s.toks M k) (by rw[j7];lia)
 .show Zz (I.tuple g) λY M p a2=>?_;show Zz (id p) λo ho hc Z=>zI Z λn hd=>?_;clear Z;have:=M.length;show wpAny_collect_seq a (.inr rfl) ho hc hd (λB k=>h Y B s.toks M k) (by rw[j7];lia)
 show ZH (I.hok a _ g) λt u v y=>?_;have hl:Qa (mP lo x)=(x-lo).toNat:=by unfold mP;simp
 have a3:IsRange (s.heap.push {cls:=.type "list",data:=.seq ([]:ZY).toArray}) a lo x 1 t u v:=Qf _ y;unfold QaV;show jM (QaD (uQ F.entry_proto_collect ?_));rw[Around.under_plainId F.plain_proto_collect _];change jS _ A.in1 (newList [] >>=λl=>again (.builtin "list.__iadd__" ([l,.ref a],[]))) _ _ s;show jM (uS ?_);show jN (vn F.plain_list_iadd _,uQ F.entry_list_iadd ?_);rw[Around.under_plainId F.plain_list_iadd _];change jS _ A.in1 (Builtin.List.listExtendWith (.ref s.heap.objs.size) (.ref a) (.ref s.heap.objs.size)) _ _ _
 have O:∀j:jQ,(∃B q d C,(∀b o,b≠s.heap.objs.size->(s.heap.push {cls:=.type "list",data:=.seq ([]:ZY).toArray}).get? b=Qr o->B.get? b=Qr o)/\B.get? s.heap.objs.size=Qr {cls:=.type "list",dict:=Qs,data:=.seq d C,slots:=#[]}/\
  Qbm (λi v=>∃t,v=.int (lo+i * 1) t) d (x-lo).toNat/\j= {s with heap:=B,toks:=q})->jS (Z2 X) A (match Qw s.heap.objs.size with
  |Qw a=>do
   match(<-load a).data with
    |Data.seq U _=>pure U.toList
    |_=>unsupported "internal:collect"
  |_=>unsupported "internal:collect") Q E j:=by
  show λj Z=>ZH Z λB q d Z=>zh Z λC k hS m a1=>?_;clear Z;subst a1;change jS _ A (load s.heap.objs.size >>=_) _ _ _;show jM (Qbo hS ?_);show jN (h _ B q (Lb rfl m) λb o e=>k b o (Qu (Qn e)) (Qf _ e))
 show uE (wpAny_extend_range (s:= {s with heap:=s.heap.push {cls:=.type "list",data:=.seq ([]:ZY).toArray} }) (R:=λr j=>r=.ok (.ret (.ref s.heap.objs.size))/\∃B q d C,(∀b o,b≠s.heap.objs.size->(s.heap.push {cls:=.type "list",data:=.seq ([]:ZY).toArray}).get? b=Qr o->B.get? b=Qr o)/\B.get? s.heap.objs.size=Qr {cls:=.type "list",dict:=Qs,data:=.seq d C,slots:=#[]}/\
  Qbm (λi v=>∃t,v=.int (lo+i * 1) t) d (x-lo).toNat/\j= {s with heap:=B,toks:=q}) (n:=(x-lo).toNat) hh a3 (small_one b1 b2 b3 b4) (by rw[rangeSize_one];split<;>lia) ⋯ s.heap.objs.size (.ref s.heap.objs.size) 0 (Ql _ rfl) λB q d C k hS m=>(rfl,B,q,d,C,k,hS,m,rfl)) (λfn j J=>?_) λe j he=>?_
 .cases fn with
  |done fl=>
   obtain⟨e,J⟩:=J;cases e;show O j J
  |again C=>
   show(J.1,uR J.2 λr s2 y=>?_);obtain⟨e,y⟩:=y;subst e;show O s2 y
 show ZD he.1 (by intro z;cases z)
theorem Ds{P:List (Zg)}{p:ZY}(r:ZQ (P.map λk=>V.str (T k)) p){i:Nat}(H:i<Qa P):∃t,p.getD i QG=.str (T (P.getD i [])) t:=by
 have e:(P.map λk=>V.str (T k))[i]?=Qr (V.str (T (P.getD i []))):=by rw[Qm,Qc,Qd H];rfl
 show Zf (r.get e) λu B Z=>zI Z λt z=>?_;clear Z;subst z;show(t,by rw[Qc,B];rfl)
theorem DW{prog:j8}{w:uj}{A:uv}{P:List (Zg)}{p:ZY}(r:ZQ (P.map λk=>V.str (T k)) p):LS.EY (O:=strKind.toKeyOrd) (λi=>P.getD i []) (Qa P) (λS=>S=s) (QaS prog w A QaJ p):=by show⟨λi j C d H u e h=>?_⟩;subst e;unfold QaS;obtain⟨t,E⟩:=Ds r H;obtain⟨m,x⟩:=Ds r u;rw[E,x];show PySem.W.kas_lt_str ?_;have h:=h d rfl;have I:(T (P.getD i [])).cps.toList=P.getD i []:=L_T _;have R:(T (P.getD j [])).cps.toList=P.getD j []:=L_T _;rw[I,R];show h
theorem Be{M:vJ}{A:uv}{E:ZW}{P:List (Zg)}{p:ZY}(r:ZQ (P.map λk=>V.str (T k)) p)(I:2<=Qa P){Q:vm->jQ->Prop}(h:Q QaJ s):jS M A (Qbs (QI p)) Q E s:=by
 have O:=r.length;rw[jO]at O;show kas_kind (T:=.type "str") ⋯ (λv R=>?_) ∅ ∅ h;obtain⟨i,m⟩:=VM R
 have H:i<Qa P:=by
  have:=(Qh.mp m).1
  lia
 obtain⟨t,e⟩:=Ds r H;rw[Qc,m]at e;have e:v=.str (T (P.getD i [])) t:=e;rw[e];show PySem.W.Looks.of_pure rfl
theorem F6{Q:VK}{E:ZW}{f a:jP}{r:ZE}{P:List (Zg)}(hc:X.calm=true)(hr:YN 1 X.A)(I:Inv X Zc σ H s)(hx:Src X.K H a r)(a6:Qa r<=100000)(hS:Aj X.prog X.w (O:=strKind.toKeyOrd) (λi=>P.getD i []) (Qa r))(hl:Qa P=Qa r)
 (Z:∀ps s' (i:Nat) (x:V) (k:V) (u:Value),Inv X (Zc++ps) σ H s'->r[i]?=Qr x->(P.map λk=>V.str (T k))[i]?=Qr k->zf x u->jS (Z2 X) X.A.in1.in1 (call (.ref f) [u]) (EP X (Zc++ps) σ λy H'=>H'=H/\y=k) (λ_ _=>False) s')
 (h:∀l (p:Zg),H l=Qs->p.Perm (Qi (Qa r))->p.Pairwise (λi j=>P.getD i []<=P.getD j []/\(P.getD i []=P.getD j []->i<j))->Q (.ref l) (upd H l (.lst (p.map λi=>r.getD i .non)))):
 jS (Z2 X) X.A (call (.builtin "sorted") [.ref a] [(Qe "key",.ref f)]) (EP X Zc σ Q) E s:=by
 have a5:sizeLine=16777216:=jT;have hh:X.A.handled=none:=I.ok.hd hc;show call_function_entry_kw kind_sorted plain_sorted entry_sorted (ksk_s1 _ _) ?_
 unfold Builtin.«sorted»
 show jM (m:=checkCount "sorted" 1 1 _) (jN ?_);show jM (sF I hh hx ⋯ λY B q rv k=>?_);have lv:=rv.length;show jM (QaY ?_ ⋯);have k2:∀b o,s.heap.get? b=Qr o->(B.push {cls:=.type "list",data:=.seq Y.toArray}).get? b=Qr o:=λb o e=>Qf _ (k b o e);have I2:Inv X Zc σ H {s with heap:=B.push {cls:=.type "list",data:=.seq Y.toArray},toks:=q}:=I.kept k2;have I1:Inv X Zc σ H {s with heap:=B,toks:=q}:=I.kept k;have M:Own X Zc H B.objs.size:=Own.fresh I1 (Qg _);have J:(B.push {cls:=.type "list",data:=.seq Y.toArray}).get? B.objs.size=Qr (vd "list" Y.toArray 0):=Ql _ rfl;show jM (uA (wpAny_call_entry_kw slot_list_sort (_,J,rfl) entry_list_sort ?_ (ksk_l1 _ _)));rw[ksk_t1];unfold ksk_tree;show jM (listItems_at J rfl ?_);show jM (v9 J rfl ?_ (by rw[j7];lia) (Qo _));have a2:=Heap.SameBut.update (B.push {cls:=.type "list",data:=.seq Y.toArray}) B.objs.size (Obj.mapSeq λ_=>(#[]:Array Value));obtain⟨D,C⟩:∃D,((B.push {cls:=.type "list",data:=.seq Y.toArray}).update B.objs.size (Obj.mapSeq λ_=>(#[]:Array Value))).get? B.objs.size=Qr (vd "list" #[] D):=(_,Qae J λ_=>#[]);show jM (Qbd C rfl ?_);show jM (Qaj ?_ (by change Qa Y<=_;lia));show jM (QaY ?_ (Qo _));show uA ?_
 have I3:Inv X Zc σ H {s with heap:=(B.push {cls:=.type "list",data:=.seq Y.toArray}).update B.objs.size (Obj.mapSeq λ_=>(#[]:Array Value)),toks:=q}:=
  I2.alter (s:= {s with heap:=B.push {cls:=.type "list",data:=.seq Y.toArray},toks:=q}) M J (λv z=>by cases z) λb u hb z=>(a2.2 b hb).trans z
 generalize a8:(B.push {cls:=.type "list",data:=.seq Y.toArray}).update B.objs.size (Obj.mapSeq λ_=>(#[]:Array Value))=g at *
 have I5:Inv X Zc σ H {s with heap:=(g.push {cls:=.type "tuple",data:=.seq Y.toArray}).push {cls:=.type "list",data:=.seq ([]:ZY).toArray},toks:=q}:=
  I3.kept (s:= {s with heap:=g,toks:=q}) (t':=q) λb o e=>Qf _ (Qf _ e)
 have a1:((g.push {cls:=.type "tuple",data:=.seq Y.toArray}).push {cls:=.type "list",data:=.seq ([]:ZY).toArray}).get? B.objs.size=Qr (vd "list" #[] D):=Qf _ (Qf _ C);have I4:Inv X Zc σ H {s with heap:=g.push {cls:=.type "tuple",data:=.seq Y.toArray},toks:=q}:=I3.kept (s:= {s with heap:=g,toks:=q}) (t':=q) λb o e=>Qf _ e;have a3:(g.push {cls:=.type "tuple",data:=.seq Y.toArray}).get? B.objs.size=Qr (vd "list" #[] D):=Qf _ C
 have Wk:Own X (Zc++[(B.objs.size,vd "list" #[] D)]) H (g.push {cls:=.type "tuple",data:=.seq Y.toArray}).objs.size:=
  Own.fresh (I4.pin1 (s:= {s with heap:=g.push {cls:=.type "tuple",data:=.seq Y.toArray},toks:=q}) M a3 λv z=>by cases z) (Qg _)
 show Nl (s:= {s with heap:=(g.push {cls:=.type "tuple",data:=.seq Y.toArray}).push {cls:=.type "list",data:=.seq ([]:ZY).toArray},toks:=q}) (kV:=P.map λk=>V.str (T k)) rv (by rw[jO];lia) ⋯ I5 M a1 Wk (Ql _ rfl) Z λs6 ks e I6 a4 rk=>?_;have lk:=rk.length;rw[jO]at lk;show Pe (O:=strKind.toKeyOrd) (key:=λi=>P.getD i []) (κ:=QaJ) rv ⋯ ⋯ (by rw[<-lv];show hS) I6 M Wk a4 (λh2 Q' q'=>Be rk ⋯ q') ?_ λp s7 hp hu I7=>(_,rfl,jN (_,rfl,.ref B.objs.size,_,I7,rfl,?_))
 .have:=DW (s:=s6) (prog:=X.prog) (w:=X.w) (A:=X.A.in1.in1) rk;rw[show Qa P=Qa Y by lia]at this;show this
 show h _ p.toList M.free (by unfold LS.Pm at hp;rw[lv];show hp) ?_;have a7:=hp.size;show Ul.mpr λi j hi U S=>?_;have:=hu.1 i j (Ua S) (by rw[Qq]at U;lia);have st:=hu.2 i j S (by rw[Qq]at U;lia);have gi:LS.gt p i=p.toList[i]:=by unfold LS.gt;rw[QV];rw[Qq]at hi;simp[hi]
 have gj:LS.gt p j=p.toList[j]:=by unfold LS.gt;rw[QV];rw[Qq]at U;simp[U]
 rw[gi,gj]at this st;have this:decide (P.getD p.toList[j] []<P.getD p.toList[i] [])=false:=this;show(Q1.mp (of_decide_eq_false this),st)
end
def lD(e:jP)(h:Heap):Prop:=∃o v,h.get? e=Qr o/\o.data=.fields v/\v[2]?=Qr .none
theorem lD.push(x:lD e h)(O:Obj):lD e (h.push O):=by show Zy x λo v H I Q=>(o,v,Qf _ H,I,Q)
theorem lD.upd(x:lD e h)(f:Obj->Obj)(J:∀o Y,o.data=.fields Y->Y[2]?=Qr .none->∃v,(f o).data=.fields v/\v[2]?=Qr .none):lD e (h.update a f):=by
 show Zy x λo Y H I Q=>?_;clear x;by_cases q:a=e
 .subst q;show Zf (J o Y I Q) λv g g2=>(f o,v,Q9 f H (Obj.isFreed_of_fields g),g,g2)
 show(o,Y,(UB _ _ q).trans H,I,Q)
def Kp{α:Type}(t:Sem α):Prop:=∀(M:vJ) (P:PySem.Ctx) (Q:α->Pos->jQ->Prop) (E:Value->Pos->jQ->Prop) (p:Pos) (s:jQ) (e:jP),lD e s.heap->Sem.wp M P t Q E p s->Sem.wp M P t (λa Y S=>Q a Y S/\lD e S.heap) E p s
section
variable{α β:Type}
theorem Kp.pure(a:α):Kp (Pure.pure a:Sem α):=λM P Q E p s e x h=>by
 rw[Sem.wp_pure']at h ⊢
 show(h,x)
theorem Kp.bind{f:α->Sem β}(H:Kp m)(I:∀a,Kp (f a)):Kp (m >>=f):=λM P Q E p s e x h=>by
 rw[Sem.wp_bind']at h ⊢
 show Sem.wp_mono M P m (λa Y S z=>I a M P Q E Y S e z.2 z.1) (λ_ _ _ z=>z) p s (H M P _ E p s e x h)
theorem Kp.unsupported(w:String):Kp (PySem.unsupported w:Sem α):=λM P Q E p s e x h=>by have:Sem.wp M P (Sem.unsupported w:Sem α) Q E p s:=h;rw[Sem.wp_unsupported]at this;show this.elim
theorem Kp.load(a:jP):Kp (PySem.load a):=λM P Q E p s e x h=>by
 have h:Sem.wp M P (Sem.load a Qs Sem.pure) Q E p s:=h;change Sem.wp M P (Sem.load a Qs Sem.pure) _ E p s
 rw[Sem.wp_load]at h ⊢
 show Zf h λo y H=>?_;show(o,y,?_)
 rw[Sem.wp_pure]at H ⊢
 show(H,x)
theorem Kp.update(a:jP)(f:Obj->Obj)(I:∀o Y,o.data=.fields Y->Y[2]?=Qr .none->∃v,(f o).data=.fields v/\v[2]?=Qr .none):Kp (PySem.update a f):=λM P Q E p s e x h=>by
 have h:Sem.wp M P (Sem.update a Qs f Sem.pure) Q E p s:=h;change Sem.wp M P (Sem.update a Qs f Sem.pure) _ E p s
 rw[Sem.wp_update]at h ⊢
 show(h.1,?_);have H:=h.2
 rw[Sem.wp_pure]at H ⊢
 show(H,x.upd f I)
theorem Kp.alloc(o:Obj):Kp (PySem.alloc o):=λM P Q E p s e x h=>by
 have h:Sem.wp M P (Sem.alloc o Sem.pure) Q E p s:=h;change Sem.wp M P (Sem.alloc o Sem.pure) _ E p s
 rw[Sem.wp_alloc]at h ⊢
 rw[Sem.wp_pure]at h ⊢
 show(h,x.push o)
theorem Kp.stack:Kp PySem.stack:=λM P Q E p s e x h=>(h,x)
theorem Kp.ite{c:Prop}[Decidable c](I:Kp a)(H:Kp b):Kp (if c then a else b):=by split;show I;show H
theorem Kp.fieldsOf(v:Value):Kp (PySem.fieldsOf v):=by
 unfold PySem.fieldsOf;split
 .show Kp.bind (Kp.load _) λo=>?_;split;show Kp.pure _;show Kp.unsupported _
 show Kp.unsupported _
theorem Kp.field(v:Value)(i:Nat):Kp (PySem.field v i):=by unfold PySem.field;show Kp.bind (Kp.fieldsOf v) λY=>?_;split;show Kp.pure _;show Kp.unsupported _
theorem Kp.setField(v:Value)(m:i≠2)(x:Value):Kp (PySem.setField v i x):=by
 unfold PySem.setField;split
 .unfold PySem.updateField;show Kp.bind (Kp.load _) λo=>?_;split
  .show Kp.ite (Kp.update _ _ λo Y H I=>(_,Obj.data_mapFields H _,?_)) (Kp.unsupported _);rw[Array.getElem?_setIfInBounds_ne m];show I
  show Kp.unsupported _
 show Kp.unsupported _
theorem Kp.newFields(ty:String)(v:ZY):Kp (PySem.newFields ty v):=by
 unfold PySem.newFields PySem.newObj;dsimp only;have M:Kp (PySem.newObjAsIs (.type ty) (.fields v.toArray)):=by unfold PySem.newObjAsIs;show Kp.bind (Kp.alloc _) λa=>Kp.pure _
 show Kp.ite (Kp.bind (Kp.unsupported _) λ_=>M) M
theorem Kp.readyFrames:∀l:List Env,Kp (PySem.readyFrames l)
 |[]=>Kp.pure _
 |env::outer=>by
  unfold PySem.readyFrames;split
  .show Kp.bind (Kp.load _) λo=>Kp.ite (Kp.pure _) (Kp.bind ?_ λ_=>Kp.bind ?_ λ_=>Kp.bind ?_ λ_=>Kp.readyFrames outer)
   .unfold PySem.behindIsImport;show Kp.ite (Kp.pure _) (Kp.ite (Kp.pure _) (Kp.bind (Kp.field _ _) λ_=>Kp.pure _))
   .unfold PySem.keptBack;split;show Kp.ite (Kp.pure _) (Kp.bind (Kp.bind Kp.stack λ_=>Kp.pure _) λ_=>Kp.pure _);show Kp.pure _
   show Kp.update _ _ λo v H I=>(v,H,I)
  show Kp.unsupported _
theorem Kp.frameOf(env:Env):Kp (PySem.frameOf env):=by
 unfold PySem.frameOf;show Kp.bind (Kp.bind Kp.stack λ_=>Kp.pure _) λl=>Kp.bind ?_ λr=>?_
 .unfold PySem.frameObject;split;show Kp.pure _;show Kp.bind (Kp.readyFrames _) λ_=>Kp.pure _
 split;show Kp.pure _;show Kp.unsupported _
theorem Kp.entryPlaceOf(f:jP)(b:Bool):Kp (PySem.entryPlaceOf f b):=by unfold PySem.entryPlaceOf;show Kp.bind Kp.stack λH=>?_;split;show Kp.pure _;show Kp.pure _
theorem Kp.setFlight(v:Value)(f:Option jP):Kp (PySem.setFlight v f):=by unfold PySem.setFlight;show Kp.bind (Kp.field _ _) λt=>Kp.ite (Kp.setField _ ∅ _) (Kp.pure _)
theorem Kp.noteFrame(v:Value)(env:Env):Kp (PySem.noteFrame v env):=by
 unfold PySem.noteFrame;split
 .rename_i f _;show Kp.bind (Kp.field _ _) λhd=>?_
  have JP:Kp (do PySem.setField v 1 (<-EntryCells.newEntry hd (<-PySem.frameOf env) .none (uL f) .none (<-PySem.entryPlaceOf f (hd !=.none)))):=
   Kp.bind (Kp.frameOf env) λ_=>Kp.bind (Kp.entryPlaceOf _ _) λ_=>Kp.bind (Kp.newFields _ _) λ_=>Kp.setField _ ∅ _
  show Kp.ite (Kp.bind (Kp.field _ _) λ_=>Kp.ite (Kp.pure _) (Kp.bind (Kp.setField _ ∅ _) λ_=>JP)) JP
 show Kp.unsupported _
theorem Kp.leaving(env:Env)(v:Value):Kp (PySem.leaving env v):=by unfold PySem.leaving;show Kp.bind (Kp.noteFrame _ _) λ_=>Kp.setFlight _ _
theorem Kp.any(k:Kp t){Q:α->jQ->Prop}{E:ZW}(x:lD e s.heap)(h:jS M A t Q E s):jS M A t (λa S=>Q a S/\lD e S.heap) E s:=λP p H=>k M P _ _ p s e x (h P p H)
end
def sk(base:Heap)(l:List Env)(e:jP)(cls a0:Value)(h:Heap):Prop:=VA base l e cls a0 h/\lD e h
section
variable{M:vJ}{A:uv}{E:ZW}{s:jQ}{base:Heap}{env:Env}{outer l:List Env}{L e:jP}{cls a0:Value}{Q:Unit->jQ->Prop}
theorem CT(U:A.frames=Qr (env::outer))(I:env.frame=Qr L)(Y:sk base (env::outer) e cls a0 s.heap)
 (J:∀H,sk base outer e cls a0 H->s.heap.UpToSlots H->Q () {s with heap:=H}):jS M A (leaving env (.ref e)) Q E s:=by
 have w:=wpAny_leaves_onW (M:=M) (A:=A) (E:=E) (Q:=λ_ S=>∃H,S= {s with heap:=H}/\VA base outer e cls a0 H/\s.heap.UpToSlots H) U I Y.1 λH t x=>(H,rfl,t,x);show uE ((Kp.leaving env (.ref e)).any Y.2 w) (λa S z=>?_) λ_ _ z=>z;obtain⟨⟨H,rfl,t,x⟩,c⟩:=z;show J H (t,c) x
theorem yz(U:A.frames=Qr (env::outer))(J:env.frame=Qr L)(I:base.StaysIn h)(P:h.FunFrames base (env::outer))(f:jv h s.heap e cls args)
 (Z:∀H t,sk base outer e cls (.ref t) H->H.TupAt t args->base.get? t=Qs->s.heap.UpToSlots H->Q () {s with heap:=H}):jS M A (leaving env (.ref e)) Q E s:=by
 have w:=wpAny_leaves_madeW (M:=M) (A:=A) (E:=E) (Q:=λ_ S=>∃H t,S= {s with heap:=H}/\VA base outer e cls (.ref t) H/\H.TupAt t args/\base.get? t=Qs/\s.heap.UpToSlots H) U J I P f λH t u x O Y=>(H,t,rfl,u,x,O,Y);have C:lD e s.heap:=by show Zf f.there λt y _=>(_,_,y,rfl,rfl)
 show uE ((Kp.leaving env (.ref e)).any C w) (λa S z=>?_) λ_ _ z=>z;obtain⟨⟨H,t,rfl,u,x,O,Y⟩,c⟩:=z;show Z H t (u,c) x O Y
theorem FD(U:A.frames=Qr (env::outer))(I:env.frame=Qr L)(Y:sk base (env::outer) e cls a0 s.heap)
 (J:∀H,W6 base (env::outer) e cls a0 L H/\lD e H->s.heap.UpToSlots H->Q () {s with heap:=H}):jS M A (noteFrame (.ref e) env) Q E s:=by
 have w:=wpAny_looks_onW (M:=M) (A:=A) (E:=E) (Q:=λ_ S=>∃H,S= {s with heap:=H}/\W6 base (env::outer) e cls a0 L H/\s.heap.UpToSlots H) U I Y.1 λH t x=>(H,rfl,t,x);show uE ((Kp.noteFrame (.ref e) env).any Y.2 w) (λa S z=>?_) λ_ _ z=>z;obtain⟨⟨H,rfl,t,x⟩,c⟩:=z;show J H (t,c) x
theorem PK(d:W6 base l e cls a0 L s.heap/\lD e s.heap)(I:∀H,sk base l e cls a0 H->s.heap.UpToSlots H->Q () {s with heap:=H}):jS M A (setFlight (.ref e) Qs) Q E s:=by have w:=wpAny_landsW (M:=M) (A:=A) (E:=E) (Q:=λ_ S=>∃H,S= {s with heap:=H}/\VA base l e cls a0 H/\s.heap.UpToSlots H) d.1 λH t x=>(H,rfl,t,x);show uE ((Kp.setFlight (.ref e) Qs).any d.2 w) (λa S z=>?_) λ_ _ z=>z;obtain⟨⟨H,rfl,t,x⟩,c⟩:=z;show I H (t,c) x
theorem yy(d:sk base l e cls a0 s.heap)(I:∀H,sk base l e cls a0 H->s.heap.UpToSlots H->Q () {s with heap:=H}):jS M A (setFlight (.ref e) Qs) Q E s:=by have w:=lands_againW (M:=M) (A:=A) (E:=E) (Q:=λ_ S=>∃H,S= {s with heap:=H}/\VA base l e cls a0 H/\s.heap.UpToSlots H) d.1 λH t x=>(H,rfl,t,x);show uE ((Kp.setFlight (.ref e) Qs).any d.2 w) (λa S z=>?_) λ_ _ z=>z;obtain⟨⟨H,rfl,t,x⟩,c⟩:=z;show I H (t,c) x
end
def CX1(P:j8)(w:uj):CXT:=λouter H s E e S=>∃(a C:jP) (a0:Value) (B:Heap) (I:Hp),e=.ref a/\S.os=s.os/\Qah S.gens/\Un (frs outer) [] H I s.heap S.heap/\HOk P w I B/\
 (∀b o,s.heap.get? b=Qr o->H b=Qs->b∉frs outer->B.get? b=Qr o)/\(∀b o,s.heap.get? b=Qr o->b∉frs outer->∃O,B.get? b=Qr O)/\sk B outer a (.ref C) a0 S.heap/\E (.ref C) Qs I
theorem AK(h:CX1 P w outer H s (λ_ _ _=>False) e s'):False:=by show ZH h λ_ _ _ z=>zQ z λ_ _ z=>ZO z λ_ _ _ _ _ z=>za z λ_ _ _ q=>q
theorem Mt(h:env∈l)(H:env.frame=Qr b):b∈frs l:=U8.mpr (env,h,H)
structure Tk(X:Cx)(F:St->XK):Prop where
 pass:∀(Zc:zN) (σ:St) (H:Hp) (s:jQ) (e:Value) (s':jQ),Inv X Zc σ H s->CX1 X.prog X.w X.stack H s (F σ) e s'->X.xe e s'
 own:vQ (Z2 X) X.A X.env X.xe
structure TkN(X:Cx)(F:St->XK):Prop extends Tk X F where
 new:∀(Zc:zN) (σ:St) (H:Hp) (s:jQ) (h':Heap) (a C:jP) (args:ZY),Inv X Zc σ H s->jv s.heap h' a (.ref C) args->F σ (.ref C) Qs H->X.xe (.ref a) {s with heap:=h'}
section
variable{P:j8}{w:uj}{K:Qb}{mg:z9}{base:Heap}{N:ZT}{qual:Str}{scope:Scope}{f:jP}{cdv:Value}{A:uv}{outer:List Env}{s:jQ}{H:Hp}{E:XK}
theorem ZU:TkN (dH (CX1 P w) P w K mg base N qual scope f cdv A outer s H E) (λ_=>E):=by
 show((λZc σ H1 m e s2 I h=>?_,PassesOwn.leaving),λZc σ H1 m h' a C args I hm hE=>?_)
 .show ZH h λa C a0 Z=>zQ Z λB H' Z=>ZO Z λa2 h1 h2 D h4 Z=>za Z λh5 a4 h6 h7=>?_;clear Z h;subst a2;have U:(A.deeper (ve qual scope s.heap.objs.size f cdv)).frames=Qr (ve qual scope s.heap.objs.size f cdv::outer):=I.ok.frames;show CT U rfl h6 λa5 Y r=>?_;have nL:∀b o,s.heap.get? b=Qr o->b≠s.heap.objs.size:=λb o e=>Qu (Qn e);have Q:∀b o,s.heap.get? b=Qr o->H b=Qs->b∉frs outer->B.get? b=Qr o:=λb o e n S=>by show h5 b o (I.base.keep b o e n S (by simp[dH])) (I.base.free b o e n (by simp[dH])) λz=>?_;rcases ui.mp (I.stkSub b z)with z|z;show nL b o e z;show S z
  have thB:∀b o,s.heap.get? b=Qr o->b∉frs outer->∃O,B.get? b=Qr O:=λb o e S=>by obtain⟨o1,p⟩:=I.base.there b o e (by simp[dH]);show a4 b o1 p λz=>?_;rcases ui.mp (I.stkSub b z)with z|z;show nL b o e z;show S z
  have g:∀b o,s.heap.get? b=Qr o->b∈frs outer->∃v,a5.get? b=Qr {o with slots:=v}:=λb o e S=>by
   have n:H b=none:=I.ok.frf b S;obtain⟨v,p⟩:=I.base.slot b o e n S (by simp[dH]);obtain⟨a7,e2⟩:=D.any p (I.base.free b o e n (by simp[dH])) (by simp);have hd:∀vs,o.data≠ .fields vs:=by show ZI (I.ok.funs.mem S) λ_ Z=>Zf Z λO j q=>?_;clear Z;have j:s.heap.get? b=Qr O:=j;rw[e]at j;cases j;show q
   obtain⟨x,e3⟩:=r b _ e2 hd;show(x,e3)
  show(a,C,a0,B,H',rfl,h1.trans I.os,h2,(λb o e n S _=>Y.1.1 b o (Q b o e n S),λb o e n S _=>g b o e S,λb o e n _=>?_,λb o e _=>?_,λb xs e=>D.tups b xs (I.base.tups b xs e),λb o u e=>D.frzs b o u (I.base.frzs b o u e),λb ps e=>?_),h4,Q,thB,Y,h7)
  .obtain⟨O,p⟩:=I.base.there b o e (by simp[dH]);show D.free b O p (I.base.free b o e n (by simp[dH])) (by simp)
  .by_cases S:b∈frs outer
   .obtain⟨v,p⟩:=g b o e S;show(_,p)
   obtain⟨O,p⟩:=thB b o e S;show(O,Y.1.1 b O p)
  obtain⟨m1,p⟩:=I.base.tbls b ps e;obtain⟨m2,e2⟩:=D.tbls b _ p;show(m1++m2,by rw[e2,VU])
 have U:(A.deeper (ve qual scope s.heap.objs.size f cdv)).frames=Qr (ve qual scope s.heap.objs.size f cdv::outer):=I.ok.frames;have a3:∀env∈(ve qual scope s.heap.objs.size f cdv::outer),∀b,env.frame=Qr b->b∈frs (ve qual scope s.heap.objs.size f cdv::outer):=λenv he b S=>Mt he S;have a1:m.heap.FunFrames (Qbj m.heap (frs (ve qual scope s.heap.objs.size f cdv::outer))) (ve qual scope s.heap.objs.size f cdv::outer):=PySem.W.funFrames_hide I.stack a3;show yz U rfl (λb o e=>of_hideAll _ e) a1 hm λh2 t Y a6 ht r=>?_;have nL:∀b o,s.heap.get? b=Qr o->b≠s.heap.objs.size:=λb o e=>Qu (Qn e);have M:∀b o,s.heap.get? b=Qr o->b∉frs outer->b∉frs (ve qual scope s.heap.objs.size f cdv::outer):=λb o e S z=>by rcases ui.mp (I.stkSub b z)with z|z;show nL b o e z;show S z
 have J:∀b o,m.heap.get? b=Qr o->b∉frs (ve qual scope s.heap.objs.size f cdv::outer)->(Qbj m.heap (frs (ve qual scope s.heap.objs.size f cdv::outer))).get? b=Qr o:=λb o e S=>hideAll_get _ e S;have Q:∀b o,s.heap.get? b=Qr o->H b=Qs->b∉frs outer->(Qbj m.heap (frs (ve qual scope s.heap.objs.size f cdv::outer))).get? b=Qr o:=λb o e n S=>J b o (I.base.keep b o e n S (by simp[dH])) (M b o e S);have thB:∀b o,s.heap.get? b=Qr o->b∉frs outer->∃O,(Qbj m.heap (frs (ve qual scope s.heap.objs.size f cdv::outer))).get? b=Qr O:=λb o e S=>by obtain⟨o1,p⟩:=I.base.there b o e (by simp[dH]);show(o1,J b o1 p (M b o e S))
 have g:∀b o,s.heap.get? b=Qr o->b∈frs outer->∃v,h2.get? b=Qr {o with slots:=v}:=λb o e S=>by
  have n:H b=none:=I.ok.frf b S;obtain⟨v,p⟩:=I.base.slot b o e n S (by simp[dH]);have hd:∀vs,o.data≠ .fields vs:=by show ZI (I.ok.funs.mem S) λ_ Z=>Zf Z λO j q=>?_;clear Z;have j:s.heap.get? b=Qr O:=j;rw[e]at j;cases j;show q
  obtain⟨x,e3⟩:=r b _ (hm.keeps b _ p) hd;show(x,e3)
 have hokB:HOk P w H1 (Qbj m.heap (frs (ve qual scope s.heap.objs.size f cdv::outer))):=λb o e=>by show(I.hok b o e).stay (λd u hd z=>J d u z λy=>?_) (λ_ z=>z) λ_ _ z=>z;have:=I.stkFree d y;rcases hd with rfl|hd;rw[e]at this;cases this;rw[hd]at this;cases this
 show(a,C,.ref t,_,H1,rfl,I.os,I.bare,(λb o e n S _=>Y.1.1 b o (Q b o e n S),λb o e n S _=>g b o e S,λb o e n _=>I.base.free b o e n (by simp[dH]),λb o e _=>?_,I.base.tups,I.base.frzs,I.base.tbls),hokB,Q,thB,Y,hE);by_cases S:b∈frs outer
 .obtain⟨v,p⟩:=g b o e S;show(_,p)
 obtain⟨O,p⟩:=thB b o e S;show(O,Y.1.1 b O p)
end
abbrev VE:ZY:=[.type "ValueError",.type "Exception",.type "BaseException",.type "object"]
noncomputable def Jn(K:Qb)(C:jP):ZY:=match K.lookup C with
 |some (_,_,.cls cd,_)=>cd.mro
 |_=>[]
def ExC(K:Qb)(C:jP):Prop:=Qa4 K C VE "ValueError.__new__"=true
theorem yn{K:Qb}{h:Heap}{C:jP}(X:K.In h)(q:ExC K C):∃bm N r Q bs j S sub y t d v I P Z u m,h.get? C=Qr (excClassObj r Q C N bs bm j S sub y t d v I P Z u "ValueError.__new__")/\h.Ns N m/\m "__init__"=Qs/\OwnTail h VE bm/\Jn K C=.ref C::bm:=by
 unfold ExC Qa4 at q;split at q
 .rename_i d cd D B;split at q
  .rename_i M bm v I P Z n u Y g;simp only[QW,beq_iff_eq,Q3]at q;obtain⟨⟨⟨⟨⟨rfl,rfl⟩,H⟩,E⟩,hok⟩,z⟩:=q;obtain⟨r,bs,mro,ns,Q,hd,S,sub,y,t,J⟩:=cd;dsimp only at Y H hok z;subst Y H;have x:D=#[v,I,P,Z,Qr (.builtin "ValueError.__new__"),u]:=by obtain⟨l⟩:=D;simp only at g;rw[g]
   subst x;show(bm,ns,r,Q,bs,hd,S,sub,y,t,d,v,I,P,Z,u,_,X _ _ B,.of_isNs (PySem.W.isNs_of_in X hok),PySem.W.nsMap_none_of_in X hok z,PySem.W.tail_of_in X E,by unfold Jn;rw[B])
  cases q
 cases q
section
variable{F:St->XK}
def Lx(F:St->XK)(C:jP)(t:TA):TS:=λ_ D H=>t D H λv E=>Qa v<=1000/\F D (.ref C) Qs E
theorem YI(T:TkN X F)(q:ExC X.K C)(Y:X.mg x=Qr (.ref C))(ha:PA X (e::es) t)(hc:autoParam (X.calm=true) ZF)(hg:autoParam (Gl X x) ZF)(p:autoParam ((x==("__debug__":Str))=false) z8)
 (y:autoParam (kc X e es) ZF) (S:autoParam ((v8 cpos (uc es X.env)).any (·.1)=false) ZF):PS X (.Raise (Qr (.Call (.Name x np) (e::es) [] cpos)) Qs pos) (Lx F C t):=by
 intro Z s E H D I h;show ZH (yn I.mod.kin q) λbm N r z=>ZH z λqn bs j z=>ZH z λm sub Q z=>ZH z λu g O z=>ZH z λM P d z=>cC z λv mN hC hN B TL _=>?_;clear z;show wpAny_Raise_call_subT (C:=C) (nm:=r) (q:=qn) (N:=N) (bs:=bs) (bm:=bm) (hdct:=j) (sn:=m) (sub:=sub) (ab:=Q) (col:=u) (dd:=g) (k0:=O) (k1:=M) (k2:=P) (k3:=d) (k5:=v) PySem.F.excBase_ValueError (mN:=mN) (TL.hasType PySem.F.excBase_ValueError.hasBase) (I.ok.hd hc) ?_ B ?_
 .rw[y];change(false || (v8 cpos (uc es X.env)).any (·.1))=false;rw[S];rfl
 show da I hg Y (rfl,?_) p;have J:=ha cpos Z s E H _ I h
 rw[y]at J ⊢
 have a1:sizeLine=16777216:=jT;show Calls.evalArgs_plain (thn J λU s2 f=>ze f λvs H2 R rv hl hf=>?_);clear f;show(rfl,?_,R.bk _ _ hC,hN.keeps R.bk,TL.keeps R.bk,λh' a Y=>T.new Z E H2 s2 h' a C U R Y hf);have:=rv.length;change Qa U<=sizeLine
 lia
end
section
def PJ(X:Cx)(E:List uI)(t:Zg->St->Hp->(Zg->Hp->Prop)->Prop):Prop:=
 ∀(z:zN) (s:jQ) (D:St) (H:Hp) (d:Zg) (Q:Zg->Hp->Prop),Inv X z D H s->t d D H Q->
  jS (Z2 X) X.A (joinParts (T d) (Qbu E X.env)) (EP X z D λv I=>∃l,v=.str (T l)/\Q l I) X.xe s
theorem Dh:PJ X [] (λd _ H Q=>Qa d<=sizeLine/\Q d H):=by intro z s D H d Q I h;show joinParts_nil (.str (T d),H,I.tok _,(_,rfl),d,rfl,h.2) (by rw[DT];show h.1)
def Lr(g:TE)(t:Zg->St->Hp->(Zg->Hp->Prop)->Prop):Zg->St->Hp->(Zg->Hp->Prop)->Prop:=λd D H Q=>g D H λv E=>match v with
 | .str z=>Qa d+Qa (L z)<=sizeLine/\t (d++L z) D E Q
 |_=>False
theorem d9{t:Zg->St->Hp->(Zg->Hp->Prop)->Prop}(y:PE X e te)(J:PJ X es t)(f:autoParam (Qbu (e::es) X.env=eval e X.env::Qbu es X.env) ZF):PJ X (e::es) (Lr te t):=by
 intro Z s D H d Q I h;rw[f];show joinParts_cons (thn (y Z s D H _ I h) λu S x=>Zy x λv E M r q=>?_);clear x
 cases v with
 |str z=>
  obtain⟨p,rfl⟩:=r;have e:=Ak d (L z);rw[T_L]at e;show(?_,?_)
  .change(T d++z).length<=sizeLine;rw[e,DT,jR];show q.1
  rw[e];show J Z S D E _ Q M q.2
 |_=>show False.elim q
def Of(t:Zg->St->Hp->(Zg->Hp->Prop)->Prop):TE:=λD H Q=>t [] D H λl I=>Q (.str (T l)) I
theorem yL{t:Zg->St->Hp->(Zg->Hp->Prop)->Prop}(h:PJ X (e1::e2::es) t)(d:autoParam (Qbu (e1::e2::es) X.env=eval e1 X.env::eval e2 X.env::Qbu es X.env) ZF):PE X (.JoinedStr (e1::e2::es) pos) (Of t):=by intro z s D H Q I q;show JoinedStr_many ?_;have:=h z s D H [] _ I q;rw[d]at this;show thn this λu S M=>Zy M λv E J r Z=>Zf Z λl e q=>?_;clear M;subst e;show(_,E,J,r,q)
noncomputable def ZR(i:Int):Zg:=L (toString i:Str)
def XW(t:TE):TE:=λD H Q=>t D H λv E=>match v with
 | .str z=>Qa (L z)<=sizeLine/\Q (.str z) E
 | .int i=>i.natAbs.log2<1920/\Q (.str (T (ZR i))) E
 |_=>False
theorem tK(h:PE X e te):PE X (.FormattedValue e (-1) Qs pos) (XW te):=by
 intro Z s D H Q I q;show FormattedValue_plain (thn (h Z s D H _ I q) λu S d=>Zy d λv E J r q=>?_);clear d
 cases v with
 |str z=>
  obtain⟨t,rfl⟩:=r;show formatField_str (λm t=>(.str z,E,J.tok _,(_,rfl),q.2)) (by rw[<-zC];show q.1)
 |int i=>
  obtain⟨t,rfl⟩:=r;have e:T (ZR i)=(toString i:Str):=T_L _;have q:i.natAbs.log2<1920/\Q (V.str (T (ZR i))) E:=q;rw[e]at q;show formatField_int_small q.1 (.str (toString i),E,J.tok _,(_,rfl),q.2)
 |_=>show False.elim q
end
structure FnX(P:j8)(w:uj)(K:Qb)(mg:z9)(base:Heap)(k:Nat)(x:Str)(ps:ZT)(sp:Sp):Prop where
 ex:∃f fd,Z0 P w K mg base (CX1 P w) k f fd ps sp/\mg x=Qr (.ref f)/\vB K (.ref f)=true/\bL K fd ps []
section
variable{P:j8}{w:uj}{K:Qb}{mg:z9}{base:Heap}
theorem FnX.quiet(F:FnX P w K mg base k x ps sp):Fn P w K mg base k x ps (λv H Q _=>sp v H Q E0):=by
 show ZS F.ex λf g F r=>?_;show(f,g,(λv H Q E h=>F.len v H Q E0 h,λA outer s H args u v Q E Y d S R h=>?_),r);show uR (F.run A outer s H args u v Q E0 Y d S R h) λr j q=>?_
 cases r with
 |error e=>show(AK q).elim
 |ok I=>cases I<;>show q
theorem Fun.okX{x q:Str}{st:Stmt}{f:jP}{g:uY}{N p:ZT}{k:Nat}{j:Sp}(F:Fun K x q st f g)(S:ZA N p (Zq st))
 (y:∀(C:Value) (A:uv) (outer:List Env) (s:jQ) (H:Hp) (v:ZE) (Q:VK) (E:XK),YN k (A.deeper (ve q (Zq st) s.heap.objs.size f C))->j v H Q E->
  ∃t,PSs (dH (CX1 P w) P w K mg base N q (Zq st) f C A outer s H E) (zz st) t/\t {nx:=λ_ I=>Q .non I,rt:=Q} (JZ N v) H) (len:autoParam (∀v H Q E,j v H Q E->Qa v=Qa p) GA):Z0 P w K mg base (CX1 P w) (k+1) f g p j:=by
 show ZH F.ex λD J kV z=>ZH z λd B U z=>Z6 z λC ct R Z lk M=>?_;subst Z;show A4 lk M S len λA outer s H v Q E Y O=>y C A outer s H v Q E Y O
end
section
variable{F:St->XK}
def XX(F:St->XK)(S:Sp)(t:TA):TE:=λD H Q=>t D H λv E=>S v E Q (F D)
theorem Yp(T:Tk X F)(G:FnX X.prog X.w X.K X.mg X.base k x ps sp)(j:YN m X.A)(R:PA X (e::es) t)(y:autoParam (k<=m) z8)(hg:autoParam (Gl X x) ZF)(v:autoParam ((x==("__debug__":Str))=false) z8)
 (he:autoParam (kc X e es) ZF) (Y:autoParam (rL X pos es) ZF):PE X (.Call (.Name x p) (e::es) [] pos) (XX F sp t):=by
 show ze G.ex λf fd G C P d=>?_;intro z s D H Q I h;show uJ (da I hg C ?_ v);show Qao (h₀:=X.base) I.ok.mod.kin P (thn (R pos z s D H _ I h) λU S g=>Zy g λZ E J r q=>?_) he Y;clear g;show(J.kIn,?_);have O:Qa U=Qa ps:=by rw[<-r.length];show G.len _ _ _ _ q
 show vL (uR (G.run X.A X.stack S E (U,[]) U Z Q (F D) (j.mono y) J.env0 (by simpa using d S U J.kIn (by simpa using O)) r q) λr B M=>?_)
 cases r with
 |error e=>show T.pass z D E S e B J M
 |ok fl=>
  cases fl with
  |ret u=>show J.after M
  |next=>show False.elim M
  |brk=>show False.elim M
  |cont=>show False.elim M
end
structure xS(X:Cx)(Zc:zN)(σ:St)(H1:Hp)(s1:jQ)(a C:jP)(a9:Value)(B:Heap)(H:Hp)(s2:jQ):Prop where
 inv1:Inv X Zc σ H1 s1
 os:s2.os=s1.os
 bare:Qah s2.gens
 un:Un (frs X.stack) [] H1 H s1.heap s2.heap
 hokB:HOk X.prog X.w H B
 keepB:∀b o,s1.heap.get? b=Qr o->H1 b=Qs->b∉frs X.stack->B.get? b=Qr o
 thB:∀b o,s1.heap.get? b=Qr o->b∉frs X.stack->∃o',B.get? b=Qr o'
section
theorem xS.inv(c:xS X Zc σ H1 s1 a C a9 B H s2)(Y:sk B X.stack a (.ref C) a9 h)(g:s2.heap.UpToSlots h):Inv X Zc σ H {s2 with heap:=h}:=by
 have I:=c.inv1
 have U:∀b o,s1.heap.get? b=Qr o->b∈frs X.stack->∃v,h.get? b=Qr {o with slots:=v}:=λb o e S=>by
  obtain⟨v,E⟩:=c.un.any e (I.stkFree b S) (by simp);have hd:∀j,o.data≠ .fields j:=by show ZI (I.stack.mem S) λ_ d=>Zf d λO f Z=>?_;clear d;rw[e]at f;cases f;show Z
  obtain⟨Q,x⟩:=g b _ E hd;show(Q,x)
 show I.call' (s':= {s2 with heap:=h}) (ch:=[]) c.os (λb o e n S _=>Y.1.1 b o (c.keepB b o e n S),λb o e n S _=>U b o e S,c.un.free,λb o e _=>?_,c.un.tups,c.un.frzs,c.un.tbls) (c.hokB.kept Y.1.1) c.bare λb z=>ZD z (by simp);by_cases S:b∈frs X.stack
 .obtain⟨v,E⟩:=U b o e S;show(_,E)
 obtain⟨O,E⟩:=c.thB b o e S;show(O,Y.1.1 b O E)
end
noncomputable def cxH(X:Cx)(a:jP)(E:ZW):Cx:= {X with A:=X.A.mark (Qr (.ref a)),calm:=false,xe:=E}
section
variable{E:ZW}
theorem Inv.marked(I:Inv X Zc σ H s)(a:jP)(E:ZW):Inv (cxH X a E) Zc σ H s:=
 ((I.ok.mod,I.ok.kind,I.ok.glob,I.ok.blt,I.ok.above,I.ok.inj,I.ok.has,I.ok.cab,λz=>ZD (show false=true from z) Qk,I.ok.frames,I.ok.stk,I.ok.exf,I.ok.bs,I.ok.bsz,I.ok.noex,I.ok.exfs,I.ok.funs,I.ok.frf),I.os,I.bare,I.base,I.loc,I.cell,I.free,I.freeC,I.pin,I.hok,I.len)
theorem Inv.unmarked(hd:X.calm=true->X.A.handled=Qs)(I:Inv (cxH X a E) Zc σ H s):Inv X Zc σ H s:=
 ((I.ok.mod,I.ok.kind,I.ok.glob,I.ok.blt,I.ok.above,I.ok.inj,I.ok.has,I.ok.cab,hd,I.ok.frames,I.ok.stk,I.ok.exf,I.ok.bs,I.ok.bsz,I.ok.noex,I.ok.exfs,I.ok.funs,I.ok.frf),I.os,I.bare,I.base,I.loc,I.cell,I.free,I.freeC,I.pin,I.hok,I.len)
theorem Bq{M:vJ}{A:uv}{E:ZW}{K:Qb}{C f e:jP}{R:Obj}{Q:Bool->jQ->Prop}(p:K.In s.heap)(U:ExC K C)(I:ExC K f)(x:s.heap.get? e=Qr R)(H:R.cls=.ref C)(O:Q ((Jn K C).contains (.ref f)) s):jS M A (excMatches (.ref e) (.ref f)) Q E s:=by
 obtain⟨bm,N,nm,qn,bs,m,sn,sub,ab,u,dd,k0,k1,k2,k3,k5,mN,g,_,_,TL,Y⟩:=yn p U;obtain⟨B,N0,a6,a7,z,P,a8,S,q,J,Z,v,a1,a2,a3,a4,a5,j,_,_,t,r⟩:=yn p I;have D:(Qw f::B).contains (.type "BaseException")=true:=by rw[List.contains_cons,t.hasType PySem.F.excBase_ValueError.hasBase,jE]
 rw[Y]at O;obtain⟨hp,gn,d,tk,os⟩:=s;unfold excMatches;have nt:=tc_notTuple
 repeat(first
  |(with_reducible show wpAny_loadPart_at x ?_
    rw[H])
  |with_reducible show wpAny_loadPart_at j ?_
  |(with_reducible show wpAny_isSubtype_exc j ?_
    rw[D])
  |with_reducible show wpAny_isSubtype_exc g ?_
  |wp_step)
 cases y:(Qw C::bm).contains (Qw f)
 all_goals(rw[y]at O;wp_walk;show O)
end
def PHs(X:Cx)(g:List ExceptHandler)(t:iY->St->XK):Prop:=
 ∀(z:zN) (E:St) (I:Hp) (d:jQ) (a C:jP) (a0:Value) (B:Heap) (H:Hp) (S:jQ) (h:Heap) (D:iY),xS X z E I d a C a0 B H S->sk B X.stack a (.ref C) a0 h->S.heap.UpToSlots h->t D E (.ref C) Qs H->
  jS (Z2 X) X.A (handleBy (.ref a) X.env g) (SP X z D) X.xe {S with heap:=h}
section
variable{X:Cx}{x n:Str}{C0:jP}{i:Nat}{np pos:Pos}{b₀:Stmt}{suite:List Stmt}{JP:List ExceptHandler}{ts:TS}{th:iY->St->XK}
theorem Rw:PHs X [] (λ_ _ _ _ _=>False):=λ_ _ _ _ _ _ _ _ _ _ _ _ _ _ _ z=>z.elim
def tH0(K:Qb)(C0:jP)(ts:TS)(th:iY->St->XK):iY->St->XK:=λD E cls d H=>match cls with
 | .ref C=>ExC K C/\if(Jn K C).contains (.ref C0)=true then ts D E H else th D E (.ref C) d H
 |_=>False
theorem SP.unmarked{E:ZW}(hd:X.calm=true->X.A.handled=Qs)(h:SP (cxH X a E) Zc D f s'):SP X Zc D f s':=by
 cases f with
 |next=>show ZS h λd H I q=>(d,H,I.unmarked hd,q)
 |brk=>show ZS h λd H I q=>(d,H,I.unmarked hd,q)
 |cont=>show ZS h λd H I q=>(d,H,I.unmarked hd,q)
 |ret u=>show Z6 h λv d H I r q=>(v,d,H,I.unmarked hd,r,q)
theorem tM(E:ExC X.K C0)(Q:Gl X x)(r:X.mg x=Qr (.ref C0))(U:∀a,PSs (cxH X a (λ_ _=>False)) (b₀::suite) ts)(d:PHs X JP th)(p:autoParam ((x==("__debug__":Str))=false) z8):
 PHs X (.ExceptHandler (Qr (.Name x np)) Qs (b₀::suite) pos::JP) (tH0 X.K C0 ts th):=by
 intro Z M O m a C a0 B H S h D c Y g q;have I:=c.inv Y g;have hd:X.calm=true->X.A.handled=none:=c.inv1.ok.hd;obtain⟨t,q⟩:=q;show Zf Y.1.there λob u j=>?_;show wpAny_handleBy_cons (codeAny_handlers_test (da (X:=cxH X a (notedBy (Z2 X) (X.A.mark (Qr (.ref a))) X.env (cameBackBy (Z2 X) X.A X.env X.xe))) (I.marked a _) Q r ?_ p)) (by intro z;cases z);show Bq (s:= {S with heap:=h}) I.kIn t E u j ?_
 cases e:(Jn X.K C).contains (.ref C0)with
 |true=>
  rw[e]at q;show codeAny_handlers_suite (yy Y λh3 y J=>?_);have v:=c.inv y (g.trans J);show uE (U a Z _ M H D (v.marked a _) q) (λf P z=>z.unmarked hd) λ_ _ z=>False.elim z
 |false=>
  rw[e]at q;show d Z M O m a C a0 B H S h D c Y g q
noncomputable def unb(i:Nat)(D:iY):iY:= {nx:=λE H=>D.nx (E.set i Qs) H,rt:=D.rt,bk:=λE H=>D.bk (E.set i Qs) H,ct:=λE H=>D.ct (E.set i Qs) H}
def XZ(t:(St->XK)->TS)(th:iY->St->XK)(g:TS):TS:=λD E H=>t (λd=>th D d) {nx:=λd I=>g D d I,rt:=D.rt,bk:=D.bk,ct:=D.ct} E H
abbrev Cx.wishP(X:Cx)(pn:zN)(E:ZW):Cx:= {X with pn:=pn,xe:=E}
theorem Inv.wishP(I:Inv X Zc σ H s)(E:ZW):Inv (X.wishP (X.pn++Zc) E) [] σ H s:=
 ((I.ok.mod,I.ok.kind,I.ok.glob,I.ok.blt,I.ok.above,I.ok.inj,I.ok.has,I.ok.cab,I.ok.hd,I.ok.frames,I.ok.stk,I.ok.exf,I.ok.bs,I.ok.bsz,I.ok.noex,I.ok.exfs,I.ok.funs,I.ok.frf),I.os,I.bare,I.base,I.loc,I.cell,I.free,I.freeC,λp C=>I.pin p (by simpa using C),I.hok,I.len)
theorem Inv.unwishP{E:ZW}(I:Inv (X.wishP (X.pn++Zc) E) ps σ H s):Inv X Zc σ H s:=
 ((I.ok.mod,I.ok.kind,I.ok.glob,I.ok.blt,I.ok.above,I.ok.inj,I.ok.has,I.ok.cab,I.ok.hd,I.ok.frames,I.ok.stk,I.ok.exf,I.ok.bs,I.ok.bsz,I.ok.noex,I.ok.exfs,I.ok.funs,I.ok.frf),I.os,I.bare,I.base,I.loc,I.cell,I.free,I.freeC,λp C=>I.pin p (vh _ C),I.hok,I.len)
theorem RJ{tb:(St->XK)->TS}(g:X.stack=X.env::X.outer)(hf:X.env.frame=Qr X.env.locals)(hb:∀pn E F,Tk (X.wishP pn E) F->PSs (X.wishP pn E) body (tb F))(hh:PHs X (h₀::hs) th)(he:PSs X orelse te):
 PS X (.Try body (h₀::hs) orelse [] pos) (XZ tb th te):=by
 intro m s σ H D I q;show wpAny_Try_except ?_;have a2:X.A.frames=Qr (X.env::X.outer):=by rw[<-g];show I.ok.frames
 have tk:Tk (X.wishP (X.pn++m) (λe R=>jS (Z2 X) X.A (noteFrame e X.env) (λ_ j=>jS (Z2 X) X.A (setFlight e Qs) (λ_ p=>jS (Z2 X) X.A (handleBy e X.env (h₀::hs)) (SP X m D) X.xe p) X.xe j) X.xe R)) (λd=>th D d):=by
  show(λps d H1 S e U I1 hx=>?_,PassesOwn.looking);show ZH hx λa C a0 Z=>zQ Z λB M Z=>ZO Z λa1 h1 h2 h3 h4 Z=>za Z λh5 Y h6 h7=>?_;clear Z hx;subst a1;have c:xS X m d H1 S a C a0 B M U:=(I1.unwishP,h1,h2,h3,h4,h5,Y);have h6:sk B (X.env::X.outer) a (.ref C) a0 U.heap:=by rw[<-g];show h6
  show FD a2 hf h6 λa3 O P=>PK O λY y Q=>?_;show hh m d H1 S a C a0 B M U Y D c ?_ (P.trans Q) h7;rw[g];show y
 show uE (hb _ _ _ tk [] s σ H _ (I.wishP _) q) (λf S z=>?_) λe S z=>z
 cases f with
 |next=>show ZS z λd M J t=>he m S d M D J.unwishP t
 |brk=>show ZS z λd M J t=>(d,M,J.unwishP,t)
 |cont=>show ZS z λd M J t=>(d,M,J.unwishP,t)
 |ret u=>show Z6 z λv d M J r t=>(v,d,M,J.unwishP,r,t)
end
open PySem.Calls PySem.Builtin PySem.Builtin.ObjectAttr PySem.Builtin.Getset_descriptor
theorem nR{K:Qb}{C:jP}{v:Value}{b:Bool}(h:Qbr K C v=Qr b):(Jn K C).contains v=b:=by
 unfold Qbr clsIn at h;unfold Jn;split at h
 .rename_i e;rw[e]
  dsimp only[W3]at h ⊢
  split at h;cases h;show Option.some.inj h
 cases h
noncomputable def Ite(K:Qb)(a:jP):It:=
 (λi H=>∃d x,SqL K H a d/\d[i]?=Qr x,λi H x I=>∃t y,H t=Qs/\x=.ref t/\I=upd H t (.tup [.int i,y])/\∀d,SqL K H a d->d[i]?=Qr y,λi H=>∃d,SqL K H a d/\Qa d<=i)
theorem Gp{P:j8}{w:uj}{K:Qb}{es:List uI}{k:Nat}{tp:Pos}(a t e:jP)(m:e≠t):Am P w K (.Tuple es k tp) (Ite K a) [e,t] e (λi h=>(∃old,IsEnum h e t i old)/\h.IsListIter t a i) where
 mem:=by simp
 obj:=λi h st b S=>by
  obtain⟨⟨old,C⟩,o,M,c,d⟩:=st;rcases ui.mp S with rfl|S;show(_,C,λv z=>by cases z);have z:b=t:=by simpa using S
  subst z;show(o,M,λv z=>by rw[d]at z;cases z)
 keep:=λi h h' st kp=>by obtain⟨⟨old,C⟩,M⟩:=st;show((old,kp e (by simp) _ C),M.at λo q=>kp t (by simp) o q)
 item:=by
  intro X hP hw hK g i Zc s σ H E I U st R;subst hP hw hK;show ZS R λxs x Z f=>?_;clear R;show Zz (I.list Z) λa1 rv p hz=>?_;show Zf (rv.get f) λu hu ru=>?_;show ZO (U t (by simp)) λB f1 f2 f3 f4 f5=>?_;show ZO (U e (by simp)) λg0 g1 g2 g3 g4 g5=>?_;obtain⟨⟨old,Y⟩,r⟩:=st;show wpAny_pyNext_enum_item Y r p.isList (x:=u) (by simpa using hu) m λC k1 k2 k3 k4 k5=>?_;show(_,rfl,wpAny_letOwnedTupleGo_enum k1 λM k6 k7=>?_);have new:M.get? s.heap.objs.size=Qr {cls:=.type "tuple",data:=.seq #[.int i s.toks,u]}:=(k7.2 _ (QY (Qn Y))).trans k3;have D:∀b o,b≠e->b≠t->s.heap.get? b=Qr o->M.get? b=Qr o:=λb o z1 z2 q=>(k7.2 b z1).trans (k5 b o z1 z2 q);have j:H s.heap.objs.size=none:=I.fresh;have no:∀b o,s.heap.get? b=Qr o->b≠s.heap.objs.size:=λb o q=>Qu (Qn q);have O:∀b,b∉[e,t]->b≠e/\b≠t:=λb S=>(λz=>S (by simp[z]),λz=>S (by simp[z]))
  have J:Inv X Zc σ (upd H s.heap.objs.size (.tup [.int i,x])) {s with heap:=M,toks:=s.toks+1}:=by
   show I.call' (ch:=[e,t]) rfl (λb o q n S f=>D b o (O b f).1 (O b f).2 q,λb o q n S f=>(o.slots,D b o (O b f).1 (O b f).2 q),λb o q n f=>?_,λb o q f=>(o,D b o (O b f).1 (O b f).2 q),λb ys q=>?_,λb o y q=>?_,λb ps q=>(#[],?_)) (λb o q=>?_) I.bare λb S=>?_
   .rw[Zn (no b o q)];show n
   .rw[Zn (Zm q j)];show q
   .rw[Zn (Zm q j)];show q
   .rw[Zn (Zm q j),q];simp
   .by_cases S:b=s.heap.objs.size
    .subst S;rw[Zi]at q;cases q;show(by simp[jT],[.int i s.toks,u],.cons (_,rfl) (.cons ru .nil),?_);show(_,new,rfl,_,rfl)
    rw[Zn S]at q;show(I.hok b o q).stay (λc y g z=>D c y ?_ ?_ z) (λc z=>?_) λc ys z=>?_
    .rintro rfl;rcases g with rfl|g;rw[g0]at q;cases q;rw[g0]at g;cases g
    .rintro rfl;rcases g with rfl|g;rw[B]at q;cases q;rw[B]at g;cases g
    .rw[Zn (Zm z j)];show z
    rw[Zn (Zm z j)];show z
   rcases ui.mp S with rfl|S;show(g3,g1,g4,g5);have z:b=t:=by simpa using S
   subst z;show(f3,f1,f4,f5)
  show(.ref s.heap.objs.size,_,J,rfl,(_,x,j,rfl,rfl,λys hy=>by rw[I.list_inj hy Z];show f),((u,by simpa using k6),k2.at λo q=>(k7.2 t m.symm).trans q),λb S=>?_);rcases ui.mp S with rfl|S
  .rw[Zn (no b _ Y)];show g0
  have z:b=t:=by simpa using S
  subst z;show Zf r λo q _=>?_;clear r;rw[Zn (no b _ q)];show B
 done:=by intro X hP hw hK g i Zc s σ H E I U st R;subst hP hw hK;show Zf R λxs Z f=>?_;clear R;show Zz (I.list Z) λa1 rv p hz=>?_;show ZO (U t (by simp)) λB f1 f2 f3 f4 f5=>?_;obtain⟨⟨old,Y⟩,r⟩:=st;have hl:=rv.length;show wpAny_pyNext_enum_end (I.ok.hd g) Y r p.isList (by simp;lia) λh' eb=>(rfl,I.turned (t':=s.toks) (λb o S q=>eb b o S q) B f1 f3 f4 f5)
 self:=λA i s Q E st h=>by obtain⟨⟨old,Y⟩,r⟩:=st;show wpAny_pyIter_enum Y h
section
def Xc(K:Qb)(t:TA):TI:=λD H R=>t D H λv E=>∃a,v=[.ref a]/\(∃x,SqL K E a x)/\R (Ite K a) E
theorem M6{x:uI}{t:TA}{p pos:Pos}(m:Gl X "enumerate")(d:X.mg "enumerate"=Qs)(O:PA X [x] t)(g:autoParam (uc [x] X.env=[(false,eval x X.env)]) ZF):PI X (.Tuple es k tp) (.Call (.Name "enumerate" p) [x] [] pos) (Xc X.K t):=by
 intro Z s D H R I h;show Qbg (JL I m d ya (PyProof.Rows.callWith_type1 (thn (O pos Z s D H _ I h) λus S f=>Zy f λvs E J v Q=>?_) g rfl));clear f;obtain⟨a,e,⟨xs,y⟩,q⟩:=Q;subst e;show Zf v.one λu z ru=>?_;subst z;cases ru;show Zz (J.list y) λj rv P hz=>?_;show call_enumerate_list P.isList λB M C k3 k4=>?_;have r:Inv X Z D E {S with heap:=B}:=J.kept (t':=S.toks) λb o e=>k4 b o e;show wpAny_pyIter_enum M ?_;show(S.heap.objs.size+1,[S.heap.objs.size+1,S.heap.objs.size],_,_,E,rfl,r,Gp a S.heap.objs.size (S.heap.objs.size+1) (Nat.succ_ne_self _),((_,M),C),λb U=>?_,q);rcases ui.mp U with rfl|U;show J.fpOk (Vb _) (J.hok.fresh (Vb _));have e:b=S.heap.objs.size:=by simpa using U
 subst e;show J.fpOk (Qg _) (J.hok.fresh (Qg _))
def T7(K:Qb)(a:jP)(d:ZE)(i j:Nat)(C:TS):TS:=λD E H=>∃p:Nat->St->Hp->Prop,p 0 E H/\(∀k E H,k<=Qa d->p k E H->SqL K H a d)/\
 (∀k x E H t,d[k]?=Qr x->p k E H->H t=Qs->C {nx:=p (k+1),rt:=D.rt,bk:=D.nx,ct:=p (k+1)} ((E.set i (Qr (.int k))).set j (Qr x)) (upd H t (.tup [.int k,x])))/\∀E H,p (Qa d) E H->D.nx E H
def Od(K:Qb)(u:TA)(i j:Nat)(t:TS):TS:=λD E H=>u E H λv I=>aR (λa=>a0 (
 ∃x,SqL K I a x/\T7 K a x i j t D E I
 )) v
theorem Ez{K:Qb}{x:uI}{u v:Str}{Z pv:Pos}{i j:Nat}{p pos P:Pos}{B:List Stmt}{C:TA}{tb:TS}(hK:X.K=K)(hp:vQ (Z2 X) X.A X.env X.xe)(hc:X.calm=true)(hm:X.mg "enumerate"=Qs)(ha:PA X [x] C)
 (gu:PG X (.Name u Z) (qW i)) (gv:PG X (.Name v pv) (qW j)) (hb:PSs X B tb) (a1:autoParam (Gl X "enumerate") ZF) (hs:autoParam (uc [x] X.env=[(false,eval x X.env)]) ZF)
 (hf:autoParam (∀z,ue (.Call (.Name "enumerate" p) [x] [] P) X.env z=pure z) qK)
 (h1:autoParam ((uz [.Name u Z,.Name v pv] X.env).map (·.2)=Qay (.Name u Z) X.env::(uz [.Name v pv] X.env).map (·.2)) ZF) (h2:autoParam ((uz [.Name v pv] X.env).map (·.2)=Qay (.Name v pv) X.env::(uz [] X.env).map (·.2)) ZF)
 (h3:autoParam (Qa (uz [.Name u Z,.Name v pv] X.env)=2) ZF) (h4:autoParam ((uz [.Name u Z,.Name v pv] X.env).findIdx? (·.1)=Qs) ZF):
 PS X (.For (.Tuple [.Name u Z,.Name v pv] k tp) (.Call (.Name "enumerate" p) [x] [] P) B [] pos) (Od K C i j tb):=by
 subst hK;have a2:PA X [x] (λE H Q=>∃Q0:ZE->Hp->Prop,C E H Q0/\∀v J,Q0 v J->Q v J):=ha.imp λE H Q h=>h;intro Zc s E H D I h;show oB hp hc (M6 a1 hm a2 hs) (yO hc (Y4 gu (Y4 gv fY h2) h1) h3 h4) hb hf Zc s E H D I (_,h,λvs H1 q=>?_);obtain⟨a,rfl,q⟩:=aR1 q
 ·
  show Zf q λd hx f=>zh f λPv h0 hl g hd=>?_;clear f q;show(a,rfl,(d,hx),λn m E H=>m=Qa d-n/\n<=Qa d/\Pv n E H,(Qa d,by simp,Qo _,h0),?_);show λn m r H2 f=>ZL f λR hn Y=>?_;clear f;subst R;have O:=hl n r H2 hn Y;by_cases M:n<Qa d
  .show .inr ((d,d[n],O,by simp[M]),Pv (n+1),λσ' J p'=>(Qa d-(n+1),⋯,rfl,M,p'),λz J y=>?_);show ze y λt y0 ht S U hy=>?_;clear y;subst S;subst U;show(t,_,rfl,.inl (.of Zi),rfl,_,_,rfl,_,_,rfl,rfl,?_);show g n y0 r H2 t (hy d O) Y ht
  have e:n=Qa d:=⋯
  subst e;show .inl ((d,O,Qg _),hd _ _ Y)
end
section
theorem sS:∀{ns:List Int} {u:ZY},ZQ (ns.map V.int) u->IntsAre u ns
 |[],_,r=>by cases r;show .nil
 |n::ns,_,r=>by
  cases r with
  |cons R m=>
   obtain⟨t,rfl⟩:=R;show .cons n t (sS m)
theorem Aq:∀{v:ZY} {ns:List Int},IntsAre v ns->∀(m:Nat) (H:m<Qa v),isInt k v[m]=decide (ns.getD m 0=k):=by
 intro v ns h;induction h with
 |nil=>show λm H=>ZD H (VF _)
 |cons n t h I=>
  intro m H;cases m with
  |succ m=>show I m (Nat.lt_of_succ_lt_succ H)
  |zero=>
   change isInt k (.int n t)=decide (n=k);unfold isInt;by_cases q:n=k<;>simp[q]
def Xj(K:Qb):V->ZE->Hp->VK->Prop:=λx v H Q=>∃l,∃ns:List Int,x=.ref l/\SqL K H l (ns.map V.int)/\aI (λk=>a0 (
 k∈ns/\Q (.int (ns.idxOf k)) H
 )) v
theorem MJ{K:Qb}(hK:X.K=K):MtM X "list.index" (Xj K):=by
 subst hK;intro Zc s σ H x vs v us Q I S U h;show Zy h ?_;clear h;intro l ns z g h;subst z;cases S;obtain⟨k,rfl,h⟩:=aI1 h
 ·
  obtain⟨E,h⟩:=h;show Zf U.one λu Z ru=>?_;subst Z;obtain⟨t,rfl⟩:=ru;show Zz (I.list g) λY r p J=>?_;have q:=sS r;have R:=r.length;rw[jO]at R J;have D:=We E;obtain⟨⟨oc,od,a2,O⟩,B,d,n,hd⟩:=p.isList;dsimp only at d hd;subst d hd;have a1:=jT
  show vC F.slot_list_index (_,B,rfl) F.entry_list_index (F.args_list_index_2 _ _) (SeqAt.list_indexAt l Y.toArray n od O (.int k t) (isInt k) (ns.idxOf k) (by rw[j7];lia) ⋯ ?_ λm f M=>?_)
   (B,λy C=>(eq_isInt k t q y (by simpa using C)).at _ _,.int (ns.idxOf k),H,I.tok _,(_,rfl),h)
  .change isInt k Y[ns.idxOf k]=true;rw[Aq q _ ⋯];simp[Qc,D]
  have P:m<Qa Y:=by simpa using f
  change isInt k Y[m]=false;rw[Aq q _ P];have:m<Qa ns:=⋯
  have j:=List.not_of_lt_findIdx M;simp[Qc,this];simpa using j
def RU:LX:=λo i v H Q=>match o,i with
 | .ref p,.int k=>∃x,H p=Qr (.lst x)/\∃j,ixN (Qa x) k=Qr j/\Q (upd H p (.lst (x.set j v)))
 |_,_=>False
theorem R7:OI X RU:=by
 intro z s D H o i v O P u Q I Y R r h;unfold RU at h;split at h
 .rename_i p k;show Zf h λx y Z=>Zf Z λj J q=>Lf z s D H _ _ _ O P u Q I Y R r (p,x,k,j,rfl,rfl,y,J,q)
 show h.elim
end
end L2
namespace LP
open PySem L2
def NQ(ns:List Int):Prop:=∀k:Nat,k<Qa ns->ns.count (k:Int)=1
instance(ns:List Int):Decidable (NQ ns):=inferInstanceAs (Decidable (∀k:Nat,k<Qa ns->ns.count (k:Int)=1))
noncomputable def ZaE(ns:List Int)(k:Nat):ZE:=(Qi (Qa ns)).map λv:Nat=>if(v:Int)∈ns.take k then V.int (ns.idxOf (v:Int))else V.non
def OF(ns:List Int)(k:Nat):Prop:=(ns.take k).Nodup/\∀x∈ns.take k,0<=x/\x<Qa ns
theorem Il(n:Nat):(Qy n [V.non]).flatten=Qy n V.non:=by
 induction n with
 |zero=>rfl
 |succ n I=>rw[uw,Ug,I];rfl
theorem nj(h:upd H a o b=Qs):H b=Qs/\b≠a:=by by_cases e:b=a;subst e;rw[Zi]at h;cases h;rw[Zn e]at h;show(h,e)
theorem mU(S:Zw H H')(j:H p=Qs):Zw H (upd H' p o):=λb u q=>by
 have:b≠p:=by rintro rfl;rw[j]at q;cases q
 rw[Zn this];show S b u q
end LP
namespace L2
open PySem PySem.Spec PyProof.Rows
theorem zy.src{K:Qb}{H I:Hp}{a:jP}{x:ZE}(e:zy H I)(h:Src K H a x):Src K I a x:=by
 rcases h with h|h|⟨lo,m,h,r⟩;show .inl (e.seq h)
 .rcases h with(h|⟨o,h⟩)|h;show .inr (.inl (.inl (.inl (e.at h (by nofun)))));show .inr (.inl (.inl (.inr (o,e.at h (by nofun)))));show .inr (.inl (.inr h))
 show .inr (.inr (lo,m,e.at h (by nofun),r))
structure Lm(mg:z9)(base:Heap)(c P:jP):Prop where
 hd:CodeHd base c P
 bm:∃bm ob,mg "__builtins__"=Qr (.ref bm)/\bm≠uK/\base.get? bm=Qr ob/\ob.cls=.type "module"/\ob.dict=Qr uK/\ob.data=.plain
theorem Lm.at(L:Lm X.mg X.base c P)(h:X.env.code=.ref c):DP X c P:=(h,L.hd,L.bm)
section
variable{P:j8}{w:uj}{K:Qb}{mg:z9}{base:Heap}
theorem Fun.okL{x I:Str}{st:Stmt}{f c:jP}{g:uY}{N p:ZT}{k:Nat}{j:Sp}(F:Fun K x I st f g)(d:g.code=.ref c)(S:ZA N p (Zq st))
 (y:∀(A:uv) (outer:List Env) (s:jQ) (H:Hp) (v:ZE) (Q:VK) (E:XK),YN k (A.deeper (ve I (Zq st) s.heap.objs.size f (.ref c)))->j v H Q E->
  ∃t,PSs (dH CX0 P w K mg base N I (Zq st) f (.ref c) A outer s H E).nox (zz st) t/\t {nx:=λ_ J=>Q .non J,rt:=Q} (JZ N v) H) (len:autoParam (∀v H Q E,j v H Q E->Qa v=Qa p) GA):Z0 P w K mg base CX0 (k+1) f g p j:=by
 show ZH F.ex λr U kV z=>ZH z λD B m z=>Z6 z λC ct R Z lk M=>?_;clear z;subst Z;have d:C=.ref c:=d;subst d;show A4 lk M S len λA outer s H v Q E Y O=>?_;show Zf (y A outer s H v Q E Y O) λt h q=>(t,h.nox,q)
end
abbrev Sk(mg:z9)(base:Heap):Prop:=∃bm O,mg "__builtins__"=Qr (.ref bm)/\bm≠uK/\base.get? bm=Qr O/\O.cls=.type "module"/\O.dict=Qr uK/\O.data=.plain
theorem FA{P:j8}{w:uj}{K:Qb}{mg mb:z9}{CX:CXT}{k:Nat}{fa a:jP}{fd:uY}{x:Str}{sp:Sp}{S:jQ}{g:ZY}{ns:List Int}{ts:List jP}
 (KX:K.In S.heap) (Q:S.heap.Ns jX mg) (U:S.heap.Ns uK mb) (a6:∀x:Str,x≠"__name__"->mb x=ux x) (C:S.heap.NoLimit) (hg:S.gens=#[])
 (a1:∃bm O,mg "__builtins__"=Qr (.ref bm)/\bm≠uK/\S.heap.get? bm=Qr O/\O.cls=.type "module"/\O.dict=Qr uK/\O.data=.plain)
 (J:S.heap.get? a=Qr {cls:=.type "list",data:=.seq g.toArray}) (hi:IntsAre g ns) (hl:Qa ns<=sizeLine) (hr:YN k Qa5)
 (hts:∀p∈ts,S.heap.get? p=Qr (Qbp #[])/\K.lookup p=Qs/\∃c,CodeHd S.heap c p)
 (F:∀base:Heap,K.In base->base.Ns jX mg->(∃bm O,mg "__builtins__"=Qr (.ref bm)/\bm≠uK/\base.get? bm=Qr O/\O.cls=.type "module"/\O.dict=Qr uK/\O.data=.plain)->Z0 P w K mg base CX k fa fd [x] sp)
 (D:∀(s:jQ) (u:Value),QaW s fd ([u],[]) [(x,u)])
 (a4:∀H:Hp,SqL K H a (ns.map V.int)->(∀p∈ts,H p=Qr (.tbl #[]))->sp [.ref a] H (λv _=>v=.bl true) λ_ _ _=>False)
 (a5:∀H e j,CX [] H S (λ_ _ _=>False) e j->False):
 Qaa (ud P w) Qa5 (.call (.ref fa) ([.ref a],[])) (λr j=>r=.ok (.ret (.bool true))/\OldK S.heap j.heap/\j.os=S.os/\Qah j.gens) S:=by
 have rv:=Gv hi;have wI:=hi.length
 have core:∀H:Hp,(∀b,H b=Qs\/(b=a/\∃o xs,H b=Qr (.frz o (.lst xs)))\/(b∈ts/\H b=Qr (.tbl #[])))->(∀p∈ts,H p=Qr (.tbl #[]))->SqL K H a (ns.map V.int)->HOk P w H S.heap->(∀b,H b≠Qs->K.lookup b=Qs)->
  Qaa (ud P w) Qa5 (.call (.ref fa) ([.ref a],[])) (λr j=>r=.ok (.ret (.bool true))/\OldK S.heap j.heap/\j.os=S.os/\Qah j.gens) S:=by
  intro H hO hT hS hok hK;have E:∀b u,S.heap.get? b=Qr u->H b=Qs\/(∃a3 n,u.data=.seq a3 n)\/∃fs,u.data=.fields fs:=λb u e=>by rcases hO b with z|⟨rfl,_⟩|⟨z,_⟩;show .inl z;rw[J]at e;cases e;show .inr (.inl (_,_,rfl));rw[(hts b z).1]at e;cases e;show .inr (.inr (_,rfl))
  have I:∀{b:jP} {o:Obj},S.heap.get? b=Qr o->H b=Qs->(wG S.heap H).get? b=Qr o:=λe n=>Iw e n
  have f:∀{b:jP} {m:z9},S.heap.Ns b m->(wG S.heap H).Ns b m:=λ{b m} (o,es,ep,e,d,r)=>(o,es,ep,I e (by
   rcases E b o e with z|⟨_,_,z⟩|⟨_,z⟩;show z;rw[d]at z;cases z;rw[d]at z;cases z),d,r)
  have R:K.In (wG S.heap H):=λb o e=>I (KX b o e) (by
   cases q:H b with
   |none=>rfl
   |some u=>rw[hK b (by rw[q];simp)]at e;cases e)
  have hM:Mod K mg (wG S.heap H):=(R,f Q,(mb,f U,a6),let (mc,h1,h2):=C;(mc,f h1,h2));have e0:Cj P w K mg (wG S.heap H) Qa5 [] S H:=(rfl,hM,λb o e=>MQ e,V0 (Fs _ _),trivial,λb U=>ZD (show b∈([]:List jP)from U) (by simp),hok,.of_eq hg);have a2:∃bm O,mg "__builtins__"=Qr (.ref bm)/\bm≠uK/\(wG S.heap H).get? bm=Qr O/\O.cls=.type "module"/\O.dict=Qr uK/\O.data=.plain:=by show zQ a1 λbm O Y=>ZO Y λb1 b2 b3 b4 b5 b6=>?_;clear Y a1;show(bm,O,b1,b2,I b3 ?_,b4,b5,b6);rcases E bm O b3 with z|⟨_,_,z⟩|⟨_,z⟩;show z;rw[b6]at z;cases z;rw[b6]at z;cases z
  show uR ((F _ R (f Q) a2).run Qa5 [] S H ([.ref a],[]) [.ref a] [.ref a] _ _ hr e0 (D S (.ref a)) (.cons rfl .nil) (a4 H hS hT)) λr j h=>?_
  cases r with
  |error e=>show(a5 H e j h).elim
  |ok fl=>
   cases fl with
   |next=>show False.elim h
   |brk=>show False.elim h
   |cont=>show False.elim h
   |ret u=>
    show zQ h λv H' Y=>ZO Y λos bare un B r' q=>?_;clear Y h;have q':v=.bl true:=q;subst q';obtain rfl:u=Wd true:=r'
    have old:∀b o,S.heap.get? b=Qr o->j.heap.get? b=Qr o\/∃M,b∈ts/\j.heap.get? b=Qr (Qbp M):=λb o e=>by
     rcases hO b with z|⟨_,O,xs,z⟩|⟨zt,z⟩;show .inl (un.keep b o e z (by intro y;show ZD (show b∈([]:List jP)from y) (by simp)) (by simp))
     .have z2:=un.frzs b O _ z;obtain⟨e1,_⟩:=hok b _ z;obtain⟨e2,_⟩:=B b _ z2;rw[e]at e1;cases e1;show .inl e2
     obtain⟨M,z2⟩:=un.tbls b _ z;show .inr (_,zt,B b _ z2)
    show(rfl,(λb o e=>?_,λb o e=>?_),os,bare)
    .rcases old b o e with z|⟨M,zt,z⟩;show .inl z;show ZL (hts b zt) λt1 _ Y=>zI Y λc t2=>?_;clear Y
     rw[t1]at e;cases e;show .inr (.inl ((t2.tab t1).isCodeTable,rfl,#[],M,rfl,?_));rw[z];simp
    rcases old b o e with z|⟨M,_,z⟩;show(_,z);show(_,z)
 have aT:a∉ts:=λz=>by have:=(hts a z).1;rw[J]at this;cases this
 cases hk:K.lookup a with
 |some o=>
  have e:=KX a o hk;rw[J]at e;cases e;show core (λb=>if b∈ts then Qr (.tbl #[])else Qs) (λb=>?_) (λp hp=>Zx hp) (.inr (_,g.toArray,_,hk,rfl,rfl,rfl,by rw[j7,wI];show hl,by simpa using rv)) (λb u z=>?_) λb z=>?_
  .by_cases U:b∈ts;show .inr (.inr (U,Zx U));show .inl (Zo U)
  .by_cases U:b∈ts
   .have Z:=(Zx U).symm.trans z;cases Z;show(hts b U).1
   have Z:=(Zo U).symm.trans z;cases Z
  by_cases U:b∈ts;show(hts b U).2.1;show ZD (Zo U) z
 |none=>
  show core (λb=>if b=a then Qr (.frz {cls:=.type "list",data:=.seq g.toArray} (.lst (ns.map V.int)))else if b∈ts then Qr (.tbl #[])else Qs) (λb=>?_) (λp hp=>?_) (.inl (.inr ({cls:=.type "list",data:=.seq g.toArray},Zx rfl))) (λb u z=>?_) λb z=>?_
  .by_cases U:b=a;show .inr (.inl (U,_,_,Zx U));by_cases t:b∈ts;show .inr (.inr (t,(Zo U).trans (Zx t)));show .inl ((Zo U).trans (Zo t))
  .have:p≠a:=λz=>aT (z▸hp);show(Zo this).trans (Zx hp)
  .by_cases U:b=a
   .have Z:=(Zx U).symm.trans z;cases Z;subst U;show(J,by rw[jO];show hl,g,_,rv,J)
   by_cases t:b∈ts
   .have Z:=((Zo U).trans (Zx t)).symm.trans z;cases Z;show(hts b t).1
   have Z:=((Zo U).trans (Zo t)).symm.trans z;cases Z
  by_cases U:b=a;rw[U];show hk;by_cases t:b∈ts;show(hts b t).2.1;show ZD ((Zo U).trans (Zo t)) z
theorem LL{l:VY}{n k:Nat}{q:j8}{j:ZT}{XP:(z9)->Heap->Prop}{YP:uj->Heap->Prop}{d:DefRec}{K:Qa0->Qb}{CX:uj->CXT}{sp:uj->Sp}{x:Str}{ts:List jP}
 (hn:l.most=Qr n) (B:n<=sizeLine) (I:d.params.defaults=[]) (hr:YN k Qa5)
 (hY:∀(w:uj) (h:Heap),YP w h->(K w.params).In h/\∀p∈ts,h.get? p=Qr (Qbp #[]))
 (F:∀(w:uj) (mg:z9) (C:jP) (h:Heap),(K w.params).In h->h.Ns jX mg->mg d.name=Qr (.ref C)->
  (∀p∈ts,(K w.params).lookup p=Qs/\∃c,Qbv (K w.params) c p=true)/\∃y:uY,(∀(s:jQ) (u:Value),QaW s y ([u],[]) [(x,u)])/\
   ∀base:Heap,(K w.params).In base->base.Ns jX mg->(∃bm O,mg "__builtins__"=Qr (.ref bm)/\bm≠uK/\base.get? bm=Qr O/\O.cls=.type "module"/\O.dict=Qr uK/\O.data=.plain)->Z0 l.prog w (K w.params) mg base (CX w) k C y [x] (sp w))
 (M:∀(w:uj) (H:Hp) (a:jP) (ns:List Int),Qa ns<=n->SqL (K w.params) H a (ns.map V.int)->(∀p∈ts,H p=Qr (.tbl #[]))->sp w [.ref a] H (λv _=>v=.bl true) λ_ _ _=>False)
 (P:∀(w:uj) (H:Hp) (s:jQ) (e:Value) (m:jQ),CX w [] H s (λ_ _ _=>False) e m->False):
 W9 q j XP YP l.row.toRowW d [] (λf Z=>PySem.call f Z):=by
 show Att.Ar hn I λw s₀ S mg mb C o pm cd a1 a Z ns G Y ho hd a2 J t r D hg=>?_;obtain⟨z,TX⟩:=hY w _ Y;show ZI (F w mg C _ z G.T.g J) λU R=>Zf R λy hb hF=>?_;clear R;show FA (ts:=ts) z G.T.g G.T.b G.T.builtins G.T.nolimit hg G.T.bmain t r (QC D B) hr (λp E=>(TX p E,(U p E).1,?_)) hF hb (λH hS Q=>M w H a ns D hS Q) λH e m=>P w H S e m;obtain⟨c,e⟩:=(U p E).2;show(c,codeHd_of_K z e)
section
theorem NG(R:ZQ xs vs):∀l:Zg,(∀i∈l,i<Qa vs)->ZQ (l.map λi=>xs.getD i .non) (l.map λi=>vs.getD i QG):=by
 intro l;have Y:=R.length
 induction l with
 |nil=>intro _;show .nil
 |cons i r I=>
  intro H;have U:=H i ub;show .cons ?_ (I λj v=>H j (ua _ v));have f:xs[i]?=Qr (xs.getD i .non):=by rw[Qc,Qd ⋯];rfl
  show Zf (R.get f) λu B g=>?_;have e:vs.getD i QG=u:=by rw[Qc,B];rfl
  change zf (xs.getD i .non) (vs.getD i QG);rw[e];show g
theorem t7{Q:VK}{E:ZW}{a:jP}{κ:vm}{O:vV}(hc:X.calm=true)(hh:X.A.handled=Qs)
 (M:∀(A:uv) (E:ZW),A.handled=Qs->jS (Z2 X) A (QaV (.ref a)) (λY S=>∃(x:ZE) (r:Nat->O.α),Inv X Zc σ H S/\ZQ x Y/\Qa x<=100000/\Aj X.prog X.w r (Qa x)/\
  (∀q Y (E:ZW) (Q':vm->jQ->Prop),Inv X Zc σ H q->ZQ x Y->2<=Qa x->Q' κ q->jS (Z2 X) X.A.in1.in1 (Qbs Y.toArray) Q' E q)/\
  (∀q Y,Inv X Zc σ H q->ZQ x Y->LS.EY r (Qa x) (λt=>t=q) (QaS X.prog X.w X.A.in1.in1 κ Y))/\
  ∀l (p:Array Nat),H l=Qs->LS.Pm (Qa x) p->LS.Up r p (Qa x)->Q (.ref l) (upd H l (.lst (p.toList.map λi=>x.getD i .non)))) E s):
 jS (Z2 X) X.A (call (.builtin "sorted") [.ref a]) (EP X Zc σ Q) E s:=by
 have ab:sizeLine=16777216:=jT;show Calls.call_function_entry kind_sorted plain_sorted entry_sorted (args_sorted1 _) ?_
 unfold Builtin.«sorted»
 show jM (m:=checkCount "sorted" 1 1 _) (jN ?_);show jM (uE (M _ _ hh) (λY S a2=>zQ a2 λx r zr=>ZO zr λI rv ak hS D zr=>ZI zr λa4 h=>?_) λ_ _ z=>z);clear a2;have lv:=rv.length;show jM (QaY ?_ ⋯);have k2:∀b o,S.heap.get? b=Qr o->(S.heap.push {cls:=.type "list",data:=.seq Y.toArray}).get? b=Qr o:=λb o e=>Qf _ e;have I2:Inv X Zc σ H {S with heap:=S.heap.push {cls:=.type "list",data:=.seq Y.toArray},toks:=S.toks}:=I.kept k2;have I1:Inv X Zc σ H {S with heap:=S.heap,toks:=S.toks}:=I;have Wa:Own X Zc H S.heap.objs.size:=Own.fresh I1 (Qg _);have ho:(S.heap.push {cls:=.type "list",data:=.seq Y.toArray}).get? S.heap.objs.size=Qr (vd "list" Y.toArray 0):=Ql _ rfl;show jM (uA (ur slot_list_sort (_,ho,rfl) entry_list_sort ?_ (args_list_sort _)));rw[list_sort_plain];show jM (listItems_at ho rfl ?_);show jM (v9 ho rfl ?_ (by rw[j7];lia) (Qo _));have a7:=Heap.SameBut.update (S.heap.push {cls:=.type "list",data:=.seq Y.toArray}) S.heap.objs.size (Obj.mapSeq λ_=>(#[]:Array Value));obtain⟨e1,a3⟩:∃e1,((S.heap.push {cls:=.type "list",data:=.seq Y.toArray}).update S.heap.objs.size (Obj.mapSeq λ_=>(#[]:Array Value))).get? S.heap.objs.size=Qr (vd "list" #[] e1):=(_,Qae ho λ_=>#[]);show jM (Qbd a3 rfl ?_);show jM (Qaj ?_ (by change Qa Y<=_;lia));show jM (QaY ?_ (Qo _));show uA ?_
 have I3:Inv X Zc σ H {S with heap:=(S.heap.push {cls:=.type "list",data:=.seq Y.toArray}).update S.heap.objs.size (Obj.mapSeq λ_=>(#[]:Array Value)),toks:=S.toks}:=
  I2.alter (s:= {S with heap:=S.heap.push {cls:=.type "list",data:=.seq Y.toArray},toks:=S.toks}) Wa ho (λv z=>by cases z) λb u hb z=>(a7.2 b hb).trans z
 generalize am:(S.heap.push {cls:=.type "list",data:=.seq Y.toArray}).update S.heap.objs.size (Obj.mapSeq λ_=>(#[]:Array Value))=h4 at *
 have I5:Inv X Zc σ H {S with heap:=(h4.push {cls:=.type "tuple",data:=.seq Y.toArray}).push {cls:=.type "list",data:=.seq ([]:ZY).toArray},toks:=S.toks}:=
  I3.kept (s:= {S with heap:=h4,toks:=S.toks}) (t':=S.toks) λb o e=>Qf _ (Qf _ e)
 have Z:((h4.push {cls:=.type "tuple",data:=.seq Y.toArray}).push {cls:=.type "list",data:=.seq ([]:ZY).toArray}).get? S.heap.objs.size=Qr (vd "list" #[] e1):=Qf _ (Qf _ a3)
 have tail:∀(P:PySem.Fin->jQ->Prop),(∀(p:Array Nat) q,LS.Pm (Qa Y) p->LS.Up r p (Qa Y)->Inv X Zc σ (upd H S.heap.objs.size (.lst (p.toList.map λi=>x.getD i .non))) q->P (.done (.ret .none)) q)->∀(st:j9) (p:Array Nat),LS.Pm (Qa Y) p->LS.Up r p (Qa Y)->QaB st=p.map (VW (Y.toArray.zip Y.toArray))->Qam st=Qs->
  jS (Z2 X) X.A.in1.in1 (do
   let sorted:=(QaB st).map (·.2)
   let y:=(<-seqEpoch S.heap.objs.size) !=e1
   Builtin.List.listUpdate (.ref S.heap.objs.size) λ_=>sorted
   if let Qr e:=Qam st then rule "list.sort.comparison-raised";throw e
   if y then rule "list.sort.modified";raiseError "ValueError" "list modified during sort"
   ret .none) P E
   {S with heap:=(h4.push {cls:=.type "tuple",data:=.seq Y.toArray}).push {cls:=.type "list",data:=.seq ([]:ZY).toArray},toks:=S.toks}:=by
  intro P hP st p C B a8 hf;have a5:=kat_snds rfl a8;have al:=C.size;dsimp only;rw[a5]
  generalize an:(h4.push {cls:=.type "tuple",data:=.seq Y.toArray}).push {cls:=.type "list",data:=.seq ([]:ZY).toArray}=h5 at *
  have a6:=Heap.SameBut.update h5 S.heap.objs.size (Obj.mapSeq λ_=>QI (p.toList.map λi=>Y.getD i QG));obtain⟨c2,hg⟩:∃c2,(h5.update S.heap.objs.size (Obj.mapSeq λ_=>QI (p.toList.map λi=>Y.getD i QG))).get? S.heap.objs.size=Qr (vd "list" (QI (p.toList.map λi=>Y.getD i QG)) c2):=(_,Qae Z (λ_=>QI (p.toList.map λi=>Y.getD i QG)));show jM (Qbd Z rfl ?_);show jM (v9 Z rfl ?_ (Qo _) (by change(QI _).size<=_;rw[j7,jO,Qq];lia));rw[hf];simp only[bne_self_eq_false,QX,if_false];have I6:Inv X Zc σ H {S with heap:=h5.update S.heap.objs.size (Obj.mapSeq λ_=>QI (p.toList.map λi=>Y.getD i QG)),toks:=S.toks}:=I5.alter (s:= {S with heap:=h5,toks:=S.toks}) Wa Z (λv z=>by cases z) λb u hb z=>(a6.2 b hb).trans z;show jN (hP p _ C B (I6.track Wa (I6.cellne hg λv z=>by cases z) ?_));show(by rw[jO,Qq];lia,p.toList.map λi=>Y.getD i QG,c2,?_,hg);show NG rv p.toList λi hi=>QA.mp (C.mem_iff.mp hi)
 dsimp only;have a1:∀(p:Array Nat) q,LS.Pm (Qa Y) p->LS.Up r p (Qa Y)->Inv X Zc σ (upd H S.heap.objs.size (.lst (p.toList.map λi=>x.getD i .non))) q->EP X Zc σ Q (.ref S.heap.objs.size) q:=λp q C B J=>(.ref S.heap.objs.size,_,J,rfl,h _ p Wa.free (by rw[lv];show C) (by rw[lv];show B));by_cases g:Y.toArray.size<2
 .rw[Zx g,Zx g];show jM (jN ?_);rw[StateT.run_pure];show jM (jN ?_);rw[j7]at g;show tail _ (λp q C B J=>(_,rfl,jN (_,rfl,a1 p q C B J))) _ (QI (Qi (Qa Y))) (by unfold LS.Pm;simp) (λi j a9 hj=>?_) ?_ rfl
  .have:i=j:=⋯
   subst this;show Uv _
  have e:=WM (Y.toArray.zip Y.toArray);rw[show(Y.toArray.zip Y.toArray).size=Qa Y by simp]at e;show e.symm
 rw[Zo g,Zo g];rw[j7]at g;have U:=a4 _ Y I5 rv;rw[lv]at U;show jM (D _ Y _ _ I5 rv ⋯ ?_);rw[lv]at hS;show jM (uE (hS _ E κ _ Y Y rfl rfl ⋯ U) ?_ λ_ _ z=>z);rintro⟨⟨⟩,st'⟩ q ⟨rfl,p,q1,q2,q3,q4⟩;show tail _ (λp q C B J=>(_,rfl,jN (_,rfl,a1 p q C B J))) st' p q1 q2.1 q3 q4
theorem F7{Q:VK}{E:ZW}{a:jP}{x:ZE}{κ:vm}{O:vV}{key:Nat->O.α}(d:X.calm=true)(I:Inv X Zc σ H s)(f:Src X.K H a x)(u:Qa x<=100000)(Y:Aj X.prog X.w key (Qa x))
 (q:∀S v (E:ZW) (j:vm->jQ->Prop),Inv X Zc σ H S->ZQ x v->2<=Qa x->j κ S->jS (Z2 X) X.A.in1.in1 (Qbs v.toArray) j E S)
 (J:∀S v,Inv X Zc σ H S->ZQ x v->LS.EY key (Qa x) (λt=>t=S) (QaS X.prog X.w X.A.in1.in1 κ v))
 (h:∀l (p:Array Nat),H l=Qs->LS.Pm (Qa x) p->LS.Up key p (Qa x)->Q (.ref l) (upd H l (.lst (p.toList.map λi=>x.getD i .non)))):
 jS (Z2 X) X.A (call (.builtin "sorted") [.ref a]) (EP X Zc σ Q) E s:=by
 show t7 (κ:=κ) (O:=O) d (I.ok.hd d) λA E B=>sF I B f ⋯ λv y z r k=>(x,key,I.kept k,r,u,Y,q,J,h)
theorem LH{P:List (Zg)}{n:Nat}{p:Array Nat}(C:LS.Pm n p)(B:LS.Up (O:=strKind.toKeyOrd) (λi=>P.getD i []) p n):p.toList.Pairwise (λi j=>P.getD i []<=P.getD j []):=by
 have q:=C.size;show Ul.mpr λi j m u H=>?_;rw[Qq]at m u;have:=B i j (Ua H) ⋯;have g:LS.gt p i=p.toList[i]:=by unfold LS.gt;rw[QV];simp[m]
 have r:LS.gt p j=p.toList[j]:=by unfold LS.gt;rw[QV];simp[u]
 rw[g,r]at this;have this:decide (P.getD p.toList[j] []<P.getD p.toList[i] [])=false:=this;show Q1.mp (of_decide_eq_false this)
end
section
theorem PFs.imp(h:PFs X ifs t)(m:∀D H Q,t' D H Q->∃Y:Bool->Hp->Prop,t D H Y/\∀b J,Y b J->Q b J):PFs X ifs t':=λz s D H Q I q=>by show Zf (m D H Q q) λY p x=>?_;show thn (h z s D H Y I p) λb S f=>Zf f λE M q=>(E,M,x b E q)
def yK(M:TT)(t:TE)(D:St)(d:ZE)(N:Hp->ZE->Prop)(H:Hp):Prop:=M D H λb Y=>if b=true then t D Y λy j=>N j (d++[y])else N Y d
def AD(t:TE):TE:=λD H Q=>∃q:VK,t D H q/\∀v I,q v I->Q v I
def AE(t:TT):TT:=λD H Q=>∃q:Bool->Hp->Prop,t D H q/\∀b I,q b I->Q b I
theorem dP{N N':Hp->ZE->Prop}(d:∀H a,Qa a<=Qa acc+1->N H a->N' H a)(h:yK tc te σ acc N H):yK (AE tc) (AD te) σ acc N' H:=by
 show(_,h,λb Y q=>?_)
 cases b with
 |true=>show(_,q,λy j Q=>d _ _ (by simp) Q)
 |false=>show d _ _ ⋯ q
def tCR(n:Nat)(C:List (Str×Nat))(t:TA)(M:TT)(g:TE):TE:=λD H Q=>t D H λv E=>aI (λj=>a0 (
 (-(2 ^ 62)<=j/\j<16777216)/\∃p:Nat->Hp->ZE->Prop,p 0 E []/\(∀i O d,i<j.toNat->p i O d->yK M g ((eX n C D).set 0 (Qr (.int i))) d (p (i+1)) O)/\∀O d,p j.toNat O d->∀l,O l=Qs->Q (.ref l) (upd O l (.lst d))
 )) v
def tCL(K:Qb)(n:Nat)(C:List (Str×Nat))(tl:TE)(M:TT)(t:TE):TE:=λD H Q=>tl D H λv E=>match v with
 | .ref a=>∃x,SqL K E a x/\Qa x<16777216/\∃p:Nat->Hp->ZE->Prop,p 0 E []/\(∀i O d,i<=Qa x->p i O d->SqL K O a x)/\(∀i y O d,x[i]?=Qr y->p i O d->yK M t ((eX n C D).set 0 (Qr y)) d (p (i+1)) O)/\∀O d,p (Qa x) O d->∀l,O l=Qs->Q (.ref l) (upd O l (.lst d))
 |_=>False
theorem BJ{E iter:uI}{r:List uI}{x:Str}{px:Pos}{S:Scope}{pos:Pos}{P:List (Str×jP)}{own:ZT}
 {cp:List (Str×Nat)} {tl:TE} {U:TT} {t:TE} (K:Qb) (g:gx X S P) (hl:PE X iter tl) (ht:wx X S P own cp r U) (he:o7 X S P own cp E t)
 (hK:autoParam (X.K=K) ZF) (hc:autoParam (X.calm=true) ZF) (hk:autoParam (S.kind=.function) ZF) (Y:autoParam (∀y∈S.names,y.2≠ .cell) gw) (a1:autoParam (o6 S) gw) (j:autoParam (Jp X S cp) Cc) (hn:autoParam (0<Qa own) z8)
 (hg:autoParam (o9 X S P own cp (.Name x px) 0) Ce) (hs:autoParam (∀z,ue iter X.env z=pure z) qK)
 :PE X (.ListComp E [(.Name x px,iter,r,0)] S pos) (tCL K (Qa own) cp tl U t):=by
 subst hK;have B:PE X iter (λJ H Q=>∃Q0:VK,tl J H Q0/\∀v H',Q0 v H'->Q v H'):=hl.imp λJ H Q h=>h;intro Zc s J H Q I h;show iS hc g hk Y a1 j (mJ B) (rQ hn) hg (λR C s H=>(ht R C s H).imp (t':=AE U) λ_ _ _ z=>z) (λR C s H=>(he R C s H).imp (t':=AD t) λ_ _ _ z=>z) hs Zc s J H Q I ?_;show(_,h,λv H1 q=>?_)
 cases v with
 |ref a=>
  show Zz q λd hx hz Z=>zh Z λPv p0 pl ps pe=>?_;clear Z q;have a3:sizeLine=16777216:=jT;show(a,rfl,(d,hx),λi m O f=>m=Qa d-i/\i<=Qa d/\Qa f<=i/\Pv i O f,(Qa d,⋯,Qo _,Qg _,p0),?_);show λi m O f Z=>za Z λu hi a4 p=>?_;clear Z;subst u;show(⋯,?_);have D:=pl i O f hi p;by_cases M:i<Qa d
  .show .inr ((d,d[i],D,by simp[M]),λy H3 a2=>?_);obtain⟨e3,ey⟩:=a2;subst e3;show dP (N':=λH a=>∃m',m'<Qa d-i/\(m'=Qa d-(i+1)/\i+1<=Qa d/\Qa a<=i+1/\Pv (i+1) H a)) (λH a ha z=>(Qa d-(i+1),⋯,rfl,M,⋯,z)) (ps i y H3 f (ey d D) p)
  have e:i=Qa d:=⋯
  subst e;show .inl ((d,D,Qg _),λl B=>pe O f p l B)
 |_=>show False.elim q
end
theorem Cz(h:i<Qa (L z)):z.cps[i]?=Qr ((L z).getD i 0):=by
 unfold L at h ⊢
 rw[Qq]at h;rw[Qc,Um,QO h];rfl
section
variable{X:Cx}{tg:uI}
def Mq(z:Str)(g:TG)(t:TS):TS:=λD E H=>∃p:Nat->St->Hp->Prop,p 0 E H/\(∀i E H,i<Qa (L z)->p i E H->g (.str (T [(L z).getD i 0])) E H λj O=>t {nx:=p (i+1),rt:=D.rt,bk:=D.nx,ct:=p (i+1)} j O)/\∀E H,p (Qa (L z)) E H->D.nx E H
end
section
variable{κ:Type}[DecidableEq κ]
noncomputable def qw(y:List (κ×V))(k:κ):Option V:=(y.find? λU=>decide (U.1=k)).map (·.2)
noncomputable def cE(y:List (κ×V))(k:κ)(v:V):List (κ×V):=
 if(y.any λU=>decide (U.1=k))=true then y.map (λU=>if U.1=k then Prod.mk U.1 v else U)else y++[(k,v)]
noncomputable def NW(y:List (κ×V))(k:κ):List (κ×V):=y.filter λU=>decide (U.1≠k)
theorem JB{p:κ×V}{r:List (κ×V)}{k:κ}(e:p.1=k):qw (p::r) k=Qr p.2:=by simp[qw,Uj,e]
theorem qt{p:κ×V}{r:List (κ×V)}{k:κ}(e:¬p.1=k):qw (p::r) k=qw r k:=by simp[qw,Uj,e]
theorem wj(k:κ):∀y:List (κ×V),(y.any λU=>decide (U.1=k))=(qw y k).isSome
 |[]=>rfl
 |p::r=>by rw[Vw];by_cases e:p.1=k;simp only[JB e,decide_eq_true e,Bool.true_or,Option.isSome_some];rw[qt e,decide_eq_false e,Bool.false_or];show wj k r
theorem pJ(y:List (κ×V))(k:κ)(v:V):Qa (cE y k v)<=Qa y+1:=by unfold cE;split;rw[jO];lia;rw[jR,jV,uC];lia
theorem K2{y:List (κ×V)}{k:κ}(v:V)(h:qw y k=Qs):cE y k v=y++[(k,v)]:=by unfold cE;rw[wj,h];show Zo ∅
theorem iZ.isSome_eq(r:iZ o u):o.isSome=u.isSome:=by
 cases o with
 |none=>cases u with
  |none=>rfl
  |some _=>show(show False from r).elim
 |some _=>cases u with
  |none=>show(show False from r).elim
  |some _=>rfl
theorem KV.val{y:List (κ×V)}{v:List (κ×Value)}(r:KV y v)(k:κ):iZ (qw y k) (valueAt v k):=by
 unfold KV at r
 induction r with
 |nil=>show True.intro
 |@cons p q P Q h t d=>
  obtain⟨H,I⟩:=h;by_cases e:p.1=k
  .have E:q.1=k:=H.symm.trans e;have b:valueAt (q::Q) k=Qr q.2:=by simp[valueAt,Uj,E]
   rw[JB e,b];show I
  have E:¬q.1=k:=λz=>e (H.trans z);have b:valueAt (q::Q) k=valueAt Q k:=by simp[valueAt,Uj,E]
  rw[qt e,b];show d
theorem KV.any(r:KV kvs vs)(k:κ):(kvs.any λU=>decide (U.1=k))=vs.any λU=>decide (U.1=k):=by
 unfold KV at r
 induction r with
 |nil=>rfl
 |cons h t I=>rw[Vw,Vw,I,h.1]
theorem KV.repl(r:KV kvs vs)(k:κ)(R:zf y u):
 KV (kvs.map λU=>if U.1=k then Prod.mk U.1 y else U) (vs.map λU=>if U.1=k then Prod.mk U.1 u else U):=by
 unfold KV at r ⊢
 induction r with
 |nil=>show .nil
 |@cons p q P Q h t d=>
  rw[uo,uo];show .cons ?_ d;obtain⟨H,I⟩:=h;by_cases e:p.1=k;rw[Zx e,Zx (H.symm.trans e)];show(H,R);rw[Zo e,Zo (λz=>e (H.trans z))];show(H,I)
theorem KV.put(r:KV kvs vs)(k:κ)(R:zf y u):KV (cE kvs k y) (stored vs k u):=by unfold cE stored;rw[r.any k];by_cases e:(vs.any λU=>decide (U.1=k))=true;rw[Zx e,Zx e];show r.repl k R;rw[Zo e,Zo e];show Paired.snoc r (rfl,R)
theorem KV.drop(r:KV kvs vs)(k:κ):KV (NW kvs k) (without vs k):=by
 unfold KV at r ⊢
 unfold NW without
 induction r with
 |nil=>show .nil
 |@cons p q P Q h t I=>
  obtain⟨H,J⟩:=h;rw[jh,jh];by_cases e:p.1=k
  .have a:¬decide (p.1≠k)=true:=by simp[e]
   have b:¬decide (q.1≠k)=true:=by simp[H.symm.trans e]
   rw[Zo a,Zo b];show I
  have E:¬q.1=k:=λz=>e (H.trans z);have a:decide (p.1≠k)=true:=by simp[e]
  have b:decide (q.1≠k)=true:=by simp[E]
  rw[Zx a,Zx b];show .cons (H,J) I
theorem KV.length(r:KV kvs vs):Qa kvs=Qa vs:=Paired.length r
end
theorem xt(r:zf (kV k) u):(YK P w).is k u=true:=by
 cases k with
 |inl i=>obtain⟨t,e⟩:=(show ∃t,u=VL i t from r);subst e;show Bt P w i t
 |inr x=>obtain⟨t,e⟩:=(show ∃t,u=Vh x t from r);subst e;show Bu P w x t
theorem xr:∀{p:List Key} {u:ZY},ZQ (p.map kV) u->ItemsAre (YK P w) p u
 |[],_,r=>by rw[QaR]at r;cases r;show .nil
 |k::p,_,r=>by
  rw[uo]at r
  cases r with
  |cons h t=>show .cons (xt h) (xr t)
abbrev KT(H:Hp):List (List Key×V)->List (List Key×jP×Value)->Prop:=Paired λp q=>p.1=q.1/\H q.2.1=Qr (.tup (p.1.map kV))/\zf p.2 q.2.2
theorem KT.val{H:Hp}{y:List (List Key×V)}{x:List (List Key×jP×Value)}(r:KT H y x)(k:List Key):iZ (qw y k) ((atKey x k).map (·.2)):=by
 induction r with
 |nil=>show True.intro
 |@cons p q P Q h t d=>
  show ZL h λB _ I=>?_;by_cases e:p.1=k
  .have E:q.1=k:=B.symm.trans e;have b:atKey (q::Q) k=Qr q.2:=by simp[atKey,Uj,E]
   rw[JB e,b];show I
  have E:¬q.1=k:=λz=>e (B.trans z);have b:atKey (q::Q) k=atKey Q k:=by simp[atKey,Uj,E]
  rw[qt e,b];show d
section
theorem N8(ok:HOk P w H h)(e:Rd H a u):Yn P w H h a u:=e.ok ok
theorem AN(ok:HOk P w H h)(e:Rd H a (.dK kvs)):Qa kvs<=sizeLine/\(a==vM)=false/\∃v,KV kvs v/\h.DictOf (YK P w) a v:=
 show Yn P w H h a (.dK kvs)from N8 ok e
theorem T5(ok:HOk P w H h)(e:H a=Qr (.dK kvs)):Qa kvs<=sizeLine/\(a==vM)=false/\∃v,KV kvs v/\h.DictOf (YK P w) a v:=AN ok (.inl e)
theorem CQ(ok:HOk P w H h)(e:H a=Qr (.tup (ks.map kV))):(tupleKind (YK P w)).is h ks a:=by show ZI ((show Yn P w H h a (.tup (ks.map kV))from ok a _ e)) λ_ z=>Zf z λI r z=>Zz z λo x J z=>zI z λn Q=>(o,I.toArray,n,x,J,Q,by simpa using xr r)
theorem D9(ok:HOk P w H h)(e:Rd H a (.dT kvs)):Qa kvs<=sizeLine/\(a==vM)=false/\
 ∃x,KT H kvs x/\h.DictOfH (tupleKind (YK P w)) a x:=by
 show False.elim (show Yn P w H h a (.dT kvs)from N8 ok e)
end
def DGet(H:Hp)(a:jP)(y:V)(r:Option V):Prop:=
 (∃z k,Rd H a (.dK z)/\y=kV k/\r=qw z k)\/∃z k b,Rd H a (.dT z)/\y=.ref b/\H b=Qr (.tup (k.map kV))/\r=qw z k
def GH(H:Hp)(a:jP)(y v:V)(I:Hp):Prop:=
 (∃z k,H a=Qr (.dK z)/\y=kV k/\Qa z<sizeLine/\I=upd H a (.dK (cE z k v)))\/
 ∃z k b,H a=Qr (.dT z)/\y=.ref b/\H b=Qr (.tup (k.map kV))/\Qa z<sizeLine/\I=upd H a (.dT (cE z k v))
theorem DGet.k{H:Hp}{a:jP}{y:List (Key×V)}{k:Key}(e:H a=Qr (.dK y)):DGet H a (kV k) (qw y k):=.inl (y,k,.inl e,rfl,rfl)
theorem GH.k{H:Hp}{a:jP}{y:List (Key×V)}{k:Key}{v:V}(e:H a=Qr (.dK y))(O:Qa y<sizeLine):GH H a (kV k) v (upd H a (.dK (cE y k v))):=.inl (y,k,e,rfl,O,rfl)
section
variable{E:ZW}
theorem Inv.big(I:Inv X Zc σ H s):vM<s.heap.objs.size:=by have h:jX<s.heap.objs.size:=(I.mod.glob.keeps I.bk).lt;show WG ∅ h
theorem E8{Q:ZW}(D:A.units+1<cLine)(I:Inv X Zc σ H s)(g:DGet H a y (Qr v))(R:zf y u)(h:∀t S,Inv X Zc σ H S->zf v t->Q t S):
 jS (Z2 X) A (Qbk (.ref a) u) Q E s:=by
 rcases g with⟨B,k,e,f,l⟩|⟨B,k,b,e,f,J,l⟩
 .subst f;show ZL (AN I.hok e) λz hd Z=>Zf Z λj rel d=>?_;clear Z;show Zf (iZ.some_of (v:=v) (o:=valueAt j k) (by rw[l];show rel.val k)) λt U r=>wpAny_getItem_of (xt R) d.mapOf U (h t _ (I.tok _) r)
 subst f;cases(show u=Qw b from R);show ZL (D9 I.hok e) λz hd Z=>Zf Z λx rel d=>?_;clear Z;show Zf (iZ.some_of (v:=v) (o:=(atKey x k).map (·.2)) (by rw[l];show rel.val k)) λt U r=>?_;show Zf (Qv.mp U) λp C Y=>?_;show wpAny_getItem_heap (QaZ D) (CQ I.hok J) d C ?_;rw[Y];show h t _ (I.tok _) r
theorem Zak{Q:ZW}(C:A.units+1<cLine)(I:Inv X Zc σ H s)(g:DGet H a y o)(r:zf y u)(h:∀S,Inv X Zc σ H S->Q (.bool o.isSome) S):
 jS (Z2 X) A (uD .In u (.ref a)) Q E s:=by
 rcases g with⟨B,k,e,f,l⟩|⟨B,k,b,e,f,J,l⟩
 .subst f;show ZL (AN I.hok e) λz hd Z=>Zf Z λv rel d=>?_;clear Z;show wpAny_in_of (xt r) hd d.mapOf ?_;rw[<-(rel.val k).isSome_eq,<-l];show h _ (I.tok _)
 subst f;cases(show u=Qw b from r);show ZL (D9 I.hok e) λz hd Z=>Zf Z λx rel d=>?_;show wpAny_in_heap (QaZ C) (CQ I.hok J) hd d ?_;have q:=(rel.val k).isSome_eq;rw[Va]at q;rw[<-q,<-l];show h _ (I.tok _)
theorem Ml{Q:ZW}(C:A.units+1<cLine)(I:Inv X Zc σ H s)(g:DGet H a y o)(r:zf y u)(h:∀S,Inv X Zc σ H S->Q (.bool (!o.isSome)) S):
 jS (Z2 X) A (uD .NotIn u (.ref a)) Q E s:=by
 rcases g with⟨B,k,e,f,l⟩|⟨B,k,b,e,f,J,l⟩
 .subst f;show ZL (AN I.hok e) λz hd Z=>Zf Z λv rel d=>?_;clear Z;show wpAny_notIn_of (xt r) hd d.mapOf ?_;rw[<-(rel.val k).isSome_eq,<-l];show h _ (I.tok _)
 subst f;cases(show u=Qw b from r);show ZL (D9 I.hok e) λz hd Z=>Zf Z λx rel d=>?_;show wpAny_notIn_heap (QaZ C) (CQ I.hok J) hd d ?_;have q:=(rel.val k).isSome_eq;rw[Va]at q;rw[<-q,<-l];show h _ (I.tok _)
theorem Mm(I:Inv X Zc σ H s)(m:Mut (H a))(g:Heap.SameBut a s.heap B)(y:∃q,B.get? a=Qr q)(new:Yn X.prog X.w (upd H a ob) B a ob):
 Inv X Zc σ (upd H a ob) {s with heap:=B,toks:=p}:=
 I.write (x:=a) (e:=a) m (.inl rfl) (λb q S z=>(g.2 b S).trans z) y new
theorem Pd(z:Qa kvs<=sizeLine)(hd:(a==vM)=false)(r:KV kvs vs)(d:h'.DictOf (YK P w) a vs):
 Yn P w H' h' a (.dK kvs):=(z,hd,vs,r,d)
theorem E9{Q:Unit->jQ->Prop}(M:A.units+1<cLine)(I:Inv X Zc σ H s)(g:GH H a y v H')(R:zf y u)(p:zf v r)(h:∀S,Inv X Zc σ H' S->Q () S):
 jS (Z2 X) A (setItem (.ref a) u r) Q E s:=by
 rcases g with⟨B,k,e,f,l,J⟩|⟨B,k,b,e,f,P,l,J⟩
 .subst f J;show ZL (T5 I.hok e) λz hd Z=>Zf Z λY rel m=>?_;clear Z;have D:Qa Y<=sizeLine:=by rw[<-rel.length];show z
  have O:Qa (cE B k v)<=sizeLine:=by have:=pJ B k v;lia
  show wpAny_setItem_pairs (hsz:=D) (xt R) m λC d j=>h _ ?_;have x:∃q,C.get? a=Qr q:=let (q,_,_,hq,_):=d;(q,hq);show Mm I (by rw[e];show True.intro) j x (Pd O hd (rel.put k p) d)
 show False.elim (show Yn X.prog X.w H s.heap a (.dT B)from I.hok a _ e)
end
def OH(i:uI):Prop:=∀O I,Qbc i false O I=operate [O,I] (Qbk O I)
theorem NA{prog:j8}{w:uj}{A:uv}{E:ZW}{s:jQ}{env:Env}{v S:uI}{pos:Pos}{T id:String}{Q:ZW}
 (O:vY (.type T) "__getitem__"=pure (Qr (.builtin id))) (g:OH S)
 (h:jS (ud prog w) A (eval v env) (λo R=>jS (ud prog w) A (eval S env) (λi d=>d.TypeIs o T/\jS (ud prog w) A (Qbk o i) Q E d) E R) E s):
 jS (ud prog w) A (eval (.Subscript v S pos) env) Q E s:=by
 show Subscript_ (uE h (λo R p=>uE p (λi d H=>?_) λ_ _ x=>x) λ_ _ x=>x);obtain⟨j,H⟩:=H;unfold subscriptTail;show jM ?_;rw[getitemInPython_of_ne j.not_modules];show jM (vy j O ?_);have f:jS (ud prog w) A (Qbc S false o i) (λr m=>jS (ud prog w) A (letTemporaryGo v o r >>=λ_=>pure r) Q E m) E d:=by rw[g o i];show wpAny_operating (uE H (λr m I=>jM (wpAny_letTemporaryGo (jN I))) λ_ _ x=>x)
 first
  |show jN (jM f)
  |show jM (jN (jM f))
  |show jM f
theorem AM(I:Inv X Zc σ H s)(g:DGet H a y o):s.TypeIs (.ref a) "dict":=by
 rcases g with⟨B,k,e,_,_⟩|⟨B,k,b,e,_,_,_⟩;show ZL (AN I.hok e) λ_ _ z=>Zf z λv _ d=>d.typeIs
 show ZL (D9 I.hok e) λ_ _ z=>Zf z λx _ d=>d.typeIs
def Lo(t ty:TE):TE:=λD H Q=>t D H λx E=>ty D E λy O=>∃a v,x=.ref a/\DGet O a y (Qr v)/\Q v O
def XU(ty t:TE):TE:=λD H Q=>ty D H λy E=>t D E λx O=>∃a o,x=.ref a/\DGet O a y o/\Q (.bl o.isSome) O
def EN(ty t:TE):TE:=λD H Q=>ty D H λy E=>t D E λx O=>∃a o,x=.ref a/\DGet O a y o/\Q (.bl (!o.isSome)) O
def N9(t ty u:TE):TS:=λD E H=>u E H λv I=>t E I λx O=>ty E O λy Y=>∃a j,x=.ref a/\GH Y a y v j/\D.nx E j
section
theorem M0(B:X.A.units+1<cLine)(t:PE X o td)(m:PE X i ty)(j:OH i):PE X (.Subscript o i pos) (Lo td ty):=by intro Z s D H Q I h;show NA PySem.F.slot_dict_getitem.lookup j (thn (t Z s D H _ I h) λu S f=>Zy f λx E J M q=>?_);clear f;show thn (m Z S D E _ J q) λiv C z=>Zy z λy O R U Y=>Zy Y λa v ex g p=>?_;clear z;subst ex;obtain rfl:u=Qw a:=M;show(AM R g,E8 B R g U λw' P d r=>(v,O,d,r,p))
theorem KD(B:X.A.units+1<cLine)(m:PE X i ty)(t:PE X o td):PC X .In i o (XU ty td):=by intro z s D H Q I h;show thn (m z s D H _ I h) λP S M=>Zy M λy E J R q=>?_;clear M;show thn (t z S D E _ J q) λu v d=>Zy d λx O U r Z=>Zy Z λa p ex g j=>?_;clear d;subst ex;obtain rfl:u=Qw a:=r;show Zak B U g R λC f=>(.bl p.isSome,O,f,rfl,j)
theorem xB(B:X.A.units+1<cLine)(m:PE X i ty)(t:PE X o td):PC X .NotIn i o (EN ty td):=by intro z s D H Q I h;show thn (m z s D H _ I h) λP S v=>Zy v λy E J R q=>?_;clear v;show thn (t z S D E _ J q) λu p M=>Zy M λx O U r Z=>Zy Z λa f ex g j=>?_;clear M;subst ex;obtain rfl:u=Qw a:=r;show Ml B U g R λC d=>(.bl (!f.isSome),O,d,rfl,j)
theorem r0(hu:X.A.units+1<cLine)(B:PE X o td)(m:PE X i ty)(Y:PE X value tv)(j:vZ value (Qr (.Subscript o i pos')) pos.line X.env=pure false):
 PS X (.Assign [.Subscript o i pos'] value pos) (N9 td ty tv):=by
 intro z s E H D I h;show wpAny_Assign_Subscript (thn (Y z s E H _ I h) λr S d=>Zy d λv J P C q=>?_) j;clear d;show thn (B z S E J _ P q) λu p t=>Zy t λx O f R Q=>?_;clear t;show thn (m z p E O _ f Q) λiv s3 M=>Zy M λy H3 I3 U Z=>Zy Z λa H4 ex g q3=>?_;clear M;subst ex;obtain rfl:u=Qw a:=R;show E9 hu I3 g U C λs4 I4=>(E,H4,I4,q3)
end
theorem HY(h:Heap)(S:vM<h.objs.size):Yn P w H (h.push {cls:=.type "dict",data:=.dict #[]}) h.objs.size (.dK []):=
 (Qo _,beq_eq_false_iff_ne.mpr (Ne.symm (Qu S)),[],.nil,Heap.DictOf.new h)
def Lp:TE:=λ_ H Q=>∀p,H p=Qs->Q (.ref p) (upd H p (.dK []))
section
theorem BL:PE X (.Dict [] [] pos) Lp:=λz s D H Q I h=>
 wpAny_Dict_empty (.ref s.heap.objs.size,_,I.laid (a:=s.heap.objs.size) (o:=.dK []) (t':=s.toks) (λ_ _ q=>Qf _ q) (Qg _) (HY s.heap I.big),rfl,h _ (I.hok.fresh (Qg _)))
end
end L2
namespace LP
open PySem L2
theorem af{α:Type}(l:List α)(i:Nat):cut l (Qr (i:Int)) Qs=l.drop i:=by unfold cut;change(l.drop (if(i:Int)<0 then((i:Int)+(Qa l:Int)).toNat else min (i:Int).toNat (Qa l))).take (Qa l-(if(i:Int)<0 then((i:Int)+(Qa l:Int)).toNat else min (i:Int).toNat (Qa l)))=l.drop i;rw[Zo ⋯,Qj];by_cases h:i<=Qa l;rw[Q5 h,QL (by rw[uf];lia)];rw[U6 ⋯,UA (Qg _),UA ⋯];simp
theorem fQ{α:Type}(f:Nat->α){m i:Nat}(d:α)(h:i<m):((Qi m).map f).getD i d=f i:=by rw[Qc,Qm,Ux h];rfl
theorem Nm(n:Nat):mP 0 ((n:Int)+1)=(Qi (n+1)).map λj:Nat=>V.int j:=by unfold mP;rw[show(((n:Int)+1)-0).toNat=n+1 by lia];show uM λj _=>?_;rw[WJ]
end LP
namespace L2
open PySem PySem.Spec PyProof.Rows
structure Md(P:j8)(w:uj)(K:Qb)(mg:z9)(base:Heap)(CX:CXT)(k:Nat)(C:jP)(m:Str)(ps:ZT)(dvs:ZE)(sp:Sp):Prop where
 ex:∃f fd ds,Z0 P w K mg base CX k f fd ps sp/\OG K C m f/\bL K fd ps ds/\ZQ dvs ds
 cls:Cls K C
structure Mkr(P:j8)(w:uj)(K:Qb)(mg:z9)(base:Heap)(CX:CXT)(k:Nat)(x:Str)(C:jP)(ps:ZT)(dvs:ZE)(sp:Sp):Prop where
 ex:∃f fd ds,Z0 P w K mg base CX k f fd ps sp/\Mk K C f/\bL K fd ps ds/\ZQ dvs ds
 at_:mg x=Qr (.ref C)
section
variable{P:j8}{w:uj}{K:Qb}{mg:z9}{base:Heap}{CX:CXT}{j k:Nat}{C:jP}{x m:Str}{ps:ZT}{dvs:ZE}{sp:Sp}
theorem yR(F:Z0 P w K mg base (CX1 P w) k f fd ps sp):Z0 P w K mg base CX0 k f fd ps (λv H Q _=>sp v H Q E0):=by
 show(λv H Q E h=>F.len v H Q E0 h,λA outer s H args u v Q E Y d S R h=>?_);show uR (F.run A outer s H args u v Q E0 Y d S R h) λr p q=>?_
 cases r with
 |error e=>show(AK q).elim
 |ok I=>cases I<;>show q
theorem Md.quiet(M:Md P w K mg base (CX1 P w) k C m ps dvs sp):Md P w K mg base CX0 k C m ps dvs (λv H Q _=>sp v H Q E0):=by show Jo M.ex λf g d F r=>((f,g,d,yR F,r),M.cls)
theorem Mkr.quiet(M:Mkr P w K mg base (CX1 P w) k x C ps dvs sp):Mkr P w K mg base CX0 k x C ps dvs (λv H Q _=>sp v H Q E0):=by show Jo M.ex λf g d F r=>((f,g,d,yR F,r),M.at_)
end
section
theorem mI(M:Md X.prog X.w X.K X.mg X.base CX0 k C m ps dvs sp)(Y:YN j X.A)(x:PE X o ta)(I:PA X (e::es) t)(p:autoParam (k<=j) z8)
 (H:autoParam (kc X e es) ZF) (S:autoParam (rL X pos es) ZF)
 (q:autoParam (eval (.Call (.Attribute o m apos) (e::es) [] pos) X.env=(do
  let O <-eval o X.env
  Qbi apos.atName
  let (f,first) <-Qag [O] (Qa8 O m pl)
  callWith pos f first (v8 pos (uc (e::es) X.env)) (QaP pos (Qad [] X.env)))) ZF):PE X (.Call (.Attribute o m apos) (e::es) [] pos) (Lv C m sp dvs E0 ta t):=by
 show cD M.ex λf g d F Z U hd=>M4 x M.cls Z F (Y.mono p) U hd BI I H S q
theorem XD(M:Mkr X.prog X.w X.K X.mg X.base CX0 k x C ps dvs sp)(Y:YN (k+1) X.A)(I:PA X (e::es) t)(Q:autoParam (Gl X x) ZF)(H:autoParam ((x==("__debug__":Str))=false) z8)
 (y:autoParam (kc X e es) ZF) (S:autoParam (rL X pos es) ZF):PE X (.Call (.Name x p) (e::es) [] pos) (B6 C sp dvs E0 t):=by
 show cD M.ex λf g d F Z U hd=>M1 Z F Y Q M.at_ U hd BI I H y S
variable{F:St->XK}
theorem Tk.at(T:Tk X F):∀(z:zN) (H:Hp) (s:jQ) (e:Value) (S:jQ),Inv X z σ H s->CX1 X.prog X.w X.stack H s (F σ) e S->X.xe e S:=λz H s e S I h=>T.pass z σ H s e S I h
theorem Nq(T:Tk X F)(G:Z0 X.prog X.w X.K X.mg X.base (CX1 X.prog X.w) k f fd ps sp)(Y:YN k X.A)(S:bL X.K fd ps ds)(hd:ZQ dvs ds)
 (I:Inv X Zc σ H s) (r:ZQ vs us) (h:sp (vs++dvs) H Q (F σ)):jS (Z2 X) X.A (call (.ref f) us) (EP X Zc σ Q) X.xe s:=by
 have R:ZQ (vs++dvs) (us++ds):=r.append hd;have O:Qa (us++ds)=Qa ps:=by rw[<-R.length];show G.len _ _ _ _ h
 show vL (uR (G.run X.A X.stack s H (us,[]) (us++ds) (vs++dvs) Q (F σ) Y I.env0 (S s us I.kIn O) R h) λr j M=>?_)
 cases r with
 |error e=>show T.pass Zc σ H s e j I M
 |ok J=>
  cases J with
  |ret u=>show I.after M
  |next=>show False.elim M
  |brk=>show False.elim M
  |cont=>show False.elim M
def Lw(F:St->XK)(C:jP)(m:Str)(j:Sp)(d:ZE)(u:TE)(t:TA):TE:=λD H Q=>u D H λx E=>∃a S f,x=.ref a/\E a=Qr (.ins C S f)/\f.lookup m=Qs/\t D E λv O=>j (x::(v++d)) O Q (F D)
theorem iw(T:Tk X F)(M:Md X.prog X.w X.K X.mg X.base (CX1 X.prog X.w) k C m ps dvs sp)(P:YN j X.A)(he:PE X o ta)(ha:PA X (e::es) t)(p:autoParam (k<=j) z8)
 (d:autoParam (kc X e es) ZF) (S:autoParam (rL X pos es) ZF)
 (ht:autoParam (eval (.Call (.Attribute o m apos) (e::es) [] pos) X.env=(do
  let O <-eval o X.env
  Qbi apos.atName
  let (f,first) <-Qag [O] (Qa8 O m pl)
  callWith pos f first (v8 pos (uc (e::es) X.env)) (QaP pos (Qad [] X.env)))) ZF):PE X (.Call (.Attribute o m apos) (e::es) [] pos) (Lw F C m sp dvs ta t):=by
 show cD M.ex λf fd ds G Z B hd=>?_;intro z s D H Q I h;show methodCall_KW (pl:=pl) (thn (he z s D H _ I h) λu s1 g=>Zy g λx E J rx y=>cD y λa dx fs ex ea l q=>?_) ht;clear g;subst ex;obtain rfl:u=Qw a:=rx;show sP J ea M.cls Z l ?_;show Qao (first:=[.ref a]) (h₀:=X.base) I.ok.mod.kin Z.kp (thn (ha pos z s1 D E _ J q) λU s2 v=>Zy v λY H2 R r q2=>?_) d S;clear v;show(R.kIn,?_);show Nq (us:=.ref a::U) (vs:=.ref a::Y) T G (P.mono p) B hd R (.cons rfl r) q2
def Ls(F:St->XK)(C:jP)(S:Sp)(D:ZE)(t:TA):TE:=λI H Q=>t I H λY E=>∀x d,E x=Qs->E d=Qs->d≠x->
 S (.ref x::(Y++D)) (upd (upd E d (.own x)) x (.ins C d [])) (λv O=>v=.non/\Q (.ref x) O) (F I)
theorem yM(T:Tk X F)(M:Mkr X.prog X.w X.K X.mg X.base (CX1 X.prog X.w) k x C ps dvs sp)(hr:YN (k+1) X.A)(ha:PA X (e::es) t)(hg:autoParam (Gl X x) ZF)(y:autoParam ((x==("__debug__":Str))=false) z8)
 (he:autoParam (kc X e es) ZF) (g:autoParam (rL X pos es) ZF):PE X (.Call (.Name x p) (e::es) [] pos) (Ls F C sp dvs t):=by
 show cD M.ex λf fd Z G Y E hd=>?_;intro m s D H Q I h;show uJ (da I hg M.at_ ?_ y);show Qao (h₀:=X.base) I.ok.mod.kin Y.kp (thn (ha pos m s D H _ I h) λU S d=>Zy d λj H1 J r q=>?_) he g;clear d;show(J.kIn,?_);have O:=q (S.heap.objs.size+1) S.heap.objs.size (J.hok.fresh (Vb _)) (J.hok.fresh (Qg _)) (Qu (Vl _));have R:=Inv.made (C:=C) J;have B:ZQ (V.ref (S.heap.objs.size+1)::(j++dvs)) (Qw (S.heap.objs.size+1)::(U++Z)):=.cons rfl (r.append hd);have hl:Qa (Qw (S.heap.objs.size+1)::U++Z)=Qa ps:=by have e:=B.length;rw[G.len _ _ _ _ O]at e;show e.symm
 show vL (Bo (f:=f) J.kIn Y.makes Y.init (beq_iff_eq.mp Y.fn) (uR (G.run _ X.stack _ _ (Qw (S.heap.objs.size+1)::U,[]) (Qw (S.heap.objs.size+1)::(U++Z)) _ _ (F D) (hr.make C U [])
  (R.env0.make C U []) (E _ (Qw (S.heap.objs.size+1)::U) R.kIn hl) B O) λr s' z=>?_))
 cases r with
 |error e=>show T.pass m D _ _ e s' R z
 |ok fl=>
  cases fl with
  |ret u=>
   show ze (R.after z) λv P I3 rv ev q3=>?_;subst ev;show(rv,(V.ref (S.heap.objs.size+1),P,I3,rfl,q3))
  |next=>show False.elim z
  |brk=>show False.elim z
  |cont=>show False.elim z
end
def Oc(t:TS):TS:=λD E H=>∃N:St->Hp->Prop,t {nx:=N,rt:=D.rt,bk:=D.bk,ct:=D.ct} E H/\∀d I,N d I->D.nx d I
theorem zx(N:St->Hp->Prop)(x:t {nx:=N,rt:=D.rt,bk:=D.bk,ct:=D.ct} σ H)(J:∀d I,N d I->D.nx d I):Oc t D σ H:=(N,x,J)
theorem ZK{X:Cx}{st:Stmt}{t:TS}(h:PS X st t):PS X st (Oc t):=by
 show λm s E H D I Y=>Zf Y λN q j=>?_;clear Y;show thn (h m s E H _ I q) λf S z=>?_
 cases f with
 |next=>show ZS z λZ J M q=>(Z,J,M,j _ _ q)
 |brk=>show z
 |cont=>show z
 |ret u=>show z
end L2
namespace LP
open PySem L2
theorem lJ{α:Type}(l:List α)(i m:Nat):cut l (Qr (i:Int)) (Qr ((i:Int)+(m:Int)))=(l.drop i).take m:=by
 unfold cut;change(l.drop (if(i:Int)<0 then((i:Int)+(Qa l:Int)).toNat else min (i:Int).toNat (Qa l))).take ((if(i:Int)+(m:Int)<0 then((i:Int)+(m:Int)+(Qa l:Int)).toNat else min ((i:Int)+(m:Int)).toNat (Qa l))-(if(i:Int)<0 then((i:Int)+(Qa l:Int)).toNat else min (i:Int).toNat (Qa l)))=(l.drop i).take m;rw[Zo ⋯,Zo ⋯,Qj,show((i:Int)+(m:Int)).toNat=i+m by lia];by_cases h:i<=Qa l
 .rw[Q5 h];by_cases H:i+m<=Qa l;rw[Q5 H,Vc];rw[U6 ⋯,QL (by rw[uf];lia),QL (by rw[uf];lia)]
 have E:min i (Qa l)=Qa l:=⋯
 rw[E,UA (Qg _),UA ⋯];simp
noncomputable def plc(l p:Zg):Zg:=(Qi ((Qa l:Int)-(Qa p:Int)+1).toNat).filter λi=>decide ((l.drop i).take (Qa p)=p)
end LP
namespace L2
open PySem PySem.Spec PyProof.Rows
section
theorem KY{Cd:Cx->Prop}
 (hc:∀B c s H,Cd (cxC X S cl (own++cp.map (·.1)) B c s H)) (t:gx X S cl) (hk:S.kind=.function) (M:∀y∈S.names,y.2≠ .cell)
 (Q:o6 S) (P:Jp X S cp) (hi:PIG Cd X target iter wi) (gk:xa (Qa own) g)
 (hg:∀B C s H,PG (cxC X S cl (own++cp.map (·.1)) B C s H) target g) (ht:wx X S cl own cp ifs tc) (he:o7 X S cl own cp elt te)
 (hN:X.N.Nodup) (m:X.N[i₀]?=Qr y₀) (f:X.env.scope.names.lookup y₀=Qr .local) (r:vZ (.ListComp elt [(target,iter,ifs,0)] S pos) (Qr (.Name y₀ p₀)) p₁.line X.env=pure true)
 (hs:autoParam (∀x,ue iter X.env x=pure x) qK):PS X (.Assign [.Name y₀ p₀] (.ListComp elt [(target,iter,ifs,0)] S pos) p₁) (we (EM (Qa own) cp wi g tc te) (qW i₀)):=by
 intro Zc s σ H D I h;rw[exec_Assign_Name_used _ _ _ _ r];show jM (wpAny_standAt (jM ?_));change jS _ _ (comprehension (.ListComp elt [(target,iter,ifs,0)] S pos) S X.env (firstIterPos [(target,iter,ifs,0)] pos) (newList []) false (eval iter X.env) (Qr (Qay (.Name y₀ p₀) X.env)) >>=λ_=>pure ()) _ _ s;show jM ?_;show xj hc t hk M Q P hi gk hg ht he hs I h λ{q R C B H2 H' d a2 k} I2 f2 Y Z rv hz j=>?_;show Zf Z.loc λmm J _=>?_;have J:R.heap.Ns C mm:=J;obtain⟨hn,I6⟩:=AI (h'':=R.heap) I2 f2 rfl Y Z rv hz (rfl,λ_ _=>rfl);show Z6 (id J) λoC eC pC g1 g2 g3=>?_;have a1:q.heap.objs.size<=C:=Ua Y;have O:gN X Zc (upd H' q.heap.objs.size (.lst d)) C:=I2.fpOk a1 (by rw[Zn (QY Y)];show Z.free);have I7:Inv X (Zc++[(C,oC)]) σ (upd H' q.heap.objs.size (.lst d)) R:=I6.pins_of λp E=>by rcases ut.mp E with E|E;show I6.pin p (j0 _ E);cases j5.mp E;show(g1,O.1,O.2.1,O.2.2.1,λv z=>by rw[g2]at z;cases z)
 show wpAny_assign_Name (nh I7 hN m (.inl f) (show zf (.ref q.heap.objs.size) (.ref q.heap.objs.size)from rfl) (λs6 I8=>?_) (.inr f));have e6:=(I8.pin (C,oC) (j0 _ (j0 _ (j5.mpr rfl)))).1;show(mm,(oC,eC,pC,e6,g2,g3),λu U=>jN (jN (_,_,I8.unpinned.turned (t':=s6.toks) (it:=C) (λb o hb e=>(U.2 b hb).trans e) O.1 O.2.1 O.2.2.2.1 O.2.2.2.2.1 O.2.2.2.2.2,j hn)))
theorem Ey
 (j:X.calm=true) (t:gx X S cl) (E:S.kind=.function) (B:∀y∈S.names,y.2≠ .cell)
 (P:o6 S) (I:Jp X S cp) (p:PI X target iter wi) (J:xa (Qa own) g)
 (Q:∀D C s H,PG (cxC X S cl (own++cp.map (·.1)) D C s H) target g) (r:wx X S cl own cp ifs tc) (z:o7 X S cl own cp elt te)
 (u:X.N.Nodup) (m:X.N[i₀]?=Qr y₀) (f:X.env.scope.names.lookup y₀=Qr .local) (d:vZ (.ListComp elt [(target,iter,ifs,0)] S pos) (Qr (.Name y₀ p₀)) p₁.line X.env=pure true)
 (q:autoParam (∀x,ue iter X.env x=pure x) qK):PS X (.Assign [.Name y₀ p₀] (.ListComp elt [(target,iter,ifs,0)] S pos) p₁) (we (EM (Qa own) cp wi g tc te) (qW i₀)):=
 KY (Cd:=λX=>X.calm=true) (λ_ _ _ _=>j) t E B P I p.toG J Q r z u m f d q
theorem KZ{Y:Str}{p P:Pos}{E iter:uI}{r:List uI}{x:Str}{px:Pos}
 {S:Scope} {pos:Pos} {U:List (Str×jP)} {own:ZT} {cp:List (Str×Nat)} {tl:TE} {tc:TT}
 {te:TE} (g:Nat) (K:Qb) (a3:gx X S U) (hl:PE X iter tl) (ht:wx X S U own cp r tc) (he:o7 X S U own cp E te) (hN:X.N.Nodup)
 (hK:autoParam (X.K=K) ZF) (hc:autoParam (X.calm=true) ZF) (hk:autoParam (S.kind=.function) ZF) (a2:autoParam (∀y∈S.names,y.2≠ .cell) gw) (a6:autoParam (o6 S) gw) (a4:autoParam (Jp X S cp) Cc)
 (hn:autoParam (0<Qa own) z8) (hg:autoParam (o9 X S U own cp (.Name x px) 0) Ce) (t:autoParam (X.N[g]?=Qr Y) ZF) (j:autoParam (X.env.scope.names.lookup Y=Qr .local) ZF) (a7:autoParam (vZ (.ListComp E [(.Name x px,iter,r,0)] S pos) (Qr (.Name Y p)) P.line X.env=pure true) ZF) (hs:autoParam (∀z,ue iter X.env z=pure z) qK)
 :PS X (.Assign [.Name Y p] (.ListComp E [(.Name x px,iter,r,0)] S pos) P) (we (tCL K (Qa own) cp tl tc te) (qW g)):=by
 subst hK;have B:PE X iter (λO H Q=>∃Q0:VK,tl O H Q0/\∀v H',Q0 v H'->Q v H'):=hl.imp λO H Q h=>h;intro Zc s O H D I h;show Ey hc a3 hk a2 a6 a4 (mJ B) (rQ hn) hg (λfp C s H=>(ht fp C s H).imp (t':=AE tc) λ_ _ _ z=>z) (λfp C s H=>(he fp C s H).imp (t':=AD te) λ_ _ _ z=>z) hN t j a7 hs Zc s O H D I ?_;show(_,h,λv H1 q=>?_)
 cases v with
 |ref a=>
  show Zz q λd hx hz u=>zh u λPv p0 pl ps pe=>?_;clear u q;have a8:sizeLine=16777216:=jT;show(a,rfl,(d,hx),λi m R f=>m=Qa d-i/\i<=Qa d/\Qa f<=i/\Pv i R f,(Qa d,⋯,Qo _,Qg _,p0),?_);show λi m R f u=>za u λa1 hi a9 Z=>?_;clear u;subst a1;show(⋯,?_);have J:=pl i R f hi Z;by_cases M:i<Qa d
  .show .inr ((d,d[i],J,by simp[M]),λy H3 a5=>?_);obtain⟨e3,ey⟩:=a5;subst e3;show dP (N':=λH a=>∃m',m'<Qa d-i/\(m'=Qa d-(i+1)/\i+1<=Qa d/\Qa a<=i+1/\Pv (i+1) H a)) (λH a ha z=>(Qa d-(i+1),⋯,rfl,M,⋯,z)) (ps i y H3 f (ey d J) Z)
  have e:i=Qa d:=⋯
  subst e;show .inl ((d,J,Qg _),λl B=>pe R f Z l B)
 |_=>show False.elim q
end
end L2
namespace LO
noncomputable def ltk(t:Zg)(k:Nat):Zg:=((ord t).take k).filterMap (Yb t)
theorem En(t:Zg)(h:Qa t+1<=n):ltk t n=Z3 t:=by unfold ltk Z3;rw[QL (by rw[zT];show h)]
theorem Ki(h:(ord t)[k]?=Qr 0):ltk t (k+1)=ltk t k:=by unfold ltk;rw[QZ,h,UV];simp[Yb]
theorem Kj(h:(ord t)[k]?=Qr j)(u:0<j):ltk t (k+1)=ltk t k++[t.getD (j-1) 0]:=by
 have H:j<=Qa t:=Y2.mp (QD h);have e:Yb t j=Qr (t.getD (j-1) 0):=by unfold Yb;rw[Zo ⋯,Qc,Qd ⋯];rfl
 unfold ltk;rw[QZ,h,UV];simp[e]
theorem MI(t:Zg)(k:Nat):Qa (ltk t k)<=k:=by unfold ltk;show QC (Wt _ _) (by rw[jZ];lia)
theorem MT(t:Zg):((ord t).map λi:Nat=>L2.V.int i)=((ord t).map λi:Nat=>(i:Int)).map L2.V.int:=by rw[u6];rfl
theorem A9(t:Zg):(0:Int)∈(ord t).map λi:Nat=>(i:Int):=Uf.mpr (0,Y2.mpr (Qo _),rfl)
theorem IB(t:Zg):((ord t).map λi:Nat=>(i:Int)).idxOf 0=qB t:=by
 have H:=We (A9 t);have E:=List.getElem_idxOf H;rw[Vk]at E;show(fZ (l:=t) (k:=((ord t).map λi:Nat=>(i:Int)).idxOf 0) (j:=0) ?_).symm;rw[Qd (by simpa using H)]
 congr 1
 lia
theorem L5(t:Zg):(ord t)[qB t]?=Qr 0:=Jx (Qo _)
theorem Mx(t:Zg):qB t<Qa t+1:=r8 (Qo _)
end LO
namespace L2
open PySem PySem.Spec PyProof.Rows
inductive EqT(K:Qb)(H:Hp):Nat->V->V->Prop
 |flat {n:Nat} {x y:V} (hx:dM x=true) (hy:dM y=true) (h:eqV x y=true):EqT K H n x y
 |same {n:Nat} (a:jP):EqT K H n (.ref a) (.ref a)
 |tup {n:Nat} {a b:jP} {xs ys:ZE} (ha:SqT K H a xs) (hb:SqT K H b ys) (hl:Qa xs=Qa ys) (h:∀(j:Nat) (x y:V),xs[j]?=Qr x->ys[j]?=Qr y->EqT K H n x y):EqT K H (n+1) (.ref a) (.ref b)
 |lst {n:Nat} {a b:jP} {xs ys:ZE} (ha:SqL K H a xs) (hb:SqL K H b ys) (hl:Qa xs=Qa ys) (h:∀(j:Nat) (x y:V),xs[j]?=Qr x->ys[j]?=Qr y->EqT K H n x y):EqT K H (n+1) (.ref a) (.ref b)
section
theorem dw(r:ZQ xs us)(R:ZQ ys vs)(j:Nat)(z:j<Qa us)(I:j<Qa vs):∃x y,xs[j]?=Qr x/\ys[j]?=Qr y/\zf x us[j]/\zf y vs[j]:=by
 have J:=r.length;have S:=R.length;have E:xs[j]?=Qr xs[j]:=by simp[J,z]
 have C:ys[j]?=Qr ys[j]:=by simp[S,I]
 show Zf (r.get E) λu B f=>?_;show Zf (R.get C) λv H p=>?_;rw[Qd z]at B;rw[Qd I]at H;have B:=Option.some.inj B;have H:=Option.some.inj H;subst B H;show(_,_,E,C,f,p)
theorem eW(n:Nat):(Qi n).all (λ_=>true)=true:=by rw[List.all_eq_true];intro _ _;rfl
theorem EqT.at(I:Inv X Zc σ H s)(h:EqT X.K H n x y):∀{A:uv} {u v:Value},zf x u->zf y v->A.units+n<cLine->SeqAt.EqAt A s u v true:=by
 induction h with
 |flat C D h=>
  intro A u v R r _;have:=Ib (A:=A) (s:=s) R r C D;rwa[h]at this
 |same a=>
  intro A u v R r _;obtain rfl:u=Qw a:=R;obtain rfl:v=Qw a:=r;show SeqAt.EqAt.same _
 |@tup n a b t Z O S Q h g=>
  intro A u v R r hu;obtain rfl:u=Qw a:=R;obtain rfl:v=Qw b:=r;by_cases M:a=b
  .subst M;show SeqAt.EqAt.same _
  show Zz (I.tuple O) λY d p z1=>?_;show Zz (I.tuple S) λf m q z2=>?_;have l1:=d.length;have l2:=m.length;have:=SeqAt.RcAt.tuples (A:=A) (e:=λ_=>true) p q ⋯ λj z J=>by show ze (dw d m j (by simpa using z) (by simpa using J)) λx y E B P U=>g j x y E B P U (by rw[Around.in1_units];lia)
  rw[eW,show(Y.toArray.size==f.toArray.size)=true by simp;lia]at this;show SeqAt.EqAt.of_refs M this
 |@lst n a b t Z O S Q h g=>
  intro A u v R r hu;obtain rfl:u=Qw a:=R;obtain rfl:v=Qw b:=r;by_cases M:a=b
  .subst M;show SeqAt.EqAt.same _
  show Zz (I.list O) λY d p z1=>?_;show Zz (I.list S) λf m q z2=>?_;have l1:=d.length;have l2:=m.length;have:=SeqAt.RcAt.lists (A:=A) (e:=λ_=>true) p.isList q.isList (by simp;lia) ⋯ λj z J=>by show ze (dw d m j (by simpa using z) (by simpa using J)) λx y E B P U=>g j x y E B P U (by rw[Around.in1_units];lia)
  rw[eW]at this;show SeqAt.EqAt.of_refs M this
end
def GF(K:Qb)(H:Hp)(a b:jP):Prop:=∃d Y,((SqL K H a d/\SqL K H b Y)\/(SqT K H a d/\SqT K H b Y))/\Qa d=Qa Y/\∀(j:Nat) (x y:V),d[j]?=Qr x->Y[j]?=Qr y->EqT K H 4 x y
def Hw(K:Qb)(neg:Bool):R2:=λx y H Q=>match x,y with
 | .ref a,.ref b=>GF K H a b/\Q (.bl (!neg)) H
 |_,_=>False
section
theorem xy{K:Qb}{k:Nat}(D:X.K=K)(C:YN k X.A):OpR X (uD .Eq) (Hw K false):=by
 subst D;intro Zc s σ H x y v u Q I r R h;unfold Hw at h;split at h
 .rename_i a b;obtain⟨⟨xs,ys,t,hl,M⟩,q⟩:=h;cases r;cases R;have hu:X.A.units+20<cLine:=by have:=C.un;lia
  rcases t with⟨Z,p⟩|⟨Z,p⟩
  .show Zz (I.list Z) λY d P z1=>?_;show Zz (I.list p) λf m g U=>?_;have O:=d.length;have S:=m.length;show SeqAt.eq_listAt (e:=λ_=>true) P.isList g.isList (by simp;lia) ⋯ (λj z J=>?_) ?_;show ze (dw d m j (by simpa using z) (by simpa using J)) λx y E B r R=>(M j x y E B).at I r R (by rw[Around.in1_units];lia);rw[eW];show zi I q rfl
  show Zz (I.tuple Z) λY d P z1=>?_;show Zz (I.tuple p) λf m g U=>?_;have O:=d.length;have S:=m.length;show SeqAt.eq_tupleAt (e:=λ_=>true) P g ⋯ (λj z J=>?_) ?_;show ze (dw d m j (by simpa using z) (by simpa using J)) λx y E B r R=>(M j x y E B).at I r R (by rw[Around.in1_units];lia);rw[eW,show(Y.toArray.size==f.toArray.size)=true by simp;lia];show zi I q rfl
 show h.elim
theorem pO{K:Qb}{k:Nat}(D:X.K=K)(C:YN k X.A):OpR X (uD .NotEq) (Hw K true):=by
 subst D;intro Zc s σ H x y v u Q I r R h;unfold Hw at h;split at h
 .rename_i a b;obtain⟨⟨xs,ys,t,hl,M⟩,q⟩:=h;cases r;cases R;have hu:X.A.units+20<cLine:=by have:=C.un;lia
  rcases t with⟨Z,p⟩|⟨Z,p⟩
  .show Zz (I.list Z) λY d P z1=>?_;show Zz (I.list p) λf m g U=>?_;have O:=d.length;have S:=m.length;show SeqAt.RcNeAt.lists (e:=λ_=>true) P.isList g.isList (by simp;lia) ⋯ (λj z J=>?_) _ _ _ _ ?_;show ze (dw d m j (by simpa using z) (by simpa using J)) λx y E B r R=>(M j x y E B).at I r R (by rw[Around.in1_units];lia);rw[eW];show zi I q rfl
  show Zz (I.tuple Z) λY d P z1=>?_;show Zz (I.tuple p) λf m g U=>?_;have O:=d.length;have S:=m.length;show SeqAt.RcNeAt.tuples (e:=λ_=>true) P g ⋯ (λj z J=>?_) _ _ _ _ ?_;show ze (dw d m j (by simpa using z) (by simpa using J)) λx y E B r R=>(M j x y E B).at I r R (by rw[Around.in1_units];lia);rw[eW,show(Y.toArray.size==f.toArray.size)=true by simp;lia];show zi I q rfl
 show h.elim
end
end L2
namespace LP
open PySem L2
noncomputable def flat(R:J2):Zg:=(R.map λr=>Qy r.2 r.1).flatten
structure qH(rs:J2):Prop where
 pos:∀r∈rs,1<=r.2
 ne:∀(j:Nat) (a b:Nat×Nat),rs[j]?=Qr a->rs[j+1]?=Qr b->a.1≠b.1
def dF(H:Hp)(Q:List jP)(R:J2):Prop:=Qa Q=Qa R/\∀(j:Nat) (r:Nat×Nat),R[j]?=Qr r->∃t,Q[j]?=Qr t/\H t=Qr (.tup [.str (T [r.1]),.int r.2])
theorem A0(R:J2)(r:Nat×Nat):flat (R++[r])=flat R++Qy r.2 r.1:=by simp[flat]
theorem A1(h:r∈rs):r.2<=Qa (flat rs):=by
 induction rs with
 |nil=>cases h
 |cons a t I=>
  have e:flat (a::t)=Qy a.2 a.1++flat t:=rfl;rw[e,jR,vE];rcases ui.mp h with rfl|h
  lia
  have:=I h
  lia
theorem Iu:qH []:=(λ_ h=>(QF h).elim,λj a b h _=>by simp at h)
theorem Fj(g:qH rs)(y:1<=r.2)(J:∀a,rs.getLast?=Qr a->a.1≠r.1):qH (rs++[r]):=by
 show(λx f=>?_,λj a b I H=>?_)
 .rcases ut.mp f with h|h;show g.pos x h;rw[j5.mp h];show y
 by_cases u:j+1<Qa rs
 .rw[Qx ⋯]at I H;show g.ne j a b I H
 have O:=(Qh.mp H).1;rw[jR,jW]at O;have e:j+1=Qa rs:=⋯
 rw[Qt ⋯,e,Ui]at H;rw[Qx ⋯]at I;have H:r=b:=by simpa using H
 subst H;show J a ?_;rw[List.getLast?_eq_getElem?,<-I]
 congr 1
 lia
theorem tU(H:Hp):dF H [] []:=(rfl,λj r h=>by simp at h)
def pj(H I:Hp):Prop:=∀t x,H t=Qr (.tup x)->I t=Qr (.tup x)
theorem iA(h:dF H ts rs)(S:pj H H'):dF H' ts rs:=(h.1,λj r Y=>by
 show Zf (h.2 j r Y) λt E x=>(t,E,S t _ x))
theorem iH(S:Zw H H'):pj H H':=λt x h=>S t _ h
theorem xH(C:H p=Qr (.lst xs)):pj H (upd H p o):=λt y h=>by
 have:t≠p:=by rintro rfl;rw[C]at h;cases h
 rw[Zn this];show h
theorem pj.trans(a:pj H1 H2)(b:pj H2 H3):pj H1 H3:=λt x h=>b t x (a t x h)
theorem pQ(h:dF H ts rs)(q:H t=Qr (.tup [.str (T [r.1]),.int r.2])):dF H (ts++[t]) (rs++[r]):=by
 show(by simp[h.1],λj x f=>?_);by_cases v:j<Qa rs
 .rw[Qx v]at f;show Zf (h.2 j x f) λu E y=>(u,by rw[Qx (by rw[h.1];show v)];show E,y)
 have O:=(Qh.mp f).1;rw[jR,jW]at O;have e:j=Qa rs:=⋯
 subst e;rw[Qt (Qg _),Ui]at f;have f:r=x:=by simpa using f
 subst f;show(t,by rw[<-h.1,Qt (Qg _),Ui];rfl,q)
theorem Nv{l:Zg}{a b c:Nat}(S:b<=Qa l)(M:a<=b)(h:∀j,a<=j->j<b->l.getD j 0=c):l.take b=l.take a++Qy (b-a) c:=by
 show UN (by simp;lia) λj H I=>?_;have u:j<b:=by rw[jZ]at H;lia
 rw[UX];by_cases f:j<a;rw[List.getElem_append_left (by rw[jZ];lia),UX];rw[List.getElem_append_right (by rw[jZ];lia),List.getElem_replicate];have:=h j ⋯ u;rwa[Qc,Qd ⋯]at this
theorem Nk(n c:Nat):rep n [c]=Qy n c:=by
 induction n with
 |zero=>rfl
 |succ n I=>
  rw[uw,<-I];rfl
theorem RP(g:qH R):Qa R<=Qa (flat R):=by
 have:∀R:J2,(∀r∈R,1<=r.2)->Qa R<=Qa (flat R):=by
  intro R
  induction R with
  |nil=>intro _;show Qg _
  |cons a t I=>
   intro h;have e:flat (a::t)=Qy a.2 a.1++flat t:=rfl;rw[e,jR,vE,jV];have x:=h a (ub ..);have J:=I λr H=>h r (ua _ H)
   lia
 show this R g.pos
end LP
namespace L2
open PySem PySem.Spec PyProof.Rows
noncomputable def Itz(K:Qb)(a b:jP):It:=
 (λi H=>∃d Y x y,SqL K H a d/\SqL K H b Y/\d[i]?=Qr x/\Y[i]?=Qr y,
  λi H x I=>∃t u v,H t=Qs/\x=.ref t/\I=upd H t (.tup [u,v])/\∀d Y,SqL K H a d->SqL K H b Y->d[i]?=Qr u/\Y[i]?=Qr v,
  λi H=>∃d Y,SqL K H a d/\SqL K H b Y/\(Qa d<=i\/Qa Y<=i))
theorem lX{h:Heap}{I a:jP}{i:Nat}(st:h.IsListIter I a i):∃o,h.get? I=Qr o/\∀v,o.data≠ .cell v:=by show Zz st λo H c d=>(o,H,λv z=>by rw[d]at z;cases z)
theorem Inv.beside{X:Cx}{Z:zN}{D:St}{H:Hp}{s:jQ}{B:List jP}{J:Heap}{tk:Nat}{T:jP}{x y:V}{u v:Value}(I:Inv X Z D H s)(M:∀b∈B,gN X Z H b)
 (U:∀b o,b∉B->s.heap.get? b=Qr o->J.get? b=Qr o) (p:T=s.heap.objs.size) (new:J.get? T=Qr {cls:=.type "tuple",data:=.seq #[u,v]}) (C:zf x u) (r:zf y v):Inv X Z D (upd H T (.tup [x,y])) {s with heap:=J,toks:=tk}:=by
 subst p;have d:H s.heap.objs.size=none:=I.fresh;have no:∀b o,s.heap.get? b=Qr o->b≠s.heap.objs.size:=λb o q=>Qu (Qn q);show I.call' (ch:=B) rfl (λb o q n S f=>U b o f q,λb o q n S f=>(o.slots,U b o f q),λb o q n f=>?_,λb o q f=>(o,U b o f q),λb m q=>?_,λb o y q=>?_,λb ps q=>(#[],?_)) (λb o q=>?_) I.bare λb S=>?_
 .rw[Zn (no b o q)];show n
 .rw[Zn (Zm q d)];show q
 .rw[Zn (Zm q d)];show q
 .rw[Zn (Zm q d),q];simp
 .by_cases S:b=s.heap.objs.size
  .subst S;rw[Zi]at q;cases q;show(by simp[jT],[u,v],.cons C (.cons r .nil),(_,new,rfl,_,rfl))
  rw[Zn S]at q;show(I.hok b o q).stay (λc y g z=>U c y (λY=>?_) z) (λc z=>?_) λc m z=>?_
  .obtain⟨j,_⟩:=M c Y;rcases g with rfl|g;rw[j]at q;cases q;rw[j]at g;cases g
  .rw[Zn (Zm z d)];show z
  rw[Zn (Zm z d)];show z
 show ZO (M b S) λj E f2 Q O P=>(Q,E,O,P)
theorem Inv.aside{X:Cx}{Z:zN}{D:St}{H:Hp}{s:jQ}{x:List jP}{J:Heap}{tk:Nat}(I:Inv X Z D H s)(M:∀b∈x,gN X Z H b)
 (u:∀b o,b∉x->s.heap.get? b=Qr o->J.get? b=Qr o):Inv X Z D H {s with heap:=J,toks:=tk}:=by
 show I.call' (ch:=x) rfl (λb o q n S f=>u b o f q,λb o q n S f=>(o.slots,u b o f q),λb o q n f=>n,λb o q f=>(o,u b o f q),λb j q=>q,λb o y q=>q,λb p q=>(#[],by rw[q];simp)) (λb o q=>?_) I.bare λb S=>?_
 .show(I.hok b o q).stay (λc y d z=>u c y (λY=>?_) z) (λc z=>z) λc j z=>z;obtain⟨g,_⟩:=M c Y;rcases d with rfl|d;rw[g]at q;cases q;rw[g]at d;cases d
 show ZO (M b S) λg r B O U m=>(O,r,U,m)
theorem zp{x y:Nat}(h:x≠y):@Ne jP x y:=h
theorem xQ{n a b:Nat}(U:a<n)(f:b<n):@Qaw (n+4:Nat) (n+2:Nat) (n+3:Nat) n (n+1:Nat) a b:=
 (zp ⋯,zp ⋯,zp ⋯,zp ⋯,zp ⋯,zp ⋯,zp ⋯,zp ⋯,zp ⋯,
  zp ⋯,zp ⋯,zp ⋯,zp ⋯,zp ⋯,zp ⋯,zp ⋯,zp ⋯,zp ⋯)
theorem LA{P:j8}{w:uj}{K:Qb}{es:List uI}{k:Nat}{tp:Pos}{z TI TO B M l1 m:jP}(D:Qaw z TI TO B M l1 m):
 Am P w K (.Tuple es k tp) (Itz K l1 m) [z,TI,TO,B,M] z (λi h=>vK h z TI TO .none/\IsPair h TI (.ref B) (.ref M)/\(∃a b,IsPair h TO a b)/\h.IsListIter B l1 i/\h.IsListIter M m i) where
 mem:=by simp
 obj:=λi h st b S=>by obtain⟨C,U,⟨a,c,h3⟩,h4,h5⟩:=st;simp only[ui,QF,or_false]at S;rcases S with rfl|rfl|rfl|rfl|rfl;show(_,C,λv z=>by cases z);show(_,U,λv z=>by cases z);show(_,h3,λv z=>by cases z);show lX h4;show lX h5
 keep:=λi h h' st kp=>by obtain⟨C,U,⟨a,c,h3⟩,h4,h5⟩:=st;show(kp _ (by simp) _ C,kp _ (by simp) _ U,(a,c,kp _ (by simp) _ h3),h4.at λo q=>kp _ (by simp) o q,h5.at λo q=>kp _ (by simp) o q)
 item:=by
  intro X hP hw hK hc i Zc s σ H E I Z st Y;subst hP hw hK;show ZH Y λxs ys x zr=>zh zr λy O f hx hy=>?_;clear zr Y;show Zz (I.list O) λa1 R p1 a6=>?_;show Zz (I.list f) λa4 r p2 a5=>?_;show Zf (R.get hx) λu hu ru=>?_;show Zf (r.get hy) λv hv rv=>?_;obtain⟨d,p,⟨a,c,g⟩,t,s5⟩:=st;show wpAny_pyNext_zip_item D d p g t s5 p1.isList p2.isList (x:=u) (y:=v) (by simpa using hu) (by simpa using hv) λC k1 k2 k3 k4 k5 k6 k7=>?_;show(_,rfl,Qbx k1 λU k8 j=>?_);have a3:∀b,b∉[z,TI,TO,B,M]->b≠z/\b≠TO/\b≠B/\b≠M:=λb S=>by simp only[ui,QF,or_false,not_or]at S;show(S.1,S.2.2.1,S.2.2.2.1,S.2.2.2.2)
  have up:∀b o,b∉[z,TI,TO,B,M]->s.heap.get? b=Qr o->U.get? b=Qr o:=λb o S q=>by show za (a3 b S) λo1 o2 o3 o4=>(j.2 b o1).trans (k7 b o o1 o2 o3 o4 q)
  have new:U.get? s.heap.objs.size=Qr {cls:=.type "tuple",data:=.seq #[u,v]}:=(j.2 _ (QY (Qn d))).trans k5;have J:=Inv.beside (tk:=s.toks) I Z up rfl new ru rv;show(.ref s.heap.objs.size,_,J,rfl,(_,x,y,I.fresh,rfl,rfl,λa7 a8 q1 q2=>by rw[I.list_inj q1 O,I.list_inj q2 f];show(hx,hy)),(k8,?_,(u,v,(j.2 _ D.TOz).trans k2),k3.at λo q=>(j.2 _ D.i1z).trans q,k4.at λo q=>(j.2 _ D.i2z).trans q),λb S=>?_);show(j.2 _ D.TIz).trans (k7 _ _ D.TIz D.TITO D.TIi1 D.TIi2 p)
  have:b≠s.heap.objs.size:=by
   have a2:∃o,s.heap.get? b=Qr o:=by
    simp only[ui,QF,or_false]at S;rcases S with rfl|rfl|rfl|rfl|rfl;show(_,d);show(_,p);show(_,g);show Zf t λo q _=>(o,q)
    show Zf s5 λo q _=>(o,q)
   obtain⟨o,q⟩:=a2;show Qu (Qn q)
  rw[Zn this];show(Z b S).1
 done:=by intro X hP hw hK hc i Zc s σ H E I Z st Y;subst hP hw hK;show Zy Y λxs ys O f hx=>?_;clear Y;show Zz (I.list O) λa1 R p1 a6=>?_;show Zz (I.list f) λa4 r p2 a5=>?_;obtain⟨d,p,⟨a,c,g⟩,t,s5⟩:=st;have l1:=R.length;have m:=r.length;show wpAny_pyNext_zip_end (I.ok.hd hc) D d p g t s5 p1.isList p2.isList (by simp;lia) λh' eb=>(rfl,Inv.aside (tk:=s.toks) I Z λb o S q=>?_);simp only[ui,QF,or_false,not_or]at S;show eb b o S.1 S.2.2.1 S.2.2.2.1 S.2.2.2.2 q
 self:=λA i s Q E st h=>vX st.1 h
section
variable{X:Cx}{es:List uI}{k:Nat}{tp:Pos}
def Zam(K:Qb)(t:TA):TI:=λD H R=>t D H λv E=>∃a b,v=[.ref a,.ref b]/\(∃x,SqL K E a x)/\(∃y,SqL K E b y)/\R (Itz K a b) E
theorem KP{x y:uI}{t:TA}{p pos:Pos}(hg:Gl X "zip")(u:X.mg "zip"=Qs)(Q:PA X [x,y] t)(m:autoParam (uc [x,y] X.env=[(false,eval x X.env),(false,eval y X.env)]) ZF)(z:autoParam (uc [y] X.env=[(false,eval y X.env)]) ZF):PI X (.Tuple es k tp) (.Call (.Name "zip" p) [x,y] [] pos) (Zam X.K t):=by
 intro Z s E H R I h;show Qbg (JL I hg u Cu (PyProof.Rows.callWith_type1 (thn (Q pos Z s E H _ I h) λus S f=>Zy f λvs M J r1 q1=>?_) (by rw[m,z]) (by rw[z];rfl)));clear f;obtain⟨a,b,e,⟨xs,O⟩,⟨ys,g⟩,q⟩:=q1;subst e
 cases r1 with
 |cons r B=>
  cases B with
  |cons r' B=>
   cases B;cases r;cases r';show Zz (J.list O) λv a3 d z1=>?_;show Zz (J.list g) λa1 a2 j z2=>?_;show call_zip_2 d.isList j.isList λC P k2 k3 k4 k5 k6 k7=>?_;have I2:Inv X Z E M {S with heap:=C}:=J.kept (t':=S.toks) λb o e=>k7 b o e;show vX P ?_;have la:a<S.heap.objs.size:=by show Zf d.isList λo q _=>Qn q
   have lb:b<S.heap.objs.size:=by show Zf j.isList λo q _=>Qn q
   have D:=xQ la lb;show(S.heap.objs.size+4,[S.heap.objs.size+4,S.heap.objs.size+2,S.heap.objs.size+3,S.heap.objs.size,S.heap.objs.size+1],_,_,M,rfl,I2,LA D,(P,k2,(_,_,k3),k4,k5),λb U=>?_,q);have:S.heap.objs.size<=b:=by simp only[ui,QF,or_false]at U;rcases U with rfl|rfl|rfl|rfl|rfl;show Q6 _ _;show Q6 _ _;show Q6 _ _;show Qg _;show Q6 _ _
   show J.fpOk this (J.hok.fresh this)
def T8(K:Qb)(a b:jP)(d Y:ZE)(i j:Nat)(C:TS):TS:=λD E H=>∃p:Nat->St->Hp->Prop,p 0 E H/\(∀k E H,k<=min (Qa d) (Qa Y)->p k E H->SqL K H a d/\SqL K H b Y)/\
 (∀k x y E H t,d[k]?=Qr x->Y[k]?=Qr y->p k E H->H t=Qs->C {nx:=p (k+1),rt:=D.rt,bk:=D.nx,ct:=p (k+1)} ((E.set i (Qr x)).set j (Qr y)) (upd H t (.tup [x,y])))/\∀E H,p (min (Qa d) (Qa Y)) E H->D.nx E H
def Sd(K:Qb)(u:TA)(i j:Nat)(t:TS):TS:=λD I H=>u I H λv E=>aR (λa=>aR λb=>a0 (
 ∃x y,SqL K E a x/\SqL K E b y/\T8 K a b x y i j t D I E
 )) v
theorem RK{K:Qb}{x y:uI}{u v:Str}{f pv:Pos}{i j:Nat}{p pos P:Pos}{B:List Stmt}{M:TA}{tb:TS}(hK:X.K=K)(hp:vQ (Z2 X) X.A X.env X.xe)(hc:X.calm=true)(hm:X.mg "zip"=Qs)(ha:PA X [x,y] M)
 (gu:PG X (.Name u f) (qW i)) (gv:PG X (.Name v pv) (qW j)) (hb:PSs X B tb) (a4:autoParam (Gl X "zip") ZF) (hs:autoParam (uc [x,y] X.env=[(false,eval x X.env),(false,eval y X.env)]) ZF) (a5:autoParam (uc [y] X.env=[(false,eval y X.env)]) ZF)
 (hf:autoParam (∀z,ue (.Call (.Name "zip" p) [x,y] [] P) X.env z=pure z) qK)
 (h1:autoParam ((uz [.Name u f,.Name v pv] X.env).map (·.2)=Qay (.Name u f) X.env::(uz [.Name v pv] X.env).map (·.2)) ZF) (h2:autoParam ((uz [.Name v pv] X.env).map (·.2)=Qay (.Name v pv) X.env::(uz [] X.env).map (·.2)) ZF)
 (h3:autoParam (Qa (uz [.Name u f,.Name v pv] X.env)=2) ZF) (h4:autoParam ((uz [.Name u f,.Name v pv] X.env).findIdx? (·.1)=Qs) ZF):
 PS X (.For (.Tuple [.Name u f,.Name v pv] k tp) (.Call (.Name "zip" p) [x,y] [] P) B [] pos) (Sd K M i j tb):=by
 subst hK;have a6:PA X [x,y] (λE H Q=>∃Q0:ZE->Hp->Prop,M E H Q0/\∀v J,Q0 v J->Q v J):=ha.imp λE H Q h=>h;intro Zc s E H D I h;show oB hp hc (KP a4 hm a6 hs a5) (yO hc (Y4 gu (Y4 gv fY h2) h1) h3 h4) hb hf Zc s E H D I (_,h,λvs H1 q=>?_);obtain⟨a,b,rfl,q⟩:=aR2 q
 ·
  show Zy q λd Y hx C g=>zh g λPv h0 hl a2 hd=>?_;clear g q;show(a,b,rfl,(d,hx),(Y,C),λn m E H=>m=min (Qa d) (Qa Y)-n/\n<=min (Qa d) (Qa Y)/\Pv n E H,(min (Qa d) (Qa Y),by simp,Qo _,h0),?_);show λn m r H2 g=>ZL g λS hn Z=>?_;clear g;subst S;obtain⟨O,U⟩:=hl n r H2 hn Z;by_cases R:n<min (Qa d) (Qa Y)
  .show .inr ((d,Y,d[n]'⋯,Y[n]'⋯,O,U,by simp,by simp),Pv (n+1),λσ' J p'=>(min (Qa d) (Qa Y)-(n+1),⋯,rfl,R,p'),λz J y=>?_);show cD y λt x0 y0 ht a1 a3 C=>?_;clear y;subst a1;subst a3;obtain⟨e1,e2⟩:=C d Y O U;show(t,_,rfl,.inl (.of Zi),rfl,_,_,rfl,_,_,rfl,rfl,?_);show a2 n x0 y0 r H2 t e1 e2 Z ht
  have e:n=min (Qa d) (Qa Y):=⋯
  subst e;show .inl ((d,Y,O,U,⋯),hd _ _ Z)
abbrev g2(K:Qb)(i j:Nat):TG:=A6 K 2 (pF (qW i) (pF (qW j) CJ))
theorem Mv{K:Qb}{n i j:Nat}(p:i<n)(u:j<n):xa n (g2 K i j):=by intro x D H Q q;show ze q λa d E y I z=>ZS z λv M R z=>Zy z λr B f m q=>?_;clear z;show(a,d,E,y,I,v,M,R,r,B,f,m,q,λk J=>?_);rw[U5 ⋯,U5 ⋯]
section
variable{elt iter:uI}{ifs:List uI}{u v:Str}{pu pv:Pos}{scope:Scope}{pos:Pos}{cl:List (Str×jP)}{own:ZT}{cp:List (Str×Nat)}{ta:TA}{tl:TE}{tc:TT}{te:TE}
theorem M5{hc:X.calm=true}{N:ZT}(y:∀f C s H,PG (cxC X scope cl N f C s H) (.Name u pu) (qW 0))(g:∀f C s H,PG (cxC X scope cl N f C s H) (.Name v pv) (qW 1))
 (x:LQ X scope cl u pu v pv) (I:Cg X scope cl v pv)
 (Q:LR X scope cl u pu v pv) (d:LU X scope cl u pu v pv) (f:List jP) (C:jP) (s:jQ) (H:Hp):PG (cxC X scope cl N f C s H) (.Tuple [.Name u pu,.Name v pv] k tp) (g2 X.K 0 1):=
 yO (X:=cxC X scope cl N f C s H) hc (Y4 (y f C s H) (Y4 (g f C s H) fY (I C)) (x C)) (Q C) (d C)
def tCZ(K:Qb)(n:Nat)(cp:List (Str×Nat))(ta:TA)(tc:TT)(te:TE):TE:=λD H Q=>ta D H λZ E=>aR (λa=>aR λb=>a0 (
 ∃f Y,SqL K E a f/\SqL K E b Y/\Qa f<16777216/\∃p:Nat->Hp->ZE->Prop,p 0 E []/\(∀i O d,i<=min (Qa f) (Qa Y)->p i O d->SqL K O a f/\SqL K O b Y)/\
  (∀i x y O d t,f[i]?=Qr x->Y[i]?=Qr y->p i O d->O t=Qs->yK tc te (((eX n cp D).set 0 (Qr x)).set 1 (Qr y)) d (p (i+1)) (upd O t (.tup [x,y])))/\∀O d,p (min (Qa f) (Qa Y)) O d->∀l,O l=Qs->Q (.ref l) (upd O l (.lst d))
 )) Z
theorem BK{x y:uI}{p p':Pos}(K:Qb)
 (hm:X.mg "zip"=Qs) (a1:gx X scope cl) (ha:PA X [x,y] ta) (ht:wx X scope cl own cp ifs tc) (he:o7 X scope cl own cp elt te)
 (hK:autoParam (X.K=K) ZF) (r:autoParam (X.calm=true) ZF) (hk:autoParam (scope.kind=.function) ZF)
 (U:autoParam (∀y∈scope.names,y.2≠ .cell) gw) (a5:autoParam (o6 scope) gw) (a3:autoParam (Jp X scope cp) Cc) (hn:autoParam (1<Qa own) z8)
 (gu:autoParam (o9 X scope cl own cp (.Name u pu) 0) Ce) (gv:autoParam (o9 X scope cl own cp (.Name v pv) 1) NK) (a6:autoParam (Gl X "zip") ZF) (a2:autoParam (uc [x,y] X.env=[(false,eval x X.env),(false,eval y X.env)]) ZF)
 (g:autoParam (uc [y] X.env=[(false,eval y X.env)]) ZF) (hs:autoParam (∀z,ue (.Call (.Name "zip" p) [x,y] [] p') X.env z=pure z) qK) (h1:autoParam (LQ X scope cl u pu v pv) qK) (h2:autoParam (Cg X scope cl v pv) qK)
 (h3:autoParam (LR X scope cl u pu v pv) qK) (h4:autoParam (LU X scope cl u pu v pv) qK)
 :PE X (.ListComp elt [(.Tuple [.Name u pu,.Name v pv] k tp,.Call (.Name "zip" p) [x,y] [] p',ifs,0)] scope pos) (tCZ K (Qa own) cp ta tc te):=by
 subst hK;have a7:PA X [x,y] (λE H Q=>∃Q0:ZE->Hp->Prop,ta E H Q0/\∀v H',Q0 v H'->Q v H'):=ha.imp λE H Q h=>h;intro Zc s E H Q I h;show iS r a1 hk U a5 a3 (KP a6 hm a7 a2 g) (Mv (i:=0) (j:=1) (by omega) (by omega)) (M5 (hc:=r) gu gv h1 h2 h3 h4) (λM C s H=>(ht M C s H).imp (t':=AE tc) λ_ _ _ z=>z) (λM C s H=>(he M C s H).imp (t':=AD te) λ_ _ _ z=>z) hs Zc s E H Q I ?_;show(_,h,λvs H1 q=>?_);obtain⟨a,b,rfl,q⟩:=aR2 q
 ·
  show ze q λd Y hx hy hz Z=>zh Z λPv p0 pl ps pe=>?_;clear Z q;have a9:sizeLine=16777216:=jT;show(a,b,rfl,(d,hx),(Y,hy),λi m O f=>m=min (Qa d) (Qa Y)-i/\i<=min (Qa d) (Qa Y)/\Qa f<=i/\Pv i O f,(min (Qa d) (Qa Y),by omega,Qo _,Qg _,p0),?_);show λi m O f Z=>za Z λS hi ab P=>?_;clear Z;subst S;show(by omega,?_);obtain⟨B,J⟩:=pl i O f hi P;by_cases R:i<min (Qa d) (Qa Y)
  .show .inr ((d,Y,d[i]'(by omega),Y[i]'(by omega),B,J,by simp,by simp),λz H3 D=>cD D λt x0 y0 a8 e3 e4 ey=>?_);clear D;subst e3 e4;obtain⟨e5,e6⟩:=ey d Y B J;show(t,_,rfl,.inl (.of Zi),rfl,_,_,rfl,_,_,rfl,rfl,?_);show dP (N':=λH a=>∃m',m'<min (Qa d) (Qa Y)-i/\(m'=min (Qa d) (Qa Y)-(i+1)/\i+1<=min (Qa d) (Qa Y)/\Qa a<=i+1/\Pv (i+1) H a)) (λH a ha z=>(min (Qa d) (Qa Y)-(i+1),by omega,rfl,R,by omega,z)) (ps i x0 y0 O f t e5 e6 P a8)
  have e:i=min (Qa d) (Qa Y):=by omega
  subst e;show .inl ((d,Y,B,J,by omega),λl a4=>pe O f P l a4)
def tCP(K:Qb)(n:Nat)(cp:List (Str×Nat))(tl:TE)(tc:TT)(te:TE):TE:=λD H Q=>tl D H λv E=>match v with
 | .ref a=>∃f,SqL K E a f/\Qa f<16777216/\∃p:Nat->Hp->ZE->Prop,p 0 E []/\(∀i O d,i<=Qa f->p i O d->SqL K O a f)/\
  (∀i r O d,f[i]?=Qr r->p i O d->∃t x y,r=.ref t/\SqT K O t [x,y]/\yK tc te (((eX n cp D).set 0 (Qr x)).set 1 (Qr y)) d (p (i+1)) O)/\∀O d,p (Qa f) O d->∀l,O l=Qs->Q (.ref l) (upd O l (.lst d))
 |_=>False
theorem mH(K:Qb)(R:gx X scope cl)(hl:PE X iter tl)
 (ht:wx X scope cl own cp ifs tc) (he:o7 X scope cl own cp elt te) (hK:autoParam (X.K=K) ZF)
 (f:autoParam (X.calm=true) ZF) (hk:autoParam (scope.kind=.function) ZF)
 (P:autoParam (∀y∈scope.names,y.2≠ .cell) gw) (U:autoParam (o6 scope) gw) (S:autoParam (Jp X scope cp) Cc)
 (hn:autoParam (1<Qa own) z8) (gu:autoParam (o9 X scope cl own cp (.Name u pu) 0) Ce) (gv:autoParam (o9 X scope cl own cp (.Name v pv) 1) NK)
 (hs:autoParam (∀z,ue iter X.env z=pure z) qK) (h1:autoParam (LQ X scope cl u pu v pv) qK) (h2:autoParam (Cg X scope cl v pv) qK)
 (h3:autoParam (LR X scope cl u pu v pv) qK) (h4:autoParam (LU X scope cl u pu v pv) qK)
 :PE X (.ListComp elt [(.Tuple [.Name u pu,.Name v pv] k tp,iter,ifs,0)] scope pos) (tCP K (Qa own) cp tl tc te):=by
 subst hK;have B:PE X iter (λE H Q=>∃Q0:VK,tl E H Q0/\∀v g,Q0 v g->Q v g):=hl.imp λE H Q h=>h;intro Zc s E H Q I h;show iS f R hk P U S (mJ B) (Mv (i:=0) (j:=1) ⋯ ⋯) (M5 (hc:=f) gu gv h1 h2 h3 h4) (λJ C s H=>(ht J C s H).imp (t':=AE tc) λ_ _ _ z=>z) (λJ C s H=>(he J C s H).imp (t':=AD te) λ_ _ _ z=>z) hs Zc s E H Q I ?_;show(_,h,λv H1 q=>?_)
 cases v with
 |ref a=>
  show Zz q λx hx hz Z=>zh Z λPv p0 pl ps pe=>?_;clear Z q;have a1:sizeLine=16777216:=jT;show(a,rfl,(x,hx),λi m O d=>m=Qa x-i/\i<=Qa x/\Qa d<=i/\Pv i O d,(Qa x,⋯,Qo _,Qg _,p0),?_);show λi m O d Z=>za Z λr hi a2 p=>?_;clear Z;subst r;show(⋯,?_);have D:=pl i O d hi p;by_cases M:i<Qa x
  .show .inr ((x,x[i],D,by simp[M]),λy H3 Y=>?_);obtain⟨e3,ey⟩:=Y;subst e3;show Z6 (ps i y H3 d (ey x D) p) λt x0 y0 e4 e5 q1=>?_;subst e4;show(t,_,rfl,e5,rfl,_,_,rfl,_,_,rfl,rfl,?_);show dP (N':=λH a=>∃m',m'<Qa x-i/\(m'=Qa x-(i+1)/\i+1<=Qa x/\Qa a<=i+1/\Pv (i+1) H a)) (λH a ha z=>(Qa x-(i+1),⋯,rfl,M,⋯,z)) q1
  have e:i=Qa x:=⋯
  subst e;show .inl ((x,D,Qg _),λl B=>pe O d p l B)
 |_=>show False.elim q
end
end
section
def R9(K:Qb):ZE->Hp->VK->Prop:=λv H Q=>aR (λa=>a0 (
 ∃ns:List Int,SqL K H a (ns.map V.int)/\Q (.int ns.sum) H
 )) v
theorem HK{K:Qb}(B:X.K=K)(d:X.calm=true):JU X (.builtin "sum") (R9 K):=by
 subst B;intro Z s D H v U Q I r h;unfold R9 at h;obtain⟨a,rfl,h⟩:=aR1 h
 ·
  show Zf h λns f q=>?_;clear h;show Zf (J1 r) λu z g=>?_;subst z;cases g;show Zz (I.list f) λY R P J=>?_;have m:=sS R;obtain⟨x,e⟩:=m.allInts.items;have O:=P.isList;have j:=m.numsOf;rw[e]at O;show sum_intListG (I.ok.hd d) O λC p t E=>?_;have y:preSum (numAt x) x.size=ns.sum:=by rw[preSum_eq,QL (by simp),<-nums_intItems,<-e];show congrArg List.sum j
  rw[y];show(.int ns.sum,H,I.kept (t':=p) E,(_,rfl),q)
end
theorem Ct:ux "sum"=Qr (.builtin "sum"):=by rfl'
theorem OZ:ux "set"=Qr (.type "set"):=by rfl'
theorem L3{l:Zg}(f:Nat->V){i:Int}(m:0<=i)(H:i<Qa l):atI (l.map f) i=Qr (f (l.getD i.toNat 0)):=by
 rw[LW.Y0 (f 0) m (by simpa using H)]
 congr 1
 rw[Qc,Qc,Qm,Qd ⋯];rfl
theorem Yc(h:Bk P pos q H)(S:Zw H H'):Bk P pos q H':=by rcases h with h|⟨C,x,I⟩;show .inl (S _ _ h);show .inr (C,S _ _ x,S _ _ I)
theorem OX(h:Bk P pos q H)(O:H a=Qr (.lst xs)):Bk P pos q (upd H a o):=by
 rcases h with h|⟨C,x,I⟩
 .have:P≠a:=by rintro rfl;rw[h]at O;cases O
  show .inl ((Zn this).trans h)
 have Q:P≠a:=by rintro rfl;rw[x]at O;cases O
 have Y:C≠a:=by rintro rfl;rw[I]at O;cases O
 show .inr (C,(Zn Q).trans x,(Zn Y).trans I)
end L2
namespace LO
theorem Mf{a b:Nat}{x y:Zg}(h:a::x<=b::y):a<b\/(a=b/\x<=y):=by have B:¬(b::y<a::x):=Q1.mpr h;rw[QS]at B;by_cases H:a=b;show .inr (H,Q1.mp λz=>B (.inr (H.symm,z)));show .inl (Nat.lt_of_le_of_ne (V6 λz=>B (.inl z)) H)
theorem lW{α:Type}[DecidableEq α]:∀{ks ps:List α},ks.Nodup->(∀x∈ks,x∈ps)->Qa ks<=Qa ps
 |[],_,_,_=>Qo _
 |x::r,ps,nd,h=>by
  have f:=h x (ub ..);obtain⟨O,Y⟩:=UR.mp nd
  have:=lW (ks:=r) (ps:=ps.erase x) Y λy p=>by
   have H:y≠x:=by rintro rfl;show O p
   show(WP H).mpr (h y (ua _ p))
  rw[Wu f]at this;have:=List.length_pos_of_mem f;rw[jV]
  lia
noncomputable def cms(t:Zg):Zg:=0::(Qi (Qa t)).map λk=>LW.com (t.drop ((ord t).getD k 0)) (t.drop ((ord t).getD (k+1) 0))
theorem yj(t:Zg):Qa (cms t)=Qa t+1:=by simp[cms]
theorem yk(a b:Zg):LW.com a b<=Qa a:=by
 induction a generalizing b with
 |nil=>show Qo _
 |cons x r I=>
  cases b with
  |nil=>show Qo _
  |cons y q=>
   unfold LW.com;split
   .have:=I q;simp only[jV]
    lia
   show Qo _
open LW L2
theorem B8:∀(x y:Zg) (m:Nat),m<=com x y->x.take m=y.take m
 |_,_,0,_=>by simp
 |[],y,m+1,h=>by have:com [] y=0:=by cases y<;>rfl
                 lia
 |a::x,[],m+1,h=>by have:com (a::x) []=0:=rfl
                    lia
 |a::x,b::y,m+1,h=>by
  unfold com at h;by_cases H:a=b
  .rw[Zx H]at h;rw[QJ,QJ,H,B8 x y m ⋯]
  rw[Zo H]at h
  lia
theorem pB:∀(x y:Zg) (m:Nat),m<=Qa x->m<=Qa y->x.take m=y.take m->m<=com x y
 |_,_,0,_,_,_=>Qo _
 |[],y,m+1,h,_,_=>by simp at h
 |a::x,[],m+1,_,h,_=>by simp at h
 |a::x,b::y,m+1,z,I,h=>by
  rw[QJ,QJ]at h;have H:a=b:=UM h;have:=pB x y m (by simpa using z) (by simpa using I) (List.tail_eq_of_cons_eq h);unfold com;rw[Zx H]
  lia
noncomputable def en(t:Zg)(k:Nat):Zg:=t.drop ((ord t).getD k 0)
noncomputable def cmx(t:Zg)(k:Nat):Nat:=(cms t++[0]).getD k 0
noncomputable def yA(t:Zg)(p:Nat):Option Nat:=if p+(1+max (cmx t (qU t p)) (cmx t (qU t p+1)))<=Qa t then Qr (1+max (cmx t (qU t p)) (cmx t (qU t p+1)))else Qs
theorem Ep:i∈LP.plc l q↔i+Qa q<=Qa l/\(l.drop i).take (Qa q)=q:=by unfold LP.plc;rw[Vo,QA,decide_eq_true_eq];show(λv=>by obtain⟨x,H⟩:=v;show(⋯,H),λf=>by obtain⟨x,H⟩:=f;show(⋯,H))
noncomputable def oV:Option Nat->V
 |some s=>V.int s
 |none=>V.non
noncomputable def lnk(t:Zg)(k:Nat):ZE:=(Qi (Qa t+1)).map λp=>if qU t p<k then oV (yA t p)else V.non
theorem MG(t:Zg)(k:Nat):Qa (lnk t k)=Qa t+1:=by simp[lnk]
theorem Ke(t:Zg):lnk t 0=Qy (Qa t+1) V.non:=by show UN (by simp[lnk]) λj H I=>?_;simp[lnk]
theorem Kd(h:(ord t)[k]?=Qr p):(lnk t k).set p (oV (yA t p))=lnk t (k+1):=by
 have C:p<=Qa t:=Y2.mp (QD h);have H:=fZ h;show UN (by simp[lnk]) λj x I=>?_;have u:j<Qa t+1:=by simpa [lnk]using I
 rw[List.getElem_set];by_cases e:p=j
 .subst e;rw[Zx rfl];simp[lnk,H]
 rw[Zo e];have m:qU t j≠k:=λz=>e (BR C ⋯ (by rw[H,z]));simp only[lnk,Vk,Vr];by_cases O:qU t j<k;rw[Zx O,Zx ⋯];rw[Zo O,Zo ⋯]
theorem Kc(h:(ord t)[k]?=Qr p)(m:yA t p=Qs):lnk t k=lnk t (k+1):=by
 have C:p<=Qa t:=Y2.mp (QD h);have Y:=fZ h;show UN (by simp[lnk]) λj x I=>?_;have u:j<Qa t+1:=by simpa [lnk]using I
 simp only[lnk,Vk,Vr];by_cases e:p=j
 .subst e;rw[Zo ⋯,Zx ⋯,m];rfl
 have q:qU t j≠k:=λz=>e (BR C ⋯ (by rw[Y,z]));by_cases H:qU t j<k;rw[Zx H,Zx ⋯];rw[Zo H,Zo ⋯]
noncomputable def lns(t:Zg):ZE:=if t=[]then[V.int 0]else(Qi (Qa t+1)).map λp=>oV (yA t p)
theorem MH(h:t≠[])(m:Qa t+1<=n):lnk t n=lns t:=by unfold lns lnk;rw[Zo h];show uM λp H=>?_;have H:p<Qa t+1:=QA.mp H;have:=r8 (l:=t) (j:=p) ⋯;rw[Zx ⋯]
theorem El(t:Zg):Qa (lns t)=Qa t+1:=by
 unfold lns;split
 .rename_i h;rw[h];rfl
 simp
theorem HP(t:Zg){i:Int}(H:0<=i)(x:i<Qa t+2):atI ((cms t++[0]).map λn:Nat=>V.int n) i=Qr (V.int (cmx t i.toNat)):=L3 _ H (by rw[jR,yj];simp;lia)
end LO
namespace L2
theorem F4(S:zy H H')(j:H p=Qs):zy H (upd H' p o):=λb u q=>by
 have:b≠p:=by rintro rfl;rw[j]at q;cases q
 rw[Zn this];show S b u q
end L2
namespace LO
open LW L2
noncomputable def Xr(t:Zg)(k:Nat):List (Zg):=(Qi (Qa (en t k)-cmx t k)).map λj=>(en t k).take (cmx t k+1+j)
noncomputable def pcs(t:Zg):List (Zg):=[]::(Qi (Qa t+1)).flatMap (Xr t)
noncomputable def ZaD(t:Zg):Nat:=Qa (pcs t)
end LO
namespace L2
open PySem
open PySem.Spec PyProof.Rows
def Al(w:uj)(t:vH)(n:Nat):Prop:=(w.params.followText "set-order"=false->t.led=true)/\(0<n->t.plain=false)
abbrev JQ(E:Array (Int×Value))(u:Nat)(t:vH):Obj:= {cls:=.type "set",dict:=Qs,data:=.set E u t}
def JK(prog:j8)(w:uj)(h:Heap)(a:jP)(S:Str->Bool)(n:Nat):Prop:=
 ∃E u t,h.get? a=Qr (JQ E u t)/\ElemsOf (PySem.strKind prog w) E.toList/\(∀k,S k=true↔∃e∈E.toList,(PySem.strKind prog w).is k e.2=true)/\E.size<v0/\t.fits E.size=true/\E.size=n/\Al w t E.size
theorem BG(t:vH)(n:Nat):(t.orStandIn n).led=t.led/\(t.plain=false->(t.orStandIn n).plain=false):=by unfold SetTable.orStandIn;split;show(rfl,id);show(rfl,λ_=>rfl)
theorem ME(t:vH)(E:Array (Int×Value))(h:Int)(x:Value):(layNew t E h x).2.1.led=t.led/\(t.plain=false->(layNew t E h x).2.1.plain=false):=by
 unfold layNew;split
 .rename_i slot f _;have:=BG (t.put slot).1 (SetTable.insertAt E (t.put slot).2 (h,x)).size;show(this.1.trans rfl,λz=>this.2 z)
 show(rfl,λ_=>rfl)
theorem Dk{t m:vH}{H:Array Int}{n:Nat}{O:Array Nat}(h:t.relaid H n=Qr (m,O)):m.led=t.led/\m.plain=t.plain:=by unfold SetTable.relaid SetTable.laid at h;simp only[Option.bind_eq_bind,Ub,Option.pure_def,Option.some.injEq,Prod.mk.injEq]at h;show Zz h λ_ _ e _=>?_;clear h;rw[<-e];show(rfl,rfl)
theorem FY(t:vH)(E:Array (Int×Value))(n:Nat):(QaG t E n).2.1.led=t.led/\(t.plain=false->(QaG t E n).2.1.plain=false):=by
 unfold QaG;split
 .rename_i m O e;have:=Dk e;dsimp only;split;show(this.1,λz=>this.2.trans z);show(rfl,λ_=>rfl)
 show(rfl,λ_=>rfl)
section
variable{E:ZW}
theorem B3{h:Heap}{a:jP}{Y es':Array (Int×Value)}{u:Nat}{t t':vH}(H:h.get? a=Qr (JQ Y u t)):(h.update a (Obj.putSet es' t')).get? a=Qr (JQ es' (u+1) t'):=by have e:=putSet_of (o:=JQ Y u t) es' t' rfl;have g:=Q9 (Obj.putSet es' t') H (by rw[e];rfl);rw[e]at g;show g
theorem B7{g:Bool->Sem Unit}(r:∀(b:Bool) (z:jQ) (R:Unit->jQ->Prop),R () z->jS (ud prog w) A (g b) R E z){a:jP}{Y:Array (Int×Value)}{M:Nat}{t:vH}(D:s.heap.get? a=Qr (JQ Y M t))
 {f:Array (Int×Value)} {u:vH} {J:Str->Bool} (I:ElemsOf (PySem.strKind prog w) f.toList) (mem:∀k,J k=true↔∃e∈f.toList,(PySem.strKind prog w).is k e.2=true) (S:f.size<v0) (m:u.fits f.size=true) (x:Al w u f.size)
 {Q:Bool} {R:Option Bool->jQ->Prop} (d:∀H,Heap.SameBut a s.heap H->JK prog w H a J f.size->R (Qr true) {s with heap:=H}):
 jS (ud prog w) A (do
  storeSet a f u
  if (!Q && u.tooFull)=true then do
      g (QaG u f (SetTable.grown f.size)).2.2
      storeSet a (QaG u f (SetTable.grown f.size)).1 (QaG u f (SetTable.grown f.size)).2.1
      pure (Qr true)
   else pure (Qr true)) R E s:=by
 show jM (wpAny_storeSet_of D rfl ?_ (fits_of_scanBound S));have O:=B3 (es':=f) (t':=u) D;have b1:=Heap.SameBut.update s.heap a (Obj.putSet f u);split
 .have pm:=relayAll_perm u f (SetTable.grown f.size);have p:=relayAll_fits u f (SetTable.grown f.size);have ld:=FY u f (SetTable.grown f.size)
  generalize QaG u f (SetTable.grown f.size)=rl at pm p ld ⊢
  obtain⟨C,v,Z⟩:=rl
  dsimp only at pm p ld ⊢
  have sz:C.size=f.size:=by rw[<-Qq,pm.length_eq,Qq]
  show jM (r _ _ _ (jM (wpAny_storeSet_of O rfl ?_ (fits_of_scanBound (by rw[sz];show S)))));have P:=B3 (es':=C) (t':=v) O;show jN (d _ (b1.trans (Heap.SameBut.update _ a _)) (C,_,v,P,I.perm pm,λk=>(mem k).trans (λB=>Zf B λe y q=>(e,pm.mem_iff.mpr y,q),λj=>Zf j λe y q=>(e,pm.mem_iff.mp y,q)),by rw[sz];show S,p,sz,?_));rw[sz];show(λz=>ld.1.trans (x.1 z),λz=>ld.2 (x.2 z))
 show jN (d _ b1 (f,_,u,O,I,mem,S,m,rfl,x))
theorem add_str{S:Str->Bool}{Q:Bool->jQ->Prop}(st:JK prog w s.heap a S n)(room:n+1<v0)
 (I:∀H,Heap.SameBut a s.heap H->JK prog w H a (λk=>S k || decide (k=x)) (if S x then n else n+1)->Q (!S x) {s with heap:=H}):
 jS (ud prog w) A (setAddHashed a (.str x tk) ((PySem.strKind prog w).hash x)) Q E s:=by
 show ZH st λY ep t M=>ZO M λB O mem C g M=>ZI M λa1 v=>?_;clear M st;subst a1;have p:(PySem.strKind prog w).is x (.str x tk)=true:=by change Ud x (.str x tk)=true;simp[Ud,jB]
 unfold setAddHashed setAddHashedIn;show uA (jM (u5 B rfl g ?_));dsimp only;rw[byScan_of (knd:=PySem.strKind prog w) (x:=.str x tk) rfl C O];simp only[↓reduceIte];unfold setAddByScan;show jM (jM (vf (jM (wpAny_setScan_of (knd:=PySem.strKind prog w) p B rfl g O ?_))))
 cases U:List.findIdx? (λe=>(PySem.strKind prog w).is x e.2) Y.toList with
 |some j=>
  dsimp only;show Zf (List.findIdx?_eq_some_iff_getElem.mp U) λhj at_ _=>?_;have y:S x=true:=(mem x).mpr (Y.toList[j],QN hj,at_);show jN (jN ?_);have f:=I s.heap (Heap.SameBut.refl a s.heap) (Y,ep,t,B,O,λk=>?_,C,g,by rw[y];rfl,v)
  .rw[y]at f;show f
  rw[Uk,decide_eq_true_eq,<-mem k];show(λz=>z.elim id λe=>e▸y,.inl)
 |none=>
  dsimp only
  have no:S x=false:=by
   cases hx:S x with
   |false=>rfl
   |true=>
    show Zf ((mem x).mp hx) λe he q=>?_;have:=List.findIdx?_eq_none_iff.mp U e he;rw[q]at this;cases this
  have pm:=layNew_perm t Y ((PySem.strKind prog w).hash x) (.str x tk);have P:=layNew_fits t Y ((PySem.strKind prog w).hash x) (.str x tk);have ld:=ME t Y ((PySem.strKind prog w).hash x) (.str x tk)
  generalize layNew t Y ((PySem.strKind prog w).hash x) (.str x tk)=ly at pm P ld ⊢
  obtain⟨fs,u,wd,a2⟩:=ly
  dsimp only at pm P ld ⊢
  rw[Array.toList_push]at pm;have J:ElemsOf (PySem.strKind prog w) fs.toList:=(O.push p rfl).perm pm;have m:=mem_push_iff (knd:=PySem.strKind prog w) p mem pm;have sz:fs.size=Y.size+1:=by rw[<-Qq,pm.length_eq,jR,Qq];rfl
  have r:∀(b:Bool) (z:jQ) (R:Unit->jQ->Prop),R () z->jS (ud prog w) A (match b with|true=>rule "set.scan.the-table-gave-way"|false=>pure ()) R E z:=λb z R q=>by cases b;show jN q;show vf q
  show jM (r _ _ _ ?_);have d:∀H,Heap.SameBut a s.heap H->JK prog w H a (λk=>S k || decide (k=x)) fs.size->Q true {s with heap:=H}:=λH D q=>by have f:=I H D;rw[no,Zo Qk]at f;rw[sz]at q;show f q
  split
  .rename_i pl;show jM ?_;rw[hashByValue_scannable 8 (x:=.str x tk) rfl];show jN ?_;change jS _ _ _ _ _ _;show B7 (w:=w) (λb z R q=>r b z R q) B J m ⋯ (u:= {u with plain:=false}) (SetTable.fits_plain_off P) (λz=>ld.1.trans (v.1 z),λ_=>rfl) λH D q=>?_;show jN (d H D q)
  rename_i pl;show jM (jN ?_);simp only[↓reduceIte];show B7 (w:=w) (λb z R q=>r b z R q) B J m ⋯ P (λz=>ld.1.trans (v.1 z),λ_=>by simpa using pl) λH D q=>?_;show jN (d H D q)
end
noncomputable def rq(d:Zg):Str->Bool:=λk=>d.any λc=>decide (k=T [c])
theorem C1(D:Zg)(c:Nat):rq D (T [c])=decide (c∈D):=by unfold rq;rw[UL,ji,decide_eq_true_eq];show(λH=>Zf H λd hd e=>?_,λh=>(c,h,by simp));have:=xb.mp (of_decide_eq_true e);rw[UM this];show hd
theorem Ad{S p:Str->Bool}(x:JK prog w h a S n)(e:∀k,S k=p k)(en:n=n'):JK prog w h a p n':=by have:S=p:=funext e;subst this en;show x
section
variable{E:ZW}
theorem Ik{R:Qbw->jQ->Prop}{G:Array Qa6->Array Qa6->Prop}{P:Nat->Value->Prop}{St:Nat->jQ->Prop}(W:WalksS prog w A.in1 I fp wr G n P St)(a:jP)(O:a∉fp)(Y:Zg)(hn:n=Qa Y)
 (hP:∀i v,P i v->∃c u,Y[i]?=Qr c/\v=.str (T [c]) u) (room:n+1<v0):∀(k i:Nat) (s:jQ) (D:Zg),n-i=k->i<=n->St i s->D.Nodup->(∀c,c∈D↔c∈Y.take i)->Qa D<=i->JK prog w s.heap a (rq D) (Qa D)->
  (∀j D,Moved (a::wr) G s j->D.Nodup->(∀c,c∈D↔c∈Y)->JK prog w j.heap a (rq D) (Qa D)->R (.ok (.ret .none)) j)->Qaa (ud prog w) A (.builtin "set.update.loop" ([.ref a,.ref I],[])) R s:=by
 have aw:a∉wr:=λh=>O (W.sub _ h);have M:∀b∈wr,b∈a::wr:=λb H=>ua _ H;have B:∀{s j:jQ} {S:Str->Bool} {m:Nat},JK prog w s.heap a S m->Moved wr G s j->JK prog w j.heap a S m:=λ{s j S m} x Z=>by show Jo x λes ep t ho r=>(es,ep,t,Z.heap a _ aw ho,r)
 intro k
 induction k with
 |zero=>
  intro i s D hk hi st nd mem len set f;have:i=n:=⋯
  subst this;show uQ F.entry_set_update_loop ?_;rw[Around.under_plainId F.plain_set_update_loop _];change jS _ A.in1 (uU (.ref I) >>=_) _ _ s;show jM (W.done s _ _ st λj Z=>?_);show jN (f j D (Z.mono M) nd (λc=>by rw[mem c,QL ⋯]) (B set Z))
 |succ k ih=>
  intro i s D hk hi st nd mem len set f;have lt:i<n:=⋯
  show uQ F.entry_set_update_loop ?_;rw[Around.under_plainId F.plain_set_update_loop _];change jS _ A.in1 (uU (.ref I) >>=_) _ _ s;show jM (W.item i s _ _ lt st λv j hv a1 Z=>?_);show ZS (hP i v hv) λc u hc a2=>?_;subst a2;change jS _ A.in1 (Qag [Vh (T [c]) u] (setAdd a (.str (T [c]) u)) >>=_) _ _ j;show jM (uA ?_);unfold setAdd;have q:(PySem.strKind prog w).is (T [c]) (.str (T [c]) u)=true:=by change Ud (T [c]) (.str (T [c]) u)=true;simp[Ud,jB]
  show uA (jM ((PySem.strKind prog w).pyHash (k:=T [c]) q ?_));show add_str (s:= {j with toks:=j.toks+1}) (show JK prog w j.heap a _ _ from B set Z) ⋯ λh' sb p=>?_
  have J:∀d,d∈(if c∈D then D else D++[c])↔d∈Y.take (i+1):=λd=>by
   rw[QZ,hc,ut,<-mem d];split
   .rename_i h
    exact (.inl,fun z=>z.elim id fun e=>by have:d=c:=by simpa using e
                                           rw[this];show h)
   simp
  have a6:(if c∈D then D else D++[c]).Nodup:=by split;show nd;rename_i h;rw[List.nodup_append];show(nd,by simp,λx hx y hy e=>h (by rw[<-j5.mp hy,<-e];show hx))
  have Q:Qa (if c∈D then D else D++[c])<=i+1:=by
   split
   lia
   rw[jR,jW]
   lia
  have U:JK prog w h' a (rq (if c∈D then D else D++[c])) (Qa (if c∈D then D else D++[c])):=by
   show Ad p (λk=>?_) ?_
   .split
    .rename_i h;rw[UL,Uk,decide_eq_true_eq];show(λz=>z.elim id λe=>?_,.inl);rw[e,C1];show decide_eq_true h
    unfold rq;rw[List.any_append];simp
   rw[C1];by_cases h:c∈D;simp[h];simp[h]
  show jN (vn F.plain_set_update_loop _,ih (i+1) _ _ ⋯ lt (W.frame _ j _ _ a1 (Vb _) λb H o e=>?_) a6 J Q U λs2 a3 a4 a5 C g=>?_)
  .rw[sb.2 b (λz:b=a=>O (z▸H))];show e
  show f s2 a3 (Moved.trans W.gtrans ((Z.mono M).then_heap (Vb _) λb o H e=>?_) a4) a5 C g;rw[sb.2 b (λz:b=a=>H (z▸ub))];show e
end
theorem B4:isSubtype (.type "str") (.type "set")=pure false:=by rw[u7];kernel_rfl
theorem wc:isSubtype (.type "str") (.type "frozenset")=pure false:=by rw[u7];kernel_rfl
section
variable{E:ZW}
theorem B1(v:Value){Q₁:ZW}(h:Q₁ (.ref s.heap.objs.size) {s with heap:=s.heap.push (JQ #[] 0 (.fresh 0 0 (!w.params.followText "set-order")))}):
 Qaa (ud prog w) A (.call (.builtin "set.__new__") ([.type "set",v],[])) (wants Q₁ E) s:=by
 show codeAny_of_tree ?_;change jS _ A.in1 (do checkBuiltinCall "set.__new__" ([.type "set",v],[]);again (.builtin "set.__new__" ([.type "set",v],[]))) _ _ s;show jM (vN (F.newCall_set_1 v) (jN (vn F.plain_set_new _,uQ F.entry_set_new ?_)));rw[Around.under_plainId F.plain_set_new _];unfold Builtin.«set.__new__» Builtin.Frozenset.newClass;have sub:=sub_set_self;obtain⟨C,g,d,t,os⟩:=s;dsimp only
 wp_walk
 show uX (jN ?_);dsimp only;simp only[newObj];show jM (wpAny_alloc (jN (jN h)))
set_option maxHeartbeats 3200000 in
theorem yh{Q:ZW}(hh:A.handled=Qs)(C:Qa (L x)+1<v0)
 (h:∀(B:Heap) (f:Nat) (D:Zg),JK prog w B s.heap.objs.size (rq D) (Qa D)->D.Nodup->(∀c,c∈D↔c∈L x)->(∀b o,b<s.heap.objs.size->s.heap.get? b=Qr o->B.get? b=Qr o)->Q (.ref s.heap.objs.size) {s with heap:=B,toks:=f}):
 jS (ud prog w) A (call (.type "set") [.str x p]) Q E s:=by
 show zQ F.called_set.mro λc tl a4=>?_;have a2:=F.called_set.made;have a3:=F.called_set.sub;show vL (codeAny_of_tree ?_);change jS _ _ (callAny (.type "set") _) _ _ _;show jN (Code.quiet_builtin _ (by rfl'),uQ F.entry_type_call ?_);rw[Around.under_plain (weight_type_call_type "set" [.str x p] []) rfl];have h1:=F.called_set.notType;have h2:=F.called_set.canCreate;have ab:=F.typeCall_set_1 (.str x p)
 repeat(any_goals(first|assumption|wp_step))
 show uR (B1 (.str x p) (E:=E) (Q₁:=λobj z=>obj=.ref s.heap.objs.size/\z= {s with heap:=s.heap.push (JQ #[] 0 (.fresh 0 0 (!w.params.followText "set-order")))}) (rfl,rfl)) λr z y=>?_
 cases r with
 |error e=>show y
 |ok fl=>
  cases fl with
  |ret obj=>
   obtain⟨rfl,rfl⟩:=y;generalize Y:(!w.params.followText "set-order")=t;have own:(s.heap.push (JQ #[] 0 (.fresh 0 0 t))).get? s.heap.objs.size=Qr (JQ #[] 0 (.fresh 0 0 t)):=Ql _ rfl;have hT:Shared.TypeIs {s with heap:=s.heap.push (JQ #[] 0 (.fresh 0 0 t))} (.ref s.heap.objs.size) "set":=(_,own,rfl);have ak:=F.called_set.init.lookup;have a9:=F.called_set.init.bind (.ref s.heap.objs.size)
   repeat(any_goals(first|assumption|wp_step))
   show uR (codeAny_call_builtin (R:=wants (λr z=>r=.none/\∃B f D,z= {s with heap:=B,toks:=f}/\JK prog w B s.heap.objs.size (rq D) (Qa D)/\D.Nodup/\(∀c,c∈D↔c∈L x)/\
    (∀b o,b<s.heap.objs.size->s.heap.get? b=Qr o->B.get? b=Qr o)) E) F.called_set.init.plain F.entry_set_init (check_set_init_1 hT ?_)) λZ z₂ H=>?_
   .have a6:=B4;have a5:=wc;have a7:(UY "str"==UY "dict")=false:=by decide
    have a8:Shared.TypeIs {s with heap:=s.heap.push (JQ #[] 0 (.fresh 0 0 t))} (.str x p) "str":=uW _ _ _;unfold Builtin.«set.__init__» noKeywords Builtin.Frozenset.updateFrom;generalize U:QaH=PI
    wp_walk
    subst U;show wpAny_pyIter_str λo St W st=>?_;show jM (QaD ?_);have a1:A.in1.in1.in1.handled=none:=by simp[hh]
    have g:(s.heap.push (JQ #[] 0 (.fresh 0 0 t))).objs.size=s.heap.objs.size+1:=Uh ..
    have m:x.cps.size=Qa (L x):=by unfold L;simp
    have O:s.heap.objs.size∉[(s.heap.push (JQ #[] 0 (.fresh 0 0 t))).objs.size]:=by rw[g,j5];show Qu (Vl _)
    show Ik ((W _ a1).toS) s.heap.objs.size O (L x) m (λi v hv=>?_) (by rw[m];show C) (x.cps.size-0) 0 _ [] ⋯ (Qo _) st List.nodup_nil (λc=>by simp) (Qo _) ?_ λz D M nd mem set=>?_
    .show ZS hv λd u e1 e2=>?_;clear hv;show(d,u,?_,e2);unfold L;rw[Um];show e1
    .show(#[],0,_,Qf _ own,λe he=>by simp at he,λk=>?_,∅,rfl,rfl,λz=>?_,λz=>ZD z (QT _));simp[rq];rw[<-Y,z];rfl
    obtain⟨B,g',d',f,P⟩:=z;have eg:g'=s.gens:=M.gens;have ed:d'=s.drawn:=M.drawn;have eo:P=s.os:=M.os;subst eg ed eo;show jN (jN (rfl,B,f,D,rfl,set,nd,mem,λb o hb e=>?_));show M.heap b o ?_ (Qf _ (Qf _ e));rw[g];simp only[ui,j5,QF,or_false,not_or];show(Qu hb,Qu (Vv hb))
   cases Z with
   |error e=>show H
   |ok q=>
    cases q with
    |ret r=>
     show ZI H λI zr=>kN zr λB f D J q1 q2 q3 q4=>?_;subst I;subst J
     repeat(any_goals(first|assumption|wp_step))
     show h _ _ _ q1 q2 q3 q4
    |_=>show H.elim
  |_=>show y.elim
end
def xZ(w:uj)(h:Heap)(a:jP)(C:Zg):Prop:=∃E u t,h.get? a=Qr (JQ E u t)/\ZQ (C.map λc=>V.str (T [c])) (E.toList.map (·.2))/\t.fits E.size=true/\E.size<v0/\Al w t E.size
theorem BN{α:Type}[DecidableEq α]:∀{D C:List α},D.Nodup->(∀x∈D,x∈C)->Qa C=Qa D->C.Perm D
 |[],C,_,_,h=>by rw[vw.mp h]
 |d::r,C,nd,sub,h=>by
  obtain⟨O,Y⟩:=UR.mp nd;have hd:=sub d (ub ..);have p:C.Perm (d::C.erase d):=List.perm_cons_erase hd;show p.trans (List.Perm.cons d (BN Y (λx f=>?_) ?_))
  .have H:x≠d:=by rintro rfl;show O f
   show(WP H).mpr (sub x (ua _ f))
  rw[Wu hd,h,jV]
  lia
theorem B2:∀{E:List (Int×Value)},ElemsOf (PySem.strKind prog w) E->(∀e∈E,∀k,(PySem.strKind prog w).is k e.2=true->rq ds k=true)->
 ∃C:Zg,ZQ (C.map λc=>V.str (T [c])) (E.map (·.2))/\(∀c∈C,c∈ds)/\∀c,(∃e∈E,(PySem.strKind prog w).is (T [c]) e.2=true)->c∈C
 |[],_,_=>([],.nil,λc h=>(QF h).elim,λc f=>by obtain⟨e,h,_⟩:=f;show(QF h).elim)
 |e::r,J,mem=>by
  obtain⟨C,v,m,M⟩:=B2 (ds:=ds) J.tail λx H=>mem x (ua _ H);obtain⟨⟨k,I,_⟩,_⟩:=J.head;obtain⟨t,q⟩:=WL I;have Z:=mem e (ub ..) k I;unfold rq at Z;rw[ji]at Z;obtain⟨c,g,U⟩:=Z;have U:=of_decide_eq_true U;subst U;show(c::C,.cons (t,q) v,λd hd=>?_,λd (x,H,Y)=>?_)
  .rcases ui.mp hd with rfl|hd;show g;show m d hd
  rcases ui.mp H with rfl|H
  .have:T [d]=T [c]:=(PySem.strKind prog w).inj _ _ _ Y I;rw[UM (xb.mp this)]
   show ub ..
  show ua _ (M d (x,H,Y))
theorem F9(st:JK prog w h a (rq ds) (Qa ds))(nd:ds.Nodup):∃C,C.Perm ds/\xZ w h a C:=by show ZH st λE y t z=>ZO z λv J mem S f z=>ZI z λsz u=>?_;clear z st;show Zz (B2 (ds:=ds) J λe x k I=>(mem k).mpr (e,x,I)) λC v1 M m=>?_;have H:=v1.length;rw[jO,jO]at H;have H:Qa C=Qa ds:=H.trans (Qq.trans sz);show(C,BN nd (λc d=>m c ((mem (T [c])).mp ?_)) H,E,y,t,v,v1,f,S,u);rw[C1];show decide_eq_true d
noncomputable def su(w:uj)(a:jP)(C:Zg):HO:=.ext λh=>xZ w h a C
section
def RT(w:uj):ZE->Hp->VK->Prop:=λv H Q=>aS (λz=>a0 (
 Qa (L z)<=1000/\∀p C,H p=Qs->C.Nodup->(∀c,c∈C↔c∈L z)->Q (.ref p) (upd H p (su w p C))
 )) v
theorem O3(hw:X.w=w)(d:X.calm=true):JU X (.type "set") (RT w):=by
 subst hw;intro m s D H Y U Q I r h;unfold RT at h;obtain⟨z,rfl,h⟩:=aS1 h
 ·
  obtain⟨O,q⟩:=h;show Zf (J1 r) λu Z R=>?_;subst Z;obtain⟨t,rfl⟩:=R;show yh (prog:=X.prog) (w:=X.w) (I.ok.hd d) (by unfold v0;omega) λB p f set nd mem kp=>?_;show Zf (F9 set nd) λC pm S=>?_;have j:=I.hok.fresh (Qg s.heap.objs.size);show(.ref s.heap.objs.size,_,I.laid (o:=su X.w s.heap.objs.size C) (t':=p) (λb o e=>kp b o (Qn e) e) (Qg _) (S,?_,?_),rfl,q _ C j (pm.nodup_iff.mpr nd) λc=>(pm.mem_iff).trans (mem c));show Jo S λE x t v _=>(_,v);rintro y J ⟨E,x,t,v,r⟩ k;show(E,x,t,k _ v,r)
end
theorem Z1:Slot "set_iterator" "__next__" "set_iterator.__next__":=
 .of (owner:="set_iterator") (n:="__next__") (by rw[vg,uO];kernel_rfl) (by rfl') (by rfl') (by rfl') (by first|show .inl (by rfl')|show .inr (by rfl')) (by rw[u7];kernel_rfl)
theorem YQ:QaN table "set_iterator.__next__"=Qr Builtin.«set_iterator.__next__»:=Qba (by kernel_rfl)
theorem qi(v:Value):Qbb "set_iterator.__next__" ([v],[]):=by unfold Qbb;kernel_rfl
theorem iI:Slot "set_iterator" "__iter__" "set_iterator.__iter__":=
 .of (owner:="set_iterator") (n:="__iter__") (by rw[vg,uO];kernel_rfl) (by rfl') (by rfl') (by rfl') (by first|show .inl (by rfl')|show .inr (by rfl')) (by rw[u7];kernel_rfl)
theorem pZ:QaN table "set_iterator.__iter__"=Qr Builtin.«dict_keyiterator.__iter__»:=
 QaM (id':="dict_keyiterator.__iter__") (by kernel_rfl) (by first|rfl|rfl') (by rfl') (by kernel_rfl)
theorem sA(v:Value):Qbb "set_iterator.__iter__" ([v],[]):=by unfold Qbb;kernel_rfl
theorem pY:QaN table "set.__iter__"=Qr Builtin.«frozenset.__iter__»:=
 QaM (id':="frozenset.__iter__") (by kernel_rfl) (by first|rfl|rfl') (by rfl') (by kernel_rfl)
def kq(h:Heap)(I:jP)(first:Value)(i:Nat)(a:jP)(n E:Nat):Prop:=h.get? I=Qr {cls:=.type "set_iterator",data:=.fields #[first,.int i 0,.ref a,.int n 0,.int E 0]}
section
variable{prog:j8}{w:uj}{A:uv}{E:ZW}{s:jQ}{I Fr a:jP}{i n ep:Nat}{es:Array (Int×Value)}{t:vH}
theorem C5{q:Array Value}{m p:Nat}{g:Int}{x:Value}{Q:Option Value->jQ->Prop}(d:kq s.heap I (.ref Fr) i a n ep)(z:s.heap.get? Fr=Qr {cls:=.type "tuple",data:=.seq q m})(Y:s.heap.get? a=Qr (JQ es ep t))(f:t.fits es.size=true)(r:es.size=n)
 (C:q[i]?=Qr (uL p)) (y:es[p]?=Qr (g,x)) (J:∀H,kq H I (.ref Fr) (i+1) a n ep->Heap.SameBut I s.heap H->Q (Qr x) {s with heap:=H}):jS (ud prog w) A (uU (.ref I)) Q E s:=by
 have j:s.TypeIs (.ref I) "set_iterator":=(_,d,rfl);unfold uU;show jM (uG (uk (name:=Qe "__next__") j Z1 (ur Z1 j YQ ?_ (qi _))))
 unfold Builtin.«set_iterator.__next__»
 show jM (m:=QaF _ _ _) (jN ?_);show jM (vT d rfl ?_);dsimp only;show jM (vj Y rfl f ?_);rw[Zo (by rw[r];simp)];show jM (uT z rfl ?_);dsimp only;rw[Qj,C];change jS _ _ (setNextDrawn a (p:Int).toNat (ep:Int).toNat >>=_) _ _ s;rw[Qj,Qj];show jM ?_;unfold setNextDrawn;show jM (u5 Y rfl f ?_);dsimp only;rw[Zo (by simp),y];dsimp only;show jN (jM (uB d (by simp) λH P S=>jN (x,rfl,jN (J H ?_ S))));change H.get? I=_;rw[P];simp[uL]
theorem t9{Q:Option Value->jQ->Prop}{h0:Heap}{o:Obj}{Y:Array Value}(d:A.handled=Qs)(u:h0.get? I=Qr {cls:=.type "set_iterator",data:=.fields Y})(J:2<Y.size)
 (j:∀b o,b≠I->s.heap.get? b=Qr o->h0.get? b=Qr o) (M:∀B,(∀b o,b≠I->s.heap.get? b=Qr o->B.get? b=Qr o)->Q Qs {s with heap:=B}):
 jS (ud prog w) A.in1 (do
  Qbq (.ref I) 2 QG
  let e <-newExc (UY "StopIteration") []
  raiseNew e:Sem PySem.Fin) (λf S=>∃v,f=Fin.done (Flow.ret v)/\jS (ud prog w) A (pure (Qr v)) Q E S)
  (λe S=>jS (ud prog w) A (do
   let b <-isInstance e (UY "StopIteration")
   if b=true then pure Qs else throw e) Q E S) {s with heap:=h0}:=by
 show jM (uB (s:= {s with heap:=h0}) u (by simpa using J) λx p z=>?_);show jM ?_;simp only[newExc,newTuple];show jM (uS ?_ (by size_fits));show jM (m:=QaL _ _) (vN (a:=QG) (by first|rfl|(simp only[QaL];rfl)) ?_);show uS ?_ (by size_fits);simp only[raiseNew];show jM (wpAny_handled ?_);rw[show A.in1.handled=Qs from d];show jM (jN (wpAny_throw ?_));show jM (vD (T:="StopIteration") (b:=true) (_,Ql _ rfl,rfl) QaK ?_);show jN (M _ λb o U e=>Qf _ (Qf _ ((z.2 b U).trans (j b o U e))))
theorem Fc{p:Array Value}{m:Nat}{Q:Option Value->jQ->Prop}(g:A.handled=Qs)(d:kq s.heap I (.ref Fr) i a n ep)(y:s.heap.get? Fr=Qr {cls:=.type "tuple",data:=.seq p m})(Y:s.heap.get? a=Qr (JQ es ep t))(f:t.fits es.size=true)(q:es.size=n)
 (C:p[i]?=Qs) (J:∀H,(∀b o,b≠I->s.heap.get? b=Qr o->H.get? b=Qr o)->Q Qs {s with heap:=H}):jS (ud prog w) A (uU (.ref I)) Q E s:=by
 have j:s.TypeIs (.ref I) "set_iterator":=(_,d,rfl);unfold uU;show jM (uG (uk (name:=Qe "__next__") j Z1 (ur Z1 j YQ ?_ (qi _))))
 unfold Builtin.«set_iterator.__next__»
 show jM (m:=QaF _ _ _) (jN ?_);show jM (vT d rfl ?_);dsimp only;show jM (vj Y rfl f ?_);rw[Zo (by rw[q];simp)];show jM (uT y rfl ?_);dsimp only;rw[Qj,C];show jM (uB d (by simp) λH P z=>?_);show t9 (o:=JQ es ep t) g P (by simp) (λb o S e=>(z.2 b S).trans e) J
theorem FI{Q:Option Value->jQ->Prop}(Z:w.params.followText "set-order"=true)(d:kq s.heap I (.int 0 0) i a n ep)(Y:s.heap.get? a=Qr (JQ es ep t))(f:t.fits es.size=true)(p:es.size=n)
 (z:(vP (w.params.setOrder a ep) es)[i]?=Qr (hx,x)) (M:∀B,kq B I (.int 0 0) (i+1) a n ep->Heap.SameBut I s.heap B->Q (Qr x) {s with heap:=B}):jS (ud prog w) A (uU (.ref I)) Q E s:=by
 have j:s.TypeIs (.ref I) "set_iterator":=(_,d,rfl);unfold uU;show jM (uG (uk (name:=Qe "__next__") j Z1 (ur Z1 j YQ ?_ (qi _))))
 unfold Builtin.«set_iterator.__next__»
 show jM (m:=QaF _ _ _) (jN ?_);show jM (vT d rfl ?_);dsimp only;show jM (vj Y rfl f ?_);rw[Zo (by rw[p];simp)];show jM ?_;unfold setNext Qak;rw[Qj,Qj];show jM (u5 Y rfl f ?_);dsimp only;show jM (jM (uX (jN ?_)));change jS _ _ (if w.params.followText "set-order"=true then _ else _) _ _ s;rw[Zx Z,Zo (by simp)];unfold setWalk Qak;show jM (jM (u5 Y rfl f ?_));dsimp only;show jM (jM (uX (jN ?_)));change jS _ _ (if w.params.followText "set-order"=true then _ else _) _ _ s;rw[Zx Z];show jM (uX (jN ?_));change jS _ _ (pure (VP _ (vP (w.params.setOrder a ep) es)[i]?)) _ _ s;rw[z];show jN ?_;dsimp only[VP];show jM (uB d (by simp) λy g C=>?_);show jM (uB (s:= {s with heap:=y}) g (by simp) λJ u S=>jN (x,rfl,jN (M J ?_ (C.trans S))));change J.get? I=_;rw[u];simp[uL]
theorem Ia{Q:Option Value->jQ->Prop}(Y:w.params.followText "set-order"=true)(g:A.handled=Qs)(d:kq s.heap I (.int 0 0) i a n ep)(H:s.heap.get? a=Qr (JQ es ep t))(f:t.fits es.size=true)(p:es.size=n)
 (x:(vP (w.params.setOrder a ep) es)[i]?=Qs) (J:∀B,(∀b o,b≠I->s.heap.get? b=Qr o->B.get? b=Qr o)->Q Qs {s with heap:=B}):jS (ud prog w) A (uU (.ref I)) Q E s:=by
 have j:s.TypeIs (.ref I) "set_iterator":=(_,d,rfl);unfold uU;show jM (uG (uk (name:=Qe "__next__") j Z1 (ur Z1 j YQ ?_ (qi _))))
 unfold Builtin.«set_iterator.__next__»
 show jM (m:=QaF _ _ _) (jN ?_);show jM (vT d rfl ?_);dsimp only;show jM (vj H rfl f ?_);rw[Zo (by rw[p];simp)];show jM ?_;unfold setNext Qak;rw[Qj,Qj];show jM (u5 H rfl f ?_);dsimp only;show jM (jM (uX (jN ?_)));change jS _ _ (if w.params.followText "set-order"=true then _ else _) _ _ s;rw[Zx Y,Zo (by simp)];unfold setWalk Qak;show jM (jM (u5 H rfl f ?_));dsimp only;show jM (jM (uX (jN ?_)));change jS _ _ (if w.params.followText "set-order"=true then _ else _) _ _ s;rw[Zx Y];show jM (uX (jN ?_));change jS _ _ (pure (VP _ (vP (w.params.setOrder a ep) es)[i]?)) _ _ s;rw[x];show jN ?_;dsimp only[VP];show t9 (h0:=s.heap) (o:=JQ es ep t) g d (by simp) (λb o S e=>e) J
end
theorem kG{α:Type}:∀(l:List α) (i:Nat) (h:i<Qa l),(l[i]::l.eraseIdx i).Perm l
 |x::r,0,_=>List.Perm.refl _
 |x::r,i+1,h=>by
  have H:i<Qa r:=by simpa using h
  show(List.Perm.swap x r[i] (r.eraseIdx i)).trans (List.Perm.cons x (kG r i H))
theorem Eu{α:Type}(next:Nat->Nat):∀(f k:Nat) (left:List α) (O:Array α),Qa left=f->∃r:List α,(pickOrder.go next f k left O).toList=O.toList++r/\r.Perm left
 |0,k,left,O,h=>by rw[vw.mp h];show([],by simp[pickOrder.go],List.Perm.refl _)
 |f+1,k,left,O,h=>by
  have H:next k%Qa left<Qa left:=jL _ ⋯
  unfold pickOrder.go;rw[Qd H];dsimp only;obtain⟨r,e,p⟩:=Eu next f (k+1) (left.eraseIdx (next k%Qa left)) (O.push left[next k%Qa left]) (by rw[Wj H,h];rfl)
  show(left[next k%Qa left]::r,by rw[e];simp,(List.Perm.cons _ p).trans ?_);show kG left _ H
theorem oA{α:Type}(next:Nat->Nat)(x:Array α):(vP next x).toList.Perm x.toList:=by show Zf (Eu next x.size 0 x.toList #[] (by simp)) λr e p=>?_;unfold vP;rw[e];simpa using p
section
variable{E:ZW}
theorem oX{Q:Nat->jQ->Prop}(H:0<n)(h:∀i d,i<n->Q i {s with drawn:=d}):jS (ud prog w) A (choose src n) Q E s:=by intro P p Y;unfold choose;rw[Sem.wp_choose];show(⋯,h _ _ (jL _ H))
theorem AO{α:Type}:∀(n:Nat) (f:List α) (s:jQ) (Q:List α->jQ->Prop),Qa f=n->(∀r d,r.Perm f->Q r {s with drawn:=d})->jS (ud prog w) A (drawOrder n f) Q E s
 |0,f,s,Q,h,q=>by rw[vw.mp h];unfold drawOrder;show jN (by have:=q [] s.drawn (by rw[vw.mp h]);show this)
 |n+1,[],s,Q,h,q=>by simp at h
 |n+1,x::f,s,Q,h,q=>by unfold drawOrder;show jM (oX (by simp) λi d H=>?_);rw[Qd H];dsimp only;show jM (AO n ((x::f).eraseIdx i) _ _ (by rw[Wj H,h];rfl) λr D p=>?_);show jN (q _ D ((List.Perm.cons _ p).trans (kG _ i H)))
end
section
variable{prog:j8}{w:uj}{A:uv}{E:ZW}{s:jQ}{I a:jP}{i n ep sl:Nat}{es:Array (Int×Value)}{t:vH}
theorem C6{Q:Option Value->jQ->Prop}(Z:w.params.followText "set-order"=false)(d:kq s.heap I (.int sl 0) i a n ep)(Y:s.heap.get? a=Qr (JQ es ep t))(f:t.fits es.size=true)(q:es.size=n)(one:n<=1)(u:t.led=true)
 (z:es[SetTable.below t.place sl]?=Qr (hx,x)) (D:t.place[SetTable.below t.place sl]?=Qr j) (M:∀B,kq B I (.int (j+1:Nat) 0) (i+1) a n ep->Heap.SameBut I s.heap B->Q (Qr x) {s with heap:=B}):jS (ud prog w) A (uU (.ref I)) Q E s:=by
 have p:s.TypeIs (.ref I) "set_iterator":=(_,d,rfl);unfold uU;show jM (uG (uk (name:=Qe "__next__") p Z1 (ur Z1 p YQ ?_ (qi _))))
 unfold Builtin.«set_iterator.__next__»
 show jM (m:=QaF _ _ _) (jN ?_);show jM (vT d rfl ?_);dsimp only;show jM (vj Y rfl f ?_);rw[Zo (by rw[q];simp)];show jM ?_;unfold setNext Qak;rw[Qj,Qj,Qj];show jM (u5 Y rfl f ?_);dsimp only;show jM (jM (uX (jN ?_)));change jS _ _ (if w.params.followText "set-order"=true then _ else _) _ _ s;rw[Zo (by rw[Z];show Qk)];change jS _ _ (if(!t.plain && decide (es.size>1))=true then _ else _) _ _ s;rw[Zo (by rw[decide_eq_false ⋯,VN];show Qk)];show jM ?_;change jS _ _ (if(!t.led && !es.isEmpty)=true then _ else _) _ _ s;rw[Zo (by rw[u];show Qk)];show jN ?_;rw[z,D];show jN ?_;dsimp only;show jM (uB d (by simp) λy g C=>?_);show jM (uB (s:= {s with heap:=y}) g (by simp) λJ v S=>jN (x,rfl,jN (M J ?_ (C.trans S))));change J.get? I=_;rw[v];simp[uL]
theorem xk{Q:Option Value->jQ->Prop}(Z:w.params.followText "set-order"=false)(d:A.handled=Qs)(H:kq s.heap I (.int sl 0) i a n ep)(Y:s.heap.get? a=Qr (JQ es ep t))(f:t.fits es.size=true)(p:es.size=n)(one:n<=1)(u:t.led=true)
 (x:es[SetTable.below t.place sl]?=Qs) (J:∀B,(∀b o,b≠I->s.heap.get? b=Qr o->B.get? b=Qr o)->Q Qs {s with heap:=B}):jS (ud prog w) A (uU (.ref I)) Q E s:=by
 have j:s.TypeIs (.ref I) "set_iterator":=(_,H,rfl);unfold uU;show jM (uG (uk (name:=Qe "__next__") j Z1 (ur Z1 j YQ ?_ (qi _))))
 unfold Builtin.«set_iterator.__next__»
 show jM (m:=QaF _ _ _) (jN ?_);show jM (vT H rfl ?_);dsimp only;show jM (vj Y rfl f ?_);rw[Zo (by rw[p];simp)];show jM ?_;unfold setNext Qak;rw[Qj,Qj,Qj];show jM (u5 Y rfl f ?_);dsimp only;show jM (jM (uX (jN ?_)));change jS _ _ (if w.params.followText "set-order"=true then _ else _) _ _ s;rw[Zo (by rw[Z];show Qk)];change jS _ _ (if(!t.plain && decide (es.size>1))=true then _ else _) _ _ s;rw[Zo (by rw[decide_eq_false ⋯,VN];show Qk)];show jM ?_;change jS _ _ (if(!t.led && !es.isEmpty)=true then _ else _) _ _ s;rw[Zo (by rw[u];show Qk)];show jN ?_;rw[x];show jN ?_;dsimp only;show t9 (h0:=s.heap) (o:=JQ es ep t) d H (by simp) (λb o S e=>e) J
theorem iR{Q:ZW}(d:kq s.heap I first i a n ep)(h:Q (.ref I) s):jS (ud prog w) A (QaH (.ref I)) Q E s:=by have H:s.TypeIs (.ref I) "set_iterator":=(_,d,rfl);show Qa1 H iI (ur iI H pZ ?_ (sA _));change jS _ _ (ret (.ref I)) _ _ s;show jN (_,rfl,"set_iterator",_,H,Z1.lookup,h)
theorem ID{Q:ZW}(Y:s.heap.get? a=Qr (JQ es ep t))(f:t.fits es.size=true)(u:Al w t es.size)
 (B:¬(w.params.followText "set-order"=false/\1<es.size)->Q (.ref s.heap.objs.size) {s with heap:=s.heap.push {cls:=.type "set_iterator",data:=.fields #[.int 0 0,.int 0 0,.ref a,.int es.size 0,.int ep 0]} })
 (M:w.params.followText "set-order"=false->∀(r:Zg) d,r.Perm (Qi es.size)->Q (.ref (s.heap.objs.size+1)) {s with heap:=(s.heap.push {cls:=.type "tuple",data:=.seq (r.map λi:Nat=>uL i).toArray}).push {cls:=.type "set_iterator",data:=.fields #[.ref s.heap.objs.size,.int 0 0,.ref a,.int es.size 0,.int ep 0]},drawn:=d})
 (S:es.size<=sizeLine):jS (ud prog w) A (QaH (.ref a)) Q E s:=by
 have v:s.TypeIs (.ref a) "set":=(_,Y,rfl);show Qa1 v F.slot_set_iter (ur F.slot_set_iter v pY ?_ (F.args_set_iter_1 _))
 unfold Builtin.«frozenset.__iter__»
 show jM (m:=Builtin.Frozenset.slot0 _ _) (jM (m:=QaF _ _ _) (jN ?_));show jN ?_;dsimp only;unfold Builtin.Frozenset.sizeOf;show jM (jM (vj Y rfl f (jN ?_)));unfold setDrawn Qak;show jM (jM (u5 Y rfl f ?_));dsimp only;show jM (jM (uX (jN (jN ?_))));change jS _ _ (if(!w.params.followText "set-order" && (!t.plain && decide (es.size>1)))=true then _ else _) _ _ s;have g:∀(j:jQ) (q:Nat->jQ->Prop),j.heap.get? a=Qr (JQ es ep t)->q ep j->jS (ud prog w) A.in1 (setEpoch a) q E j:=λj q x J=>wpAny_setEpoch_of x rfl f J;show wpAny_ite_split (λc=>?_) λc=>?_
 .have C:w.params.followText "set-order"=false:=by
   cases e:w.params.followText "set-order"with
   |false=>rfl
   |true=>rw[e]at c;simp at c
  show jM (AO es.size (Qi es.size) s _ (by simp) λr d pm=>?_);show jM (Qaj ?_ (by rw[jO,pm.length_eq,uF];show S));show jM (g _ _ (Qf _ Y) ?_);show jM (uS (jN (_,rfl,"set_iterator",_,(_,Ql _ rfl,rfl),Z1.lookup,?_)));have:=M C r d pm;simpa [Uh,uL]using this
 show jM (jN ?_);show jM (g _ _ Y ?_);show jM (uS (jN (_,rfl,"set_iterator",_,(_,Ql _ rfl,rfl),Z1.lookup,?_)));show B λp=>?_;obtain⟨y,z⟩:=p;show c ?_;rw[y,u.2 (by omega),decide_eq_true (by omega)];rfl
end
abbrev vals(E:Array (Int×Value)):ZY:=E.toList.map (·.2)
theorem LK{E:Array (Int×Value)}{p:Nat}{v:Value}(h:(vals E)[p]?=Qr v):∃H,E[p]?=Qr (H,v):=by rw[Qm]at h;obtain⟨⟨H,x⟩,e,rfl⟩:=Qv.mp h;show(H,by rw[<-Um];show e)
theorem KA{α:Type}{l:List α}{n:Nat}(h:Qa l<=n):l.toArray[n]?=none:=by rw[Uz];simpa using h
section
variable{prog:j8}{w:uj}{A:uv}{I Fr a:jP}{es:Array (Int×Value)}{t:vH}{ep:Nat}
theorem Dx(d:A.handled=Qs)(q:Fr≠I)(g:a≠I)(f:t.fits es.size=true){r:Zg}(Y:r.Perm (Qi es.size)):
 WalksS prog w A I [I,Fr,a] [I] (λx y=>y=x) es.size (λi v=>(r.map λp=>(vals es).getD p QG)[i]?=Qr v)
  (λi s=>kq s.heap I (.ref Fr) i a es.size ep/\s.heap.get? Fr=Qr {cls:=.type "tuple",data:=.seq (r.map λi:Nat=>uL i).toArray}/\s.heap.get? a=Qr (JQ es ep t)) where
 sub:=λb S=>by rw[j5.mp S];simp
 grefl:=λ_=>rfl
 gtrans:=λ_ _ _ D M=>M.trans D
 frame:=λi s C Z st _ k=>(k I (by simp) _ st.1,k Fr (by simp) _ st.2.1,k a (by simp) _ st.2.2)
 item:=λi s Q E u st J=>by
  have O:=Y.length_eq;rw[uF]at O;have H:i<Qa r:=⋯
  have P:r[i]<es.size:=QA.mp (Y.mem_iff.mp (QN H));have U:(vals es)[r[i]]?=Qr ((vals es).getD r[i] QG):=by rw[Qc,Qd (by simpa using P)];rfl
  obtain⟨m,R⟩:=LK U;show C5 st.1 st.2.1 st.2.2 f rfl (p:=r[i]) (by simp[H]) R λC j B=>J _ _ ?_ (j,(B.2 Fr q).trans st.2.1,(B.2 a g).trans st.2.2) (λb o S e=>(B.2 b (λz=>S (by simp[z]))).trans e,rfl,rfl,rfl,Qg _);rw[Qm,Qd H];rfl
 done:=λs Q E st J=>by have O:=Y.length_eq;rw[uF]at O;show Fc d st.1 st.2.1 st.2.2 f rfl (KA (by rw[jO];lia)) λC k=>J _ (λb o S e=>k b o (λz=>S (by simp[z])) e,rfl,rfl,rfl,Qg _)
 self:=λi s Q E st J=>iR st.1 J
theorem Gx(Z:w.params.followText "set-order"=true)(d:A.handled=Qs)(g:a≠I)(f:t.fits es.size=true):
 WalksS prog w A I [I,a] [I] (λx y=>y=x) es.size (λi v=>((vP (w.params.setOrder a ep) es).toList.map (·.2))[i]?=Qr v)
  (λi s=>kq s.heap I (.int 0 0) i a es.size ep/\s.heap.get? a=Qr (JQ es ep t)) where
 sub:=λb H=>by rw[j5.mp H];simp
 grefl:=λ_=>rfl
 gtrans:=λ_ _ _ C M=>M.trans C
 frame:=λi s B p st _ k=>(k I (by simp) _ st.1,k a (by simp) _ st.2)
 item:=λi s Q E m st J=>by
  have O:=(oA (w.params.setOrder a ep) es).length_eq;rw[Qq,Qq]at O;have Y:i<(vP (w.params.setOrder a ep) es).size:=⋯
  show FI Z st.1 st.2 f rfl (hx:=(vP (w.params.setOrder a ep) es)[i].1) (x:=(vP (w.params.setOrder a ep) es)[i].2) (by rw[QO Y]) λB j S=>J _ _ ?_ (j,(S.2 a g).trans st.2) (λb o H e=>(S.2 b (λz=>H (by simp[z]))).trans e,rfl,rfl,rfl,Qg _);rw[Qm,Um,QO Y];rfl
 done:=λs Q E st J=>by have O:=(oA (w.params.setOrder a ep) es).length_eq;rw[Qq,Qq]at O;show Ia Z d st.1 st.2 f rfl (by rw[Uz];lia) λB k=>J _ (λb o H e=>k b o (λz=>H (by simp[z])) e,rfl,rfl,rfl,Qg _)
 self:=λi s Q E st J=>iR st.1 J
theorem sC(j:Nat):SetTable.below #[j] 0=0:=by simp[SetTable.below,SetTable.below.go]
theorem Co(j:Nat):SetTable.below #[j] (j+1)=1:=by simp[SetTable.below,SetTable.below.go]
theorem Dy(d:w.params.followText "set-order"=false)(r:A.handled=Qs)(p:a≠I)(f:t.fits es.size=true)(one:es.size<=1)(u:t.led=true):
 ∃g:Nat->Nat,g 0=0/\WalksS prog w A I [I,a] [I] (λx y=>y=x) es.size (λi v=>(vals es)[i]?=Qr v)
  (λi s=>kq s.heap I (.int (g i:Nat) 0) i a es.size ep/\s.heap.get? a=Qr (JQ es ep t)):=by
 have m:t.place.size=es.size:=by unfold SetTable.fits at f;rw[QW]at f;show eq_of_beq f.1
 by_cases U:es.size=0
 .have e0:es=#[]:=Array.eq_empty_of_size_eq_zero U;show(λ_=>0,rfl,λb S=>by rw[j5.mp S];simp,λ_=>rfl,λ_ _ _ B J=>J.trans B,λi s C tk st _ k=>(k I (by simp) _ st.1,k a (by simp) _ st.2),λi s Q E R st H=>by lia,λs Q E st H=>?_,λi s Q E st H=>iR st.1 H);show xk d r st.1 st.2 f rfl one u (by rw[e0];simp) λC k=>H _ (λb o S e=>k b o (λz=>S (by simp[z])) e,rfl,rfl,rfl,Qg _)
 have B:es.size=1:=⋯
 obtain⟨j,D⟩:∃j,t.place=#[j]:=by
  have:t.place.size=1:=m.trans B
  show(t.place[0],by
   apply Array.ext;simpa using this;intro i a1 M;have:i=0:=by simp at M;lia
   subst this;rfl)
 have a2:Qa (vals es)=1:=by simpa using B
 have O:(vals es)[0]?=Qr ((vals es).getD 0 QG):=by rw[Qc,Qd ⋯];rfl
 obtain⟨q,he⟩:=LK O;show(λi=>if i=0 then 0 else j+1,rfl,λb S=>by rw[j5.mp S];simp,λ_=>rfl,λ_ _ _ B J=>J.trans B,λi s C tk st _ k=>(k I (by simp) _ st.1,k a (by simp) _ st.2),λi s Q E R st H=>?_,λs Q E st H=>?_,λi s Q E st H=>iR st.1 H)
 .have:i=0:=⋯
  subst this;show C6 d st.1 st.2 f rfl one u (hx:=q) (j:=j) ?_ ?_ λC hI P=>H _ _ O (hI,(P.2 a p).trans st.2) (λb o S e=>(P.2 b (λz=>S (by simp[z]))).trans e,rfl,rfl,rfl,Qg _)
  .rw[D];change es[SetTable.below #[j] 0]?=_;rw[sC];show he
  rw[D];change(#[j]:Array Nat)[SetTable.below #[j] 0]?=_;rw[sC];rfl
 have Y:=st.1;rw[B]at Y;have Z:kq s.heap I (.int (j+1:Nat) 0) 1 a es.size ep:=by rw[B];show Y
 show xk d r Z st.2 f rfl one u (by rw[D,Co];show Uz ⋯) λC k=>H _ (λb o S e=>k b o (λz=>S (by simp[z])) e,rfl,rfl,rfl,Qg _)
end
section
variable{prog:j8}{w:uj}{A:uv}{E:ZW}{s:jQ}{a:jP}{es:Array (Int×Value)}{t:vH}{ep:Nat}
theorem A8{Q:Bool->jQ->Prop}(Y:s.heap.get? a=Qr (JQ es ep t))(h:Q false s):jS (ud prog w) A (Builtin.List.listLengthHint (.ref a)) Q E s:=by
 have H:s.TypeIs (.ref a) "set":=(_,Y,rfl);unfold Builtin.List.listLengthHint;show jM (vy H F.slot_set_len.lookup ?_)
 wp_delta
 show jM (vD (T:="set") (b:=true) H sub_set_self ?_);change jS _ _ (typeOf (Qw a) >>=_) _ _ _;show jM (vR (T:="set") H ?_);show jN h
theorem sU(h:Qbm (λi v=>qs[i]?=Qr v) acc n)(j:Qa qs=n):acc.toList=qs:=by
 obtain⟨x,I⟩:=h;show Vu λi=>?_;rw[Um];by_cases H:i<acc.size
 .have:=I i acc[i] (by rw[QO H]);rw[QO H,this]
 rw[Uz ⋯,Uo ⋯]
theorem Ir{R:Qbw->jQ->Prop}{G:Array Qa6->Array Qa6->Prop}{P:Nat->Value->Prop}{St:Nat->jQ->Prop}(W:WalksS prog w A.in1 I fp [I] G n P St)(O:S∉fp)(st:St 0 z)(q:n<=sizeLine)
 (p:z.heap.get? S=Qr {cls:=.type "list",data:=.seq #[] c0}) (g:∀j d C,Moved (S::[I]) G z j->j.heap.get? S=Qr {cls:=.type "list",dict:=Qs,data:=.seq d C,slots:=#[]}->Qbm P d n->R (.ok (.ret res)) j):
 jS (ud prog w) A.in1 (do
  rule "list.extend.makes-room"
  Builtin.List.listTouch (.ref S)
  again (.builtin "list.extend.loop" ([.ref S,.ref I,res],[])))
  (λg j=>match g with| .done f=>R (.ok f) j| .again C=>C.quiet=true/\Qaa (ud prog w) A C R j) (λe j=>R (.error e) j) z:=by
 show jM (vf ?_);show jM ?_;change jS _ _ (updateSeq S (·.push .none) >>=λ_=>updateSeq S (·.pop)) _ _ _;show jM (Qbh p rfl ?_);have u:=Q9 (Obj.mapSeq (·.push QG)) p rfl;show Qbh (hz:=by seq_fits) u rfl ?_;have g2:=Q9 (Obj.mapSeq (·.pop)) u rfl
 have M:∀b o,b≠S->z.heap.get? b=Qr o->((z.heap.update S (Obj.mapSeq (·.push QG))).update S (Obj.mapSeq (·.pop))).get? b=Qr o:=λb o H e=>
  (UB _ _ (Ne.symm H)).trans ((UB _ _ (Ne.symm H)).trans e)
 show jN (vn F.plain_extend_loop _,QaO W q _ O _ n 0 _ #[] _ rfl (Qo _) (W.frame 0 z _ z.toks st (Qg _) λb H o e=>M b o (λy=>O (y▸H)) e) g2 (ItemsOf.nil _) λj d C m Q v=>?_);show g j d C (λb o H e=>m.heap b o H (M b o (λy=>H (by simp[y])) e),m.gens,m.drawn,m.os,m.toks) Q v
theorem CB{R:Qbw->jQ->Prop}(hh:A.handled=Qs){S:jP}{c0:Nat}{J:Value}(Z:s.heap.get? S=Qr {cls:=.type "list",data:=.seq #[] c0})(Y:s.heap.get? a=Qr (JQ es ep t))(u:t.fits es.size=true)(a1:Al w t es.size)(P:es.size<v0)
 (hR:∀m j C,m.gens=s.gens->m.os=s.os->(∀b o,b≠S->s.heap.get? b=Qr o->m.heap.get? b=Qr o)->m.heap.get? S=Qr {cls:=.type "list",dict:=Qs,data:=.seq j C,slots:=#[]}->j.toList.Perm (vals es)->R (.ok (.ret J)) m):
 jS (ud prog w) A.in1 (Builtin.List.listExtendWith (.ref S) (.ref a) J)
  (λq m=>match q with| .done f=>R (.ok f) m| .again C=>C.quiet=true/\Qaa (ud prog w) A C R m) (λe m=>R (.error e) m) s:=by
 have a5:sizeLine=16777216:=jT;have sm:es.size<=sizeLine:=by unfold v0 at P;omega
 have Q:S≠a:=λz=>by rw[z,Y]at Z;simp[JQ]at Z
 have lS:S<s.heap.objs.size:=Qn Z;have la:a<s.heap.objs.size:=Qn Y;have vl:Qa (vals es)=es.size:=by simp
 unfold Builtin.List.listExtendWith;show jM (vR (T:="set") (_,Y,rfl) ?_);have e1:Builtin.List.listSameRef (.ref S) (.ref a)=false:=by simp[Builtin.List.listSameRef,Q]
 have e2:(UY "set"==UY "list")=false:=by decide
 have e3:(UY "set"==UY "tuple")=false:=by decide
 simp only[e1,e2,e3,Wv,QX,if_false];show jM (ID Y u a1 (λno=>?_) (λbt r d pm=>?_) sm)
 .have nI:a≠s.heap.objs.size:=Qu la;have O:∀b o,s.heap.get? b=Qr o->(s.heap.push {cls:=.type "set_iterator",data:=.fields #[.int 0 0,.int 0 0,.ref a,.int es.size 0,.int ep 0]}).get? b=Qr o:=λb o e=>Qf _ e;have new:kq (s.heap.push {cls:=.type "set_iterator",data:=.fields #[.int 0 0,.int 0 0,.ref a,.int es.size 0,.int ep 0]}) s.heap.objs.size (.int 0 0) 0 a es.size ep:=Ql _ rfl;show jM (uA (A8 (O _ _ Y) ?_));rw[Zx ∅];have U:S∉[s.heap.objs.size,a]:=by simp only[ui,QF,or_false,not_or];show(Qu lS,Q)
  have q:∀(qs:ZY),qs.Perm (vals es)->∀(m:jQ) (j:Array Value) (C:Nat),Moved (S::[s.heap.objs.size]) (λx y=>y=x) {s with heap:=s.heap.push {cls:=.type "set_iterator",data:=.fields #[.int 0 0,.int 0 0,.ref a,.int es.size 0,.int ep 0]} } m->
   m.heap.get? S=Qr {cls:=.type "list",dict:=Qs,data:=.seq j C,slots:=#[]}->Qbm (λi v=>qs[i]?=Qr v) j es.size->R (.ok (.ret J)) m:=λqs pm m j C M H B=>by
   show hR m j C M.gens M.os (λb o hb e=>M.heap b o ?_ (O b o e)) H (by rw[sU B (by rw[pm.length_eq,vl])];show pm);simp only[ui,QF,or_false,not_or];show(hb,Qu (Qn e))
  cases bt:w.params.followText "set-order"with
  |true=>
   have W:=Gx (prog:=prog) (w:=w) (A:=A.in1) (I:=s.heap.objs.size) (a:=a) (es:=es) (t:=t) (ep:=ep) bt hh nI u;show Ir W U (new,O _ _ Y) (by omega) (O _ _ Z) λm j C M H B=>q _ ((oA _ es).map _) m j C M H B
  |false=>
   have one:es.size<=1:=V6 λz=>no (bt,z);show Zf (Dy (prog:=prog) (w:=w) (A:=A.in1) (I:=s.heap.objs.size) (a:=a) (es:=es) (t:=t) (ep:=ep) bt hh nI u one (a1.1 bt)) λg g0 W=>Ir W U (by rw[g0];show new,O _ _ Y) (by omega) (O _ _ Z) λm j C M H B=>q _ (List.Perm.refl _) m j C M H B
 generalize hF:({cls:=.type "tuple",data:=.seq (r.map λi:Nat=>uL i).toArray}:Obj)=oF;generalize hO:({cls:=.type "set_iterator",data:=.fields #[.ref s.heap.objs.size,.int 0 0,.ref a,.int es.size 0,.int ep 0]}:Obj)=oI;have O:∀b o,s.heap.get? b=Qr o->((s.heap.push oF).push oI).get? b=Qr o:=λb o e=>Qf _ (Qf _ e)
 have sz:(s.heap.push oF).objs.size=s.heap.objs.size+1:=Uh ..
 have new:((s.heap.push oF).push oI).get? (s.heap.objs.size+1)=Qr oI:=by have:=Ql (s.heap.push oF) (o:=oI) (by rw[<-hO];rfl);rwa[sz]at this
 have a2:((s.heap.push oF).push oI).get? s.heap.objs.size=Qr oF:=Qf _ (Ql _ (by rw[<-hF];rfl));show jM (uA (A8 (O _ _ Y) ?_));rw[Zx ∅];have nF:@Ne jP s.heap.objs.size (s.heap.objs.size+1):=Qu (Vl _);have nI:@Ne jP a (s.heap.objs.size+1):=Qu (Vv la);have W:=Dx (prog:=prog) (w:=w) (A:=A.in1) (I:=s.heap.objs.size+1) (Fr:=s.heap.objs.size) (a:=a) (es:=es) (t:=t) (ep:=ep) hh nF nI u pm;have U:S∉[s.heap.objs.size+1,s.heap.objs.size,a]:=by simp only[ui,QF,or_false,not_or];show(Qu (Vv lS),Qu lS,Q)
 show Ir W U (new.trans (by rw[<-hO];rfl),a2.trans (by rw[<-hF]),O _ _ Y) (by omega) (O _ _ Z) λm j C M H B=>?_
 have pq:(r.map λp=>(vals es).getD p QG).Perm (vals es):=by
  have h1:=pm.map λp=>(vals es).getD p QG;have h2:((Qi es.size).map λp=>(vals es).getD p QG)=vals es:=by show UN (by simp) λi a6 a3=>?_;rw[Vk,Vr,Qc,Qd a3];rfl
  rw[h2]at h1;show h1
 show hR m j C M.gens M.os (λb o hb e=>M.heap b o ?_ (O b o e)) H (by rw[sU B (by rw[pq.length_eq,vl])];show pq);simp only[ui,QF,or_false,not_or];show(hb,Qu (Vv (Qn e)))
end
section
variable{E:ZW}
theorem Gw(h:ZQ xs us)(p:vs.Perm us):∃Y,Y.Perm xs/\ZQ Y vs:=by
 induction p generalizing xs with
 |nil=>show(xs,List.Perm.refl _,h)
 |cons v p d=>
  cases h with
  |cons r h=>
   show Zf (d h) λY q Q=>(_::Y,List.Perm.cons _ q,.cons r Q)
 |swap x y l=>
  cases h with
  |cons R h=>
   cases h with
   |cons m h=>show(_,List.Perm.swap _ _ _,.cons m (.cons R h))
 |trans P f I z=>
  show Zf (z h) λY q Q=>?_;show Zf (I Q) λZ t B=>(Z,t.trans q,B)
theorem AH{Q:ZY->jQ->Prop}(hh:A.handled=Qs)(st:xZ w s.heap a C)
 (h:∀vs S (D:Zg),D.Perm C->ZQ (D.map λc=>V.str (T [c])) vs->S.gens=s.gens->S.os=s.os->(∀b o,s.heap.get? b=Qr o->S.heap.get? b=Qr o)->Q vs S):jS (ud prog w) A (QaV (.ref a)) Q E s:=by
 show kN st λes ep t ho vl P H a1=>?_;clear st;have a5:sizeLine=16777216:=jT;unfold QaV;show jM (QaD (uQ F.entry_proto_collect ?_));rw[Around.under_plainId F.plain_proto_collect _];change jS _ A.in1 (newList [] >>=λl=>again (.builtin "list.__iadd__" ([l,.ref a],[]))) _ _ s;show jM (uS ?_);show jN (vn F.plain_list_iadd _,uQ F.entry_list_iadd ?_);rw[Around.under_plainId F.plain_list_iadd _];change jS _ A.in1 (Builtin.List.listExtendWith (.ref s.heap.objs.size) (.ref a) (.ref s.heap.objs.size)) _ _ _
 let OF:jQ->Prop:=λS=>∃f m,S.gens=s.gens/\S.os=s.os/\(∀b o,s.heap.get? b=Qr o->S.heap.get? b=Qr o)/\S.heap.get? s.heap.objs.size=Qr {cls:=.type "list",dict:=Qs,data:=.seq f m,slots:=#[]}/\f.toList.Perm (vals es)
 have u:∀S:jQ,OF S->jS (ud prog w) A (match Qw s.heap.objs.size with
  |Qw a=>do
   match(<-load a).data with
    |Data.seq xs _=>pure xs.toList
    |_=>unsupported "internal:collect"
  |_=>unsupported "internal:collect") Q E S:=by
  show λS zr=>cC zr λf m M g2 U g4 g5=>?_;clear zr;change jS _ A (load s.heap.objs.size >>=_) _ _ _;show jM (Qbo g4 ?_);show Zf (Gw vl g5) λY q j=>?_
  obtain⟨D,hd,rfl⟩:∃D:Zg,D.Perm C/\(D.map λc=>V.str (T [c]))=Y:=by
   have back:∀{Y O:ZE},Y.Perm O->∀C:Zg,O=(C.map λc=>V.str (T [c]))->∃D:Zg,D.Perm C/\(D.map λc=>V.str (T [c]))=Y:=by
    intro Y O p
    induction p with
    |nil=>
     intro C e;show([],by rw[show C=[]by simpa using e.symm],rfl)
    |cons v p ih=>
     intro C e
     cases C with
     |nil=>cases e
     |cons c r=>
      rw[uo]at e;obtain⟨B,J⟩:=List.cons.inj e;show Zf (ih r J) λD q j=>(c::D,List.Perm.cons _ q,by rw[uo,j,B])
    |swap x y l=>
     intro C e
     match C,e with
     |c::d::r,e=>
      rw[uo,uo]at e;obtain⟨B,J⟩:=List.cons.inj e;obtain⟨e3,e4⟩:=List.cons.inj J;show(d::c::r,List.Perm.swap _ _ _,by rw[uo,uo,B,e3,e4])
    |trans p1 p2 a2 a3=>
     intro C e;show Zf (a3 C e) λD q j=>?_;show Zf (a2 D j.symm) λfs q3 q4=>(fs,q3.trans q,q4)
   show back q C rfl
  show jN (h _ S D hd j M g2 U)
 show uE (CB (s:= {s with heap:=s.heap.push {cls:=.type "list",data:=.seq ([]:ZY).toArray} }) (R:=λr S=>r=.ok (.ret (.ref s.heap.objs.size))/\OF S) hh (Ql _ rfl) (Qf _ ho) P a1 H λS f m M g2 U g4 g5=>(rfl,f,m,M,g2,λb o e=>U b o (Qu (Qn e)) (Qf _ e),g4,g5)) (λfn S I=>?_) λe S he=>?_
 .cases fn with
  |done fl=>
   obtain⟨e,I⟩:=I;cases e;show u S I
  |again m=>
   show(I.1,uR I.2 λr s2 Z=>?_);obtain⟨e,Z⟩:=Z;subst e;show u s2 Z
 show ZD he.1 (by intro z;cases z)
end
theorem tm(x y:Str)(H J:Nat)(p:y.length=1):∀(l:Zg) (st:Array Nat×Nat),(∀i∈l,st.2<=i)->l.Pairwise (· <·)->st.1.size+Qa l<=J->
 (forIn l st (StrLaws.occBody x y H J)).run.fst.size=st.1.size+l.countP λi=>decide (i+1<=H) && Builtin.Str.subAt x y i
 |[],st,_,_,_=>rfl
 |a::l,st,I,t,O=>by
  rw[Uw];unfold StrLaws.occBody;obtain⟨U,P⟩:=QU.mp t;rw[jV]at O;by_cases d:a+y.length<=H/\Builtin.Str.subAt x y a=true
  .rw[Zx (((⋯,I a (ub ..)),d.1),d.2)];have:=tm x y H J p l (st.1.push a,a+y.length) (λi h=>by have:=U i h;change a+y.length<=i;lia) P (by rw[VB];lia);rw[VB]at this;show this.trans ?_;rw[QB,Zx (by rw[d.2,Bool.and_true,decide_eq_true_eq];lia)]
   lia
  rw[Zo λz=>d (z.1.2,z.2)];have:=tm x y H J p l st (λi h=>I i (ua _ h)) P ⋯;show this.trans ?_;rw[QB,Zo];rfl;intro z;rw[QW,decide_eq_true_eq]at z;show d (⋯,z.2)
theorem sG(l:Zg)(c:Nat):∀hi,hi<=Qa l->(Qi hi).countP (λi=>decide (l[i]?=Qr c))=(l.take hi).count c
 |0,_=>rfl
 |hi+1,h=>by rw[Q4,UG,sG l c hi ⋯,QZ,List.count_append,Qd ⋯];have e:l[hi]?=Qr l[hi]:=Qd ⋯;simp[VD,QB,e]
theorem BB(x y:Str)(c H:Nat)(p:L y=[c])(d:H<=Qa (L x)):Qa (Builtin.Str.occurrences x y 0 H (x.length+1))=((L x).take H).count c:=by
 have B:y.length=1:=by rw[<-zC,p];rfl
 rw[StrLaws.occ_eq,Qq,tm x y H _ B _ _ (λi _=>Qo _) (List.pairwise_lt_range' ..) (by rw[List.length_range',<-zC];simp;lia)];rw[<-List.range_eq_range',<-sG (L x) c H d];change 0+_=_;rw[VC,Vg,Q4,UG];have f:[H].countP (λi=>decide (i+1<=H) && Builtin.Str.subAt x y i)=0:=by rw[Q8];intro i h;rw[j5.mp h,decide_eq_false ⋯];show Qk
 rw[f,Us];show List.countP_congr λi h=>?_;have h:=QA.mp h;rw[QW,decide_eq_true_eq,decide_eq_true_eq];have e:=XN x y i;unfold R6 at e;rw[p]at e;have O:i+y.length<=x.length:=by rw[B,<-zC];lia
 rw[decide_eq_true O,jA]at e;rw[e,decide_eq_true_eq];constructor
 .show λz=>ZL z λ_ _ E=>?_;clear z;have:=congrArg (λl:Zg=>l[0]?) E;simpa using this
 intro E;show(⋯,by change i+1<=_;lia,?_);show UN (by simp;lia) λk C I=>?_;have:k=0:=by simp at I;lia
 subst this;rw[Qd ⋯]at E;simpa using Option.some.inj E
theorem yu(x y:Str)(i j:Int)(t u v q:Tok):Gives (Builtin.«str.count» ([.str x t,.str y u,.int i v,.int j q],[])) (.int (Qa (Builtin.Str.occurrences x y (PySem.fromIndex x.length i) (min (PySem.fromIndex x.length j) x.length) (x.length+1)))):=by change Gives (retInt (Qa (Builtin.Str.occurrences x y (PySem.fromIndex x.length i) (min (PySem.fromIndex x.length j) x.length) (x.length+1)))) _;show .of_eq rfl
section
def T1:V->ZE->Hp->VK->Prop:=λx v H Q=>aS (λz=>aS λy=>o0
 (∃c,L y=[c]/\Q (.int ((L z).count c:Nat)) H)
 (aI λi=>aI λj=>a0 (∃c,L y=[c]/\i=0/\0<=j/\Q (.int (((L z).take j.toNat).count c:Nat)) H))
 ) (x::v)
theorem Bm:MtR X "str.count" T1:=by
 intro Zc s σ H x Z v U Q I R r h;obtain⟨z,rfl,g⟩:=aSm h;clear h;obtain⟨y,Z,rfl,h⟩:=OL g;clear g
 cases Z with
 |nil=>
  show Zf h λc p q=>?_;clear h;obtain⟨t,rfl⟩:=R;show Zf (J1 r) λu C d=>zI d λm D=>?_;clear d;subst C;subst D;show call_gives F.slot_str_count (uW _ _ _) F.entry_str_count (F.args_str_count_2 _ _) (gives_str_count z y t m) ?_;have:=BB z y c (Qa (L z)) p (Qg _);rw[QE,zC]at this;rw[this];show(.int ((L z).count c:Nat),H,I.tok _,(_,rfl),q)
 |cons w Z=>
  obtain⟨i,j,e,h⟩:=aI2 h;cases e;show zh h λc p E hj q=>?_;clear h;subst E;obtain⟨t,rfl⟩:=R
  obtain⟨m,Y,B,rfl⟩:∃m Y B,U=[.str y m,.int 0 Y,.int j B]:=by
   cases r with
   |cons f r=>
    cases r with
    |cons P r=>
     cases r with
     |cons S r=>
      cases r;obtain⟨m,rfl⟩:=f;obtain⟨Y,rfl⟩:=P;obtain⟨B,rfl⟩:=S;show(m,Y,B,rfl)
  show call_gives F.slot_str_count (uW _ _ _) F.entry_str_count (F.args_str_count_4 _ _ _ _) (yu z y 0 j t m Y B) ?_;have J:PySem.fromIndex z.length 0=0:=rfl
  have M:PySem.fromIndex z.length j=j.toNat:=by
   unfold PySem.fromIndex;rw[Zo ⋯]
   lia
  rw[J,M];have:=BB z y c (min j.toNat z.length) p (by rw[zC];lia);rw[this,<-zC];have O:(L z).take (min j.toNat (Qa (L z)))=(L z).take j.toNat:=by by_cases h:j.toNat<=Qa (L z);rw[Q5 h];rw[U6 ⋯,QE,QL ⋯]
  rw[O];show(.int (((L z).take j.toNat).count c:Nat),H,I.tok _,(_,rfl),q)
end
noncomputable def qP:Stmt->List Stmt
 | .ClassDef _ _ _ b _ _ _ _ _ _ _=>b
 |_=>[]
section
variable{P:j8}{w:uj}{K:Qb}{mg:z9}{base:Heap}
theorem Fun.okLX{x q:Str}{st:Stmt}{f c:jP}{g:uY}{N p:ZT}{k:Nat}{j:Sp}(F:Fun K x q st f g)(d:g.code=.ref c)(S:ZA N p (Zq st))
 (y:∀(A:uv) (outer:List Env) (s:jQ) (H:Hp) (v:ZE) (Q:VK) (E:XK),YN k (A.deeper (ve q (Zq st) s.heap.objs.size f (.ref c)))->j v H Q E->
  ∃t,PSs (dH (CX1 P w) P w K mg base N q (Zq st) f (.ref c) A outer s H E) (zz st) t/\t {nx:=λ_ I=>Q .non I,rt:=Q} (JZ N v) H) (len:autoParam (∀v H Q E,j v H Q E->Qa v=Qa p) GA):Z0 P w K mg base (CX1 P w) (k+1) f g p j:=by
 show ZH F.ex λm J kV z=>ZH z λD B U z=>Z6 z λC ct R Z lk M=>?_;clear z;subst Z;have d:C=.ref c:=d;subst d;show A4 lk M S len λA outer s H v Q E Y O=>y A outer s H v Q E Y O
end
section
variable{X:Cx}{K:Qb}{o e value:uI}{f:Str}{pos pos':Pos}{ta tv:TE}
def XG(C:jP)(ta:TE)(f:Str):TE:=λD H Q=>ta D H λx E=>match x with
 | .ref a=>∃S d v,E a=Qr (.ins C S d)/\d.lookup f=Qr v/\Q v E
 |_=>False
theorem YL(c:Cls K C)(n:qV K C f)(x:PE X e ta)(y:autoParam (X.K=K) ZF)(S:autoParam (Qab e f X.env (eval e X.env)=eval e X.env) ZF):PE X (.Attribute e f pos) (XG C ta f):=by
 subst y;have j:PE X e (λD H Q=>∃Y:VK,ta D H Y/\∀v J,Y v J->Q v J):=x.imp λD H Q h=>h;intro z s D H Q I h;show Rr (pos:=pos) j S z s D H Q I (_,h,λv J q=>?_)
 cases v with
 |ref a=>
  show Z6 q λd g v Z m r=>(a,C,d,g,v,rfl,Z,c,n,m,r)
 |_=>show False.elim q
def X3(C:jP)(ta tv:TE)(f:Str):TS:=λD E H=>tv E H λy I=>ta E I λx O=>match x with
 | .ref a=>∃S d,O a=Qr (.ins C S d)/\Qa d<1000/\D.nx E (upd O a (.ins C S (qm f y d)))
 |_=>False
theorem de(c:Cls K C)(n:qV K C f)(M:PE X o ta)(O:PE X value tv)(P:autoParam (X.K=K) ZF)(g:autoParam (vZ value (Qr (.Attribute o f pos')) pos.line X.env=pure false) ZF):PS X (.Assign [.Attribute o f pos'] value pos) (X3 C ta tv f):=by
 subst P;have z:PE X o (λE H Q=>∃Y:VK,ta E H Y/\∀v J,Y v J->Q v J):=M.imp λE H Q h=>h;have B:PE X value (λE H Q=>∃Y:VK,tv E H Y/\∀v J,Y v J->Q v J):=O.imp λE H Q h=>h;intro m s E H D I h;show RI (pos':=pos') (pos:=pos) z B g m s E H D I (_,h,λy R Z=>(_,Z,λx S q=>?_))
 cases x with
 |ref a=>
  show Zy q λd p Z j r=>(a,C,d,p,rfl,Z,c,n,j,r)
 |_=>show False.elim q
end
section
theorem KJ(Q:Gl X x)(H:∃t,X.mg x=Qr (.str z t))(hd:autoParam ((x==("__debug__":Str))=false) z8):PE X (.Name x pos) (tC (.str z)):=by obtain⟨t,H⟩:=H;show fV Q H (t,rfl) hd
theorem BM(Q:Gl X x)(H:∃t,X.mg x=Qr (.int z t))(hd:autoParam ((x==("__debug__":Str))=false) z8):PE X (.Name x pos) (tC (.int z)):=by obtain⟨t,H⟩:=H;show fV Q H (t,rfl) hd
end
noncomputable def Y8(C:Zg)(h:Nat):Zg:=C.take h++10::C.drop h
theorem AF(H:h<=Qa cs):Qa (Y8 cs h)=Qa cs+1:=by
 unfold Y8;rw[jR,jV,jZ,uf]
 lia
noncomputable def fsL(C:Zg)(h:Nat)(t f:jP):List (Str×V):=[("column",.str (T (Y8 C h))),("home",.int h),("last",.int (Qa C)),("totals",.ref t),("forths",.ref f)]
def Tot(H:Hp)(Y:jP)(C:Zg):Prop:=∃(Q:List jP) (D:Zg),H Y=Qr (.lst (Q.map V.ref))/\Qa Q=Qa D/\(∀(j d:Nat),D[j]?=Qr d->∃t,Q[j]?=Qr t/\H t=Qr (.tup [.str (T [d]),.int (C.count d:Nat)]))/\D.Nodup/\(∀c,c∈D↔c∈C)
def Fo(H:Hp)(f:jP)(C:Zg)(h:Nat):Prop:=∃p:Zg,H f=Qr (.lst (p.map λi:Nat=>V.int i))/\p.Perm (Qi (Qa C+1))/\p.Pairwise (λi j=>[(Y8 C h).getD i 0]<=[(Y8 C h).getD j 0]/\([(Y8 C h).getD i 0]=[(Y8 C h).getD j 0]->i<j))
def Jq(C:jP)(H:Hp)(a:jP)(R:Zg)(h:Nat):Prop:=∃d t f,H a=Qr (.ins C d (fsL R h t f))/\(Tot H t R/\Fo H f R h)/\h<=Qa R
theorem Tot.same(x:Tot H tot cs)(S:∀b o,H b=Qr o->(∀p,o≠ .tbl p)->H' b=Qr o):Tot H' tot cs:=by show ze x λR D y I Q f=>?_;clear x;show(R,D,S _ _ y (by nofun),I,λj d e=>?_,f);show Zf (Q j d e) λt E z=>(t,E,S _ _ z (by nofun))
theorem Jq.same(x:Jq C H a cs h)(S:∀b o,H b=Qr o->(∀P,o≠ .tbl P)->H' b=Qr o):Jq C H' a cs h:=by show Z6 x λd t m y I Q=>?_;clear x;show Zf I.2 λp U f=>(d,t,m,S _ _ y (by nofun),(I.1.same S,p,S _ _ U (by nofun),f),Q)
theorem B5(c:Nat):∀(C D:Zg),D.Nodup->(∀x∈C,x∈D)->((D.filter λd=>decide (d<c)).map λd=>(C.count d:Int)).sum=(C.countP λx=>decide (x<c):Nat)
 |[],D,_,_=>by
  have:(D.filter λd=>decide (d<c)).map (λd=>(([]:Zg).count d:Int))=(D.filter λd=>decide (d<c)).map λ_=>0:=uM λ_ _=>rfl;rw[this]
  induction (D.filter λd=>decide (d<c))with
  |nil=>rfl
  |cons a r I=>simpa using I
 |x::C,D,nd,sub=>by
  have I:=B5 c C D nd λy p=>sub y (ua _ p);have g:=sub x (ub ..)
  have one:∀(E:Zg),E.Nodup->(E.map λd=>((x::C).count d:Int)).sum=(E.map λd=>(C.count d:Int)).sum+if x∈E then 1 else 0:=by
   intro E
   induction E with
   |nil=>intro _;rfl
   |cons a r f=>
    intro J;obtain⟨O,Y⟩:=UR.mp J;have:=f Y;rw[uo,uo,UT,UT,this,VD];by_cases e:x=a
    .subst e;simp[O]
     lia
    have:(x==a)=false:=by simpa using e
    simp[this,e]
    lia
  rw[one _ (nd.sublist VR),I,QB];by_cases H:x<c
  .rw[Zx (Vo.mpr (g,by simpa using H)),Zx (by simpa using H)];rfl
  rw[Zo λz=>H (by simpa using(Vo.mp z).2),Zo (by simpa using H)];simp
theorem Ip(C:Zg)(h:Nat)(t f:jP):qm "forths" (.ref f) (qm "totals" (.ref t) (qm "last" (.int (Qa C)) (qm "home" (.int h) (qm "column" (.str (T (Y8 C h))) []))))=fsL C h t f:=by unfold fsL;rfl
theorem yl{α:Type}(l:List α)(m:Nat):cut l Qs (Qr (m:Int))=l.take m:=by unfold cut;change(l.drop 0).take ((if(m:Int)<0 then((m:Int)+(Qa l:Int)).toNat else min (m:Int).toNat (Qa l))-0)=l.take m;rw[Zo ⋯,Qj,UF,Vg];by_cases h:m<=Qa l;rw[Q5 h];rw[U6 ⋯,QL (Qg _),QL ⋯]
theorem HR(C:Zg)(m:Nat):cut C Qs (Qr (m:Int))++L (Qe "\n")++cut C (Qr (m:Int)) Qs=Y8 C m:=by
 have e:L (Qe "\n")=[10]:=by rfl'
 rw[yl,LP.af,e];unfold Y8;simp
def Prs(H:Hp)(Q:List jP)(D C:Zg):Prop:=Qa Q=Qa D/\∀(j d:Nat),D[j]?=Qr d->∃t,Q[j]?=Qr t/\H t=Qr (.tup [.str (T [d]),.int (C.count d:Nat)])
theorem Prs.same(x:Prs H ts ds cs)(S:LP.pj H H'):Prs H' ts ds cs:=(x.1,λj d e=>by
 show Zf (x.2 j d e) λt E y=>(t,E,S _ _ y))
theorem Prs.snoc(x:Prs H ts ds C)(q:H t=Qr (.tup [.str (T [d]),.int (C.count d:Nat)])):Prs H (ts++[t]) (ds++[d]) C:=by
 show(by simp[x.1],λj e v=>?_);by_cases h:j<Qa ds
 .rw[Qx h]at v;show Zf (x.2 j e v) λu E y=>(u,by rw[Qx (by rw[x.1];show h)];show E,y)
 have O:=(Qh.mp v).1;rw[jR,jW]at O;have m:j=Qa ds:=⋯
 subst m;rw[Qt (Qg _),Ui]at v;have v:d=e:=by simpa using v
 subst v;show(t,by rw[<-x.1,Qt (Qg _),Ui];rfl,q)
theorem g9(h:Bk P pos q H)(O:H a=Qr (.ins C dx fs)):Bk P pos q (upd H a o):=by
 rcases h with h|⟨m,x,I⟩
 .have:P≠a:=by rintro rfl;rw[h]at O;cases O
  show .inl ((Zn this).trans h)
 have Q:P≠a:=by rintro rfl;rw[x]at O;cases O
 have Y:m≠a:=by rintro rfl;rw[I]at O;cases O
 show .inr (m,(Zn Q).trans x,(Zn Y).trans I)
theorem La(n:Nat):mP 0 (n:Int)=(Qi n).map λj:Nat=>V.int j:=by unfold mP;rw[show((n:Int)-0).toNat=n by lia];show uM λj _=>?_;rw[WJ]
theorem D5(d:h<=Qa cs):(Y8 cs h)[i]?=if i<h then cs[i]? else if i=h then Qr 10 else cs[i-1]?:=by
 unfold Y8;by_cases H:i<h;rw[Zx H,Qx (by rw[jZ];lia),Vs,Zx H];rw[Zo H,Qt (by rw[jZ];lia),jZ,Q5 d];by_cases I:i=h
 .subst I;simp
 rw[Zo I,show i-h=(i-h-1)+1 by lia,U9,Uq]
 congr 1
 lia
theorem Mc(d:h<=Qa C)(H:∀c∈C,c≠10)(m:i<Qa C+1)(j:i≠h):(Y8 C h).getD i 0≠10:=by
 rw[Qc,D5 d];by_cases x:i<h
 .rw[Zx x,Qd ⋯];show H _ (QN _)
 rw[Zo x,Zo j,Qd ⋯];show H _ (QN _)
open Builtin Builtin.Str
theorem Bx:vY (.type "list_reverseiterator") "__len__"=pure none:=by rw[vg,uO];kernel_rfl
theorem Eh:vY (.type "list_reverseiterator") "__length_hint__"=pure (Qr (.builtin "list_reverseiterator.__length_hint__")):=by rw[vg,uO];kernel_rfl
section
variable{E:ZW}
theorem AG{Q:ZY->jQ->Prop}(B:A.handled=Qs)(m:l≠I)(g:s.heap.IsRevIter I l ((items.size:Int)-1))(P:s.heap.IsList l items)(z:items.size<=sizeLine)
 (C:∀S,Moved [I] (λa b=>b=a) s S->Q items.toList.reverse S):jS (ud prog w) A (QaV (.ref I)) Q E s:=by
 have W:=(Walks.listRev (prog:=prog) (w:=w) (A:=A.in1) B I l m items).toS;have r:(0<=items.size/\s.heap.IsRevIter I l ((items.size:Int)-1-((0:Nat):Int))/\s.heap.IsList l items):=(Qo _,by rw[show(items.size:Int)-1-((0:Nat):Int)=(items.size:Int)-1 by lia];show g,P);have R:s.heap.objs.size≠I:=by show Zf (id g) λo t _=>λe=>QT _ (e▸Qn t)
 have v:s.heap.objs.size≠l:=by show Zf (id P) λo t _=>λe=>QT _ (e▸Qn t)
 have u:s.heap.objs.size∉[I,l]:=by simp[R,v]
 unfold QaV;show jM (QaD (uQ F.entry_proto_collect ?_));rw[Around.under_plainId F.plain_proto_collect _];change jS _ A.in1 (newList [] >>=λq=>again (.builtin "list.__iadd__" ([q,.ref I],[]))) _ _ s;show jM (uS ?_);show jN (vn F.plain_list_iadd _,uQ F.entry_list_iadd ?_);rw[Around.under_plainId F.plain_list_iadd _];have H:=W.frame 0 s (s.heap.push {cls:=.type "list",data:=.seq ([]:ZY).toArray}) s.toks r (Qg _) λb _ o e=>Qf _ e;have j:({s with heap:=s.heap.push {cls:=.type "list",data:=.seq ([]:ZY).toArray} }:jQ).TypeIs (.ref I) "list_reverseiterator":=H.2.1.typeIs;have p:(s.heap.push {cls:=.type "list",data:=.seq ([]:ZY).toArray}).get? s.heap.objs.size=Qr {cls:=.type "list",data:=.seq ([]:ZY).toArray}:=Ql _ rfl;have y:Builtin.List.listSameRef (.ref s.heap.objs.size) (.ref I)=false:=by simp[Builtin.List.listSameRef,R]
 change jS _ A.in1 (Builtin.List.listExtendWith (.ref s.heap.objs.size) (.ref I) (.ref s.heap.objs.size)) _ _ _;unfold Builtin.List.listExtendWith;show jM (vR j ?_);rw[Zo (by rw[y];decide)];show jM (W.self 0 _ _ _ H ?_);show jM (uA ?_);unfold Builtin.List.listLengthHint;show jM (vy j Bx ?_);change jS _ A.in1 (specialOf (Qw I) (Qe "__length_hint__") >>=_) _ _ _;show jM (vy j Eh ?_)
 (generalize U:("list_reverseiterator.__length_hint__":String)=id0;(fail_if_success (clear U id0));wp_delta;rw[show splitId id0=Qr ("list_reverseiterator","__length_hint__")from by subst U;rfl'];subst U)
 show jM (vD (b:=true) j (by rw[u7];kernel_rfl) ?_);show jN ?_;rw[Zo ∅];show jN (vn F.plain_extend_loop _,QaO W z _ u _ items.size 0 _ _ _ rfl (Qo _) H p (ItemsOf.nil _) λS f D Z O M=>?_);change jS _ A (load s.heap.objs.size >>=_) _ _ S;show jM (Qbo O ?_)
 have e:f.toList=items.toList.reverse:=by
  show Vu λi=>?_;by_cases x:i<items.size
  .have J:i<f.size:=by rw[M.1];show x
   have:=M.2 i _ (QO J);rw[Um,QO J,UU (by simpa using x),<-this];simp
  rw[Uo (by rw[Qq,M.1];lia),Uo (by rw[uV,Qq];lia)]
 show jN ?_;rw[e];show(C S (Moved.drop_new (o:= {cls:=.type "list",data:=.seq ([]:ZY).toArray}) (tk:=s.toks) Z (Qg _)))
theorem IE{Q:ZW}(d:A.handled=Qs)(u:l≠I)(j:s.heap.IsRevIter I l ((items.size:Int)-1))(O:s.heap.IsList l items)(C:items.size<=sizeLine)
 (z:StrsAre items.toList.reverse ys) (hok:(ys.map (·.length)).sum+Qa ys * x.length<=16777216)
 (h:∀S m k,Moved [I] (λa b=>b=a) s S->Q (.str (Txt.join x ys) m) {S with toks:=k}):jS (ud prog w) A (call (.builtin "str.join") [.str x t,.ref I]) Q E s:=by
 show vL (codeAny_call_builtin F.slot_str_join.plain F.entry_str_join (F.slot_str_join.check _ _ _ _ _ _ _ _ (uW _ _ _) (F.args_str_join_2 _ _) ?_));rw[join_tree_other];show jM (vR j.typeIs ?_);change jS _ A.in1 ((QaH (.ref I)).tryCatch _ >>=λB=>QaV B >>=λitems=>joinTail x items) _ _ s;show jM (wpAny_tryCatch (wpAny_pyIter_revIter j ?_));show jM (AG (A:=A.in1) d u j O C λS Y=>?_);show Zf (strsAre_values z) λq M y=>?_;rw[M];have H:=joinOk_of hok;rw[<-y]at H;unfold JoinOk at H;rw[Q3]at H
 have g:Gives (joinTail x (strValues q)) (joinMade x q):=by
  have v:=gives_joinTail x q H
  cases q with
  |nil=>show v
  |cons p r=>cases r with
   |nil=>show v
   |cons q R=>show v
 show g prog w A (wants Q E) S (post_join q (joinFit_length H,λm k=>?_));rw[y];show h S m k Y
end
section
variable{X:Cx}{K:Qb}
def EC(K:Qb)(a:Str)(Q:VK):VK:=λv H=>match v with
 | .ref p=>∃z:List (Zg),SqL K H p (z.map λl=>V.str (T l))/\(z.map Qa).sum+Qa z * Qa (L a)<=sizeLine/\Q (.str (T (bO (L a) z.reverse))) H
 |_=>False
def Oe(K:Qb)(t tl:TE):TE:=λD H Q=>t D H λv E=>match v with
 | .str a=>tl D E (EC K a Q)
 |_=>False
theorem De(hK:X.K=K)(hc:X.calm=true)(a7:X.mg "reversed"=Qs)(C:PE X o to)(hl:PE X l tl)
 (a6:autoParam (Gl X "reversed") ZF) (m:autoParam (uc [l] X.env=[(false,eval l X.env)]) ZF)
 (U:autoParam (Qab o "join" X.env (eval o X.env)=eval o X.env) ZF)
 (D:autoParam (((v8 cpos (uc [.Call (.Name "reversed" p) [l] [] p'] X.env)).all (λx=> !x.1) && (QaP cpos (Qad [] X.env)).all (λx=>x.1.isSome)
  && decide ([Expr.Call (.Name "reversed" p) [l] [] p'].length+Qa ([]:List Qbl)+(if([]:List Qbl).isEmpty then 0 else 1)<30))=true) ZF)
 (f:autoParam ((apos.endLine==cpos.line)=true) ZF) (hs:autoParam (uc [.Call (.Name "reversed" p) [l] [] p'] X.env=[(false,eval (.Call (.Name "reversed" p) [l] [] p') X.env)]) ZF):
 PE X (.Call (.Attribute o "join" apos) [.Call (.Name "reversed" p) [l] [] p'] [] cpos) (Oe K to tl):=by
 subst hK;intro B s E H Q I h;show wpAny_Call_method_late U D f rfl (thn (C B s E H _ I h) λv s1 (x,H1,J,r1,g)=>?_)
 cases x with
 |str a=>
  obtain⟨h1,h2⟩:=LF (T:="str") J r1 rfl;show("str","str.join",Qz,UD,UC,h1,h2,?_);obtain⟨t,rfl⟩:=r1;rw[hs];show Calls.callWith_builtin rfl (Calls.evalArgs_plain ?_);change jS _ _ (spliced ((false,_)::[])) _ _ s1;show Calls.spliced_cons ?_;have g:kj tl oU E H1 (λvs O=>match vs with|[v]=>EC X.K a Q v O|_=>False):=g;show Qbg (JL J a6 a7 hV (PyProof.Rows.callWith_type1 (thn (Zk hl iu m p' B s1 E H1 _ J g) λus S (vs,O,Z,r2,j)=>?_) m rfl));dsimp only at j;split at j
  .rename_i vv;unfold EC at j;split at j
   .rename_i b;show Zz j λz hq hz q=>?_;clear j;show Zf (J1 r2) λu a2 ru=>?_;subst a2;cases ru;show Zz (Z.list hq) λY M P a8=>?_;have ak:=M.length;show call_reversed_list P.isList ?_;show Calls.spliced_nil ?_;have a5:(S.heap.push (Qax b ((Y.toArray.size:Int)-1))).IsRevIter S.heap.objs.size b ((Y.toArray.size:Int)-1):=(_,Ql _ rfl,rfl,rfl);have I3:Inv X B E O {S with heap:=S.heap.push (Qax b ((Y.toArray.size:Int)-1))}:=Z.kept (t':=S.toks) λb o e=>Qf _ e;have a4:b≠S.heap.objs.size:=λe=>by show Zf P.isList λo C _=>QT _ (e▸Qn C)
    have a3:(S.heap.push (Qax b ((Y.toArray.size:Int)-1))).IsList b Y.toArray:=P.isList.at λo e=>Qf _ e;show ZO (Z.fpOk (Qg _) (Z.hok.fresh (Qg _))) λf0 f1 f2 f3 f4 f5=>?_;have a1:sizeLine=16777216:=jT;show IE (s:= {S with heap:=S.heap.push (Qax b ((Y.toArray.size:Int)-1))}) (ys:=(z.map T).reverse) (Z.ok.hd hc) a4 a5 a3 (by rw[j7];lia) ?_ ?_ λs' r k d=>?_
    .have e:(z.map λl=>V.str (T l))=(z.map T).map V.str:=by simp
     rw[e]at M;have:=M.reverse;rw[<-Qbe]at this;simpa using EK this
    .rw[<-zC a,Qbe,List.sum_reverse,uV,u6,jO,show((λx:Str=>x.length)∘T)=Qa from funext λl=>DT l,<-a1];show hz
    show(.str (T (bO (L a) z.reverse)),O,?_,(r,?_),q)
    .obtain⟨h',g',d',a9,ab⟩:=s';have e1:=d.gens;have y:=d.drawn;have e3:=d.os;dsimp only at e1 y e3;subst e1 y e3;show I3.turned (t':=k) (λb o hb e=>d.heap b o (by simpa using hb) e) f0 f1 f3 f4 f5
    change Vh (Txt.join a (z.map T).reverse) r=_;have y:Txt.join a (z.map T).reverse=WS a (z.map T).reverse:=StrLaws.glued_eq_join _ _;rw[y,CP,<-Qbe,u6]
    congr 3
    simp[L_T,Function.comp_def]
   show j.elim
  show j.elim
 |_=>show g.elim
end
end L2
namespace LO
open L2
noncomputable def rsL(C:Zg)(h:Nat):Rs:=(C.take h).map Qr++Qs::(C.drop h).map Qr
theorem Ld(H:h<=Qa cs):(rsL cs h)[h]?=Qr none:=by unfold rsL;rw[Qt (by rw[jO,jZ];lia),jO,jZ,Q5 H,Ui];rfl
theorem Lc(d:h<=Qa cs)(m:i<Qa cs+1)(j:i≠h):(rsL cs h)[i]?=Qr (Qr ((Y8 cs h).getD i 0)):=by
 rw[Qc,D5 d];unfold rsL;by_cases H:i<h
 .rw[Zx H,Qx (by rw[jO,jZ];lia),Qm,U7 H,Qd ⋯];rfl
 rw[Zo H,Zo j,Qt (by rw[jO,jZ];lia),jO,jZ,Q5 d];obtain⟨k,rfl⟩:∃k,i=h+k+1:=(i-h-1,⋯);rw[show h+k+1-h=k+1 by lia,U9,Qm,Uq,show h+k+1-1=h+k by lia,Qd ⋯];rfl
theorem I0(C:Zg)(h:Nat):CV (rsL C h)=C:=by
 unfold CV rsL
 have e:∀l:Zg,(l.map Qr).filterMap id=l:=λl=>by
  induction l with
  |nil=>rfl
  |cons x r I=>simpa using I
 rw[UV,e,Uy];change _++List.filterMap id ((C.drop h).map Qr)=C;rw[e,QK]
theorem sX(C:Zg)(h d:Nat):less (rsL C h) d=C.countP λx=>decide (x<d):=by unfold less rsL;rw[UG,QB,US,US];have e:(iq d∘Qr)=λx=>decide (x<d):=rfl;rw[e];change _+(_+if(false:Bool)=true then 1 else 0)=_;rw[Zo ∅,Us,<-UG,QK]
theorem kD(r:Nat)(hd:d≠10):Yo (rsL cs h) d r=((Y8 cs h).take r).count d:=by
 unfold Yo rsL Y8 List.count
 have j:∀(a b:Zg) (r:Nat),((a.map Qr++Qs::b.map Qr).take r).countP (λo=>o==Qr d)=((a++10::b).take r).countP (λx=>x==d):=by
  intro a b;have f:∀(b:Zg) (r:Nat),((b.map Qr).take r).countP (λo=>o==Qr d)=(b.take r).countP (λx=>x==d):=by intro b r;rw[<-map_take,US];rfl
  induction a with
  |nil=>
   intro r
   cases r with
   |zero=>rfl
   |succ r=>
    rw[QaR,u9,u9,QJ,QJ,QB,QB,f];have:((10:Nat)==d)=false:=by simpa using Ne.symm hd
    rw[this];rfl
  |cons x t I=>
   intro r
   cases r with
   |zero=>rfl
   |succ r=>
    rw[uo,uN,uN,QJ,QJ,QB,QB,I];rfl
 show j _ _ _
theorem L8(H:h<=Qa cs):bk (rsL cs h) h=none:=by unfold bk;rw[Ld H]
theorem Cr(d:h<=Qa C)(H:∀c∈C,c≠10)(m:i<Qa C+1)(j:i≠h):bk (rsL C h) i=Qr (1+C.countP (λx=>decide (x<(Y8 C h).getD i 0))+((Y8 C h).take i).count ((Y8 C h).getD i 0)):=by rw[lH (Lc d m j),sX,kD i (Mc d H m j)]
theorem BU(e:rd (rsL cs h) i=Qr r):r<=Qa cs:=by have:=RN e;rwa[I0]at this
theorem yV(d:h<=Qa C)(H:∀c∈C,c≠10)(e:rd (rsL C h) i=Qr r)(j:r≠h):∃b,bk (rsL C h) r=Qr b/\rd (rsL C h) (i+1)=Qr b:=by have Y:=BU e;show(_,Cr d H ⋯ j,?_);change(rd (rsL C h) i).bind _=_;rw[e];show Cr d H ⋯ j
theorem tS(e:rd (rsL cs h) i=Qr r):i<=Qa cs:=by
 have nd:((Qi (i+1)).map λj=>(rd (rsL cs h) j).getD 0).Nodup:=by show Vd.mpr (List.nodup_range.imp_of_mem λ{a b} I S H z=>?_);obtain⟨p,E⟩:=iU e (show a<=i by have:=QA.mp I;lia);obtain⟨q,eq⟩:=iU e (show b<=i by have:=QA.mp S;lia);rw[E,eq]at z;cases(show p=q from z);show H (oH E eq)
 have:=lW (ps:=Qi (Qa cs+1)) nd λx f=>by show Zf (Uf.mp f) λj u Z=>?_;subst Z;obtain⟨p,E⟩:=iU e (show j<=i by have:=QA.mp u;lia);rw[E];have:=BU E;show QA.mpr (by change p<_;lia)
 rw[jO,uF,uF]at this
 lia
theorem FZ(d:h<=Qa C)(H:∀c∈C,c≠10):∃m,m<=Qa C/\rd (rsL C h) m=Qr h:=by
 have j:∀k i r,rd (rsL C h) i=Qr r->Qa C-i<=k->∃m,m<=Qa C/\rd (rsL C h) m=Qr h:=by
  intro k
  induction k with
  |zero=>
   intro i r e I;have:=tS e;by_cases z:r=h;show(i,this,z▸e);show Zf (yV d H e z) λb _ E=>?_;have:=tS E;omega
  |succ k f=>
   intro i r e I;have:=tS e;by_cases z:r=h;show(i,this,z▸e);show Zf (yV d H e z) λb _ E=>f (i+1) b E (by omega)
 show j (Qa C) 0 0 rfl (by omega)
theorem Fd(H:h<=Qa cs)(P:rd (rsL cs h) m=Qr h):∀k,k<=m->(((Qi k).map λj=>[(Y8 cs h).getD ((rd (rsL cs h) j).getD 0) 0]).reverse).flatten=sI (rsL cs h) k:=by
 intro k
 induction k with
 |zero=>intro _;rfl
 |succ k I=>
  intro M;obtain⟨r,E⟩:=iU P (show k<=m by lia)
  have J:r≠h:=λz=>by
   subst z;have:=oH E P
   lia
  have Y:=BU E;rw[xm E (Lc H ⋯ J),Q4,uh,WT,WW,I ⋯,uZ,E];rfl
theorem Ll(n:Nat)(f:Nat->Zg)(H:∀j,Qa (f j)=1):(((Qi n).map f).map Qa).sum=n:=by
 induction n with
 |zero=>rfl
 |succ n I=>rw[Q4,uh,uh,List.sum_append,I,uZ,uZ,H];rfl
theorem iQ(l:Zg):qB l<=Qa l:=by
 have:=Mx l
 lia
theorem fk(l:Zg):bh l=rsL (Z3 l) (qB l):=by
 have j:∀(d:List (Option Nat)) (h:Nat),d[h]?=Qr Qs->(∀i,d[i]?=Qr Qs->i=h)->d=rsL (d.filterMap id) h:=by
  intro d
  induction d with
  |nil=>intro h e;simp at e
  |cons x t I=>
   intro h e u
   cases h with
   |zero=>
    have:x=none:=by simpa using e
    subst this
    have v:∀t:List (Option Nat),(∀i:Nat,t[i]?≠Qr Qs)->(t.filterMap id).map Qr=t:=by
     intro t
     induction t with
     |nil=>intro _;rfl
     |cons y t I=>
      intro m
      cases y with
      |none=>show ZD rfl (m 0)
      |some y=>
       rw[Uy];change Qr y::(t.filterMap id).map Qr=_;rw[I λi=>m (i+1)]
    unfold rsL;rw[Uy];change Qs::t=[]++Qs::((t.filterMap id)).map Qr;rw[v t λi z=>ZD (u (i+1) z) ⋯];rfl
   |succ h=>
    cases x with
    |none=>show ZD (u 0 rfl) ⋯
    |some y=>
     have:=I h (by simpa using e) λi z=>by have:=u (i+1) (by simpa using z);lia
     rw[Uy];change Qr y::t=rsL (y::t.filterMap id) (h+1);unfold rsL;rw[QJ,WX,uo,uN]
     congr 1
 have p:Z3 l=(bh l).filterMap id:=by unfold Z3 bh;rw[List.filterMap_map];rfl
 rw[p];show j _ _ ?_ λi z=>?_
 .rw[mQ (L5 l)];rfl
 have H:i<Qa (ord l):=by have:=(Qh.mp z).1;rwa[pP,<-zT]at this
 have E:=Qd H;rw[mQ E]at z;have z:Yb l (ord l)[i]=none:=by simpa using z
 have Y:=Y2.mp (QN H);unfold Yb at z;by_cases f:(ord l)[i]=0
 .rw[f]at E;show(fZ E).symm
 rw[Zo f,Qd ⋯]at z;cases z
theorem qy(l:Zg):Qa (Z3 l)=Qa l:=by have H:=pP l;rw[fk]at H;unfold rsL at H;rw[jR,jV,jO,jO,jZ,uf]at H;have:=iQ l;omega
theorem pN(h:c∈Z3 l):c∈l:=by show Zf (U8.mp h) λi _ e=>?_;unfold Yb at e;split at e;cases e;show QD e
end LO
namespace L2
open PySem
noncomputable def X2:Option Nat->V
 |some b=>.int b
 |none=>.non
theorem eV(h:H b≠Qs):upd H a o b≠none:=by unfold upd;split;simp;show h
theorem Zw.nn(s:Zw H H')(h:H b≠Qs):H' b≠none:=by
 cases e:H b with
 |none=>show ZD e h
 |some o=>rw[s b o e];simp
theorem zy.nn(s:zy H H')(h:H b≠Qs):H' b≠none:=by
 cases e:H b with
 |none=>show ZD e h
 |some o=>show(s b o e).1
theorem ff(f:H x=Qs)(y:H dx=Qs)(kp:∀b o,b≠x->upd (upd H dx o1) x o2 b=Qr o->(∀p,o≠ .tbl p)->H' b=Qr o)
 (B:∀b,upd (upd H dx o1) x o2 b≠Qs->H' b≠Qs):zy H H':=λb o e=>by
 have O:=Zm e f;have E:upd (upd H dx o1) x o2 b=Qr o:=(Zn O).trans ((Zn (Zm e y)).trans e);show(B b (by rw[E];simp),λn=>kp b o O E n)
theorem kM(f:H x=Qs)(y:H dx=Qs)(kp:∀b o,b≠x->b≠P->upd (upd H dx o1) x o2 b=Qr o->H' b=Qr o):YZ P H H':=λb o n e=>by have O:=Zm e f;show kp b o O n ((Zn O).trans ((Zn (Zm e y)).trans e))
noncomputable def pX(P:List (Int×V)):List (Key×V):=P.map λp=>(.inl p.1,p.2)
theorem wm(k:Int):∀P:List (Int×V),qw (pX P) (.inl k)=P.lookup k
 |[]=>rfl
 |x::r=>by
  by_cases e:k=x.1
  .have E:(x::r).lookup k=Qr x.2:=by rw[QP,show(k==x.1)=true by simpa using e]
   rw[E];show JB (p:=((.inl x.1:Key),x.2)) (r:=pX r) (by rw[e])
  have E:qw (pX (x::r)) (.inl k)=qw (pX r) (.inl k):=qt (p:=((.inl x.1:Key),x.2)) (r:=pX r) λz=>e (Sum.inl.inj z).symm;rw[E,wm k r,QP,show(k==x.1)=false by simpa using e]
theorem K3(v:V)(h:ps.lookup k=Qs):cE (pX ps) (.inl k) v=pX (ps++[(k,v)]):=by rw[K2 _ (by rw[wm,h])];unfold pX;rw[uh];rfl
theorem pL(k j:Int)(v:V):∀p:List (Int×V),(p++[Prod.mk k v]).lookup j=(p.lookup j).or (if j=k then Qr v else Qs)
 |[]=>by
  rw[u9,QP];by_cases e:j=k
  .rw[Zx e,show(j==k)=true by simpa using e];rfl
  rw[Zo e,show(j==k)=false by simpa using e];rfl
 |x::r=>by
  rw[uN,QP,QP]
  cases(j==x.1)with
  |true=>rfl
  |false=>show pL k j v r
end L2
namespace LO
theorem L9(H:p<Qa l):bk (bh l) (qU l (p+1))=Qr (qU l p):=by
 have e:(bh l)[qU l (p+1)]?=Qr (Qr l[p]):=by rw[mQ (Jx (show p+1<=Qa l by lia)),kC,Qd H]
 rw[lH e,Au H (Qd H)]
end LO
namespace L2
open PySem
theorem DY(h:Bk P pos q H)(O:H a=Qr (.dK kvs)):Bk P pos q (upd H a o):=by rcases h with h|⟨C,h,g⟩;show .inl ((Zn (ma h O (by intro z;cases z))).trans h);show .inr (C,(Zn (ma h O (by intro z;cases z))).trans h,(Zn (ma g O (by intro z;cases z))).trans g)
open PySem.Spec PyProof.Rows
section
variable{X:Cx}{pos:Pos}{K:Qb}
theorem rY(x:X.K=K)(d:X.calm=true)(h:PGs X es t)
 (j:autoParam (Qa (uz es X.env)=n) ZF) (H:autoParam ((uz es X.env).findIdx? (·.1)=Qs) ZF):PG X (.Tuple es k pos) (A6 K n t):=by
 subst x;show yO d h j H
noncomputable def b2i(b:Bool):Int:=if b then 1 else 0
def Zao:ZE->Hp->VK->Prop:=λx H Q=>aV (λv r=>match v with
 | .bl b=>a0 (Q (.int (b2i b)) H) r
 | .int i=>a0 (Q (.int i) H) r
 |_=>False) x
theorem NT:JU X (.type "int") Zao:=by
 intro m s D H x U Q I r h;obtain⟨v,x,rfl,h⟩:=EZ h
 cases v with
 |bl b=>obtain ⟨rfl,h⟩:=Ao h
        show Zf (J1 r) λu z Z=>?_;subst z;subst Z;show call_int_bool (.int (b2i b),H,I.tok _,(_,rfl),h)
 |int i=>obtain ⟨rfl,h⟩:=Ao h
         show Zf (J1 r) λu z Y=>zI Y λt j=>?_;clear Y;subst z;subst j;show call_int_int (.int i,H,I,(_,rfl),h)
 |_=>show h.elim
theorem P0:OpR X (Qai .Sub) wX:=rX MA
def Pg(K:Qb)(a:jP)(d:ZE)(g:TG)(t:TS):TS:=λD E H=>∃p:Nat->St->Hp->Prop,p 0 E H/\(∀i E H,i<=Qa d->p i E H->SqT K H a d)/\
 (∀i x E H,d[i]?=Qr x->p i E H->g x E H λj O=>t {nx:=p (i+1),rt:=D.rt,bk:=D.nx,ct:=p (i+1)} j O)/\∀E H,p (Qa d) E H->D.nx E H
def Oj(K:Qb)(tl:TE)(g:TG)(t:TS):TS:=λD E H=>tl E H λv I=>match v with
 | .ref a=>∃x,SqT K I a x/\Pg K a x g t D E I
 |_=>False
theorem Ng(U:X.K=K)(C:vQ (Z2 X) X.A X.env X.xe)(j:X.calm=true)(O:PE X l tl)(R:PG X tg g)(S:PSs X body tb)
 (M:autoParam (∀x,ue l X.env x=pure x) qK):PS X (.For tg l body [] pos) (Oj K tl g tb):=by
 subst U;have B:PE X l (λE H Q=>∃Y:VK,tl E H Y/\∀v J,Y v J->Q v J):=O.imp λE H Q h=>h;intro z s E H D I h;show oB C j (Rx B) R S M z s E H D I (_,h,λv r q=>?_)
 cases v with
 |ref a=>
  show Zf q λd f Z=>zh Z λP p m y hd=>(a,rfl,(d,f),Mr P p m y hd)
 |_=>show False.elim q
end
end L2
namespace LO
end LO
namespace L2
open PySem
end L2
namespace LO
end LO
namespace L2
open PySem PySem.Spec PyProof.Rows
theorem Ie:∀{x:V},dM x=true->eqV x x=true:=by intro x h;cases x<;>first|rfl|show beq_self_eq_true _|cases h
theorem YG{K:Qb}{H:Hp}{a b:jP}{d:ZE}(J:∀x∈d,dM x=true)(z:H a=Qr (.tup d))(I:H b=Qr (.tup d)):GF K H a b:=by show(_,_,.inr (SqT.of z,SqT.of I),rfl,λj x y ex E=>?_);rw[ex]at E;cases Option.some.inj E;have:=J x (QD ex);show .flat this this (Ie this)
theorem ik(f:dM x=true)(p:dM y=true):∀v∈[x,y],dM v=true:=by intro v H;rcases ui.mp H with rfl|H;show f;cases j5.mp H;show p
theorem BY:Manifest.owners.lookup (String.ofList ['d','e','s','r','e','v','e','r'].reverse)=Qr Manifest.sig_reversed:=by kernel_rfl
theorem aj:Slot "reversed" "__next__" "reversed.__next__":=
 .of (owner:="reversed") (n:="__next__") (by rw[vg,uO];kernel_rfl) (by rfl') (by rfl') (by rfl')
  (by first|show .inl (by rfl')|show .inr (by rfl')) (by rw[u7];kernel_rfl)
theorem kh:QaN table "reversed.__next__"=Qr Builtin.«reversed.__next__»:=Qba (by kernel_rfl)
theorem mR(a:Value):Qbb "reversed.__next__" ([a],[]):=by unfold Qbb;rw[signature?_of (id:="reversed.__next__") (n:=['_','_','t','x','e','n','_','_']) (o:=['d','e','s','r','e','v','e','r']) (by kernel_rfl) BY];kernel_rfl
theorem mS:Slot "reversed" "__iter__" "reversed.__iter__":=
 .of (owner:="reversed") (n:="__iter__") (by rw[vg,uO];kernel_rfl) (by rfl') (by rfl') (by rfl')
  (by first|show .inl (by rfl')|show .inr (by rfl')) (by rw[u7];kernel_rfl)
theorem y7(a:Value):Qbb "reversed.__iter__" ([a],[]):=by unfold Qbb;rw[signature?_of (id:="reversed.__iter__") (n:=['_','_','r','e','t','i','_','_']) (o:=['d','e','s','r','e','v','e','r']) (by kernel_rfl) BY];kernel_rfl
theorem wR:QaN table "reversed.__iter__"=Qr Builtin.«dict_keyiterator.__iter__»:=
 QaM (id':="dict_keyiterator.__iter__") (by kernel_rfl) (by first|rfl|rfl'|(unfold String.splitOn;simp +decide [String.splitOnAux])) (by rfl') (by kernel_rfl)
theorem y8:Slot "reversed" "__init__" "object.__init__":=
 .of (owner:="object") (n:="__init__") (by rw[vg,uO];kernel_rfl) (by rfl') (by rfl') (by rfl')
  (by first|show .inl (by rfl')|show .inr (by rfl')) (by rw[u7];kernel_rfl)
theorem F0:TypeCalled "reversed" "reversed.__new__" "object.__init__":=
 (by rfl',by rfl',(_,_,F.mro_reversed),madeBy_type F.mro_reversed F.lookup_reversed_new (by rfl'),by rfl',by rw[u7];kernel_rfl,y8)
theorem Nu:vY (.type "str") "__reversed__"=pure none:=by rw[vg,uO];kernel_rfl
theorem Nr:isSubtype (.type "str") (.type "dict")=pure false:=by rw[u7];kernel_rfl
noncomputable def xG(z:Str)(t:Tok)(i:Int):Obj:= {cls:=.type "reversed",data:=.fields #[.str z t,uL i]}
theorem RR(z:Str)(t:Tok)(y:z.length<2 ^ 63):Meets (Builtin.«reversed.__new__» ([.type "reversed",.str z t],[])) (λ_ R s=>
 R (.ok (.ret (.ref s.heap.objs.size))) {s with heap:=s.heap.push (xG z t ((z.length:Int)-1)),toks:=s.toks+1+1}):=
 .of_wp λprog w A R s h=>by
  unfold Builtin.«reversed.__new__»
  show jM (vN (newClass_reversed _) ?_)
  try dsimp only
  show jM (vN (a:=()) (by first|rfl|kernel_rfl) ?_);show jM (vN (a:=()) (by first|rfl|kernel_rfl) ?_)
  try dsimp only
  show jM (vy (uW _ _ _) Nu ?_)
  try dsimp only
  have j:s.TypeIs (.str z t) "str":=uW _ _ _;have hd:=Nr;have Q:=F.slot_str_getitem.lookup;have O:¬(z.length:Int) ≥ 2 ^ 63:=⋯
  obtain⟨C,g,d,p,os⟩:=s
  wp_walk using len_str O
  show(_,rfl,h)
theorem E7{E:ZW}{Q:ZW}(y:z.length<2 ^ 63)
 (h:Q (.ref s.heap.objs.size) {s with heap:=s.heap.push (xG z t ((z.length:Int)-1)),toks:=s.toks+1+1}):jS (ud prog w) A (call (.type "reversed") [.str z t]) Q E s:=by
 show callType_new F0 ∅ (F.typeCall_reversed_1 _) (F.newCall_reversed_1 _) (λobj=>F.args_object_init_2 obj _) F.entry_reversed_new (RR z t y) ?_;show((_,Ql _ rfl,rfl),h)
def ph(h:Heap)(a:jP)(z:Str)(t:Tok)(i:Int):Prop:=∃o,h.get? a=Qr o/\o.cls=.type "reversed"/\o.data=.fields #[.str z t,uL i]
section
variable{prog:j8}{w:uj}{A:uv}{E:ZW}{s:jQ}
theorem ph.typeIs(x:ph s.heap a z t i):s.TypeIs (.ref a) "reversed":=let (o,ho,hc,_):=x;(o,ho,hc)
theorem EH{Q:ZW}(H:ph s.heap it z t i)(h:Q (.ref it) s):jS (ud prog w) A (QaH (.ref it)) Q E s:=by show Qa1 H.typeIs mS (ur mS H.typeIs wR ?_ (y7 _));change jS _ _ (ret (.ref it)) _ _ s;show jN (_,rfl,"reversed",_,H.typeIs,aj.lookup,h)
theorem Nt{I:jP}{z:Str}{t:Tok}{i c:Nat}{Q:Option Value->jQ->Prop}(H:ph s.heap I z t (i:Int))(y:z.length<2 ^ 63)(m:i<z.length)(g:z.cps[i]?=Qr c)
 (J:∀B,ph B I z t ((i:Int)-1)->Heap.SameBut I s.heap B->Q (Qr (.str ⟨#[c]⟩ (s.toks+1))) {s with heap:=B,toks:=s.toks+1+1}):jS (ud prog w) A (uU (.ref I)) Q E s:=by
 show Zz (id H) λo u d hd=>?_;unfold uU
 show jM (uG (uk (name:=Qe "__next__") H.typeIs aj
  (ur aj H.typeIs kh ?_ (mR _))))
 unfold Builtin.«reversed.__next__»
 show jM (vN (a:=(Qw I,[])) rfl ?_)
 try dsimp only
 show jM (uH u hd (x:=.str z t) rfl ?_);show jM (uH u hd (x:=uL (i:Int)) rfl ?_);change jS _ _ (if(i:Int)<0 then _ else _) _ _ s;rw[Zo ⋯];show jM (vy (uW _ _ _) F.slot_str_getitem.lookup ?_);rw[Zo (show ¬((Qr (jo "str.__getitem__")).isNone=true)from Qk)];show jM (wpAny_mkInt (jM (uG (PyProof.Rows.getItem_str (c:=c) ?_ ?_ ?_))))
 .rw[decide_eq_false ⋯,decide_eq_false ⋯];rfl
 .have:seqIndex? (i:Int) z.length=Qr i:=by
   unfold seqIndex?;simp
   lia
  rw[this];show g
 show jM (uH u hd (x:=uL (i:Int)) rfl (jM (Qbn u hd (by simp) (jN (_,rfl,jN (J _ ?_ (Heap.SameBut.update ..)))))));show(_,Q9 _ u (Obj.isFreed_of_fields (Obj.data_mapFields hd _)),(Obj.cls_mapFields ..).trans d,by rw[Obj.data_mapFields hd];simp)
theorem RQ{Q:Option Value->jQ->Prop}(d:A.handled=Qs)(H:ph s.heap I z t (-1))
 (J:∀B,jI I s.heap B->Q Qs {s with heap:=B}):jS (ud prog w) A (uU (.ref I)) Q E s:=by
 show Zz (id H) λo u f hd=>?_;unfold uU
 show jM (uG (uk (name:=Qe "__next__") H.typeIs aj
  (ur aj H.typeIs kh ?_ (mR _))))
 unfold Builtin.«reversed.__next__»
 show jM (vN (a:=(Qw I,[])) rfl ?_)
 try dsimp only
 show jM (uH u hd (x:=.str z t) rfl ?_);show jM (uH u hd (x:=uL (-1)) rfl ?_);change jS _ _ (if(-1:Int)<0 then _ else _) _ _ s;rw[Zx ∅];show jM (vf ?_);show jM ?_;change jS _ _ (Qbq (.ref I) 1 (uL (-1)) >>=λ_=>Qbq (.ref I) 0 .none) _ _ _;show jM (Qbn u hd (by simp) ?_);have v:=Q9 (Obj.mapFields λx=>x.setIfInBounds 1 (uL (-1))) u (Obj.isFreed_of_fields (Obj.data_mapFields hd _));show Qbn v (Obj.data_mapFields hd _) (by simp) ?_
 have S:jI I s.heap ((s.heap.update I (Obj.mapFields λx=>x.setIfInBounds 1 (uL (-1)))).update I (Obj.mapFields λx=>x.setIfInBounds 0 .none)):=λb o S e=>
  (Heap.SameBut.update ..).extBut b o S ((Heap.SameBut.update ..).extBut b o S e)
 generalize(s.heap.update I (Obj.mapFields λx=>x.setIfInBounds 1 (uL (-1)))).update I (Obj.mapFields λx=>x.setIfInBounds 0 .none)=h1 at S ⊢
 show jM ?_;change jS _ _ (newExc (.type "StopIteration") [] >>=_) _ _ _;show jM ?_;simp only[newExc,newTuple];show jM (uS ?_ (by size_fits));show jM (m:=QaL _ _) (vN (a:=QG) (by first|rfl|(simp only[QaL];rfl)) (uS ?_ (by size_fits)));simp only[raiseNew];show jM (wpAny_handled ?_);rw[show A.in1.handled=Qs from d];show jM (jN (wpAny_throw ?_));show jM (vD (T:="StopIteration") (b:=true) (_,Ql _ rfl,rfl) QaK (jN (J _ ((S.push _).push _))))
end
noncomputable def Tz(z:Str):It:=(λi _=>i<Qa (L z),λi H x I=>I=H/\x=.str (T [(L z).getD (Qa (L z)-1-i) 0]),λi _=>Qa (L z)<=i)
section
variable{P:j8}{w:uj}{K:Qb}{tg:uI}
theorem Gr(z:Str)(t:Tok)(u:jP)(hz:z.length<2 ^ 63):Am P w K tg (Tz z) [u] u (λi h=>i<=Qa (L z)/\ph h u z t ((Qa (L z):Int)-1-(i:Int))) where
 mem:=by simp
 obj:=λi h st b S=>by
  have e:b=u:=by simpa using S
  subst e;show ZI st λ_ Z=>Zz Z λo e c d=>(o,e,λv y=>by rw[d]at y;cases y)
 keep:=λi h B st k=>by show ZI st λr Z=>Zz Z λo e c d=>(r,o,k u (by simp) o e,c,d)
 item:=by intro X C U x p i m s D H E I J st Q;subst C U x;show ZO (J u (by simp)) λg q f2 O Y j=>?_;have Q:i<Qa (L z):=Q;obtain⟨_,st⟩:=st;rw[show(Qa (L z):Int)-1-(i:Int)=((Qa (L z)-1-i:Nat):Int)by lia]at st;show Nt st hz (by rw[<-zC];lia) (Cz (show Qa (L z)-1-i<Qa (L z)by lia)) λB M sb=>?_;have I1:Inv X m D H {s with heap:=B,toks:=s.toks+1+1}:=I.turned (t':=s.toks+1+1) (λb o S e=>(sb.2 b S).trans e) g q O Y j;rw[show((Qa (L z)-1-i:Nat):Int)-1=(Qa (L z):Int)-1-((i+1:Nat):Int)by lia]at M;show Zz (id M) λo e c d=>(_,rfl,Ef (s:= {s with heap:=B,toks:=s.toks+1+1}) e c d ∅ (.str (T [(L z).getD (Qa (L z)-1-i) 0]),H,I1,(_,rfl),(rfl,rfl),(Q,M),λb S=>(J b S).1))
 done:=by intro X C U x p i m s D H E I J st Q;subst C U x;show ZO (J u (by simp)) λg q f2 O Y j=>?_;have Q:Qa (L z)<=i:=Q;obtain⟨h1,st⟩:=st;rw[show(Qa (L z):Int)-1-(i:Int)= -1 by lia]at st;show RQ (I.ok.hd p) st λB eb=>(rfl,I.turned (t':=s.toks) (λb o S e=>eb b o S e) g q O Y j)
 self:=λ_ _ _ _ _ st h=>EH st.2 h
end
section
variable{X:Cx}{tg:uI}
def Xe(t:TA):TI:=λD H R=>t D H λv E=>∃z,v=[.str z]/\Qa (L z)<=sizeLine/\R (Tz z) E
theorem M7(d:X.mg "reversed"=Qs)(M:PA X [a] ta)(x:autoParam (Gl X "reversed") ZF)(v:autoParam (uc [a] X.env=[(false,eval a X.env)]) ZF):PI X tg (.Call (.Name "reversed" p) [a] [] pos) (Xe ta):=by
 intro r s D H R I h;show Qbg (JL I x d hV (PyProof.Rows.callWith_type1 (thn (M pos r s D H _ I h) λus S g=>Zy g λO E J C Z=>Zz Z λz e hz q=>?_) v rfl));clear g;subst e;show Zf (J1 C) λu B Z=>zI Z λt m=>?_;clear Z;subst B;subst m;have P:=ir;have Q:z.length<2 ^ 63:=by rw[<-zC];lia
 show E7 Q ?_;have y:Inv X r D E {S with heap:=S.heap.push (xG z t ((z.length:Int)-1)),toks:=S.toks+1+1}:=J.kept (t':=S.toks+1+1) λb o e=>Qf _ e
 have j:ph (S.heap.push (xG z t ((z.length:Int)-1))) S.heap.objs.size z t ((Qa (L z):Int)-1-((0:Nat):Int)):=
  (_,Ql _ rfl,rfl,by rw[zC];simp[xG])
 show EH (s:= {S with heap:=S.heap.push (xG z t ((z.length:Int)-1)),toks:=S.toks+1+1}) j ?_;show(S.heap.objs.size,[S.heap.objs.size],_,_,E,rfl,y,Gr z t _ Q,(Qo _,j),λb Y=>?_,q);have e:b=S.heap.objs.size:=by simpa using Y
 subst e;show J.fpOk (Qg _) (J.hok.fresh (Qg _))
def Oh(u:TA)(g:TG)(t:TS):TS:=λD E H=>u E H λv I=>aS (λz=>a0 (
 Qa (L z)<=sizeLine/\Mq (T (L z).reverse) g t D E I
 )) v
theorem Nd(hp:vQ (Z2 X) X.A X.env X.xe)(f:X.calm=true)(hm:X.mg "reversed"=Qs)(ha:PA X [l] ta)(hg:PG X tg g)(S:PSs X body tb)
 (t:autoParam (Gl X "reversed") ZF) (hs:autoParam (uc [l] X.env=[(false,eval l X.env)]) ZF) (hf:autoParam (∀x,ue (.Call (.Name "reversed" p) [l] [] pos') X.env x=pure x) qK):
 PS X (.For tg (.Call (.Name "reversed" p) [l] [] pos') body [] pos) (Oh ta g tb):=by
 have C:PA X [l] (λE H Q=>∃Y:ZE->Hp->Prop,ta E H Y/\∀v J,Y v J->Q v J):=ha.imp λE H Q h=>h;intro R s E H D I h;show oB hp f (M7 hm C t hs) hg S hf R s E H D I (_,h,λvs H1 q=>?_);obtain⟨z,rfl,q⟩:=aS1 q
 ·
  show ZI q λhz Z=>Zz Z λu p0 O U=>?_;clear Z q;rw[L_T,uV]at O U;show(z,rfl,hz,λn m E H=>m=Qa (L z)-n/\n<=Qa (L z)/\u n E H,(Qa (L z),by simp,Qo _,p0),?_);show λn m j d Z=>ZL Z λr hn P=>?_;clear Z;subst r;by_cases M:n<Qa (L z)
  .show .inr (M,u (n+1),λσ' J p'=>(Qa (L z)-(n+1),⋯,rfl,M,p'),λy J B=>?_);obtain⟨e1,e2⟩:=B;subst e1 e2;have e3:(L z).reverse.getD n 0=(L z).getD (Qa (L z)-1-n) 0:=by rw[Qc,Qc,UU M]
   have:=O n j J M P;rw[e3]at this;show this
  have e:n=Qa (L z):=⋯
  show .inl (by change Qa (L z)<=n;lia,by subst e;show U j d P)
end
structure xT(K:Qb)(x qual:Str)(st:Stmt)(f T:jP)(fd:uY):Prop where
 ex:∃(oc:Value) (od:Option jP) (kV doc pm:Value) (an:Option jP) (cdv ct:Value) (osl:Array (Option Value)),
  fd=Qat x qual (zY st) (zz st) (Zq st) (.ref T) kV doc pm an cdv ct/\K.lookup f=Qr (oc,od,.func fd,osl)/\Qan K cdv qual=true
 kp:vB K (.ref f)=true
section
variable{P:j8}{w:uj}{K:Qb}{mg:z9}{base:Heap}{x qual:Str}{st:Stmt}{f T:jP}{fd:uY}{N ps:ZT}{k:Nat}{sp:Sp}
theorem Ec{y:Value}{H Q:Option jP}{O:Array (Option Value)}{kV d p C ct:Value}(l:K.lookup f=Qr (y,H,.func (Qat x qual (zY st) (zz st) (Zq st) (.ref T) kV d p Q C ct),O))
 (c:Qan K C qual=true) (k:vB K (.ref f)=true):xT K x qual st f T (Qat x qual (zY st) (zz st) (Zq st) (.ref T) kV d p Q C ct):=((y,H,kV,d,p,Q,C,ct,O,rfl,l,c),k)
theorem xT.okX(F:xT K x qual st f T fd)(S:ZA N ps (Zq st))
 (y:∀(C:Value) (A:uv) (outer:List Env) (s:jQ) (H:Hp) (v:ZE) (Q:VK) (E:XK),YN k (A.deeper (ve qual (Zq st) s.heap.objs.size f C))->sp v H Q E->
  ∃t,PSs (dH (CX1 P w) P w K mg base N qual (Zq st) f C A outer s H E) (zz st) t/\t {nx:=λ_ I=>Q .non I,rt:=Q} (JZ N v) H) (len:autoParam (∀v H Q E,sp v H Q E->Qa v=Qa ps) GA):Z0 P w K mg base (CX1 P w) (k+1) f fd ps sp:=by
 obtain⟨z,J,kV,d,p,U,C,ct,R,rfl,lk,M⟩:=F.ex;show A4 lk M S len λA outer s H v Q E Y O=>y C A outer s H v Q E Y O
theorem xT.binds(F:xT K x qual st f T fd)(j:K.lookup T=Qr (qc,qo,.seq items n,qs))
 (h:∀(kV d p:Value) (O:Option jP) (C ct:Value) (u:ZY),Qa u+Qa ds=Qa ps->
  ∃g:Option (Array Value)->Sem (List (Str×Value)),Qap (Qat x qual (zY st) (zz st) (Zq st) (.ref T) kV d p O C ct) (u,[])=seqItems? (.ref T) >>=g/\g (Qr items)=pure (ps.zip (u++ds))):bL K fd ps ds:=by
 show ZH F.ex λB J kV z=>ZH z λd p O z=>Z6 z λC ct R Z lk M=>?_;clear z;subst Z;intro s u H Q;show Zf (h kV d p O C ct u (by rw[<-jR];show Q)) λg y I=>binds_K H rfl j rfl y I
end
theorem Jq.same2(x:Jq C H a cs h)(S:∀b o,H b=Qr o->(∀P,o≠ .tbl P)->(∀y,o≠ .dK y)->(∀u U f,o=.ins u U f->Qa f=5)->H' b=Qr o):Jq C H' a cs h:=by obtain⟨U,Y,v,B,⟨⟨R,Z,q,r,J,M⟩,p,g,m⟩,Q⟩:=x;show(U,Y,v,S _ _ B (by nofun) (by nofun) (by intro u D f z;cases z;rfl),((R,Z,S _ _ q (by nofun) (by nofun) (by intro u D f z;cases z),r,λj d e=>?_,M),p,S _ _ g (by nofun) (by nofun) (by intro u D f z;cases z),m),Q);show Zf (J j d e) λt E I=>(t,E,S _ _ I (by nofun) (by nofun) (by intro u D f z;cases z))
def aF(x d:jP)(H I:Hp):Prop:=(∀b o,b≠x->b≠d->H b=Qr o->(∀p,o≠ .tbl p)->I b=Qr o)/\∀b,H b≠Qs->I b≠Qs
theorem aF.ofN(s:zy H H'):aF x d H H':=(λ_ _ _ _ e n=>s.at e n,λ_ e=>s.nn e)
theorem aF.trans(a:aF x d H H1)(b:aF x d H1 H2):aF x d H H2:=(λc o y I e n=>b.1 c o y I (a.1 c o y I e n) n,λc e=>b.2 c (a.2 c e))
theorem aF.updX(a:aF x d H H1):aF x d H (upd H1 x o):=(λb u y I e n=>(Zn y).trans (a.1 b u y I e n),λb e=>eV (a.2 b e))
theorem aF.updD(a:aF x d H H1):aF x d H (upd H1 d o):=(λb u y I e n=>(Zn I).trans (a.1 b u y I e n),λb e=>eV (a.2 b e))
noncomputable def Ye(l:Zg)(r:Nat):Nat:=(LO.ord l).getD r 0
def dZ(p:List (Int×V))(l:Zg)(g:Int)(k:Nat):Prop:=∀r:Int,p.lookup r=if 0<=r/\r<k/\(Ye l r.toNat:Int)%g=0 then Qr (.int (Ye l r.toNat:Nat))else Qs
noncomputable def fsF(h d:jP)(g:Int):List (Str×V):=[("held",.ref h),("gap",.int g),("known",.ref d)]
def pf(C z:jP)(H:Hp)(x:jP)(l:Zg)(g:Int):Prop:=∃D h d p,H x=Qr (.ins C D (fsF h d g))/\Jq z H h (LO.Z3 l) (LO.qB l)/\H d=Qr (.dK (pX p))/\dZ p l g (Qa l+1)/\1<=g
theorem pf.same(f:pf C CL H x l g)(S:∀b o,H b=Qr o->(∀p,o≠ .tbl p)->H' b=Qr o):pf C CL H' x l g:=by show ZH f λD h d z=>zh z λp y I Q j=>(D,h,d,p,S _ _ y (by nofun),I.same S,S _ _ Q (by nofun),j)
theorem dZ.step(h:dZ ps l g k)(e:(LO.ord l)[k]?=Qr j):((j:Int)%g=0->ps.lookup (k:Int)=Qs/\dZ (ps++[((k:Int),.int (j:Int))]) l g (k+1))/\(¬(j:Int)%g=0->dZ ps l g (k+1)):=by
 have m:Ye l k=j:=by unfold Ye;rw[Qc,e];rfl
 show(λy=>(by rw[h,Zo λz=>by lia],λr=>?_),λy r=>?_)
 .rw[pL,h r];by_cases E:r=(k:Int)
  .subst E;rw[Zo λz=>by lia,Zx rfl,Qj,m,Zx (⋯,⋯,y)];rfl
  rw[Zo E,Option.or_none];by_cases H:0<=r/\r<k/\(Ye l r.toNat:Int)%g=0;rw[Zx H,Zx (H.1,⋯,H.2.2)];rw[Zo H,Zo λz=>H (z.1,⋯,z.2.2)]
 rw[h r];by_cases E:r=(k:Int)
 .subst E;rw[Zo λz=>by lia,Zo λz=>y (by rw[Qj,m]at z;show z.2.2)]
 by_cases H:0<=r/\r<k/\(Ye l r.toNat:Int)%g=0;rw[Zx H,Zx (H.1,⋯,H.2.2)];rw[Zo H,Zo λz=>H (z.1,⋯,z.2.2)]
end L2
namespace LO
theorem Kh(l t:Zg):low l t<=Qa l+1:=by unfold low;show QC VI (by simp)
theorem fR(l t:Zg):aD l t<=Qa l+1:=by rw[rS];show QC VI (by simp)
theorem EG(t:Zg)(H:c≠10):(1+((Z3 l).countP λx=>decide (x<c):Nat)+(((L2.Y8 (Z3 l) (qB l)).take (low l t)).count c:Nat):Int)=((low l (c::t):Nat):Int):=by
 rw[Kg,fk,sX,kD _ H]
 lia
theorem BW(t:Zg)(H:c≠10):(1+((Z3 l).countP λx=>decide (x<c):Nat)+(((L2.Y8 (Z3 l) (qB l)).take (aD l t)).count c:Nat):Int)=((aD l (c::t):Nat):Int):=by
 rw[Ft,fk,sX,kD _ H]
 lia
end LO
namespace L2
open PySem
theorem Li{p s g:Int}(Q:1<=g)(m:0<=s)(H:s<=p%g):(p-s)%g=p%g-s:=by
 have I:=QM p (show 0<g by lia)
 have e:p-s=(p%g-s)+g * (p/g):=by
  have:=Int.emod_add_mul_ediv p g
  lia
 rw[e,Int.add_mul_emod_self_left,Int.emod_eq_of_lt ⋯ ⋯]
theorem tG(h:j<=Qa l):Ye l (LO.qU l j)=j:=by unfold Ye;rw[Qc,LO.Jx h];rfl
theorem bQ(h:r<=Qa l):Ye l r<=Qa l/\LO.qU l (Ye l r)=r:=by
 have H:=LO.zT l;have e:(LO.ord l)[r]?=Qr (LO.ord l)[r]:=Qd (by omega);have E:Ye l r=(LO.ord l)[r]:=by unfold Ye;rw[Qc,e];rfl
 rw[E];show(LO.Y2.mp (QN _),LO.fZ e)
theorem dZ.at(h:dZ ps l g (Qa l+1))(H:j<=Qa l):ps.lookup ((LO.qU l j:Nat):Int)=if(j:Int)%g=0 then Qr (.int (j:Int))else none:=by have Y:=LO.r8 (l:=l) (j:=j) H;rw[h,Qj,tG H];by_cases z:(j:Int)%g=0;rw[Zx (⋯,⋯,z),Zx z];rw[Zo λw=>z w.2.2,Zo z]
open PySem.Spec PyProof.Rows
section
def XS(n:Nat)(C:List (Str×Nat))(t:TA)(M:TT)(g:TE):TE:=λD H Q=>t D H λv E=>aI (λa=>aI λb=>a0 (
 (-(2 ^ 62)<=a/\a<2 ^ 62/\ -(2 ^ 62)<=b/\b<2 ^ 62/\b-a<16777216)/\∃p:Nat->Hp->ZE->Prop,p 0 E []/\(∀i O d,i<(b-a).toNat->p i O d->yK M g ((eX n C D).set 0 (Qr (.int (a+(i:Int))))) d (p (i+1)) O)/\∀O d,p (b-a).toNat O d->∀l,O l=Qs->Q (.ref l) (upd O l (.lst d))
 )) v
theorem FR
 (hm:X.mg "range"=Qs) (t:gx X S cl) (ha:PA X [a,b] ta) (ht:wx X S cl own cp ifs tc) (he:o7 X S cl own cp elt te) (hc:autoParam (X.calm=true) ZF)
 (hk:autoParam (S.kind=.function) ZF) (B:autoParam (∀y∈S.names,y.2≠ .cell) gw) (R:autoParam (o6 S) gw) (J:autoParam (Jp X S cp) Cc) (hn:autoParam (0<Qa own) z8)
 (hg:autoParam (o9 X S cl own cp (.Name x px) 0) Ce) (u:autoParam (Gl X "range") ZF) (r:autoParam (uc [a,b] X.env=[(false,eval a X.env),(false,eval b X.env)]) ZF) (g:autoParam (uc [b] X.env=[(false,eval b X.env)]) ZF) (hs:autoParam (∀z,ue (.Call (.Name "range" p) [a,b] [] p') X.env z=pure z) qK)
 :PE X (.ListComp elt [(.Name x px,.Call (.Name "range" p) [a,b] [] p',ifs,0)] S pos) (XS (Qa own) cp ta tc te):=by
 have U:PA X [a,b] (λD H Q=>∃Q0:ZE->Hp->Prop,ta D H Q0/\∀v Y,Q0 v Y->Q v Y):=ha.imp λD H Q h=>h;intro Zc s D H Q I h;show iS hc t hk B R J (xD u hm U r g) (rQ hn) hg (λf C s H=>(ht f C s H).imp (t':=AE tc) λ_ _ _ z=>z) (λf C s H=>(he f C s H).imp (t':=AD te) λ_ _ _ z=>z) hs Zc s D H Q I ?_;show(_,h,λvs H1 q=>?_);obtain⟨a,b,rfl,q⟩:=aI2 q
 ·
  obtain⟨⟨b1,b2,b3,b4,b5⟩,Pv,p0,ps,pe⟩:=q;have a1:sizeLine=16777216:=jT;show(a,b,rfl,(b1,b2,b3,b4),λi m O d=>m=(b-a).toNat-i/\i<=(b-a).toNat/\Qa d<=i/\Pv i O d,((b-a).toNat,by omega,Qo _,Qg _,p0),?_);show λi m O d zr=>za zr λZ hi hl P=>?_;clear zr;subst Z;show(by omega,?_);by_cases M:i<(b-a).toNat
  .show .inr (M,λy H3 j=>?_);obtain⟨e3,ey⟩:=j;subst e3 ey;show dP (N':=λH z=>∃m',m'<(b-a).toNat-i/\(m'=(b-a).toNat-(i+1)/\i+1<=(b-a).toNat/\Qa z<=i+1/\Pv (i+1) H z)) (λH z hz w=>((b-a).toNat-(i+1),by omega,rfl,M,by omega,w)) (ps i H3 d M P)
  have e:i=(b-a).toNat:=by omega
  subst e;show .inl (Qg _,λl E=>pe O d P l E)
noncomputable def yx:vV where
 α:=Int
 blt:=λa b=>decide (a<b)
 irrefl:=λa=>decide_eq_false (Int.lt_irrefl a)
 trans:=λa b c x H=>by have:=of_decide_eq_true x;have:=of_decide_eq_true H;show decide_eq_true ⋯
 negTrans:=λa b c h=>by
  have:=of_decide_eq_true h;by_cases H:a<b
  .show .inl (decide_eq_true H)
  .show .inr (decide_eq_true ⋯)
 total:=λa b x H=>by
  have:=of_decide_eq_false x;have:=of_decide_eq_false H
  lia
theorem CM{ns:List Int}{p:ZY}(r:ZQ (ns.map V.int) p){i:Nat}(H:i<Qa ns):∃t,p.getD i QG=.int (ns.getD i 0) t:=by
 have e:(ns.map V.int)[i]?=Qr (V.int (ns.getD i 0)):=by rw[Qm,Qc,Qd H];rfl
 show Zf (r.get e) λu B Z=>zI Z λt z=>?_;clear Z;subst z;show(t,by rw[Qc,B];rfl)
theorem L1{prog:j8}{w:uj}{A:uv}{s:jQ}{ns:List Int}{p:ZY}(r:ZQ (ns.map V.int) p):LS.EY (O:=yx) (λi=>ns.getD i (0:Int)) (Qa ns) (λS=>S=s) (QaS prog w A QaJ p):=by show⟨λi j C d H u e h=>?_⟩;subst e;unfold QaS;obtain⟨t,E⟩:=CM r H;obtain⟨m,x⟩:=CM r u;rw[E,x,keyLt'_oneType];show oneLt_int (h d rfl)
theorem IK{M:vJ}{A:uv}{E:ZW}{s:jQ}{ns:List Int}{p:ZY}(r:ZQ (ns.map V.int) p)(I:2<=Qa ns){Q:vm->jQ->Prop}(h:Q QaJ s):jS M A (Qbs (QI p)) Q E s:=by
 have O:=r.length;rw[jO]at O;show kas_kind (T:=.type "int") ⋯ (λv P=>?_) ∅ ∅ h;obtain⟨i,m⟩:=VM P
 have H:i<Qa ns:=by
  have:=(Qh.mp m).1
  lia
 obtain⟨t,e⟩:=CM r H;rw[Qc,m]at e;have e:v=.int (ns.getD i 0) t:=e;rw[e];show PySem.W.Looks.of_pure rfl
theorem NF{ns:List Int}{n:Nat}{p:Array Nat}(C:LS.Pm n p)(B:LS.Up (O:=yx) (λi=>ns.getD i (0:Int)) p n):p.toList.Pairwise (λi j=>ns.getD i 0<=ns.getD j 0):=by
 have q:=C.size;show Ul.mpr λi j m u H=>?_;rw[Qq]at m u;have:=B i j (Ua H) ⋯;have g:LS.gt p i=p.toList[i]:=by unfold LS.gt;rw[QV];simp[m]
 have r:LS.gt p j=p.toList[j]:=by unfold LS.gt;rw[QV];simp[u]
 rw[g,r]at this;have this:decide (ns.getD p.toList[j] 0<ns.getD p.toList[i] 0)=false:=this;have:=of_decide_eq_false this
 lia
theorem sZ(ns:List Int):(Qi (Qa ns)).map (λi=>ns.getD i 0)=ns:=by
 show Vu λi=>?_;rw[Qm];by_cases h:i<Qa ns
 .rw[Ux h,Qd h,Option.map_some,Qc,Qd h];rfl
 rw[Uo (by simpa using h),Uo ⋯];rfl
end
end L2
namespace LO
open L2
theorem dO:dN l t i=true↔(l.drop i).take (Qa t)=t:=by unfold dN;rw[Vq,List.prefix_iff_eq_take];show(λh=>h.symm,λh=>h.symm)
theorem BO(l t:Zg):((Qi (aD l t-low l t)).map λk=>Ye l (low l t+k)).Perm (LP.plc l t):=by
 have d:=fR l t;have O:=zT l;show(List.perm_ext_iff_of_nodup ?_ (List.nodup_range.sublist VR)).mpr λi=>?_
 .rw[Wi,Vd];show List.Pairwise.imp_of_mem (R:=λa b=>a≠b) (λ{a b} J S M e=>M ?_) (Wi.mp List.nodup_range);have J:=QA.mp J;have S:=QA.mp S;obtain⟨_,E⟩:=bQ (l:=l) (r:=low l t+a) ⋯;obtain⟨_,y⟩:=bQ (l:=l) (r:=low l t+b) ⋯;rw[e]at E
  lia
 show Iff.trans ?_ (Ep (l:=l) (q:=t) (i:=i)).symm;rw[Uf];constructor
 .show λZ=>Zf Z λk I z=>?_;clear Z;subst z;have I:=QA.mp I;obtain⟨x,E⟩:=bQ (l:=l) (r:=low l t+k) ⋯;have:=(iT (t:=t) x).mpr ⋯;have H:=dO.mp this;show(?_,H);have:=congrArg Qa H;rw[jZ,uf]at this
  lia
 rintro⟨x,H⟩;have m:i<=Qa l:=⋯
 have Y:=(iT (t:=t) m).mp (dO.mpr H);show(qU l i-low l t,QA.mpr ⋯,?_);rw[show low l t+(qU l i-low l t)=qU l i by lia];show tG m
theorem Ry(l t:Zg):(LP.plc l t).Pairwise (· <=·):=by show List.Pairwise.sublist VR ?_;show(List.pairwise_lt_range).imp λh=>Ua h
theorem Di(C:ms.Perm ((Qi (aD l t-low l t)).map λk=>((Ye l (low l t+k):Nat):Int)))(g:ms.Pairwise (· <=·)):ms=(LP.plc l t).map λi:Nat=>(i:Int):=by
 show List.Perm.eq_of_pairwise (le:=(· <=·)) (λa b _ _ H I=>Int.le_antisymm H I) g ?_ (C.trans ?_)
 .rw[Vd];show(Ry l t).imp λh=>Int.ofNat_le.mpr h
 have:=(BO l t).map λi:Nat=>(i:Int);rw[u6]at this;show this
theorem l8(l t:Zg):Qa (LP.plc l t)=aD l t-low l t:=by rw[<-(BO l t).length_eq,jO,uF]
theorem M9(h:i∈LP.plc l t):i+Qa t<=Qa l:=(Ep.mp h).1
end LO
namespace L2
open PySem PySem.Spec PyProof.Rows
structure FnD(P:j8)(w:uj)(K:Qb)(mg:z9)(base:Heap)(k:Nat)(x:Str)(ps:ZT)(dvs:ZE)(sp:Sp):Prop where
 ex:∃f fd ds,Z0 P w K mg base CX0 k f fd ps sp/\mg x=Qr (.ref f)/\vB K (.ref f)=true/\bL K fd ps ds/\ZQ dvs ds
structure FnK(P:j8)(w:uj)(K:Qb)(mg:z9)(base:Heap)(k:Nat)(x:Str)(ps:ZT)(kw:Str)(sp:Sp):Prop where
 ex:∃f fd,Z0 P w K mg base CX0 k f fd ps sp/\mg x=Qr (.ref f)/\vB K (.ref f)=true/\∀(s:jQ) (a c:Value),K.In s.heap->QaW s fd ([a],[(kw,c)]) (ps.zip [a,c])
section
variable{K:Qb}{x qual:Str}{st:Stmt}{f T:jP}{fd:uY}{ps:ZT}
theorem xT.bindsK1(F:xT K x qual st f T fd)(j:K.lookup T=Qr (qc,qo,.seq items n,qs))
 (h:∀(kV d p:Value) (O:Option jP) (C ct:Value) (a c:Value),
  ∃g:Option (Array Value)->Sem (List (Str×Value)),Qap (Qat x qual (zY st) (zz st) (Zq st) (.ref T) kV d p O C ct) ([a],[(kw,c)])=seqItems? (.ref T) >>=g/\g (Qr items)=pure (ps.zip [a,c])):
 ∀(s:jQ) (a c:Value),K.In s.heap->QaW s fd ([a],[(kw,c)]) (ps.zip [a,c]):=by
 show ZH F.ex λB J kV z=>ZH z λd p O z=>Z6 z λC ct R Z lk M=>?_;clear z;subst Z;intro s a c H;show Zf (h kV d p O C ct a c) λg y I=>binds_K H rfl j rfl y I
end
end L2
namespace LO
open LW L2
theorem ET:∀{x y:Zg} (k:Nat),x<=y->x.take k<=y.take k
 |_,_,0,_=>by simp
 |[],y,k+1,_=>by simp
 |c::x,[],k+1,h=>ZD (je c x) (Q1.mpr h)
 |c::x,d::y,k+1,h=>by
  rw[QJ,QJ];have h:¬(d::y<c::x):=Q1.mpr h;show Q1.mp λz=>h ?_
  rw[QS]at z ⊢
  rcases z with z|⟨B,Z⟩;show .inl z;show .inr (B,?_);rcases Decidable.em (y<x)with w|w;show w;show ZD Z (Q1.mpr (ET k (Q1.mp w)))
theorem RO{l:Zg}{i j:Nat}(h:i<=j)(H:j<=Qa l):l.drop (Ye l i)<=l.drop (Ye l j):=by
 have O:=zT l;rcases Ur i j with w|w
 .have:=Ul.mp (tH l) i j ⋯ ⋯ w;unfold Ye;rw[Qc,Qc,Qd ⋯,Qd ⋯];show this
 have:i=j:=⋯
 subst this;show List.le_refl _
noncomputable def sz(l:Zg)(m r:Nat):Nat:=com (l.drop (Ye l r)) (l.drop (Ye l (r+(m-1))))
noncomputable def pc(l:Zg)(m r:Nat):Zg:=(l.drop (Ye l r)).take (sz l m r)
theorem tJ(l:Zg)(m r:Nat):Qa (pc l m r)=sz l m r:=by
 unfold pc;rw[jZ];have:=(LW.yk (l.drop (Ye l r)) (l.drop (Ye l (r+(m-1))))).1;unfold sz
 lia
theorem MU(x:1<=m)(Y:r+(m-1)<=Qa l):m<=ai l (pc l m r):=by
 have H:pc l m r=(l.drop (Ye l (r+(m-1)))).take (sz l m r):=B8 _ _ _ (Qg _);obtain⟨d,p⟩:=bQ (l:=l) (r:=r) ⋯;obtain⟨b1,b2⟩:=bQ (l:=l) (r:=r+(m-1)) ⋯;have C:=(iT (t:=pc l m r) d).mp (dO.mpr (by rw[tJ];rfl));have u:=(iT (t:=pc l m r) b1).mp (dO.mpr (by rw[tJ];show H.symm));unfold aD at C u
 lia
structure Lng(l:Zg)(m i:Nat)(c:Zg):Prop where
 one:m<=ai l c
 most:∀r,r<i->sz l m r<=Qa c
 first:∀r,r<i->sz l m r=Qa c->¬pc l m r<c
 src:∀j,i<=j->j<=Qa l->¬(l.drop (Ye l j)).take (Qa c)<c
theorem Kb(Y:m<=Qa l+1):Lng l m 0 []:=by
 show(?_,λr H=>ZD H (VF _),λr H=>ZD H (VF _),λj _ _=>by simp);have:=sR l;have:=rV l
 unfold aD at *
 lia
theorem Lng.keep(h:Lng l m i c)(p:i<=Qa l)(g:sz l m i<=Qa c):Lng l m (i+1) c:=by
 show(h.one,λr Y=>?_,λr Y e=>?_,λj u H=>h.src j ⋯ H)
 .rcases Ur r i with w|w;show h.most r w;have:r=i:=⋯
  subst this;show g
 rcases Ur r i with w|w;show h.first r w e;have:r=i:=⋯
 subst this;unfold pc;rw[e];show h.src r (Qg _) p
theorem Lng.take{l c:Zg}{m i:Nat}(h:Lng l m i c)(x:1<=m)(p:i+(m-1)<=Qa l)(g:Qa c<sz l m i):Lng l m (i+1) (pc l m i):=by
 show(MU x p,λr Y=>?_,λr Y e=>?_,λj u H=>?_)
 .rw[tJ];rcases Ur r i with w|w
  .have:=h.most r w
   lia
  have:r=i:=⋯
  subst this;show Qg _
 .rw[tJ]at e;rcases Ur r i with w|w
  .have:=h.most r w
   lia
  have:r=i:=⋯
  subst this;show Vp _
 rw[tJ];show Q1.mpr (ET _ (RO ⋯ H))
theorem Lng.best(h:Lng l m i c)(H:1<=m)(p:i+m=Qa l+2)(hw:m<=ai l w):¬(Qa c<Qa w\/Qa w=Qa c/\w<c):=by
 have j:=fR l w;have u:aD l w=low l w+ai l w:=rfl;obtain⟨d,v⟩:=bQ (l:=l) (r:=low l w) ⋯;obtain⟨b1,b2⟩:=bQ (l:=l) (r:=low l w+(m-1)) ⋯;have g:=dO.mp ((iT (t:=w) d).mpr ⋯);have q:=dO.mp ((iT (t:=w) b1).mpr ⋯)
 have I:Qa w<=Qa (l.drop (Ye l (low l w))):=by
  have:=congrArg Qa g;rw[jZ]at this
  lia
 have S:Qa w<=Qa (l.drop (Ye l (low l w+(m-1)))):=by
  have:=congrArg Qa q;rw[jZ]at this
  lia
 have f:Qa w<=sz l m (low l w):=pB _ _ _ I S (by rw[g,q]);have Y:=h.most (low l w) ⋯;rintro(z|⟨z1,z2⟩)
 lia
 have E:sz l m (low l w)=Qa c:=⋯
 show h.first (low l w) ⋯ E ?_;unfold pc;rw[E,<-z1,g];show z2
theorem Bh(h:1<=ai l t):Qa t<=Qa l:=by show Zf (VS.mp (show 0<(Qi (Qa l+1)).countP (λi=>dN l t i)from h)) λi _ H=>?_;have:=congrArg Qa (dO.mp H);rw[jZ,uf]at this;omega
theorem Lng.only(h:Lng l m i c)(g:Lng l m i d)(H:1<=m)(p:i+m=Qa l+2):c=d:=by
 have a:=h.best H p g.one;have b:=g.best H p h.one
 have e:Qa d=Qa c:=by
  rcases Ur (Qa c) (Qa d)with w|w;show ZD (.inl w) a;rcases Ur (Qa d) (Qa c)with z|z;show ZD (.inl z) b
  lia
 show jf (Q1.mp λw=>a (.inr (e,w))) (Q1.mp λw=>b (.inr (e.symm,w)))
end LO
namespace L2
open PySem PySem.Spec PyProof.Rows
section
variable{prog:j8}{w:uj}{A:uv}{E:ZW}{s:jQ}
structure Zap(z TI TO i1 i2:jP):Prop where
 TIz:TI≠z
 TOz:TO≠z
 i1z:i1≠z
 i2z:i2≠z
 TITO:TI≠TO
 TIi1:TI≠i1
 TIi2:TI≠i2
 TOi1:TO≠i1
 TOi2:TO≠i2
 i12:i1≠i2
variable{z TI TO i1 i2:jP}{n1 n2 k:Nat}{P1 P2:Nat->Value->Prop}{S1 S2:Nat->Heap->Prop}{a b:Value}
theorem cU{p:Nat->Value->Prop}{S:Nat->Heap->Prop}(D:Qbf prog w A it [it] n p S)(st:S i h)(d:it≠c)(e:Heap.SameBut c h h'):S i h':=
 D.frame _ _ _ st λb H o q=>(e.2 b (by rw[j5.mp H];show d)).trans q
theorem Gy{Q:ZW}(u:Qbf prog w A i1 [i1] n1 P1 S1)(f:Qbf prog w A i2 [i2] n2 P2 S2)(D:Zap z TI TO i1 i2)(g:vK s.heap z TI TO .none)(ak:IsPair s.heap TI (.ref i1) (.ref i2))(al:IsPair s.heap TO a b)
 (h1:S1 k s.heap) (h2:S2 k s.heap) (k1:k<n1) (k2:k<n2)
 (hQ:∀x y H tk,P1 k x->P2 k y->vK H z TI TO (uL s.heap.objs.size)->IsPair H TO x y->S1 (k+1) H->S2 (k+1) H->IsPair H s.heap.objs.size x y->
  (∀c o,c≠z->c≠TO->c≠i1->c≠i2->s.heap.get? c=Qr o->H.get? c=Qr o)->Q (.ref s.heap.objs.size) {s with heap:=H,toks:=tk}):
 jS (ud prog w) A (Builtin.«zip.__next__» ([.ref z],[])) (λab s'=>∃v,ab=.done (.ret v)/\Q v s') E s:=by
 obtain⟨hp,gn,dr,aJ,os⟩:=s;change jS _ _ (Qbt (.ref z) 2 >>=_) _ _ _;show jM (uH g rfl (x:=.bool false) rfl ?_);change jS _ _ (Qbt (.ref z) 3 >>=_) _ _ _;show jM (uH g rfl (x:=.ref TI) rfl ?_);show jM (uT ak rfl ?_);change jS _ _ (Builtin.SmallTypes.ownedTupleIsFree (.ref z) >>=_) _ _ _;show jM ?_;unfold Builtin.SmallTypes.ownedTupleIsFree;show jM (uH g rfl (x:=.none) rfl (jN ?_));simp only[if_true];show jM (vf ?_);show jM (uH g rfl (x:=.ref TO) rfl ?_);show jM (uB g (by simp) λa1 M p=>?_);have M:vK a1 z TI TO .ellipsis:=M;have p:Heap.SameBut z hp a1:=p;have Y:=cU u h1 D.i1z p;have S:=cU f h2 D.i2z p;have an:IsPair a1 TO a b:=(p.2 _ D.TOz).trans al;show jM ?_;simp only[V2,jl,Uw,Wl];show jM (jM (QaX ?_));change jS _ _ (Builtin.SmallTypes.nextOf (.ref i1) >>=_) _ _ _;show jM (u.item k _ _ _ k1 Y λx a2 t2 px m B=>jN ?_);have B:Heap.SameBut i1 a1 a2:=B;have j:IsPair a2 TO a b:=(B.2 _ D.TOi1).trans an;have am:vK a2 z TI TO .ellipsis:=(B.2 _ (Ne.symm D.i1z)).trans M;have S:=cU f S (Ne.symm D.i12) B;show jM (uT j rfl ?_);show jM (QaC j λa3 U I=>?_);have U:IsPair a3 TO x b:=U;have I:Heap.SameBut TO a2 a3:=I;have ap:vK a3 z TI TO .ellipsis:=(I.2 _ (Ne.symm D.TOz)).trans am;have Y:=cU u m (Ne.symm D.TOi1) I;have S:=cU f S (Ne.symm D.TOi2) I;show jM (QaE (jN ?_));show jM (jM (QaX ?_));change jS _ _ (Builtin.SmallTypes.nextOf (.ref i2) >>=_) _ _ _;show jM (f.item k _ _ _ k2 S λy a4 t4 py a9 R=>jN ?_);have R:Heap.SameBut i2 a3 a4:=R;have r:IsPair a4 TO x b:=(R.2 _ D.TOi2).trans U;have as:vK a4 z TI TO .ellipsis:=(R.2 _ (Ne.symm D.i2z)).trans ap;have Y:=cU u Y D.i12 R;show jM (uT r rfl ?_);show jM (QaC r λP t d=>?_);have t:IsPair P TO x y:=t;have d:Heap.SameBut TO a4 P:=d;have a6:vK P z TI TO .ellipsis:=(d.2 _ (Ne.symm D.TOz)).trans as;have Y:=cU u Y (Ne.symm D.TOi1) d;have S:=cU f a9 (Ne.symm D.TOi2) d;show jM (QaE (jN (jN ?_)));show jM (uT t rfl ?_);show jM (Qaj ?_);have sz:P.objs.size=hp.objs.size:=by rw[d.1,R.1,I.1,B.1,p.1]
 have up:∀c o,c≠z->c≠TO->c≠i1->c≠i2->hp.get? c=Qr o->P.get? c=Qr o:=λc o C c2 c3 c4 q=>
  (d.2 c c2).trans ((R.2 c c4).trans ((I.2 c c2).trans ((B.2 c c3).trans ((p.2 c C).trans q))))
 have lz:z<P.objs.size:=Qn a6;have lT:TO<P.objs.size:=Qn t;change jS _ _ (Builtin.SmallTypes.ownedTupleHandOut (.ref z) (.ref P.objs.size) >>=_) _ _ _;show jM ?_;unfold Builtin.SmallTypes.ownedTupleHandOut;have aw:vK (P.push {cls:=.type "tuple",data:=.seq #[x,y]}) z TI TO .ellipsis:=Qf _ a6;show jM (uB aw (by simp) λa7 J e7=>?_);have J:vK a7 z TI TO (uL P.objs.size):=J;show uB J (by simp) λa8 Z e8=>?_;have Z:vK a8 z TI TO (uL P.objs.size):=Z;have O:∀c o,c≠z->P.get? c=Qr o->a8.get? c=Qr o:=λc o C q=>(e8.2 c C).trans ((e7.2 c C).trans (Qf _ q));have new:IsPair a8 P.objs.size x y:=(e8.2 _ (QY lz)).trans ((e7.2 _ (QY lz)).trans (Ql _ rfl));rw[sz]at Z new;show jN (_,rfl,?_);change Q (.ref P.objs.size) _;rw[sz];show hQ x y a8 _ px py Z (O _ _ D.TOz t) (u.frame _ _ _ Y λb hb o q=>O _ _ ?_ q) (f.frame _ _ _ S λb hb o q=>O _ _ ?_ q) new λc o C c2 c3 c4 q=>O c o C (up c o C c2 c3 c4 q)
 .rw[j5.mp hb];show D.i1z
 rw[j5.mp hb];show D.i2z
theorem LN{Q:Fin->jQ->Prop}(D1:Qbf prog w A i1 [i1] n1 P1 S1)(O:Qbf prog w A i2 [i2] n2 P2 S2)(D:Zap z TI TO i1 i2)(J:vK s.heap z TI TO .none)(j:IsPair s.heap TI (.ref i1) (.ref i2))(a5:IsPair s.heap TO a b)
 (h1:S1 k s.heap) (h2:S2 k s.heap) (I:k=n1\/k<n1/\k=n2)
 (hE:∀R e t,(∀c o,c≠z->c≠TO->c≠i1->c≠i2->s.heap.get? c=Qr o->R.get? c=Qr o)->(∃o,R.get? e=Qr o/\o.cls=.type "StopIteration")->E (.ref e) {s with heap:=R,toks:=t}):
 jS (ud prog w) A (Builtin.«zip.__next__» ([.ref z],[])) Q E s:=by
 obtain⟨hp,gn,dr,am,os⟩:=s;change jS _ _ (Qbt (.ref z) 2 >>=_) _ _ _;show jM (uH J rfl (x:=.bool false) rfl ?_);change jS _ _ (Qbt (.ref z) 3 >>=_) _ _ _;show jM (uH J rfl (x:=.ref TI) rfl ?_);show jM (uT j rfl ?_);change jS _ _ (Builtin.SmallTypes.ownedTupleIsFree (.ref z) >>=_) _ _ _;show jM ?_;unfold Builtin.SmallTypes.ownedTupleIsFree;show jM (uH J rfl (x:=.none) rfl (jN ?_));simp only[if_true];show jM (vf ?_);show jM (uH J rfl (x:=.ref TO) rfl ?_);show jM (uB J (by simp) λg Z p=>?_);have Z:vK g z TI TO .ellipsis:=Z;have p:Heap.SameBut z hp g:=p;have Y:=cU D1 h1 D.i1z p;have S:=cU O h2 D.i2z p;have a7:IsPair g TO a b:=(p.2 _ D.TOz).trans a5
 have f:∀(m:Heap) (e:jP) (t:Nat),vK m z TI TO .ellipsis->(∀c o,c≠z->c≠TO->c≠i1->c≠i2->hp.get? c=Qr o->m.get? c=Qr o)->(∃o,m.get? e=Qr o/\o.cls=.type "StopIteration")->
  jS (ud prog w) A (Qbq (.ref z) 0 .none) (λ_ s'=>E (.ref e) s') E (m,gn,dr,t,os):=λm e t d up B=>by
  show Zf B λoe U hc=>?_;clear B;have ez:e≠z:=λw=>by subst w;rw[d]at U;cases U;simp at hc
  show uB d (by simp) λv _ H=>hE v e t (λc o C r M P q=>(H.2 c C).trans (up c o C r M P q)) (oe,(H.2 e ez).trans U,hc)
 show jM ?_;simp only[V2,jl,Uw,Wl];show jM (jM (QaX ?_));change jS _ _ (Builtin.SmallTypes.nextOf (.ref i1) >>=_) _ _ _;rcases I with I|⟨I,a6⟩
 .subst I;show jM (D1.done _ _ _ Y λm e y B=>?_);show f m e _ (y _ _ (Ne.symm D.i1z) Z) (λc o C r M P q=>y c o M ((p.2 c C).trans q)) B
 subst a6;show jM (D1.item k _ _ _ I Y λx m t2 px ak y=>jN ?_);have y:Heap.SameBut i1 g m:=y;have u:IsPair m TO a b:=(y.2 _ D.TOi1).trans a7;have d:vK m z TI TO .ellipsis:=(y.2 _ (Ne.symm D.i1z)).trans Z;have S:=cU O S (Ne.symm D.i12) y;show jM (uT u rfl ?_);show jM (QaC u λv al H=>?_);have H:Heap.SameBut TO m v:=H;have a8:vK v z TI TO .ellipsis:=(H.2 _ (Ne.symm D.TOz)).trans d;have S:=cU O S (Ne.symm D.TOi2) H;show jM (QaE (jN ?_));show jM (jM (QaX ?_));change jS _ _ (Builtin.SmallTypes.nextOf (.ref i2) >>=_) _ _ _;show jM (O.done _ _ _ S λa4 e e4 B=>?_);show f a4 e _ (e4 _ _ (Ne.symm D.i2z) a8) (λc o C r M P q=>e4 c o P ((H.2 c r).trans ((y.2 c M).trans ((p.2 c C).trans q)))) B
theorem C4{Q:Option Value->jQ->Prop}(u:Qbf prog w A.in1 i1 [i1] n1 P1 S1)(O:Qbf prog w A.in1 i2 [i2] n2 P2 S2)(D:Zap z TI TO i1 i2)(B:vK s.heap z TI TO .none)(d:IsPair s.heap TI (.ref i1) (.ref i2))(Z:IsPair s.heap TO a b)
 (C:S1 k s.heap) (I:S2 k s.heap) (M:k<n1) (P:k<n2)
 (J:∀x y H t,P1 k x->P2 k y->vK H z TI TO (uL s.heap.objs.size)->IsPair H TO x y->S1 (k+1) H->S2 (k+1) H->IsPair H s.heap.objs.size x y->
  (∀c o,c≠z->c≠TO->c≠i1->c≠i2->s.heap.get? c=Qr o->H.get? c=Qr o)->Q (Qr (.ref s.heap.objs.size)) {s with heap:=H,toks:=t}):jS (ud prog w) A (uU (.ref z)) Q E s:=by
 have j:s.TypeIs (.ref z) "zip":=(_,B,rfl);unfold uU
 show jM (uG (uk (name:=Qe "__next__") j F.slot_zip_next (ur F.slot_zip_next j F.entry_zip_next
  (Gy u O D B d Z C I M P λx y H t b1 b2 S U Y g m p=>jN (J x y H t b1 b2 S U Y g m p)) (F.args_zip_next_1 _))))
theorem FH{Q:Option Value->jQ->Prop}(v:Qbf prog w A.in1 i1 [i1] n1 P1 S1)(O:Qbf prog w A.in1 i2 [i2] n2 P2 S2)(D:Zap z TI TO i1 i2)(y:vK s.heap z TI TO .none)(d:IsPair s.heap TI (.ref i1) (.ref i2))(Z:IsPair s.heap TO a b)
 (x:S1 k s.heap) (I:S2 k s.heap) (J:k=n1\/k<n1/\k=n2)
 (M:∀H t,(∀c o,c≠z->c≠TO->c≠i1->c≠i2->s.heap.get? c=Qr o->H.get? c=Qr o)->Q Qs {s with heap:=H,toks:=t}):jS (ud prog w) A (uU (.ref z)) Q E s:=by
 have j:s.TypeIs (.ref z) "zip":=(_,y,rfl);unfold uU;show jM (uG (uk (name:=Qe "__next__") j F.slot_zip_next (ur F.slot_zip_next j F.entry_zip_next (LN v O D y d Z x I J λH e t C B=>?_) (F.args_zip_next_1 _))));show Zf B λo u g=>jM (vD (T:="StopIteration") (b:=true) (o,u,g) QaK (jN (M _ _ C)))
end
theorem iM(d:A.handled=Qs)(I:jP)(x:Str)(t:Tok):Qbf prog w A I [I] x.cps.size (λi v=>∃c u,x.cps[i]?=Qr c/\v=.str ⟨#[c]⟩ u) (λi h=>h.IsStrIter I (vO x) x t i):=by
 by_cases H:x.cps.all (· <128)=true
 .have e:vO x="str_ascii_iterator":=Zx H;rw[e];show Draws.strAscii d I x t
 have e:vO x="str_iterator":=Zo H;rw[e];show Draws.strWide d I x t
theorem pU{h:Heap}{I:jP}{ty:String}{x:Str}{t:Tok}{i:Nat}(st:h.IsStrIter I ty x t i):∃o,h.get? I=Qr o/\∀v,o.data≠ .cell v:=by show Zz st λo e c d=>(o,e,λv y=>by rw[d]at y;cases y)
noncomputable def TB(x y:Str):It:=
 (λi _=>i<Qa (L x)/\i<Qa (L y),
  λi H v I=>∃t,H t=Qs/\v=.ref t/\I=upd H t (.tup [.str (T [(L x).getD i 0]),.str (T [(L y).getD i 0])]),
  λi _=>i=Qa (L x)\/i<Qa (L x)/\i=Qa (L y))
theorem Gs{P:j8}{w:uj}{K:Qb}{es:List uI}{k:Nat}{tp:Pos}{z TI TO B M:jP}{x y:Str}{t u:Tok}(D:Zap z TI TO B M):
 Am P w K (.Tuple es k tp) (TB x y) [z,TI,TO,B,M] z (λi h=>vK h z TI TO .none/\IsPair h TI (.ref B) (.ref M)/\(∃a b,IsPair h TO a b)/\h.IsStrIter B (vO x) x t i/\h.IsStrIter M (vO y) y u i) where
 mem:=by simp
 obj:=λi h st b S=>by obtain⟨R,O,⟨a,c,h3⟩,h4,h5⟩:=st;simp only[ui,QF,or_false]at S;rcases S with rfl|rfl|rfl|rfl|rfl;show(_,R,λv z=>by cases z);show(_,O,λv z=>by cases z);show(_,h3,λv z=>by cases z);show pU h4;show pU h5
 keep:=λi h h' st kp=>by obtain⟨R,O,⟨a,c,h3⟩,⟨C,h4,r4⟩,⟨o5,h5,r5⟩⟩:=st;show(kp _ (by simp) _ R,kp _ (by simp) _ O,(a,c,kp _ (by simp) _ h3),(C,kp _ (by simp) _ h4,r4),(o5,kp _ (by simp) _ h5,r5))
 item:=by
  intro X hP hw hK hc i Zc s σ H E I U st Y;subst hP hw hK;obtain⟨g1,g2⟩:=Y;obtain⟨d,p,⟨a,c,g⟩,m,s5⟩:=st;have f:=I.ok.hd hc;have c1:=Cz g1;have c2:=Cz g2;have D1:=iM (prog:=X.prog) (w:=X.w) (A:=X.A.in1) f B x t;have D2:=iM (prog:=X.prog) (w:=X.w) (A:=X.A.in1) f M y u;show C4 (k:=i) D1 D2 D d p g m s5 ?_ ?_ λv v' R r p1 p2 k1 k2 k3 k4 k5 k7=>?_;show(Wf.mp c1).1
  .show(Wf.mp c2).1
  show ZS p1 λd1 t1 e1 Z=>?_;clear p1;subst Z;show ZS p2 λd2 t2 e2 Z=>?_;clear p2;subst Z;rw[c1]at e1;rw[c2]at e2;cases Option.some.inj e1;cases Option.some.inj e2;show(_,rfl,Qbx k1 λO k8 j=>?_);have a2:∀b,b∉[z,TI,TO,B,M]->b≠z/\b≠TO/\b≠B/\b≠M:=λb S=>by simp only[ui,QF,or_false,not_or]at S;show(S.1,S.2.2.1,S.2.2.2.1,S.2.2.2.2)
  have up:∀b o,b∉[z,TI,TO,B,M]->s.heap.get? b=Qr o->O.get? b=Qr o:=λb o S q=>by show za (a2 b S) λo1 o2 o3 C=>(j.2 b o1).trans (k7 b o o1 o2 o3 C q)
  have new:O.get? s.heap.objs.size=Qr {cls:=.type "tuple",data:=.seq #[.str ⟨#[(L x).getD i 0]⟩ t1,.str ⟨#[(L y).getD i 0]⟩ t2]}:=(j.2 _ (QY (Qn d))).trans k5;have J:=Inv.beside (x:=.str (T [(L x).getD i 0])) (y:=.str (T [(L y).getD i 0])) (tk:=r) I U up rfl new (_,rfl) (_,rfl);show Zf k3 λo3 q3 r3=>?_;clear k3;show Zf k4 λC q4 r4=>?_;clear k4;show(.ref s.heap.objs.size,_,J,rfl,(_,I.fresh,rfl,rfl),(k8,?_,(_,_,(j.2 _ D.TOz).trans k2),(o3,(j.2 _ D.i1z).trans q3,r3),(C,(j.2 _ D.i2z).trans q4,r4)),λb S=>?_);show(j.2 _ D.TIz).trans (k7 _ _ D.TIz D.TITO D.TIi1 D.TIi2 p)
  have:b≠s.heap.objs.size:=by
   have a1:∃o,s.heap.get? b=Qr o:=by
    simp only[ui,QF,or_false]at S;rcases S with rfl|rfl|rfl|rfl|rfl;show(_,d);show(_,p);show(_,g);show Zf m λo q _=>(o,q)
    show Zf s5 λo q _=>(o,q)
   obtain⟨o,q⟩:=a1;show Qu (Qn q)
  rw[Zn this];show(U b S).1
 done:=by
  intro X hP hw hK hc i Zc s σ H E I U st Y;subst hP hw hK;obtain⟨d,p,⟨a,c,g⟩,m,s5⟩:=st;have f:=I.ok.hd hc;have l1:x.cps.size=Qa (L x):=by unfold L;rw[Qq]
  have l2:y.cps.size=Qa (L y):=by unfold L;rw[Qq]
  have Y:i=Qa (L x)\/i<Qa (L x)/\i=Qa (L y):=Y;have D1:=iM (prog:=X.prog) (w:=X.w) (A:=X.A.in1) f B x t;have D2:=iM (prog:=X.prog) (w:=X.w) (A:=X.A.in1) f M y u;show FH (k:=i) D1 D2 D d p g m s5 ⋯ λh' r eb=>(rfl,Inv.aside (tk:=r) I U λb o S q=>?_);simp only[ui,QF,or_false,not_or]at S;show eb b o S.1 S.2.2.1 S.2.2.2.1 S.2.2.2.2 q
 self:=λA i s Q E st h=>vX st.1 h
abbrev zsH(h:Heap)(x:Str)(t:Tok):Heap:=h.push {cls:=.type (vO x),data:=.fields #[.str x t,.int 0 0]}
abbrev zsP(h:Heap)(x y:Str)(t u:Tok):Heap:=(zsH (zsH h x t) y u).push {cls:=.type "tuple",data:=.seq #[.ref h.objs.size,.ref (zsH h x t).objs.size]}
abbrev zsO(h:Heap)(x y:Str)(t u:Tok):Heap:=(zsP h x y t u).push {cls:=.type "tuple",data:=.seq #[.none,.none]}
abbrev zsZ(h:Heap)(x y:Str)(t u:Tok):Heap:=(zsO h x y t u).push {cls:=.type "zip",data:=.fields #[.none,.bool false,.bool false,.ref (zsH (zsH h x t) y u).objs.size,.ref (zsP h x y t u).objs.size]}
set_option maxHeartbeats 4000000 in
theorem tf(x y:Str)(t u:Tok):
 Meets (Builtin.«zip.__new__» ([.type "zip",.str x t,.str y u],[])) (λ_ R s=>R (.ok (.ret (.ref (zsO s.heap x y t u).objs.size))) {s with heap:=zsZ s.heap x y t u}):=
 .of_wp λprog w A R s h=>by
  obtain⟨C,g,d,p,os⟩:=s;have I:=sub_zip
  wp_walk using wpAny_pyIter_strU (x:=x) (t:=t),wpAny_pyIter_strU (x:=y) (t:=u)
  show(_,rfl,h)
section
variable{E:ZW}
theorem wz{Q:ZW}
 (h:∀H,vK H (s.heap.objs.size+4) (s.heap.objs.size+2) (s.heap.objs.size+3) .none->IsPair H (s.heap.objs.size+2) (.ref s.heap.objs.size) (.ref (s.heap.objs.size+1))->IsPair H (s.heap.objs.size+3) .none .none->
  H.IsStrIter s.heap.objs.size (vO x) x t 0->H.IsStrIter (s.heap.objs.size+1) (vO y) y u 0->(∀c o,s.heap.get? c=Qr o->H.get? c=Qr o)->Q (.ref (s.heap.objs.size+4)) {s with heap:=H}):
 jS (ud prog w) A (call (.type "zip") [.str x t,.str y u]) Q E s:=by
 show callType_new F.called_zip ∅ (F.typeCall_zip_2 _ _) (F.newCall_zip_2 _ _) (λobj=>F.args_object_init_3 obj _ _) F.entry_zip_new (tf x y t u) ?_
 have Z:(zsH s.heap x t).objs.size=s.heap.objs.size+1:=Uh ..
 have z:(zsH (zsH s.heap x t) y u).objs.size=s.heap.objs.size+2:=by rw[Uh,Z]
 have S:(zsP s.heap x y t u).objs.size=s.heap.objs.size+3:=by rw[Uh,z]
 have d:(zsO s.heap x y t u).objs.size=s.heap.objs.size+4:=by rw[Uh,S]
 have U:∀c o,(zsH (zsH s.heap x t) y u).get? c=Qr o->(zsZ s.heap x y t u).get? c=Qr o:=λc o q=>Qf _ (Qf _ (Qf _ q));have g:(zsZ s.heap x y t u).get? (zsO s.heap x y t u).objs.size=Qr _:=Ql _ rfl;have go:(zsZ s.heap x y t u).get? (zsP s.heap x y t u).objs.size=Qr _:=Qf _ (Ql _ rfl);have B:(zsZ s.heap x y t u).get? (zsH (zsH s.heap x t) y u).objs.size=Qr _:=Qf _ (Qf _ (Ql _ rfl));have g2:(zsZ s.heap x y t u).get? (zsH s.heap x t).objs.size=Qr _:=U _ _ (Ql _ rfl);have v:(zsZ s.heap x y t u).get? s.heap.objs.size=Qr _:=U _ _ (Qf _ (Ql _ rfl));change _/\_;rw[z,S,d]at g;rw[Z,z]at B;rw[S]at go;rw[Z]at g2;rw[d];show((_,g,rfl),h _ g B go (_,v,rfl,rfl) (_,g2,rfl,rfl) λc o q=>U c o (Qf _ (Qf _ q)))
end
theorem NI:@Zap (n+4:Nat) (n+2:Nat) (n+3:Nat) n (n+1:Nat):=
 (zp ⋯,zp ⋯,zp ⋯,zp ⋯,zp ⋯,zp ⋯,zp ⋯,zp ⋯,zp ⋯,zp ⋯)
section
def Xh(t:TA):TI:=λD H R=>t D H λv E=>∃a b,v=[.str a,.str b]/\R (TB a b) E
theorem M8{x y:uI}{v:TA}{p pos:Pos}(j:Gl X "zip")(d:X.mg "zip"=Qs)(O:PA X [x,y] v)(g:autoParam (uc [x,y] X.env=[(false,eval x X.env),(false,eval y X.env)]) ZF)(z:autoParam (uc [y] X.env=[(false,eval y X.env)]) ZF):PI X (.Tuple es k tp) (.Call (.Name "zip" p) [x,y] [] pos) (Xh v):=by
 intro Z s D H R I h;show Qbg (JL I j d Cu (PyProof.Rows.callWith_type1 (thn (O pos Z s D H _ I h) λus S f=>Zy f λvs E J P Q=>?_) (by rw[g,z]) (by rw[z];rfl)));clear f;show ZS Q λa b e q=>?_;clear Q;subst e
 cases P with
 |cons r B=>
  cases B with
  |cons r' B=>
   cases B;obtain⟨t,rfl⟩:=r;obtain⟨u,rfl⟩:=r';show wz λC M k2 k3 k4 k5 k7=>?_;have m:Inv X Z D E {S with heap:=C}:=J.kept (t':=S.toks) λb o e=>k7 b o e;show vX M ?_;show(S.heap.objs.size+4,[S.heap.objs.size+4,S.heap.objs.size+2,S.heap.objs.size+3,S.heap.objs.size,S.heap.objs.size+1],_,_,E,rfl,m,Gs NI,(M,k2,(_,_,k3),k4,k5),λb U=>?_,q);have:S.heap.objs.size<=b:=by simp only[ui,QF,or_false]at U;rcases U with rfl|rfl|rfl|rfl|rfl;show Q6 _ _;show Q6 _ _;show Q6 _ _;show Qg _;show Q6 _ _
   show J.fpOk this (J.hok.fresh this)
end
section
variable{X:Cx}{elt:uI}{ifs:List uI}{u v:Str}{pu pv:Pos}{scope:Scope}{pos tp:Pos}{k:Nat}{cl:List (Str×jP)}{own:ZT}{cp:List (Str×Nat)}{ta:TA}{tc:TT}{te:TE}
def XT(n:Nat)(cp:List (Str×Nat))(ta:TA)(tc:TT)(te:TE):TE:=λD H Q=>ta D H λY E=>aS (λa=>aS λb=>a0 (
 Qa (L a)<16777216/\∃p:Nat->Hp->ZE->Prop,p 0 E []/\
  (∀i O d t,i<Qa (L a)->i<Qa (L b)->p i O d->O t=Qs->yK tc te (((eX n cp D).set 0 (Qr (.str (T [(L a).getD i 0])))).set 1 (Qr (.str (T [(L b).getD i 0])))) d (p (i+1)) (upd O t (.tup [.str (T [(L a).getD i 0]),.str (T [(L b).getD i 0])])))/\
  ∀O d,p (min (Qa (L a)) (Qa (L b))) O d->∀l,O l=Qs->Q (.ref l) (upd O l (.lst d))
 )) Y
theorem FT
 (hm:X.mg "zip"=Qs) (R:gx X scope cl) (ha:PA X [x,y] ta) (ht:wx X scope cl own cp ifs tc)
 (he:o7 X scope cl own cp elt te) (r:autoParam (X.calm=true) ZF)
 (hk:autoParam (scope.kind=.function) ZF) (J:autoParam (∀y∈scope.names,y.2≠ .cell) gw) (a1:autoParam (o6 scope) gw)
 (U:autoParam (Jp X scope cp) Cc) (hn:autoParam (1<Qa own) z8) (gu:autoParam (o9 X scope cl own cp (.Name u pu) 0) Ce)
 (gv:autoParam (o9 X scope cl own cp (.Name v pv) 1) NK) (a2:autoParam (Gl X "zip") ZF) (S:autoParam (uc [x,y] X.env=[(false,eval x X.env),(false,eval y X.env)]) ZF)
 (g:autoParam (uc [y] X.env=[(false,eval y X.env)]) ZF) (hs:autoParam (∀z,ue (.Call (.Name "zip" p) [x,y] [] p') X.env z=pure z) qK) (h1:autoParam (LQ X scope cl u pu v pv) qK)
 (h2:autoParam (Cg X scope cl v pv) qK) (h3:autoParam (LR X scope cl u pu v pv) qK) (h4:autoParam (LU X scope cl u pu v pv) qK)
 :PE X (.ListComp elt [(.Tuple [.Name u pu,.Name v pv] k tp,.Call (.Name "zip" p) [x,y] [] p',ifs,0)] scope pos) (XT (Qa own) cp ta tc te):=by
 have a3:PA X [x,y] (λD H Q=>∃Q0:ZE->Hp->Prop,ta D H Q0/\∀v H',Q0 v H'->Q v H'):=ha.imp λD H Q h=>h;intro Zc s D H Q I h;show iS r R hk J a1 U (M8 a2 hm a3 S g) (Mv (i:=0) (j:=1) ⋯ ⋯) (M5 (hc:=r) gu gv h1 h2 h3 h4) (λB C s H=>(ht B C s H).imp (t':=AE tc) λ_ _ _ z=>z) (λB C s H=>(he B C s H).imp (t':=AD te) λ_ _ _ z=>z) hs Zc s D H Q I ?_;show(_,h,λvs H1 q=>?_);obtain⟨a,b,rfl,q⟩:=aS2 q
 ·
  show ZI q λhz Z=>Zz Z λPv p0 ps pe=>?_;clear Z q;have a5:sizeLine=16777216:=jT;show(a,b,rfl,λi m O d=>m=min (Qa (L a)) (Qa (L b))-i/\i<=min (Qa (L a)) (Qa (L b))/\Qa d<=i/\Pv i O d,(min (Qa (L a)) (Qa (L b)),⋯,Qo _,Qg _,p0),?_);show λi m O d Z=>za Z λE hi a6 P=>?_;clear Z;subst E;show(⋯,?_);by_cases M:i<min (Qa (L a)) (Qa (L b))
  .show .inr ((⋯,⋯),λz H3 f=>Zz f λt a4 e3 e4=>?_);clear f;subst e3 e4;show(t,_,rfl,.inl (.of Zi),rfl,_,_,rfl,_,_,rfl,rfl,?_);show dP (N':=λH a0=>∃m',m'<min (Qa (L a)) (Qa (L b))-i/\(m'=min (Qa (L a)) (Qa (L b))-(i+1)/\i+1<=min (Qa (L a)) (Qa (L b))/\Qa a0<=i+1/\Pv (i+1) H a0)) (λH a0 ha z=>(min (Qa (L a)) (Qa (L b))-(i+1),⋯,rfl,M,⋯,z)) (ps i O d t ⋯ ⋯ P a4)
  have e:i=min (Qa (L a)) (Qa (L b)):=⋯
  subst e;show .inl (?_,λl Y=>pe O d P l Y);change _\/_
  lia
end
open Builtin Builtin.Str
section
variable{E:ZW}
theorem Ka{Q:ZW}(hh:A.handled=Qs)(z:l≠I)(m:s.heap.IsRevIter I l ((items.size:Int)-1))(P:s.heap.IsList l items)(hz:items.size<=sizeLine)
 (hQ:∀S j C,(∀b o,b≠I->s.heap.get? b=Qr o->S.heap.get? b=Qr o)->S.gens=s.gens->S.drawn=s.drawn->S.os=s.os->
  S.heap.get? s.heap.objs.size=Qr {cls:=.type "list",dict:=Qs,data:=.seq j C,slots:=#[]}->j.toList=items.toList.reverse->Q (.ref s.heap.objs.size) S):
 jS (ud prog w) A (call (.type "list") [.ref I]) Q E s:=by
 have p:s.heap.objs.size≠I:=by show Zf (id m) λo y _=>λe=>QT _ (e▸Qn y)
 have D:s.heap.objs.size≠l:=by show Zf (id P) λo y _=>λe=>QT _ (e▸Qn y)
 have B:s.heap.objs.size∉[I,l]:=by simp[p,D]
 show callType_codes (Q₁:=λobj R=>obj=.ref s.heap.objs.size/\R= {s with heap:=s.heap.push {cls:=.type "list",data:=.seq #[]} }) F.called_list (F.typeCall_list_1 _) F.entry_list_init (code_list_new _ (rfl,rfl)) λobj R r=>?_;obtain⟨rfl,rfl⟩:=r;have up:∀b o,s.heap.get? b=Qr o->(s.heap.push {cls:=.type "list",data:=.seq #[]}).get? b=Qr o:=λb o e=>Qf _ e;have Z:(s.heap.push {cls:=.type "list",data:=.seq #[]}).get? s.heap.objs.size=Qr {cls:=.type "list",data:=.seq #[]}:=Ql _ rfl;show((_,Z,rfl),F.args_list_init_2 _ _,?_)
 generalize a1:s.heap.push {cls:=.type "list",data:=.seq #[]}=h1 at up Z ⊢
 change jS _ _ (Builtin.List.listItems (.ref s.heap.objs.size) >>=λold=>Builtin.List.listUpdate (.ref s.heap.objs.size) (λ_=>#[]) >>=λ_=>letGo old.toList.reverse >>=λ_=>Builtin.List.listExtendWith (.ref s.heap.objs.size) (.ref I) .none) _ _ _;show jM ?_;unfold Builtin.List.listItems;show jM (uT Z rfl (jN ?_));change jS _ _ (updateSeq s.heap.objs.size (λ_=>#[]) >>=λ_=>letGo (#[]:Array Value).toList.reverse >>=λ_=>Builtin.List.listExtendWith (.ref s.heap.objs.size) (.ref I) .none) _ _ _;show jM (Qbh Z rfl ?_);have t:=Q9 (Obj.mapSeq (λ_=>(#[]:Array Value))) Z rfl
 have u:∀b o,s.heap.get? b=Qr o->(h1.update s.heap.objs.size (Obj.mapSeq (λ_=>(#[]:Array Value)))).get? b=Qr o:=λb o e=>
  (UB _ _ (QY (Qn e))).trans (up b o e)
 show jM (QaE ?_);have W:=(Walks.listRev (prog:=prog) (w:=w) (A:=A.in1.in1) hh I l z items).toS
 have g:(0<=items.size/\(h1.update s.heap.objs.size (Obj.mapSeq (λ_=>(#[]:Array Value)))).IsRevIter I l ((items.size:Int)-1-((0:Nat):Int))/\(h1.update s.heap.objs.size (Obj.mapSeq (λ_=>(#[]:Array Value)))).IsList l items):=
  (Qo _,by rw[show(items.size:Int)-1-((0:Nat):Int)=(items.size:Int)-1 by lia];show m.at λo e=>u _ o e,P.at λo e=>u _ o e)
 generalize h1.update s.heap.objs.size (Obj.mapSeq (λ_=>(#[]:Array Value)))=h2 at t u g ⊢
 have x:({s with heap:=h2}:jQ).TypeIs (.ref I) "list_reverseiterator":=g.2.1.typeIs;have e1:Builtin.List.listSameRef (.ref s.heap.objs.size) (.ref I)=false:=by simp[Builtin.List.listSameRef,p]
 unfold Builtin.List.listExtendWith;show jM (vR x ?_);rw[Zo (by rw[e1];decide)];show jM (W.self 0 _ _ _ g ?_);show jM (uA ?_);unfold Builtin.List.listLengthHint;show jM (vy x Bx ?_);change jS _ _ (specialOf (Qw I) (Qe "__length_hint__") >>=_) _ _ _;show jM (vy x Eh ?_)
 (generalize U:("list_reverseiterator.__length_hint__":String)=id0;(fail_if_success (clear U id0));wp_delta;rw[show splitId id0=Qr ("list_reverseiterator","__length_hint__")from by subst U;rfl'];subst U)
 show jM (vD (b:=true) x (by rw[u7];kernel_rfl) ?_);show jN ?_;rw[Zo ∅];show jN (vn F.plain_extend_loop _,QaO W hz _ B _ items.size 0 _ _ _ rfl (Qo _) g t (ItemsOf.nil _) λS f C v M H=>?_)
 have e:f.toList=items.toList.reverse:=by
  show Vu λi=>?_;by_cases O:i<items.size
  .have ha:i<f.size:=by rw[H.1];show O
   have:=H.2 i _ (QO ha);rw[Um,QO ha,UU (by simpa using O),<-this];simp
  rw[Uo (by rw[Qq,H.1];lia),Uo (by rw[uV,Qq];lia)]
 show(rfl,hQ S f C (λb o hb q=>v.heap b o ?_ (u b o q)) v.gens v.drawn v.os M e);have J:b≠s.heap.objs.size:=Qu (Qn q);simp[hb,J]
end
section
variable{X:Cx}{K:Qb}
def ED(K:Qb)(Q:VK):VK:=λv H=>match v with
 | .ref p=>∃x,SqL K H p x/\∀q,H q=Qs->Q (.ref q) (upd H q (.lst x.reverse))
 |_=>False
def Og(K:Qb)(tl:TE):TE:=λD H Q=>tl D H (ED K Q)
theorem Df(hK:X.K=K)(hc:X.calm=true)(C:X.mg "list"=Qs)(y:X.mg "reversed"=Qs)(hl:PE X l tl)
 (B:autoParam (Gl X "list") ZF) (x:autoParam (Gl X "reversed") ZF) (m:autoParam (uc [l] X.env=[(false,eval l X.env)]) ZF)
 (M:autoParam (uc [.Call (.Name "reversed" p) [l] [] p'] X.env=[(false,eval (.Call (.Name "reversed" p) [l] [] p') X.env)]) ZF):
 PE X (.Call (.Name "list" p0) [.Call (.Name "reversed" p) [l] [] p'] [] pos) (Og K tl):=by
 subst hK;intro J s D H Q I h;show uJ (JL I B C Mb ?_);show PyProof.Rows.callWith_type1 ?_ M rfl;rw[M];change jS _ _ (spliced ((false,_)::[])) _ _ s;show Calls.spliced_cons ?_;have h:kj tl oU D H (λE O=>match E with|[v]=>ED X.K Q v O|_=>False):=h;show Qbg (JL I x y hV (PyProof.Rows.callWith_type1 (thn (Zk hl iu m p' J s D H _ I h) λus S (E,O,R,r2,j)=>?_) m rfl));dsimp only at j;split at j
 rotate_left
 .show j.elim
 unfold ED at j;split at j
 .rename_i b;show Zf j λxs hq q=>?_;clear j;show Zf (J1 r2) λu z ru=>?_;subst z;cases ru;show Zz (R.list hq) λY rv P a1=>?_;have a4:=rv.length;show call_reversed_list P.isList ?_;show Calls.spliced_nil ?_;have t:(S.heap.push (Qax b ((Y.toArray.size:Int)-1))).IsRevIter S.heap.objs.size b ((Y.toArray.size:Int)-1):=(_,Ql _ rfl,rfl,rfl);have I3:Inv X J D O {S with heap:=S.heap.push (Qax b ((Y.toArray.size:Int)-1))}:=R.kept (t':=S.toks) λb o e=>Qf _ e;have r:b≠S.heap.objs.size:=λe=>by show Zf P.isList λo ho _=>QT _ (e▸Qn ho)
  have g:(S.heap.push (Qax b ((Y.toArray.size:Int)-1))).IsList b Y.toArray:=P.isList.at λo e=>Qf _ e;show ZO (R.fpOk (Qg _) (R.hok.fresh (Qg _))) λf0 f1 f2 f3 f4 f5=>?_;have a2:sizeLine=16777216:=jT
  have Z:(S.heap.push (Qax b ((Y.toArray.size:Int)-1))).objs.size=S.heap.objs.size+1:=Uh ..
  show Ka (s:= {S with heap:=S.heap.push (Qax b ((Y.toArray.size:Int)-1))}) (R.ok.hd hc) r t g (by rw[j7];lia) λs' d c' up g1 g2 g3 hS e=>?_;obtain⟨h',g',d',f,a3⟩:=s'
  dsimp only at g1 g2 g3 up hS ⊢
  subst g1 g2 g3;have hN:O (S.heap.push (Qax b ((Y.toArray.size:Int)-1))).objs.size=none:=R.hok.fresh (by rw[Z];show Vb _);have k:∀b u,S.heap.get? b=Qr u->h'.get? b=Qr u:=λb u e=>up b u (Qu (Qn e)) (Qf _ e);show(.ref (S.heap.push (Qax b ((Y.toArray.size:Int)-1))).objs.size,_,R.laid (o:=.lst xs.reverse) (t':=f) k (by rw[Z];show Vb _) (by rw[uV];lia,d.toList,c',?_,?_),rfl,q _ hN)
  .rw[e];simpa using rv.reverse
  simpa using hS
 show j.elim
end
end L2
namespace LG
open LO
theorem rR:dN l t i=true↔∃u,l.drop i=t++u:=by unfold dN;rw[Vq];show(λ(u,h)=>(u,h.symm),λ(u,h)=>(u,h.symm))
theorem sY:ai l t≠0↔∃a b,l=a++t++b:=by
 unfold ai;constructor
 .intro h;show Zf (VS.mp (Nat.pos_of_ne_zero h)) λi m H=>?_;obtain⟨u,B⟩:=rR.mp H;show(l.take i,u,by rw[uq,<-B,QK])
 show λZ=>zQ Z λa b z=>?_;clear Z;subst z;show Nat.pos_iff_ne_zero.mp (VS.mpr (Qa a,QA.mpr (by simp;lia),rR.mpr (b,?_)));rw[uq,ju]
theorem MK(h:ai l (x++y++z)≠0):ai l y≠0:=by show zQ (sY.mp h) λa b e=>sY.mpr (a++x,z++b,by rw[e];simp)
theorem Km(h:ai l (x++y)≠0):ai l y≠0:=MK (z:=[]) (by simpa using h)
theorem Bp(l:Zg):ai l []≠0:=sY.mpr ([],l,rfl)
theorem Ly:((l.drop i).take (Qa t)=t)↔dN l t i=true:=by
 rw[rR];constructor
 .intro h;show((l.drop i).drop (Qa t),by conv=>lhs;rw[<-QK (Qa t) (l.drop i),h])
 rintro⟨u,h⟩;rw[h,jq]
theorem l8(l t:Zg):Qa (LP.plc l t)=ai l t:=by
 unfold LP.plc ai;rw[<-List.countP_eq_length_filter]
 have e:(λi=>decide ((l.drop i).take (Qa t)=t))=λi=>dN l t i:=by
  funext i
  rw[UL,decide_eq_true_iff];show Ly
 rw[e];obtain⟨k,E⟩:∃k,Qa l+1=((Qa l:Int)-(Qa t:Int)+1).toNat+k:=(Qa l+1-((Qa l:Int)-(Qa t:Int)+1).toNat,⋯);rw[E,jr,UG]
 have z:((Qi k).map (((Qa l:Int)-(Qa t:Int)+1).toNat+·)).countP (λi=>dN l t i)=0:=by
  rw[Q8];intro i m h;obtain⟨j,H,rfl⟩:=Uf.mp m;have H:=QA.mp H;obtain⟨u,B⟩:=rR.mp h;have:=congrArg Qa B;rw[uf,jR]at this
  lia
 rw[z,Us]
noncomputable def suf(u:Zg)(k:Nat):Zg:=u.drop (Qa u-k)
theorem Lj(h:k<Qa u):suf u (k+1)=u.getD (Qa u-k-1) 0::suf u k:=by
 unfold suf;have H:Qa u-(k+1)<Qa u:=by omega
 rw[Q7 H,Qc,show Qa u-k-1=Qa u-(k+1)by omega,Qd H,show Qa u-(k+1)+1=Qa u-k by omega];rfl
theorem NB(h:j<=k):∃x,suf u k=x++suf u j:=by
 unfold suf;show((u.drop (Qa u-k)).take (k-j-(k-Qa u)),?_)
 conv=>lhs;rw[<-QK (k-j-(k-Qa u)) (u.drop (Qa u-k)),UO]
 by_cases H:k<=Qa u;rw[show Qa u-k+(k-j-(k-Qa u))=Qa u-j by lia];rw[show Qa u-k+(k-j-(k-Qa u))=Qa u-j by lia]
noncomputable def lg(l u:Zg):Nat:=Qa ((Qi (Qa u)).takeWhile λk=>decide (ai l (suf u (k+1))≠0))
theorem Sf{p:Nat->Bool}(Y:m<=n)(x:∀k,k<m->p k=true)(H:m=n\/p m=false):Qa ((Qi n).takeWhile p)=m:=by
 have e:Qi n=Qi m++(Qi (n-m)).map (m+·):=by
  conv=>lhs;rw[show n=m+(n-m)by omega,jr]
 rw[e,Wb λa I=>x a (QA.mp I),jR,uF]
 have z:((Qi (n-m)).map (m+·)).takeWhile p=[]:=by
  cases E:n-m with
  |zero=>rfl
  |succ k=>
   rw[Vz,uo,VQ,Zo];rcases H with H|H;omega;rw[Us,H];show Qk
 rw[z];rfl
theorem NZ(m:n<=Qa u)(H:ai l (suf u n)≠0)(I:n=Qa u\/ai l (suf u (n+1))=0):lg l u=n:=by show Sf m (λk E=>decide_eq_true ?_) (I.imp id λz=>decide_eq_false λy=>y z);obtain⟨x,e⟩:=NB (u:=u) (j:=k+1) (k:=n) E;rw[e]at H;show Km H
theorem Xm(l u:Zg):∃n,n<=Qa u/\ai l (suf u n)≠0/\(n=Qa u\/ai l (suf u (n+1))=0):=by
 have j:∀k n,Qa u-n=k->n<=Qa u->ai l (suf u n)≠0->∃n,n<=Qa u/\ai l (suf u n)≠0/\(n=Qa u\/ai l (suf u (n+1))=0):=by
  intro k
  induction k with
  |zero=>intro n m H I;show(n,H,I,.inl ⋯)
  |succ k d=>
   intro n m H I;by_cases Q:ai l (suf u (n+1))=0;show(n,H,I,.inr Q);show d (n+1) ⋯ ⋯ Q
 show j (Qa u) 0 ⋯ (Qo _) ?_;unfold suf;rw[Vg,UE];show Bp l
theorem Xn(l u:Zg):lg l u<=Qa u:=by show Zz (Xm l u) λn H I Q=>?_;rw[NZ H I Q];show H
noncomputable def mx(l u:Zg):Nat:=max 1 (lg l u)
theorem PU(l u:Zg):1<=mx l u:=Nat.le_max_left ..
theorem Xq(h:u≠[]):mx l u<=Qa u:=by
 have:=Xn l u;have:=vU.mpr h;unfold mx
 lia
noncomputable def fpR(l:Zg):Nat->Zg->List (Zg)
 |0,_=>[]
 |f+1,u=>if u=[]then[]else suf u (mx l u)::fpR l f (u.take (Qa u-mx l u))
theorem Ms(l:Zg)(f:Nat):fpR l f []=[]:=by
 cases f with
 |zero=>rfl
 |succ f=>rfl
open L2
theorem Mj{y:Zg}{m k:Nat}(H:m<=Qa y)(I:k<=m):cut y (Qr ((m:Int)-(k:Int))) (Qr (m:Int))=suf (y.take m) k:=by
 have e:(m:Int)=((m-k:Nat):Int)+(k:Int):=⋯
 have E:(m:Int)-(k:Int)=((m-k:Nat):Int):=⋯
 rw[E,e,LP.lJ];unfold suf;rw[jZ,Q5 H,jt,show m-(m-k)=k by lia]
end LG
namespace L2
open PySem
open PySem.Spec PyProof.Rows
theorem mE(h:L y=[c]):y=⟨#[c]⟩:=by have:=T_L y;rw[h]at this;show this.symm
theorem wb(z:Str)(i j:Nat):Builtin.Str.strSub z i j=T (((L z).take j).drop i):=by
 have e:L (Builtin.Str.strSub z i j)=((L z).take j).drop i:=by change(z.cps.extract i j).toList=_;rw[Array.toList_extract];change((z.cps.toList).drop i).take (j-i)=_;rw[jt];rfl
 rw[<-e,T_L]
theorem iK{f:Nat->Bool}:∀{l:Zg},(∀c∈l,f c=true)->l.takeWhile f=l
 |[],_=>rfl
 |c::r,h=>by rw[Wh (h c (ub ..)),iK λd hd=>h d (ua _ hd)]
theorem eU{f:Nat->Bool}:∀{l:Zg} {c:Nat},c∈l->f c=false->Qa (l.takeWhile f)<Qa l
 |d::r,c,H,h=>by
  rw[VQ];split
  .rename_i hd;rcases ui.mp H with e|H
   .rw[e,hd]at h;cases h
   have:=eU H h;rw[jV,jV]
   lia
  rw[jV,uC]
  lia
theorem gy{f:Nat->Bool}:∀{l:Zg} {c:Nat},c∈l->f c=false->∃d∈l.drop (Qa (l.takeWhile f)),f d=false
 |d::r,c,H,h=>by
  rw[VQ];split
  .rename_i hd;rcases ui.mp H with e|H
   .rw[e,hd]at h;cases h
   obtain⟨x,y,I⟩:=gy H h;show(x,by rw[jV,WX];show y,I)
  rename_i hd;show(d,ub ..,by simpa using hd)
theorem Gb(z y:Str):L (Txt.stripChars z y)=[]↔∀c∈L z,y.cps.contains c=true:=by
 have m:Txt.stripChars z y=T (((L z).take (stripHi y.cps.contains true z (stripLo y.cps.contains true z))).drop (stripLo y.cps.contains true z)):=by
  unfold Txt.stripChars Txt.stripBy;by_cases H:stripSame y.cps.contains true true z=true
  .rw[Zx H];unfold stripSame at H;rw[QW]at H;rw[eq_of_beq H.1];have I:=eq_of_beq H.2;rw[eq_of_beq H.1]at I;rw[I,<-zC,QE];show(T_L z).symm
  rw[Zo H];unfold stripped
  show wb ..
 have U:stripLo y.cps.contains true z=Qa ((L z).takeWhile y.cps.contains):=rfl;have j:∀lo,stripHi y.cps.contains true z lo=Qa (L z)-Qa (((L z).drop lo).reverse.takeWhile y.cps.contains):=λlo=>by rw[zC];rfl
 rw[m,L_T,j,U];constructor
 .intro h c g
  cases Q:y.cps.contains c with
  |true=>rfl
  |false=>
   exfalso;show Zf (gy g Q) λd hd E=>?_;have J:=eU g Q;have S:=eU (f:=y.cps.contains) (V3.mpr hd) E;rw[uV,uf]at S;have:=congrArg Qa h;rw[uf,jZ,uC]at this;omega
 intro h;rw[iK h,UA];rw[jZ];omega
section
def IC:ZE->Hp->VK->Prop:=λx H Q=>aV (λv r=>match v with
 | .bl b=>a0 (Q (.int (b2i b)) H) r
 | .int i=>a0 (Q (.int i) H) r
 | .str z=>a0 (Qa (L z)<=640/\L z≠[]/\(∀c∈L z,48<=c/\c<=57)/\Q (.int (NumText.digitsVal (L z):Nat)) H) r
 |_=>False) x
theorem yd:JU X (.type "int") IC:=by
 intro m s D H d U Q I r h;obtain⟨v,d,rfl,h⟩:=EZ h
 cases v with
 |bl b=>show NT m s D H _ U Q I r h
 |int i=>show NT m s D H _ U Q I r h
 |str z=>
  obtain⟨rfl,O,p,hd,q⟩:=Ao h;show Zf (J1 r) λu Z Y=>zI Y λt j=>?_;clear Y;subst Z;subst j;rw[zC]at O;show PySem.W.KIN.call_text (intText_digits (x:=z) hd p ⋯) O (.int _,H,I.tok _,(_,rfl),q)
 |_=>show h.elim
def Pf:V->ZE->Hp->VK->Prop:=λx Y H Q=>aS (λz=>aS λy=>aI λi=>a0 (
 ∃c,L y=[c]/\0<=i/\∀r:Int,((r= -1/\∀v,i.toNat<=v->(L z)[v]?≠Qr c)\/∃k:Nat,r=k/\i.toNat<=k/\(L z)[k]?=Qr c/\∀v,i.toNat<=v->v<k->(L z)[v]?≠Qr c)->Q (.int r) H
 )) (x::Y)
theorem PL:MtR X "str.find" Pf:=by
 intro O s M H x f v U Q I R D h;unfold Pf at h;obtain⟨z,rfl,g2⟩:=aSm h;clear h;obtain⟨y,_,rfl,g⟩:=OL g2;clear g2;obtain⟨i,rfl,h⟩:=aI1 g;clear g
 ·
  show Zz h λc p P q=>?_;clear h;obtain⟨t,rfl⟩:=R;obtain⟨u,w,rfl,⟨S,rfl⟩,Z,rfl⟩:=wq D;show SC.find3 (.int (Txt.find3 z y i),H,I.tok _,(_,rfl),q _ ?_);rw[mE p];unfold Txt.find3
  have lo:∀v,i.toNat<=v->v<z.length->Qa9 z.length i<=v:=λv B J=>by
   unfold Qa9;rw[Zo ⋯]
   lia
  have C:∀v,Qa9 z.length i<=v->v<z.length->i.toNat<=v:=λv B J=>by
   unfold Qa9 at B;rw[Zo ⋯]at B
   lia
  have lt:∀{v},(L z)[v]?=Qr c->v<z.length:=λe=>by rw[<-zC];show(Qh.mp e).1
  rcases StrLaws.occ_head_from z ⟨#[c]⟩ (Qa9 z.length i) 1 (Qg 1)with⟨m,j⟩|⟨k,r,m,d,E,j⟩
  .rw[m];show .inl (rfl,λv B e=>j v (lo v B (lt e)) ((StrLaws.subAt_one z c v).mpr e))
  rw[m];have Y:=(StrLaws.subAt_one z c k).mp E;show .inr (k,rfl,C k d (lt Y),Y,λv B J e=>j v (lo v B (lt e)) J ((StrLaws.subAt_one z c v).mpr e))
def RE:V->ZE->Hp->VK->Prop:=λx Y H Q=>aS (λz=>aS λy=>a0 (
 ∃c,L y=[c]/\Qa (L z)<=sizeLine/\(∀k:Nat,(L z)[k]?=Qr c->(∀v,v<k->(L z)[v]?≠Qr c)->∀p,H p=Qs->Q (.ref p) (upd H p (.tup [.str (T ((L z).take k)),.str (T [c]),.str (T ((L z).drop (k+1)))])))/\
  ((∀v:Nat,(L z)[v]?≠Qr c)->∀p,H p=Qs->Q (.ref p) (upd H p (.tup [.str z,.str (T []),.str (T [])])))
 )) (x::Y)
theorem pM:MtR X "str.partition" RE:=by
 intro Zc s S H x U v us Q I R P h;unfold RE at h;obtain⟨z,rfl,g⟩:=aSm h;clear h;obtain⟨y,rfl,h⟩:=aS1 g;clear g
 ·
  show zh h λc C O f D=>?_;clear h;obtain⟨t,rfl⟩:=R;show Zf (J1 P) λu Z Y=>zI Y λq j=>?_;clear Y;subst Z;subst j;have J:=mE C;subst J;rw[zC]at O;have p:=I.hok.fresh (Qg s.heap.objs.size);show vC F.slot_str_partition (uW _ _ _) F.entry_str_partition (F.args_str_partition_2 _ _) (meets_str_partition z ⟨#[c]⟩ t q rfl O) ?_;rcases StrLaws.occ_head z ⟨#[c]⟩ 1 (Qg 1)with⟨m,B⟩|⟨k,r,m,E,B⟩
  .rw[m];show(.ref s.heap.objs.size,_,?_,rfl,D (λv e=>B v ((StrLaws.subAt_one z c v).mpr e)) _ p);show I.laid (λb o e=>Qf _ e) (Qg _) (by simp only[jV,uC];rw[jT];decide,[.str z t,.str VO s.toks,.str VO s.toks],.cons (_,rfl) (.cons (_,rfl) (.cons (_,rfl) .nil)),?_);show(_,Ql s.heap rfl,rfl,0,rfl)
  rw[m];have d:=(StrLaws.subAt_one z c k).mp E;show(.ref s.heap.objs.size,_,?_,rfl,f k d (λv M e=>B v M ((StrLaws.subAt_one z c v).mpr e)) _ p);show I.laid (λb o e=>Qf _ e) (Qg _) (by simp only[jV,uC];rw[jT];decide,[.str (Builtin.Str.strSub z 0 k) s.toks,.str ⟨#[c]⟩ q,.str (Builtin.Str.strSub z (k+1) z.length) (s.toks+1)],.cons (s.toks,?_) (.cons (_,rfl) (.cons (s.toks+1,?_) .nil)),?_)
  .rw[wb];rfl
  rw[wb,<-zC,QE];show(_,Ql s.heap rfl,rfl,0,rfl)
def R8:V->ZE->Hp->VK->Prop:=λx v H Q=>aS (λz=>aS λy=>a0 (
 Qa (L z)<=sizeLine/\∀l:Zg,(l=[]↔∀c∈L z,c∈L y)->Q (.str (T l)) H
 )) (x::v)
theorem Eo:MtR X "str.strip" R8:=by
 intro Z s D H x Y v U Q I r R h;unfold R8 at h;obtain⟨z,rfl,g⟩:=aSm h;clear h;obtain⟨y,rfl,h⟩:=aS1 g;clear g
 ·
  obtain⟨O,q⟩:=h;obtain⟨t,rfl⟩:=r;obtain⟨u,rfl,m,rfl⟩:=J1 R;rw[zC]at O;show SC.stripChars (λB k=>(.str (T (L (Txt.stripChars z y))),H,I.tok _,(_,by rw[T_L]),q _ ?_)) O;rw[Gb];show forall_congr' λc=>forall_congr' λ_=>?_;change(y.cps.contains c=true)↔c∈y.cps.toList;rw[Array.contains_iff,WK]
end
section
variable{X:Cx}
variable{elt iter:uI}{ifs:List uI}{u v:Str}{pu pv:Pos}{scope:Scope}{pos:Pos}{cl:List (Str×jP)}{own:ZT}{cp:List (Str×Nat)}{ta:TA}{tl:TE}{tc:TT}{te:TE}
theorem K0{Y:Str}{p P:Pos}{k:Nat}
 {tp:Pos} (f:Nat) (K:Qb) (a4:gx X scope cl) (hl:PE X iter tl)
 (ht:wx X scope cl own cp ifs tc) (he:o7 X scope cl own cp elt te) (hN:X.N.Nodup) (hK:autoParam (X.K=K) ZF)
 (S:autoParam (X.calm=true) ZF) (hk:autoParam (scope.kind=.function) ZF) (a3:autoParam (∀y∈scope.names,y.2≠ .cell) gw)
 (a6:autoParam (o6 scope) gw) (a5:autoParam (Jp X scope cp) Cc) (hn:autoParam (1<Qa own) z8) (gu:autoParam (o9 X scope cl own cp (.Name u pu) 0) Ce)
 (gv:autoParam (o9 X scope cl own cp (.Name v pv) 1) NK) (r:autoParam (X.N[f]?=Qr Y) ZF) (g:autoParam (X.env.scope.names.lookup Y=Qr .local) ZF) (a7:autoParam (vZ (.ListComp elt [(.Tuple [.Name u pu,.Name v pv] k tp,iter,ifs,0)] scope pos) (Qr (.Name Y p)) P.line X.env=pure true) ZF)
 (hs:autoParam (∀z,ue iter X.env z=pure z) qK) (h1:autoParam (LQ X scope cl u pu v pv) qK) (h2:autoParam (Cg X scope cl v pv) qK) (h3:autoParam (LR X scope cl u pu v pv) qK)
 (h4:autoParam (LU X scope cl u pu v pv) qK)
 :PS X (.Assign [.Name Y p] (.ListComp elt [(.Tuple [.Name u pu,.Name v pv] k tp,iter,ifs,0)] scope pos) P) (we (tCP K (Qa own) cp tl tc te) (qW f)):=by
 subst hK;have B:PE X iter (λO H Q=>∃Q0:VK,tl O H Q0/\∀v H',Q0 v H'->Q v H'):=hl.imp λO H Q h=>h;intro Zc s O H D I h;show Ey S a4 hk a3 a6 a5 (mJ B) (Mv (i:=0) (j:=1) ⋯ ⋯) (M5 (hc:=S) gu gv h1 h2 h3 h4) (λU C s H=>(ht U C s H).imp (t':=AE tc) λ_ _ _ z=>z) (λU C s H=>(he U C s H).imp (t':=AD te) λ_ _ _ z=>z) hN r g a7 hs Zc s O H D I ?_;show(_,h,λv H1 q=>?_)
 cases v with
 |ref a=>
  show Zz q λx hx hz J=>zh J λPv p0 pl ps pe=>?_;clear J q;have a8:sizeLine=16777216:=jT;show(a,rfl,(x,hx),λi m R d=>m=Qa x-i/\i<=Qa x/\Qa d<=i/\Pv i R d,(Qa x,⋯,Qo _,Qg _,p0),?_);show λi m R d J=>za J λa1 hi a9 Z=>?_;clear J;subst a1;show(⋯,?_);have E:=pl i R d hi Z;by_cases M:i<Qa x
  .show .inr ((x,x[i],E,by simp[M]),λy H3 a2=>?_);obtain⟨e3,ey⟩:=a2;subst e3;show Z6 (ps i y H3 d (ey x E) Z) λt x0 y0 e4 e5 q1=>?_;subst e4;show(t,_,rfl,e5,rfl,_,_,rfl,_,_,rfl,rfl,?_);show dP (N':=λH a=>∃m',m'<Qa x-i/\(m'=Qa x-(i+1)/\i+1<=Qa x/\Qa a<=i+1/\Pv (i+1) H a)) (λH a ha z=>(Qa x-(i+1),⋯,rfl,M,⋯,z)) q1
  have e:i=Qa x:=⋯
  subst e;show .inl ((x,E,Qg _),λl B=>pe R d Z l B)
 |_=>show False.elim q
end
end L2
namespace LP
open PySem L2
theorem iP(g:qH (a::r)):qH r:=(λx f=>g.1 x (ua _ f),λj x y H I=>g.2 (j+1) x y (by simpa using H) (by simpa using I))
theorem bb(a:Nat×Nat)(r:J2):flat (a::r)=Qy a.2 a.1++flat r:=by unfold flat;rw[uo,Ug]
theorem Fg(g:qH r)(h:flat r=c::t):∃n q,r=(c,n)::q:=by
 cases r with
 |nil=>cases h
 |cons a q=>
  have H:=g.1 a (ub ..);rw[bb,show a.2=(a.2-1)+1 by lia,uw,uN]at h;have e:=(List.cons.inj h).1;show(a.2,q,by rw[<-e])
theorem d7:∀{a b:J2},qH a->qH b->flat a=flat b->a=b
 |[],[],_,_,_=>rfl
 |[],b::r,_,g,h=>by have:=g.1 b (ub ..);rw[bb,show b.2=(b.2-1)+1 by lia,uw]at h;cases h
 |a::q,[],g,_,h=>by have:=g.1 a (ub ..);rw[bb,show a.2=(a.2-1)+1 by lia,uw]at h;cases h
 |(c,n)::q,(d,m)::r,t,g2,h=>by
  have O:1<=n:=t.1 (c,n) (ub ..);have M:1<=m:=g2.1 (d,m) (ub ..);rw[bb,bb]at h;have E:c=d:=by have B:=h;rw[show n=(n-1)+1 by lia,show m=(m-1)+1 by lia,uw,uw,uN,uN]at B;show(List.cons.inj B).1
  subst E
  have j:∀{n m:Nat} {q r:J2},qH ((c,n)::q)->n<m->Qy n c++flat q≠Qy m c++flat r:=λ{n m q r} g lt e=>by
   have p:flat q=Qy (m-n) c++flat r:=by rw[show m=n+(m-n)by lia,List.replicate_append_replicate.symm,uq]at e;show WA e
   rw[show m-n=(m-n-1)+1 by lia,uw,uN]at p;obtain⟨k,Q,rfl⟩:=Fg (iP g) p;show g.2 0 (c,n) (c,k) rfl rfl rfl
  have H:n=m:=by rcases VZ n m with z|z|z;show ZD h (j t z);show z;show ZD h.symm (j g2 z)
  subst H;rw[d7 (iP t) (iP g2) (WA h)]
noncomputable def wr(R:J2):Zg:=(R.map λr=>r.1::(ZR (r.2:Nat)++[59])).flatten
theorem EX(R:J2)(r:Nat×Nat):wr (R++[r])=wr R++(r.1::(ZR (r.2:Nat)++[59])):=by unfold wr;rw[uh,WW,uZ,List.flatten_singleton]
theorem MN:∀n:Nat,n<301->Qa (ZR (n:Int))<=3/\1<=Qa (ZR (n:Int))/\(∀c∈ZR (n:Int),48<=c/\c<=57)/\((ZR (n:Int)).getD 0 0=48->ZR (n:Int)=[48])/\NumText.digitsVal (ZR (n:Int))=n:=by rfl'
theorem bN(h:r∈rs)(H:Qa (flat rs)<=300):r.2<301:=by
 have:=A1 h
 lia
theorem y4:∀{R:J2},qH R->Qa R<=Qa (flat R)
 |[],_=>Qg _
 |a::r,g=>by
  have H:=g.1 a (ub ..);have:=y4 (iP g);rw[bb,jR,vE,jV]
  lia
theorem Dz:∀{rs:J2},(∀r∈rs,r.2<301)->Qa (wr rs)<=5 * Qa rs
 |[],_=>Qg _
 |a::r,h=>by
  have y:=(MN a.2 (h a (ub ..))).1;have:=Dz (rs:=r) λx H=>h x (ua _ H);have e:wr (a::r)=(a.1::(ZR (a.2:Nat)++[59]))++wr r:=by unfold wr;rw[uo,Ug]
  rw[e,jR,jV,jR,jW,jV]
  lia
theorem Xs:∀n:Nat,n<301->((n:Int)).natAbs.log2<1920:=by rfl'
theorem A3:∀R:J2,(R.map λr=>((r.2:Nat):Int)).sum=(Qa (flat R):Int)
 |[]=>rfl
 |a::r=>by
  rw[uo,UT,A3 r,bb,jR,vE]
  lia
theorem A2(R:J2):(R.map λr=>rep r.2 [r.1]).flatten=flat R:=by
 unfold flat
 congr 1
 show uM λr _=>?_;show Nk _ _
end LP
namespace L2
open PySem PySem.Spec PyProof.Rows
section
def inT(neg:Bool):R2:=λx y H Q=>match x,y with
 | .str i,.str j=>∃c,L i=[c]/\Q (.bl (neg !=decide (c∈L j))) H
 |_,_=>False
end
end L2
namespace LP
open PySem L2 NumText
def Jm(l:Zg):Prop:=1<=Qa l/\Qa l<=9/\(∀c∈l,48<=c/\c<=57)/\(l.getD 0 0=48->l=[48])
theorem bP(n:Nat):ZR (n:Int)=(jF 10 n).map Char.toNat:=PySem.W.KIN.signs_num n
theorem Y3(n:Nat):digitsVal (ZR (n:Int))=n:=by rw[bP];show PySem.W.KIN.val_back n
theorem By{n m:Nat}(h:ZR (n:Int)=ZR (m:Int)):n=m:=by rw[<-Y3 n,h,Y3]
theorem me(n:Nat):∀c∈ZR (n:Int),48<=c/\c<=57:=by intro c d;rw[bP]at d;show Zf (Uf.mp d) λC H e=>?_;have r:=PyProof.Rows.digit_range (Nat.isDigit_of_mem_toDigits ∅ ∅ H);rw[<-e];show r
theorem Iv(g:Jm l):ZR ((digitsVal l:Nat):Int)=l:=by
 show za g λx I H f=>?_;clear g
 have j:jF 10 (digitsVal l)=l.map Char.ofNat:=by
  cases l with
  |nil=>cases x
  |cons c r=>
   show toDigits_digitsVal (Qa r) (c::r) rfl H ?_;by_cases e:c=48
   .have:=f (by rw[e];rfl);show .inl (by rw[(List.cons.inj this).2];rfl)
   have:=H c (ub ..);show .inr (c,r,rfl,⋯)
 rw[bP,j,u6];show(uM λc d=>?_).trans (List.map_id _);have:=H c d;have:c=48\/c=49\/c=50\/c=51\/c=52\/c=53\/c=54\/c=55\/c=56\/c=57:=⋯
 rcases this with rfl|rfl|rfl|rfl|rfl|rfl|rfl|rfl|rfl|rfl<;>rfl
theorem Bz{n:Nat}(h:n<301):Jm (ZR (n:Int)):=by show qN (MN n h) λa b c d e=>(b,⋯,c,d)
theorem iJ:∀{a b x y:Zg},(∀c∈a,c≠s)->(∀c∈b,c≠s)->a++s::x=b++s::y->a=b/\x=y
 |[],[],x,y,_,_,h=>(rfl,(List.cons.inj h).2)
 |[],d::b,x,y,_,H,h=>ZD (List.cons.inj h).1.symm (H d (ub ..))
 |c::a,[],x,y,I,_,h=>ZD (List.cons.inj h).1 (I c (ub ..))
 |c::a,d::b,x,y,I,H,h=>by obtain⟨E,C⟩:=List.cons.inj h;obtain⟨J,R⟩:=iJ (λz B=>I z (ua _ B)) (λz B=>H z (ua _ B)) C;show(by rw[E,J],R)
theorem si(a:Nat×Nat)(r:J2):wr (a::r)=a.1::(ZR (a.2:Nat)++59::wr r):=by unfold wr;rw[uo,Ug];simp
theorem PY(n:Nat):∀c∈ZR (n:Int),c≠59:=λc H w=>by
 have:=me n c H
 lia
theorem PX(n:Nat):∀c∈ZR (n:Int),c≠32:=λc H w=>by
 have:=me n c H
 lia
theorem EW(h:wr rs=c::t):∃n R,rs=(c,n)::R/\t=ZR (n:Int)++59::wr R:=by
 cases rs with
 |nil=>cases h
 |cons a r=>
  rw[si]at h;obtain⟨E,x⟩:=List.cons.inj h;show(a.2,r,by rw[<-E],x.symm)
theorem oZ:∀{done rs:J2} {JP:Zg},wr rs=wr done++JP->∃tail,rs=done++tail/\JP=wr tail
 |[],rs,JP,h=>(rs,rfl,h.symm)
 |d::done,rs,JP,h=>by rw[si,uN]at h;obtain⟨n,r,rfl,e⟩:=EW h;rw[uq,uN]at e;obtain⟨E,x⟩:=iJ (PY d.2) (PY n) e;show Zf (oZ x.symm) λtail H R=>?_;show(tail,?_,R);rw[H,<-By E];rfl
def Prt(s:Nat)(l f b z:Zg):Prop:=(b=[s]/\l=f++s::z/\∀c∈f,c≠s)\/(b=[]/\(∀c∈l,c≠s)/\f=l/\z=[])
theorem KU(E:l[k]?=Qr s)(j:∀v,v<k->l[v]?≠Qr s):Prt s l (l.take k) [s] (l.drop (k+1)):=by
 show .inl (rfl,?_,λc d w=>?_)
 .obtain⟨m,e⟩:=Qh.mp E;rw[<-e,List.getElem_cons_drop,QK]
 obtain⟨v,H⟩:=VG.mp d;have lt:=(Qh.mp H).1;rw[jZ]at lt;rw[U7 ⋯,w]at H;show j v ⋯ H
theorem RG(h:∀v:Nat,l[v]?≠Qr s):Prt s l l [] []:=.inr (rfl,λc H w=>by
 obtain⟨v,M⟩:=VG.mp H;show h v (w▸M),rfl,rfl)
theorem RF(p:Prt s l w0 b w2)(J:∀c∈a,c≠s)(h:l=a++s::x):b=[s]/\w0=a/\w2=x:=by
 rcases p with⟨e,H,I⟩|⟨e,H,_,_⟩
 .obtain⟨E,y⟩:=iJ I J (H.symm.trans h);show(e,E,y)
 show ZD rfl (H s (by rw[h];simp))
def Pk(l:Zg)(h:Nat)(r:J2):Prop:=qH r/\Qa (flat r)<=300/\h<=Qa (flat r)/\l=ZR (h:Int)++32::wr r
theorem KR(k:Pk l h rs)(p:Prt 32 l w0 b w2):b=[32]/\w0=ZR (h:Int)/\w2=wr rs:=RF p (PX h) k.2.2.2
theorem oY:∀R:J2,Qa R<=Qa (wr R)
 |[]=>Qg _
 |a::r=>by
  have:=oY r;rw[si,jV,jV,jR,jV]
  lia
theorem LM(h:wr a=wr b):a=b:=by
 show Zf (oZ (done:=b) (rs:=a) (JP:=[]) (by rw[vx];show h)) λtail p E=>?_
 cases tail with
 |nil=>rw[p,vx]
 |cons x y=>rw[si]at E;cases E
theorem Nb(p:Prt s l w0 b w2):Qa w0<=Qa l/\Qa w2<=Qa l:=by
 rcases p with⟨_,h,_⟩|⟨_,_,H,I⟩
 .rw[h,jR,jV]
  lia
 rw[H,I];show(Qg _,Qo _)
theorem Im{l pre t:Zg}{c:Nat}{r:Int}(O:l=pre++c::t)
 (h:(r= -1/\∀v,Qa pre+1<=v->l[v]?≠Qr 59)\/∃k:Nat,r=k/\Qa pre+1<=k/\l[k]?=Qr 59/\∀v,Qa pre+1<=v->v<k->l[v]?≠Qr 59):
 (r= -1/\∀x∈t,x≠59)\/∃w m,t=w++59::m/\(∀x∈w,x≠59)/\r=((Qa pre+1+Qa w:Nat):Int):=by
 have at_:∀v:Nat,l[Qa pre+1+v]?=t[v]?:=λv=>by rw[O,Qt ⋯,show Qa pre+1+v-Qa pre=v+1 by lia,U9]
 rcases h with⟨e,h⟩|⟨k,e,B,H,Q⟩
 .show .inl (e,λx f w=>?_);obtain⟨v,M⟩:=VG.mp f;show h (Qa pre+1+v) ⋯ (by rw[at_,M,w])
 have z:k=Qa pre+1+(k-(Qa pre+1)):=⋯
 rw[z,at_]at H;rcases KU H (λv M w=>Q (Qa pre+1+v) ⋯ ⋯ (by rw[at_,w]))with⟨_,E,y⟩|⟨w,_⟩
 .show .inr (_,_,E,y,?_);have lt:=(Qh.mp H).1;rw[e,jZ]
  lia
 cases w
theorem FV{l:Zg}{h H:Nat}{R r:J2}(k:Pk l h R)(J:Pk l H r):h=H/\R=r:=by obtain⟨E,x⟩:=iJ (PX h) (PX H) (k.2.2.2.symm.trans J.2.2.2);show(By E,LM x)
end LP
namespace L2
open PySem PySem.Spec PyProof.Rows
theorem ag:QaN table "dict.update.loop"=Qr Builtin.«dict.update.loop»:=Qba (by kernel_rfl)
theorem Yq:plainId "dict.update.loop"=true:=by rfl'
noncomputable def Ij(v:List (Key×Value))(P:List (Key×Value)):List (Key×Value):=P.foldl (λd p=>stored d p.1 p.2) v
section
variable{prog:j8}{w:uj}{A:uv}{R:Qbw->jQ->Prop}{I o D:jP}{its:ZY}{ps:List (Key×Value)}
theorem CU(v:List (Key×Value))(k:Key)(u:Value):Qa (stored v k u)<=Qa v+1:=by unfold stored;split;rw[jO];lia;rw[jR,jW];lia
end
noncomputable def ij(P:List (Key×V))(d:List (Key×V)):List (Key×V):=P.foldl (λd p=>cE d p.1 p.2) d
theorem KV.fill:∀{p:List (Key×V)} {u:List (Key×Value)} {d:List (Key×V)} {B:List (Key×Value)},KV p u->KV d B->KV (ij p d) (Ij B u):=by
 intro p u d B k;induction k generalizing d B with
 |nil=>show id
 |cons e t I=>
  obtain⟨E,x⟩:=e;intro h;show I ?_;change KV (cE _ _ _) (stored _ _ _);rw[<-E];show KV.put h _ x
theorem Bg:∀(P:List (Key×V)) (d:List (Key×V)),Qa (ij P d)<=Qa d+Qa P
 |[],d=>Qg _
 |p::P,d=>by
  have H:=Bg P (cE d p.1 p.2);have I:=pJ d p.1 p.2;rw[jV];change Qa (ij P (cE d p.1 p.2))<=_
  lia
theorem Xt{X:Cx}{K:Qb}(H:X.K=K):OpR X (uD .In) (rIn K false):=by subst H;show FN
end L2
namespace LP
noncomputable def ahd(p:Zg):List (Zg)->List (Zg)
 |[]=>[p]
 |w::r=>(p++w)::r
noncomputable def spl(c:Nat):Nat->Zg->List (Zg)
 |_,[]=>[[]]
 |0,x::r=>[x::r]
 |n+1,x::r=>if x=c then[]::spl c n r else ahd [x] (spl c (n+1) r)
noncomputable def mK(c:Nat):Nat->Zg->Zg
 |_,[]=>[]
 |i,x::r=>if x=c then i::mK c (i+1) r else mK c (i+1) r
theorem lr(c n:Nat):∀l,spl c n l≠[]
 |[]=>by simp[spl]
 |x::r=>by
  cases n with
  |zero=>simp[spl]
  |succ n=>
   unfold spl;split;simp;cases spl c (n+1) r<;>simp[ahd]
theorem LZ(p q:Zg):∀{Z:List (Zg)},Z≠[]->ahd p (ahd q Z)=ahd (p++q) Z
 |[],h=>ZD rfl h
 |w::r,_=>by simp[ahd]
theorem t8(c:Nat):∀l,spl c 0 l=[l]
 |[]=>rfl
 |_::_=>rfl
theorem qJ(n:Nat)(r:Zg):∀{p:Zg},c∉p->spl c (n+1) (p++c::r)=p::spl c n r
 |[],_=>by simp[spl]
 |x::p,h=>by have H:x≠c:=λe=>h (by simp[e]);have C:c∉p:=λe=>h (by simp[e]);change(if x=c then _ else ahd [x] (spl c (n+1) (p++c::r)))=_;rw[Zo H,qJ n r C];rfl
theorem ng(n:Nat):∀{p:Zg},c∉p->spl c n p=[p]
 |[],_=>rfl
 |x::p,h=>by
  cases n with
  |zero=>rfl
  |succ n=>
   have H:x≠c:=λe=>h (by simp[e]);have C:c∉p:=λe=>h (by simp[e]);change(if x=c then _ else ahd [x] (spl c (n+1) p))=_;rw[Zo H,ng (n+1) C];rfl
theorem nc(c:Nat):∀(n:Nat) (l:Zg),Qa (spl c n l)<=Qa l+1
 |n,[]=>by simp[spl]
 |0,x::r=>by simp[spl]
 |n+1,x::r=>by
  unfold spl;split
  .have:=nc c n r;simp only[jV]
   lia
  have:=nc c (n+1) r
  have e:Qa (ahd [x] (spl c (n+1) r))=Qa (spl c (n+1) r):=by
   have:=lr c (n+1) r
   cases h:spl c (n+1) r with
   |nil=>show ZD h this
   |cons w Z=>rfl
  rw[e];simp only[jV]
  lia
end LP
namespace L2
open PySem PySem.Spec PyProof.Rows Builtin.Str LP
theorem mf(z:Str)(c:Nat)(g:Nat):∀(l:Zg) (i:Nat) (f:Array Nat) (free:Nat),(L z).drop i=l->free<=i->i<=z.length->
 (forIn (UZ i (Qa l+1)) (f,free) (StrLaws.occBody z ⟨#[c]⟩ z.length g)).run.fst.toList=f.toList++(mK c i l).take (g-f.size)
 |[],i,f,free,O,J,p=>by
  rw[uC,jd,Uw];unfold StrLaws.occBody;have q:(L z)[i]?=none:=by have:=congrArg (·[0]?) O;simpa using this
  rw[Zo (λh=>by
   have:=(StrLaws.subAt_one z c i).mp (h.1.2,h.2);have I:(L z)[i]?=Qr c:=this;rw[q]at I;cases I)]
  change(forIn (UZ (i+1) 0) (f,free) (StrLaws.occBody z ⟨#[c]⟩ z.length g)).run.fst.toList=_;simp[mK]
 |x::r,i,f,free,O,J,p=>by
  have j:(L z)[i]?=Qr x:=by have:=congrArg (·[0]?) O;simpa using this
  have H:i<z.length:=by have:=(Qh.mp j).1;rw[zC]at this;show this
  have Y:(L z).drop (i+1)=r:=by rw[<-UO,O];rfl
  rw[jV,jd,Uw];unfold StrLaws.occBody;by_cases e:x=c
  .by_cases m:f.size<g
   .have st:=(StrLaws.subAt_one z c i).mpr (show(L z)[i]?=Qr c by rw[j,e]);rw[Zx (((m,J),st.1),st.2)];change(forIn (UZ (i+1) (Qa r+1)) (f.push i,i+1) (StrLaws.occBody z ⟨#[c]⟩ z.length g)).run.fst.toList=_;rw[mf z c g r (i+1) _ _ Y (Qg _) H];rw[show mK c i (x::r)=i::mK c (i+1) r from Zx e,VB];obtain⟨d,hd⟩:∃d,g-f.size=d+1:=(g-f.size-1,⋯);rw[hd,show g-(f.size+1)=d by lia,QJ];simp
   rw[Zo (λh=>m h.1.1.1)];change(forIn (UZ (i+1) (Qa r+1)) (f,free) (StrLaws.occBody z ⟨#[c]⟩ z.length g)).run.fst.toList=_;rw[mf z c g r (i+1) _ _ Y (jc J) H,show g-f.size=0 by lia];simp
  rw[Zo (λh=>by
   have:=(StrLaws.subAt_one z c i).mp (h.1.2,h.2);have I:(L z)[i]?=Qr c:=this;rw[j]at I;show e (Option.some.inj I))]
  change(forIn (UZ (i+1) (Qa r+1)) (f,free) (StrLaws.occBody z ⟨#[c]⟩ z.length g)).run.fst.toList=_;rw[mf z c g r (i+1) _ _ Y (jc J) H];rw[show mK c i (x::r)=mK c (i+1) r from Zo e]
theorem MP(z:Str)(c d:Nat):occurrences z ⟨#[c]⟩ 0 z.length d=(mK c 0 (L z)).take d:=by rw[StrLaws.occ_eq];have:=mf z c d (L z) 0 #[] 0 rfl (Qg _) (Qo _);rw[zC]at this;simpa using this
theorem oy(z:Str)(c:Nat):∀(l:Zg) (n:Nat) (A P:Zg),L z=A++P++l->StrLaws.partsFrom z 1 (Qa A) ((mK c (Qa A+Qa P) l).take n)=(ahd P (spl c n l)).map T
 |[],n,A,P,h=>by
  have e:strSub z (Qa A) z.length=T P:=by rw[wb,<-zC,QE,h];simp
  change StrLaws.partsFrom z 1 (Qa A) (([]:Zg).take n)=_;rw[List.take_nil];change[strSub z (Qa A) z.length]=_;rw[e];simp[spl,ahd]
 |x::r,0,A,P,h=>by rw[Ue,t8];change[strSub z (Qa A) z.length]=_;rw[wb,<-zC,QE,h];simp[ahd]
 |x::r,n+1,A,P,h=>by
  by_cases e:x=c
  .rw[show mK c (Qa A+Qa P) (x::r)=(Qa A+Qa P)::mK c (Qa A+Qa P+1) r from Zx e,show spl c (n+1) (x::r)=[]::spl c n r from Zx e,QJ];change strSub z (Qa A) (Qa A+Qa P)::StrLaws.partsFrom z 1 (Qa A+Qa P+1) _=_;have I:=oy z c r n (A++P++[x]) [] (by rw[h];simp);simp only[jR,jW,uC,Us]at I;rw[I,wb,h];have E:List.drop (Qa A) (List.take (Qa A+Qa P) (A++P++x::r))=P:=by rw[V7 (by simp),QL (by simp)];simp
   rw[E]
   cases H:spl c n r with
   |nil=>show ZD H (lr c n r)
   |cons w Z=>simp[ahd]
  rw[show mK c (Qa A+Qa P) (x::r)=mK c (Qa A+Qa P+1) r from Zo e,show spl c (n+1) (x::r)=ahd [x] (spl c (n+1) r)from Zo e];have I:=oy z c r (n+1) A (P++[x]) (by rw[h];simp);rw[jR,jW,<-Ww]at I;rw[I,LZ _ _ (lr c (n+1) r)]
theorem oz(z:Str)(c d:Nat):partsBetween z (occurrences z ⟨#[c]⟩ 0 z.length d) 1=(spl c d (L z)).map T:=by
 rw[StrLaws.partsBetween_eq,MP];have:=oy z c (L z) d [] [] rfl;simp only[uC,Us]at this;rw[this]
 cases H:spl c d (L z)with
 |nil=>show ZD H (lr c d (L z))
 |cons w Z=>simp[ahd]
theorem sV(h:(occurrences z ⟨#[c]⟩ 0 z.length lim).isEmpty=true):(spl c lim (L z)).map T=[z]:=by rw[<-oz,List.isEmpty_iff.mp h];change[strSub z 0 z.length]=_;rw[wb,<-zC,QE,UF,T_L]
theorem oW:∀(d:ZT) (t:Nat),ZQ (d.map V.str) (strsFrom t d)
 |[],_=>.nil
 |x::r,t=>.cons (t,rfl) (oW r (t+1))
theorem IL(z:Str):1<=Builtin.Str.strKind z:=by unfold Builtin.Str.strKind;split;show Qg _;split<;>decide
section
def Nz:V->ZE->Hp->VK->Prop:=λx v H Q=>aS (λz=>aS λy=>o0
 (∃c,L y=[c]/\c<256/\Qa (L z)+2<=sizeLine/\∀a,H a=Qs->Q (.ref a) (upd H a (.lst ((spl c (Qa (L z)+1) (L z)).map λw=>V.str (T w)))))
 (aI λk=>a0 (∃c,L y=[c]/\c<256/\Qa (L z)+2<=sizeLine/\0<=k/\k<1000/\∀a,H a=Qs->Q (.ref a) (upd H a (.lst ((spl c k.toNat (L z)).map λw=>V.str (T w))))))
 ) (x::v)
theorem l7:MtR X "str.split" Nz:=by
 intro Zc s σ H x E v us Q I rx rv h
 have f:∀(c d:Nat) (z:Str) (R:Nat) (Y:ZY),Qa (L z)+2<=sizeLine->ZQ (((spl c d (L z)).map T).map V.str) Y->(∀a,H a=Qs->Q (.ref a) (upd H a (.lst ((spl c d (L z)).map λw=>V.str (T w)))))->
  EP X Zc σ Q (.ref s.heap.objs.size) {s with toks:=R,heap:=s.heap.push {cls:=.type "list",data:=.seq Y.toArray} }:=λc d z R Y B r q=>by
  have hn:=I.hok.fresh (Qg s.heap.objs.size);have em:((spl c d (L z)).map T).map V.str=(spl c d (L z)).map λw=>V.str (T w):=by rw[u6];rfl
  have hl:=nc c d (L z);show(.ref s.heap.objs.size,_,I.laid (o:=.lst ((spl c d (L z)).map λw=>V.str (T w))) (t':=R) (λb o e=>Qf _ e) (Qg _) (by rw[jO];lia,Y,0,em▸r,Ql _ rfl),rfl,q _ hn)
 have D:∀(z:Str) (c:Nat),c<256->z.length≠0->(decide (z.length<(⟨#[c]⟩:Str).length) || decide (Builtin.Str.strKind z<Builtin.Str.strKind ⟨#[c]⟩))=false:=λz c j B=>by
  have h1:Builtin.Str.strKind ⟨#[c]⟩=1:=by unfold Builtin.Str.strKind;rw[Zx (by simpa using j)]
  have h2:=IL z;rw[h1,show(⟨#[c]⟩:Str).length=1 from rfl,decide_eq_false ⋯,decide_eq_false ⋯];rfl
 have mt:∀(z:Str) (c:Nat),z.length=0->(decide (z.length<(⟨#[c]⟩:Str).length) || decide (Builtin.Str.strKind z<Builtin.Str.strKind ⟨#[c]⟩))=true:=λz c B=>by rw[B];rfl
 have one:∀(z:Str) (c d:Nat) (t:Tok),(spl c d (L z)).map T=[z]->ZQ (((spl c d (L z)).map T).map V.str) [.str z t]:=λz c d t e=>by rw[e];show .cons (t,rfl) .nil
 have nil:∀(z:Str) (c d:Nat),z.length=0->(spl c d (L z)).map T=[z]:=λz c d B=>by
  have e:L z=[]:=by rw[<-zC]at B;show vw.mp B
  rw[e];have:=T_L z;rw[e]at this;simp[spl,this]
 obtain⟨z,rfl,g⟩:=aSm h;clear h;obtain⟨y,E,rfl,h⟩:=OL g;clear g
 cases E with
 |nil=>
  show zh h λc P j B q=>?_;clear h;obtain⟨t,rfl⟩:=rx;show Zf (J1 rv) λu S Z=>zI Z λp U=>?_;clear Z;subst S;subst U;have M:=mE P;subst M;have hl:=nc c (Qa (L z)+1) (L z);by_cases m:z.length=0;show vC F.slot_str_split (uW _ _ _) F.entry_str_split (F.args_str_split_2 _ _) (meets_str_split_cannot_occur z ⟨#[c]⟩ t p (mt z c m)) (f c _ z _ _ B (one z c _ t (nil z c _ m)) q)
  cases J:(occurrences z ⟨#[c]⟩ 0 z.length (z.length+1)).isEmpty with
  |true=>show vC F.slot_str_split (uW _ _ _) F.entry_str_split (F.args_str_split_2 _ _) (meets_str_split_not_found z ⟨#[c]⟩ t p (D z c j m) rfl J) (f c _ z _ _ B (one z c _ t (by rw[zC];show sV J)) q)
  |false=>
   have e:=oz z c (z.length+1);show vC F.slot_str_split (uW _ _ _) F.entry_str_split (F.args_str_split_2 _ _) (meets_str_split_sep z ⟨#[c]⟩ t p (D z c j m) rfl J (by rw[<-zC];lia) (by change Qa (partsBetween z _ 1)<=_;rw[e,jO,<-zC];lia)) ?_;show f c _ z _ _ B (by change ZQ _ (strsFrom _ (partsBetween z _ 1));rw[e,zC];show oW _ _) q
 |cons w E=>
  obtain⟨k,e,h⟩:=aI1 h;cases e;show zI h λc Z=>ZO Z λP j B k0 k1 q=>?_;clear Z h;obtain⟨t,rfl⟩:=rx;obtain⟨u,u2,rfl,⟨p,rfl⟩,⟨t2,rfl⟩⟩:=wq rv;have M:=mE P;subst M;have O:(decide (k < -(2 ^ 63:Int)) || decide (k ≥ 2 ^ 63))=false:=by rw[decide_eq_false ⋯,decide_eq_false ⋯];rfl
  have C:limitOf z k=k.toNat:=Zo ⋯;have hl:=nc c k.toNat (L z);by_cases m:z.length=0;show vC F.slot_str_split (uW _ _ _) F.entry_str_split (F.args_str_split_3 _ _ _) (meets_str_split_max_cannot_occur z ⟨#[c]⟩ k t p t2 O (mt z c m)) (f c _ z _ _ B (one z c _ t (nil z c _ m)) q)
  cases J:(occurrences z ⟨#[c]⟩ 0 z.length (limitOf z k)).isEmpty with
  |true=>show vC F.slot_str_split (uW _ _ _) F.entry_str_split (F.args_str_split_3 _ _ _) (meets_str_split_max_not_found z ⟨#[c]⟩ k t p t2 O (D z c j m) rfl J) (f c _ z _ _ B (one z c _ t (by rw[C]at J;show sV J)) q)
  |false=>
   have e:=oz z c (limitOf z k);have e':partsBetween z (occurrences z ⟨#[c]⟩ 0 z.length (limitOf z k)) (⟨#[c]⟩:Str).length=(spl c k.toNat (L z)).map T:=by rw[C]at e ⊢;show e
   show vC F.slot_str_split (uW _ _ _) F.entry_str_split (F.args_str_split_3 _ _ _) (meets_str_split_sep_max z ⟨#[c]⟩ k t p t2 O (D z c j m) rfl J (by rw[<-zC];lia) (by rw[e',jO];lia)) ?_;show f c _ z _ _ B (by rw[e'];show oW _ _) q
end
section
def LI(r R:R2)(v t M:TE):TE:=λD H Q=>v D H λx E=>t D E λy O=>r x y O λz Y=>match z with
 | .bl k=>if k=true then M D Y λu j=>R y u j Q else Q (.bl false) Y
 |_=>False
theorem FQ(C:OpR X (uD op1) r1)(J:OpR X (uD op2) r2)(U:PE X a ta)(S:PE X b tb)(j:PE X c tc)(P:lastMarks [op1,op2] [b,c]=false:=by with_unfolding_all rfl):PE X (.Compare a [op1,op2] [b,c] pos) (LI r1 r2 ta tb tc):=by
 intro Z s D H Q I h;show Compare_chain (thn (U Z s D H _ I h) λv m f=>Zy f λx E I1 rx q1=>?_) P;clear f;show chain_link (thn (S Z m D E _ I1 q1) λu p B=>Zy B λy O I2 R q2=>?_);clear B;show thn (C Z p D O x y v u _ I2 rx R q2) λk s3 M=>Zy M λz Y g rz q=>?_;clear M
 cases z with
 |bl k=>
  cases rz;show vS ?_
  cases k with
  |true=>show chain_last (thn (j Z s3 D Y _ g q) λt s4 d=>Zy d λw' H4 I4 r q4=>J Z s4 D H4 y w' u t _ I4 R r q4)
  |false=>show(.bl false,Y,g,rfl,q)
 |_=>show False.elim q
def OE:List DictEntry->List (Str×V)->Prop
 |[],[]=>True
 |e::E,p::P=>(∃t,e.key=.str p.1 t)/\zf p.2 e.val/\OE E P
 |_,_=>False
noncomputable def lu:List (Str×V)->Str->Option V
 |[],_=>Qs
 |p::r,z=>if p.1=z then Qr p.2 else lu r z
structure sv(K:Qb)(P:Qa0)(a:jP)(kvs:List (Str×V)):Prop where
 ex:∃es n,K.lookup a=Qr (.type "dict",Qs,.dict es n,#[])/\PySem.W.KeysLit P es.toList/\OE es.toList kvs
 ns:(a==vM)=false
theorem xo:∀{E:List DictEntry} {y:List (Str×V)},OE E y->(∃u v,(E.find? λd=>Ud z d.key).map (·.val)=Qr u/\lu y z=Qr v/\zf v u)\/((E.find? λd=>Ud z d.key).map (·.val)=Qs/\lu y z=Qs)
 |[],[],_=>.inr (rfl,rfl)
 |e::E,p::P,((t,H),M,r)=>by
  unfold lu;rw[Uj,H];by_cases q:p.1=z
  .have:Ud z (.str p.1 t)=true:=by subst q;simp[Ud]
   rw[this,Zx q];show .inl (_,_,rfl,rfl,M)
  have:Ud z (.str p.1 t)=false:=by simp[Ud,q]
  rw[this,Zo q];show xo r
 |[],_::_,h=>h.elim
 |_::_,[],h=>h.elim
theorem sv.map{P:j8}{w:uj}{K:Qb}{a:jP}{y:List (Str×V)}{h:Heap}(D:sv K w.params a y)(p:K.In h):∃f,h.MapOf (strKind P w) a f/\∀z,(∃u v,f z=Qr u/\lu y z=Qr v/\zf v u)\/(f z=Qs/\lu y z=Qs):=by show Zy D.ex λE n H I x=>?_;show(_,PySem.W.mapOf_K (prog:=P) p H I,λz=>?_);have:=xo (z:=z) x;obtain⟨l⟩:=E;unfold findBy;rw[List.find?_toArray];show this
def yS(neg:Bool)(A:jP)(B:List (Str×V)):R2:=λx y H Q=>match x,y with
 | .str z,.ref a=>a=A/\Q (.bl (neg !=(lu B z).isSome)) H
 |_,_=>False
def oE(A:jP)(B:List (Str×V)):R2:=λx y H Q=>match x,y with
 | .ref a,.str z=>a=A/\∃v,lu B z=Qr v/\Q v H
 |_,_=>False
theorem Kv{A:jP}{B:List (Str×V)}(D:sv X.K X.w.params A B):OpR X (uD .NotIn) (yS true A B):=by
 intro Z s M H x y v u Q I r R h;unfold yS at h;split at h
 .rename_i z a;obtain⟨rfl,q⟩:=h;obtain⟨t,rfl⟩:=r;cases R;show Zf (D.map (P:=X.prog) (w:=X.w) I.kIn) λf Y J=>?_;show wpAny_notIn_of (strKind_is X.prog X.w z t) D.ns Y (.bl _,H,I.kept (t':=s.toks+1) λb o e=>e,rfl,?_);have e:(f z).isSome=(lu B z).isSome:=by rcases J z with⟨_,_,E,C,_⟩|⟨E,C⟩<;>rw[E,C]<;>rfl
  rw[e];simpa using q
 show h.elim
theorem IA{A:jP}{B:List (Str×V)}(D:sv X.K X.w.params A B):IxR X (oE A B):=by
 intro d S m s O H x y v u Q I R U h j;unfold oE at h;split at h
 .rename_i a z;show ZI h λZ Y=>Zf Y λC M q=>?_;clear Y h;subst Z;obtain⟨t,rfl⟩:=U;cases R;show Zf (D.map (P:=X.prog) (w:=X.w) I.kIn) λf g J=>?_;rcases J z with⟨u',v2,p,E,r⟩|⟨_,E⟩
  .rw[M]at E;cases E;show tail_any g.typeIs slot_dict_getitem.lookup (wpAny_getItem_of (strKind_is X.prog X.w z t) g p (C,H,I.kept (t':=s.toks+1) λb o e=>e,r,q)) j
  rw[M]at E;cases E
 show h.elim
structure LY(K:Qb)(a:jP)(xs:ZE):Prop where
 ex:∃(o:Obj) (its:Array Value) (n:Nat),K.lookup a=Qr o/\o.cls=.type "tuple"/\o.data=.seq its n/\its.size<=sizeLine/\ZQ xs its.toList
theorem LY.sq{K:Qb}{a:jP}{x:ZE}(T:LY K a x)(H:Hp):SqT K H a x:=.inr T.ex
structure OJ(K:Qb)(P:Qa0)(mg:z9)(a:jP)(kns:List (Str×Str)):Prop where
 ex:∃kvs,sv K P a kvs/\∀z nm,(kns.find? λp=>p.1=z).map (·.2)=Qr nm->∃f,mg nm=Qr (.ref f)/\lu kvs z=Qr (.ref f)
def XR(Y:List (Str×Str))(G:Str->Sp->Prop)(F:St->XK)(r:TE)(t:TA):TE:=λD H Q=>r D H λU E=>match U with
 | .str z=>∃q S,(Y.find? λp=>p.1=z).map (·.2)=Qr q/\G q S/\t D E λv O=>S v O Q (F D)
 |_=>False
theorem MW{F:St->XK}{G:Str->Sp->Prop}(T:Tk X F)(D:OJ X.K X.w.params X.mg A kns)(hA:X.mg x=Qr (.ref A))(hG:∀y S,G y S->∃j ps,j<=k/\FnX X.prog X.w X.K X.mg X.base j y ps S)(hr:YN k X.A)(hk:PE X ke tk)(ha:PA X (e::es) t)(hs:xY ke)(hg:autoParam (Gl X x) ZF)(C:autoParam ((x==("__debug__":Str))=false) z8)
 (he:autoParam (kc X e es) ZF) (a3:autoParam (rL X pos es) ZF)
 (a4:autoParam (eval (.Call (.Subscript (.Name x p) ke p') (e::es) [] pos) X.env=(do callWith pos (<-eval (.Subscript (.Name x p) ke p') X.env) [] (v8 pos (uc (e::es) X.env)) (QaP pos (Qad [] X.env)))) ZF):
 PE X (.Call (.Subscript (.Name x p) ke p') (e::es) [] pos) (XR kns G F tk t):=by
 intro Zc s E H Q I h;show Zf D.ex λB D hD=>?_;show Qbg ?_ a4;have M:PE X (.Subscript (.Name x p) ke p') (tOp (oE A B) (tC (.ref A)) tk):=Et (IA D) (fV (v:=.ref A) hg hA rfl C) hk hs
 have h0:∃Y:VK,tk E H Y/\∀d J,Y d J->match d with
  | .str z=>∃y S,(kns.find? λp=>p.1=z).map (·.2)=Qr y/\G y S/\t E J λZ O=>S Z O Q (F E)
  |_=>False:=(_,h,λ_ _ z=>z)
 have a5:PE X ke (λE H Q=>∃Y:VK,tk E H Y/\∀v P,Y v P->Q v P):=hk.imp λE H Q h=>h;have M:PE X (.Subscript (.Name x p) ke p') (tOp (oE A B) (tC (.ref A)) (λE H Q=>∃Y:VK,tk E H Y/\∀v P,Y v P->Q v P)):=Et (IA D) (fV (v:=.ref A) hg hA rfl C) a5 hs;show thn (M Zc s E H (λv J=>∃y S f,v=.ref f/\X.mg y=Qr (.ref f)/\G y S/\t E J λZ O=>S Z O Q (F E)) I ?_) λv s1 hv=>?_
 .show Zf h0 λY a1 a2=>?_;clear h0;show(Y,a1,λd J q=>?_);have q:=a2 d J q
  cases d with
  |str z=>
   show Zy q λy S e1 e2 e3=>?_;clear q;show Zf (hD z y e1) λf f1 f2=>(rfl,_,f2,y,S,f,rfl,f1,e2,e3)
  |_=>show q.elim
 obtain⟨v',J,I1,rv,y,S,f,ev,hf,a6,q1⟩:=hv;subst ev;cases rv;show ZS (hG y S a6) λj ps hj G1=>?_;show ze G1.ex λf' fd G1 hm a7 hb=>?_;rw[hf]at hm;cases hm;show Qao (h₀:=X.base) I1.ok.mod.kin a7 (thn (ha pos Zc s1 E J _ I1 q1) λm s2 g=>Zy g λZ O R r q=>?_) he a3;clear g;show(R.kIn,?_);have hl:Qa m=Qa ps:=by rw[<-r.length];show G1.len _ _ _ _ q
 show vL (uR (G1.run X.A X.stack s2 O (m,[]) m Z Q (F E) (hr.mono hj) R.env0 (by simpa using hb s2 m R.kIn (by simpa using hl)) r q) λr s' U=>?_)
 cases r with
 |error e=>show T.pass Zc E O s2 e s' R U
 |ok fl=>
  cases fl with
  |ret u=>show R.after U
  |next=>show False.elim U
  |brk=>show False.elim U
  |cont=>show False.elim U
end
def An(h:Heap)(z TI TO:jP):Prop:=∃(t:jP) (b:Bool) (o:Obj),h.get? z=Qr {cls:=.type "zip",dict:=Qs,data:=.fields #[uL t,.bool b,.bool false,.ref TI,.ref TO],slots:=#[]}/\h.get? t=Qr o/\t≠z
section
variable{prog:j8}{w:uj}{A:uv}{E:ZW}{s:jQ}{z TI TO i1 i2 l1 l2:jP}{k1 k2:Nat}{xs ys:Array Value}
theorem DZ{Q:Bool->jQ->Prop}(y:An s.heap z TI TO)(I:∀H,An H z TI TO->Heap.SameBut z s.heap H->Q false {s with heap:=H}):jS (ud prog w) A (Builtin.SmallTypes.ownedTupleIsFree (.ref z)) Q E s:=by
 show Z6 y λt b o g r ne=>?_;clear y;unfold Builtin.SmallTypes.ownedTupleIsFree;show jM (uH g rfl (x:=uL t) rfl ?_);change jS _ _ (loadIfAlive ((t:Int).toNat) >>=_) _ _ _;rw[Qj];show jM ?_;have Y:∀(j:Option Obj->jQ->Prop),j (s.heap.get? t) s->jS (ud prog w) A (loadIfAlive t) j E s:=λj q P p Z=>by change Sem.wp _ _ (Sem.loadIfAlive t Sem.pure) _ _ _ _;rw[Sem.wp_loadIfAlive,Sem.wp_pure];show q
 show Y _ ?_;rw[r];change jS _ _ (Qbt (.ref z) 1 >>=_) _ _ _;show jM (uH g rfl (x:=.bool b) rfl ?_)
 cases b with
 |true=>
  show jN (I s.heap (t,true,o,g,r,ne) (rfl,λ_ _=>rfl))
 |false=>
  change jS _ _ (Qbq (.ref z) 1 (.bool true) >>=_) _ _ _;show jM (uB g (by simp) λH m U=>jN (I H (t,true,o,m,(U.2 t ne).trans r,ne) U))
theorem NJ{Q:Option Value->jQ->Prop}(D:Qaw z TI TO i1 i2 l1 l2)(J:An s.heap z TI TO)(P:IsPair s.heap TI (.ref i1) (.ref i2))
 (h1:s.heap.IsListIter i1 l1 k1) (h2:s.heap.IsListIter i2 l2 k2) (S:s.heap.IsList l1 xs) (q:s.heap.IsList l2 ys) (hx:xs[k1]?=Qr x) (hy:ys[k2]?=Qr y)
 (hQ:∀I,An I z TI TO->I.IsListIter i1 l1 (k1+1)->I.IsListIter i2 l2 (k2+1)->IsPair I s.heap.objs.size x y->(∀c o,c≠z->c≠i1->c≠i2->s.heap.get? c=Qr o->I.get? c=Qr o)->Q (Qr (.ref s.heap.objs.size)) {s with heap:=I}):
 jS (ud prog w) A (uU (.ref z)) Q E s:=by
 have hT:s.TypeIs (.ref z) "zip":=by show Jo J λt b o g _=>(_,g,rfl)
 show Z6 (id J) λt b o g ht ne=>?_;unfold uU;show jM (uG (uk (name:=Qe "__next__") hT F.slot_zip_next (ur F.slot_zip_next hT F.entry_zip_next ?_ (F.args_zip_next_1 _))));change jS _ _ (Qbt (.ref z) 2 >>=_) _ _ _;show jM (uH g rfl (x:=.bool false) rfl ?_);change jS _ _ (Qbt (.ref z) 3 >>=_) _ _ _;show jM (uH g rfl (x:=.ref TI) rfl (jM (uT P rfl ?_)));change jS _ _ (Builtin.SmallTypes.ownedTupleIsFree (.ref z) >>=_) _ _ _;show jM (DZ J λha p H=>?_);rw[Zo Qk];dsimp only;show jM ?_;rw[<-VT];change jS _ _ (forIn [Qw i1,Qw i2] _ _) _ _ _;rw[Uw];show jM (jM (uA ?_));change jS _ _ (Builtin.SmallTypes.nextOf (.ref i1) >>=_) _ _ _;show jM (wpAny_nextOf_list_item (h1.extBut H.extBut D.i1z) (S.extBut H.extBut D.l1z) hx λhb b1 j=>jN (jN ?_));dsimp only;rw[Uw];show jM (jM (uA ?_));change jS _ _ (Builtin.SmallTypes.nextOf (.ref i2) >>=_) _ _ _;show jM (wpAny_nextOf_list_item ((h2.extBut H.extBut D.i2z).extBut j.extBut D.i12.symm) ((q.extBut H.extBut D.l2z).extBut j.extBut D.l2i1) hy λf c1 B=>jN (jN ?_));dsimp only;rw[Wl];show jN ?_;dsimp only;show jM (Qaj ?_ (by change 2<=sizeLine;rw[jT];decide));have R:f.objs.size=s.heap.objs.size:=by rw[B.1,j.1,H.1]
 show jN (_,rfl,jN ?_);have u:∀c o,c≠i1->c≠i2->ha.get? c=Qr o->f.get? c=Qr o:=λc o O Y e=>(B.2 c Y).trans ((j.2 c O).trans e)
 have a1:An f z TI TO:=by
  show Z6 p λm U Z M d C=>?_;clear p
  have:∃v,f.get? m=Qr v:=by
   by_cases O:m=i1
   .subst O;show Zf b1 λoo e _=>(oo,(B.2 _ D.i12).trans e)
   by_cases Y:m=i2
   .subst Y;show Zf c1 λoo e _=>(oo,e)
   show(Z,u m Z O Y d)
  obtain⟨v,e2⟩:=this;show(m,U,v,u z _ D.i1z.symm D.i2z.symm M,e2,C)
 have r:=hQ (f.push {cls:=.type "tuple",data:=.seq #[x,y]}) ?_ ?_ ?_ ?_ ?_
 .rw[<-R]at r;show r
 show Z6 a1 λm U Z M d C=>(m,U,Z,Qf _ M,Qf _ d,C);show(b1.at λo e=>(B.2 _ D.i12).trans e).at λo e=>Qf _ e;show c1.at λo e=>Qf _ e
 .rw[<-R];show Ql _ rfl
 show λc o n0 O Y e=>Qf _ (u c o O Y ((H.2 c n0).trans e))
theorem Si{Q:Option Value->jQ->Prop}(r:A.handled=Qs)(D:Qaw z TI TO i1 i2 l1 l2)(y:An s.heap z TI TO)(d:IsPair s.heap TI (.ref i1) (.ref i2))
 (C:s.heap.IsListIter i1 l1 k1) (P:s.heap.IsList l1 xs) (p:xs[k1]?=Qs)
 (J:∀B,(∀c o,c≠z->c≠i1->c≠i2->s.heap.get? c=Qr o->B.get? c=Qr o)->Q Qs {s with heap:=B}):
 jS (ud prog w) A (uU (.ref z)) Q E s:=by
 have m:s.TypeIs (.ref z) "zip":=by show Jo y λt b o g _=>(_,g,rfl)
 show Z6 (id y) λt b o g Z ne=>?_;unfold uU;show jM (uG (uk (name:=Qe "__next__") m F.slot_zip_next (ur F.slot_zip_next m F.entry_zip_next ?_ (F.args_zip_next_1 _))));change jS _ _ (Qbt (.ref z) 2 >>=_) _ _ _;show jM (uH g rfl (x:=.bool false) rfl ?_);change jS _ _ (Qbt (.ref z) 3 >>=_) _ _ _;show jM (uH g rfl (x:=.ref TI) rfl (jM (uT d rfl ?_)));change jS _ _ (Builtin.SmallTypes.ownedTupleIsFree (.ref z) >>=_) _ _ _;show jM (DZ y λY v H=>?_);rw[Zo Qk];dsimp only;show jM ?_;rw[<-VT];change jS _ _ (forIn [Qw i1,Qw i2] _ _) _ _ _;rw[Uw];show jM (jM (uA ?_));change jS _ _ (Builtin.SmallTypes.nextOf (.ref i1) >>=_) _ _ _;show jM (wpAny_nextOf_list_end r (C.extBut H.extBut D.i1z) (P.extBut H.extBut D.l1z) p λU e j I=>?_);show Zf I λS u f=>?_;show jM (vD (T:="StopIteration") (b:=true) (S,u,f) QaK ?_);show jN (J _ λc o M O n2 q=>j _ _ O ((H.2 c M).trans q))
def OK(h:Heap)(z TI TO:jP):Prop:=(vK h z TI TO .none/\∃a b,IsPair h TO a b)\/An h z TI TO
theorem NL{Q:Option Value->jQ->Prop}(D:Qaw z TI TO i1 i2 l1 l2)(B:OK s.heap z TI TO)(d:IsPair s.heap TI (.ref i1) (.ref i2))
 (C:s.heap.IsListIter i1 l1 k1) (J:s.heap.IsListIter i2 l2 k2) (P:s.heap.IsList l1 xs) (j:s.heap.IsList l2 ys) (m:xs[k1]?=Qr x) (p:ys[k2]?=Qr y)
 (M:∀H,An H z TI TO->H.IsListIter i1 l1 (k1+1)->H.IsListIter i2 l2 (k2+1)->IsPair H s.heap.objs.size x y->(∀c o,c≠z->c≠TO->c≠i1->c≠i2->s.heap.get? c=Qr o->H.get? c=Qr o)->Q (Qr (.ref s.heap.objs.size)) {s with heap:=H}):
 jS (ud prog w) A (uU (.ref z)) Q E s:=by
 rcases B with⟨g,a,b,t⟩|B
 .have Z:=Qn g;show wpAny_pyNext_zip_item D g d t C J P j m p λH f q v I R u r=>M H (_,false,_,f,R,QY Z) v I R r
 show NJ D B d C J P j m p λH f q v I R=>M H f q v I λc o U _ O Y e=>R c o U O Y e
theorem Sj{Q:Option Value->jQ->Prop}(d:A.handled=Qs)(D:Qaw z TI TO i1 i2 l1 l2)(y:OK s.heap z TI TO)(H:IsPair s.heap TI (.ref i1) (.ref i2))
 (x:s.heap.IsListIter i1 l1 k1) (J:s.heap.IsListIter i2 l2 k2) (P:s.heap.IsList l1 xs) (j:s.heap.IsList l2 ys) (f:xs[k1]?=Qs)
 (I:∀B,(∀c o,c≠z->c≠TO->c≠i1->c≠i2->s.heap.get? c=Qr o->B.get? c=Qr o)->Q Qs {s with heap:=B}):
 jS (ud prog w) A (uU (.ref z)) Q E s:=by
 rcases y with⟨g,a,b,m⟩|y;show wpAny_pyNext_zip_end d D g H m x J P j (.inl f) I;show Si d D y H x P f λB a=>I B λc o M _ O Y e=>a c o M O Y e
theorem Kf{R:Qbw->jQ->Prop}{d:jP}{I f:ZY}{P:List (Key×Value)}(hh:A.handled=Qs)(D:Qaw z TI TO i1 i2 l1 l2)(nz:d≠z)(an:d≠TI)(a9:d≠TO)(n1:d≠i1)(n2:d≠i2)(ap:d≠l1)(as:d≠l2)
 (e1:Qa I=Qa P) (e2:Qa f=Qa P) (hz:Qa P<=sizeLine) (hk:∀(j:Nat) u (p:Key×Value),I[j]?=Qr u->P[j]?=Qr p->pH p.1 u=true) (hv:∀(j:Nat) v (p:Key×Value),f[j]?=Qr v->P[j]?=Qr p->v=p.2):
 ∀(n i:Nat) (s:jQ) (Y:List (Key×Value)),Qa P-i=n->i<=Qa P->Qa Y<=i->OK s.heap z TI TO->IsPair s.heap TI (.ref i1) (.ref i2)->s.heap.IsListIter i1 l1 i->s.heap.IsListIter i2 l2 i->s.heap.IsList l1 I.toArray->s.heap.IsList l2 f.toArray->s.heap.DictOf (YK prog w) d Y->
  (∀B tk,(∀c o,c≠d->c≠z->c≠TO->c≠i1->c≠i2->s.heap.get? c=Qr o->B.get? c=Qr o)->B.DictOf (YK prog w) d (Ij Y (P.drop i))->R (.ok (.ret .none)) {s with heap:=B,toks:=tk})->
  Qaa (ud prog w) A (.builtin "dict.update.loop" ([.ref d,.ref z,uL (i:Int),.none],[])) R s:=by
 intro n
 induction n with
 |zero=>
  intro i s Y hn hi am zs C q1 q2 g1 g2 dd g;show uQ ag ?_;rw[Around.under_plainId Yq _];change jS _ A.in1 (uU (.ref z) >>=_) _ _ s;show jM (Sj hh D zs C q1 q2 g1 g2 (by simp;lia) λB eb=>jM (jN (jN (g B s.toks (λc o _ m J O U e=>eb c o m J O U e) ?_))));rw[List.drop_of_length_le ⋯];show Jo dd λob es ep e r=>(ob,es,ep,eb _ _ nz a9 n1 n2 e,r)
 |succ n ih=>
  intro i s Y hn hi am zs C q1 q2 g1 g2 dd g;have lt:i<Qa P:=⋯
  have hx:I[i]?=Qr (I[i]'⋯):=Qd _;have hy:f[i]?=Qr (f[i]'⋯):=Qd _;have ep:P[i]?=Qr P[i]:=Qd _;have ku:=hk i _ _ hx ep;have ev:=hv i _ _ hy ep;generalize I[i]'⋯=u at hx ku;generalize f[i]'⋯=v at hy ev;subst ev;generalize hp:P[i]=p at ep ku hy;show uQ ag ?_;rw[Around.under_plainId Yq _];change jS _ A.in1 (uU (.ref z) >>=_) _ _ s;show jM (NL D zs C q1 q2 g1 g2 (x:=u) (y:=p.2) (by simpa using hx) (by simpa using hy) λB a1 a2 a3 a4 a5=>?_);change jS _ A.in1 (Qag [Qw s.heap.objs.size] _ >>=_) _ _ _;show jM (uA (jM ?_));have al:∀(Q:ZY->jQ->Prop) (E:ZW),Q [u,p.2] {s with heap:=B}->jS (ud prog w) A.in1 (Builtin.Dict.pairItems (Qw s.heap.objs.size)) Q E {s with heap:=B}:=λQ E q=>by have hT:({s with heap:=B}:jQ).TypeIs (.ref s.heap.objs.size) "tuple":=(_,a4,rfl);unfold Builtin.Dict.pairItems;show jM (vR hT ?_);rw[Zx ∅];show jM (uT a4 rfl (jN q))
  show wpAny_tryCatch (al _ _ ?_);change jS _ _ (Qag [u,p.2] (dictSet d u p.2)) _ _ _;have ab:B.DictOf (YK prog w) d Y:=by show Jo dd λob es a8 e r=>(ob,es,a8,a5 _ _ nz a9 n1 n2 e,r)
  show uA (wpAny_dictSet_pairs (s:= {s with heap:=B}) (knd:=YK prog w) ku ab (λh2 a7 S=>?_) ⋯);show jN (vn Yq _,?_);have er:uL ((i:Int)+1)=uL ((i+1:Nat):Int):=by rw[Int.natCast_add];rfl
  rw[er];have keep:∀c o,c≠d->c≠z->c≠TO->c≠i1->c≠i2->s.heap.get? c=Qr o->h2.get? c=Qr o:=λc o Z m J O U e=>(S.2 c Z).trans (a5 c o m J O U e);show ih (i+1) {s with heap:=h2,toks:=s.toks+1} _ ⋯ ⋯ (by have:=CU Y p.1 p.2;lia) (.inr ?_) ?_ (a2.at λo e=>(S.2 _ (Ne.symm n1)).trans e) (a3.at λo e=>(S.2 _ (Ne.symm n2)).trans e) (g1.at λo e=>keep _ o (Ne.symm ap) D.l1z D.l1TO D.l1i1 D.l1i2 e) (g2.at λo e=>keep _ o (Ne.symm as) D.l2z D.l2TO D.l2i1 D.l2i2 e) a7 λh3 tk M ak=>?_
  .show Z6 a1 λt b o w1 w2 w3=>?_;clear a1;by_cases Z:t=d
   .subst Z;show Jo a7 λob es a8 e r=>(t,b,ob,(S.2 _ (Ne.symm nz)).trans w1,e,w3)
   show(t,b,o,(S.2 _ (Ne.symm nz)).trans w1,(S.2 _ Z).trans w2,w3)
  show keep _ _ (Ne.symm an) D.TIz D.TITO D.TIi1 D.TIi2 C;show g h3 tk (λc o Z m J O U e=>M c o Z m J O U (keep c o Z m J O U e)) ?_;rw[Q7 lt,hp];show ak
end
theorem wH:vY (.type "zip") "keys"=pure none:=am_miss_of_fast (by rfl')
theorem wu:vY (.type "zip") "__getattr__"=pure none:=by rw[vg,uO];kernel_rfl
theorem i9:QaN table "zip.__getattribute__"=Qr Builtin.«object.__getattribute__»:=QaM (id':="object.__getattribute__") (by kernel_rfl) (by rfl') (by rfl') (by kernel_rfl)
theorem Cb(z:jP)(Z:Array Value)(name:Str)(u:Tok)(Y:vY (.type "zip") name=pure Qs)(H:(["__module__","__name__","__qualname__","__doc__","__annotations__"]:ZT).contains name=false)(f:name.length+100<=sizeLine):
 Meets (Builtin.«object.__getattribute__» ([.ref z,.str name u],[])) (λA R s=>s.heap.get? z=Qr {cls:=.type "zip",dict:=Qs,data:=.fields Z,slots:=#[]}/\raisesAttr (.ref z) name A R s):=
 Meets.of_wp λprog w A R s j=>by
  obtain⟨C,g,d,t,os⟩:=s;obtain⟨m,j⟩:=j;have p:((C,g,d,t,os):jQ).TypeIs (.ref z) "zip":=(_,m,rfl)
  unfold Builtin.«object.__getattribute__»
  repeat(any_goals(first|assumption|wp_step))
  simp only[H,QX,if_false];repeat(any_goals(first|assumption|wp_step))
  show wpAny_raiseAttrError j.1 j.2 (attrMsg_fits (by rfl') f)
theorem wY{E:ZW}{Q:Option Value->jQ->Prop}
 (f:s.heap.get? z=Qr {cls:=.type "zip",dict:=Qs,data:=.fields Z,slots:=#[]}) (D:A.handled=Qs) (h:∀B p,(∀b O,s.heap.get? b=Qr O->B.get? b=Qr O)->Q Qs {s with heap:=B,toks:=p}):
 jS (ud prog w) A (getAttr? (.ref z) "keys") Q E s:=by
 obtain⟨C,g,d,p,os⟩:=s;have j:∀t,((C,g,d,t,os):jQ).TypeIs (.ref z) "zip":=λ_=>(_,f,rfl);have r:=sub_AttributeError;have M:=F.slot_zip_getattribute.lookup;have U:=F.slot_zip_getattribute.bind (.ref z);have u:=wu;unfold getAttr? getAttrBy? getAttrBy
 repeat(any_goals(first|assumption|show j _|((with_reducible change jS _ _ (call (jo "zip.__getattribute__") _ _) _ _ _);show vC F.slot_zip_getattribute (j _) i9 (F.args_zip_getattribute_2 _ _) (Cb z Z _ _ wH (by rfl') (by size_fits)) (f,D,λB t e H=>?_))|wp_step))
 show zQ H.there λq v x=>?_;change jS _ _ (getattributeRaised _ _ _ _ _ _ _) _ _ _;unfold getattributeRaised;repeat(any_goals(first|assumption|wp_step))
 show h _ _ H.keeps
section
variable{prog:j8}{w:uj}{A:uv}{E:ZW}{s:jQ}{z TI TO i1 i2 l1 l2:jP}{its ist:ZY}{ps:List (Key×Value)}{Q:ZW}
theorem ye(hh:A.handled=Qs)(D:Qaw z TI TO i1 i2 l1 l2)(y:vK s.heap z TI TO .none)(q:IsPair s.heap TI (.ref i1) (.ref i2))(Z:∃a b,IsPair s.heap TO a b)(h1:s.heap.IsListIter i1 l1 0)(h2:s.heap.IsListIter i2 l2 0)(P:s.heap.IsList l1 its.toArray)(g:s.heap.IsList l2 ist.toArray)
 (e1:Qa its=Qa ps) (e2:Qa ist=Qa ps) (U:Qa ps<=sizeLine) (hk:∀(j:Nat) u (p:Key×Value),its[j]?=Qr u->ps[j]?=Qr p->pH p.1 u=true) (hv:∀(j:Nat) v (p:Key×Value),ist[j]?=Qr v->ps[j]?=Qr p->v=p.2)
 (R:∀I J,(∀c o,c≠z->c≠TO->c≠i1->c≠i2->s.heap.get? c=Qr o->I.get? c=Qr o)->I.DictOf (YK prog w) s.heap.objs.size (Ij [] ps)->Q (.ref s.heap.objs.size) {s with heap:=I,toks:=J}):
 jS (ud prog w) A (call (.type "dict") [.ref z]) Q E s:=by
 show callType_codes (Q₁:=λobj S=>obj=.ref s.heap.objs.size/\S= {s with heap:=s.heap.push {cls:=.type "dict",data:=.dict #[]} }) F.kt_called_dict (F.kt_typeCall_dict_1 _) F.entry_dict_init (kt_code_dict_new _ (rfl,rfl)) ?_;rintro obj S ⟨rfl,rfl⟩;have f:(s.heap.push {cls:=.type "dict",data:=.dict #[]}).DictOf (YK prog w) s.heap.objs.size []:=Heap.DictOf.new s.heap;have x:∀c o,s.heap.get? c=Qr o->(s.heap.push {cls:=.type "dict",data:=.dict #[]}).get? c=Qr o:=λc o e=>Qf _ e;show(f.typeIs,F.args_dict_init_2 _ _,?_)
 unfold Builtin.«dict.__init__»
 show jM ?_;unfold Builtin.Dict.selfAndRest;show jM (wpAny_notOrdered_dict f.typeIs ?_);change jS _ _ (pure (Prod.mk s.heap.objs.size [Qw z])) _ _ _;show jN ?_;change jS _ _ (Builtin.Dict.updateFrom "dict.__init__" s.heap.objs.size (.ref z) [] .none) _ _ _;unfold Builtin.Dict.updateFrom;show jM (vR (show({s with heap:=s.heap.push {cls:=.type "dict",data:=.dict #[]} }:jQ).TypeIs (.ref z) "zip"from(_,x _ _ y,rfl)) ?_);rw[Zx ∅];show jM (wY (s:= {s with heap:=s.heap.push {cls:=.type "dict",data:=.dict #[]} }) (x _ _ y) hh λm C B=>?_);rw[show(Qs:Option Value).isNone=true from rfl,Zx rfl];show jM (vf ?_);have Y:∀c o,s.heap.get? c=Qr o->m.get? c=Qr o:=λc o e=>B c o (x c o e);have a2:m.DictOf (YK prog w) s.heap.objs.size []:=by show Jo f λO es ep e r=>(O,es,ep,B _ _ e,r)
 have ne:∀{b:jP} {O:Obj},s.heap.get? b=Qr O->s.heap.objs.size≠b:=λe=>QY (Qn e);show zQ Z ?_;clear Z;intro a b Z;show jM (vX (s:= {s with heap:=m,toks:=C}) (Y _ _ y) ?_);show jN (vn Yq _,?_);have n1:s.heap.objs.size≠i1:=by show Zf h1 λo e _=>ne e
 have n2:s.heap.objs.size≠i2:=by show Zf h2 λo e _=>ne e
 have m1:s.heap.objs.size≠l1:=by show Zf P λo e _=>ne e
 have m2:s.heap.objs.size≠l2:=by show Zf g λo e _=>ne e
 show Kf (A:=A.in1) hh D (ne y) (ne q) (ne Z) n1 n2 m1 m2 e1 e2 U hk hv (Qa ps) 0 {s with heap:=m,toks:=C} [] rfl (Qo _) (Qg _) (.inl (Y _ _ y,a,b,Y _ _ Z)) (Y _ _ q) (h1.at λo e=>Y _ o e) (h2.at λo e=>Y _ o e) (P.at λo e=>Y _ o e) (g.at λo e=>Y _ o e) a2 λh3 J M a1=>?_;show(rfl,R h3 J (λc o c1 c2 c3 c4 e=>M c o (Ne.symm (ne e)) c1 c2 c3 c4 (Y c o e)) a1)
end
section
variable{X:Cx}
noncomputable def rK(p:List (Zg))(x:ZE):List (Key×V):=(p.map λq=>(Sum.inr (T q):Key)).zip x
theorem PF:∀(p:List (Zg)) (x:ZE) (u:ZY),Qa p=Qa x->ZQ x u->KV (rK p x) ((p.map λq=>(Sum.inr (T q):Key)).zip u):=by intro p;induction p with|nil=>intro x u _ _;show .nil|cons k p I=>show λx u h v=>by cases v with|nil=>cases h|cons r R=>show .cons (rfl,r) (I _ _ (Nat.succ.inj h) R)
def K4(K:Qb)(Q:VK):ZE->Hp->Prop:=λv H=>aR (λa=>aR λb=>a0 (
 ∃(p:List (Zg)) (x:ZE),SqL K H a (p.map λq=>V.str (T q))/\SqL K H b x/\Qa p=Qa x/\∀d,H d=Qs->Q (.ref d) (upd H d (.dK (ij (rK p x) [])))
 )) v
def Lq(K:Qb)(t:TA):TE:=λD H Q=>t D H (K4 K Q)
theorem KH{K:Qb}{x y:uI}{ta:TA}{p0 p Z pos:Pos}(hK:X.K=K)(hc:X.calm=true)(a7:X.mg "dict"=Qs)(a8:X.mg "zip"=Qs)(ha:PA X [x,y] ta)
 (a6:autoParam (Gl X "dict") ZF) (a1:autoParam (Gl X "zip") ZF) (hs:autoParam (uc [x,y] X.env=[(false,eval x X.env),(false,eval y X.env)]) ZF) (z:autoParam (uc [y] X.env=[(false,eval y X.env)]) ZF)
 (U:autoParam (uc [.Call (.Name "zip" p) [x,y] [] Z] X.env=[(false,eval (.Call (.Name "zip" p) [x,y] [] Z) X.env)]) ZF):
 PE X (.Call (.Name "dict" p0) [.Call (.Name "zip" p) [x,y] [] Z] [] pos) (Lq K ta):=by
 subst hK;intro Zc s σ H Q I h;show uJ (JL I a6 a7 Ma ?_);show PyProof.Rows.callWith_type1 ?_ U rfl;rw[U];change jS _ _ (spliced ((false,_)::[])) _ _ s;show Calls.spliced_cons ?_;show Qbg (JL I a1 a8 Cu (PyProof.Rows.callWith_type1 (thn (ha Z Zc s σ H _ I h) λus S m=>Zy m λvs H1 J r1 Y=>?_) (by rw[hs,z]) (by rw[z];rfl)));clear m;obtain⟨a,b,rfl,Y⟩:=aR2 Y
 ·
  show ze Y λt d a3 a5 el q=>?_;clear Y;show Zy (wq r1) λu1 u2 M r r'=>?_;subst M;cases r;cases r';show Zz (J.list a3) λab C O z1=>?_;show Zz (J.list a5) λf R p2 z2=>?_;show call_zip_2 O.isList p2.isList λB k1 k2 k3 k4 k5 k6 k7=>?_;show Calls.spliced_nil ?_;have la:a<S.heap.objs.size:=by show Zf O.isList λo q _=>Qn q
  have lb:b<S.heap.objs.size:=by show Zf p2.isList λo q _=>Qn q
  have D:=xQ la lb;have l1:=C.length;have l2:=R.length;rw[jO]at l1
  have lp:Qa ((t.map λq=>(Sum.inr (T q):Key)).zip f)=Qa t:=by
   rw[jm,jO]
   lia
  have al:B.objs.size=S.heap.objs.size+5:=k6;show ye (s:= {S with heap:=B}) (ps:=(t.map λq=>(Sum.inr (T q):Key)).zip f) (J.ok.hd hc) D k1 k2 (_,_,k3) k4 k5 (O.isList.at λo e=>k7 _ o e) (p2.isList.at λo e=>k7 _ o e) (by rw[lp];lia) (by rw[lp];lia) (by rw[lp];lia) (λj u p g1 g2=>?_) (λj v p g1 g2=>?_) λh3 tk keep dd=>?_
  .obtain⟨g3,g4⟩:=Ws.mp g2;rw[Qm]at g3;show Zf (Qv.mp g3) λq' a4 e'=>?_;have rk:zf (V.str (T q')) u:=by show Zf (C.get (i:=j) (x:=V.str (T q')) (by rw[Qm,a4];rfl)) λu' hu ru=>?_;rw[g1]at hu;cases hu;show ru
   rw[<-e'];show xt (P:=X.prog) (w:=X.w) (k:=Sum.inr (T q')) rk
  .obtain⟨g3,g4⟩:=Ws.mp g2;rw[g1]at g4;show Option.some.inj g4
  have lf:=Bg (rK t d) []
  have am:Qa (rK t d)=Qa t:=by
   unfold rK;rw[jm,jO]
   lia
  rw[uC]at lf;have a2:=J.big;have ak:sizeLine=16777216:=jT;have up:∀c o,S.heap.get? c=Qr o->h3.get? c=Qr o:=λc o e=>by have lc:=Qn e;have E:∀k:Nat,c≠(S.heap.objs.size+k:Nat):=λk=>Qu (Qp lc (Q6 _ _));show keep c o (E 4) (E 3) (E 0) (E 1) (k7 c o e)
  have g:S.heap.objs.size<=B.objs.size:=⋯
  show(.ref B.objs.size,_,J.laid (a:=B.objs.size) (o:=.dK (ij (rK t d) [])) (t':=tk) up g (⋯,beq_false_of_ne (QY (Qp a2 g)),_,KV.fill (PF t d f el R) .nil,dd),rfl,q _ (J.hok.fresh g))
theorem FJ{K:Qb}{P:Qa0}{A:jP}{y:List (Str×V)}(H:X.K=K)(u:X.w.params=P)(D:sv K P A y):OpR X (uD .NotIn) (yS true A y):=by subst H u;show Kv D
theorem Ph{K:Qb}{P:Qa0}{A:jP}{y:List (Str×V)}(H:X.K=K)(u:X.w.params=P)(D:sv K P A y):IxR X (oE A y):=by subst H u;show IA D
end
theorem ND{K:Qb}{P:Qa0}{mg:z9}{a:jP}{y:List (Str×V)}{Y:List (Str×Str)}(D:sv K P a y)(h:∀p∈Y,∃f,mg p.2=Qr (.ref f)/\lu y p.1=Qr (.ref f)):OJ K P mg a Y:=by
 show(y,D,λz r e=>?_);show Zf (Qv.mp e) λp H Z=>?_;subst Z;show Zf (h p (Wr H)) λf q C=>?_;have B:p.1=z:=by simpa using List.find?_some H
 show(f,q,B▸C)
end L2
namespace LD
open PySem L2 LP NumText
noncomputable def cd(s:String):Zg:=L (Qe s)
theorem dG(s:String):T (cd s)=Qe s:=T_L _
noncomputable def A5:Nat->String
 |0=>"word name rest"
 |1=>"word name"
 |2=>"word name number"
 |3=>"word name number rest"
 |_=>"word name other"
noncomputable def Ea:List (String×Nat):=[("keep",0),("load",0),("ahead",0),("drop",1),("off",2),("text",1),("pack",1),("count",0),("find",0),("near",3),("often",2),("kinds",1),("lone",1),("cut",0),("both",4)]
noncomputable def Y9:Nat->List (Zg)
 |0=>[cd "word",cd "name",cd "rest"]
 |1=>[cd "word",cd "name"]
 |2=>[cd "word",cd "name",cd "number"]
 |3=>[cd "word",cd "name",cd "number",cd "rest"]
 |_=>[cd "word",cd "name",cd "other"]
noncomputable def pE(w:Zg):Option Nat:=(Ea.find? λp=>cd p.1=w).map (·.2)
theorem EU(w:Zg):∀l:List (String×Nat),lu (l.map λp=>(Qe p.1,V.str (Qe (A5 p.2)))) (T w)=((l.find? λp=>cd p.1=w).map (·.2)).map λi=>V.str (Qe (A5 i))
 |[]=>rfl
 |p::r=>by
  rw[uo,Uj];unfold lu;by_cases h:cd p.1=w
  .have e:Qe p.1=T w:=by rw[<-h,dG]
   rw[Zx e,decide_eq_true h];rfl
  have e:¬Qe p.1=T w:=λz=>h (by change L (Qe p.1)=w;rw[z,L_T]);rw[Zo e,decide_eq_false h];show EU w r
theorem Io(h:pE w=Qr i):i<5:=by
 show Zf (Qv.mp h) λp H z=>?_;subst z;have m:=Wr H;have all:∀p∈Ea,p.2<5:=by decide
 show all p m
theorem Lh:∀i,i<5->spl 32 (Qa (cd (A5 i))+1) (cd (A5 i))=Y9 i:=by rfl'
theorem CI:∀i,i<5->Qa (Y9 i)=if i=1 then 2 else if i=3 then 4 else 3:=by rfl'
noncomputable def IY:Nat->Zg
 |0=>cd "rest"
 |1=>cd "name"
 |2=>cd "number"
 |3=>cd "rest"
 |_=>cd "other"
theorem T6(h:i<5):i=0\/i=1\/i=2\/i=3\/i=4:=⋯
theorem Fz(H:i<5):atI ((Y9 i).map λw=>V.str (T w)) (-1)=Qr (V.str (T (IY i))):=by rcases T6 H with rfl|rfl|rfl|rfl|rfl<;>rfl
theorem CS:∀i,i<5->decide (IY i=cd "rest")=decide (i=0\/i=3):=by rfl'
noncomputable def fw(r:Zg):Zg:=r.takeWhile λc=>decide (c≠32)
theorem lP(r:Zg)(h:32∉p):fw (p++32::r)=p:=by unfold fw;rw[Wb (by intro c H;simp;rintro rfl;show h H)];simp
theorem Ed:∀{p:Zg},32∉p->fw p=p
 |[],_=>rfl
 |x::p,h=>by have H:x≠32:=λe=>h (by simp[e]);have C:32∉p:=λe=>h (by simp[e]);unfold fw;rw[Wh (by simpa using H)];show congrArg (x::·) (Ed C)
theorem T9(h:r[k]?=Qr 32)(j:∀v,v<k->r[v]?≠Qr 32):fw r=r.take k:=by
 have e:r=r.take k++32::r.drop (k+1):=by have H:=(Qh.mp h);obtain⟨H,e⟩:=H;rw[<-e,<-Q7 H,QK]
 rw[e];have q:32∉r.take k:=λm=>by obtain⟨v,M,E⟩:=Vm.mp m;rw[jZ]at M;rw[UX]at E;show j v ⋯ (by rw[Qd ⋯,E])
 rw[lP _ q];have H:=(Qh.mp h).1;rw[V7 (by rw[jZ];lia),Wg,WF]
theorem Xa(H:∀v:Nat,r[v]?≠Qr 32):fw r=r:=Ed λm=>by obtain⟨v,M,E⟩:=Vm.mp m;show H v (by rw[Qd M,E])
theorem sf(c:Nat):∀(n:Nat) (l:Zg),∀w∈spl c n l,Qa w<=Qa l
 |n,[],w,h=>by
  have:w=[]:=by simpa [spl]using h
  simp[this]
 |0,x::r,w,h=>by
  have:w=x::r:=by simpa [spl]using h
  simp[this]
 |n+1,x::r,w,h=>by
  unfold spl at h;split at h
  .rcases ui.mp h with rfl|h;simp;have:=sf c n r w h;simp only[jV]
   lia
  cases H:spl c (n+1) r with
  |nil=>show ZD H (lr c (n+1) r)
  |cons v Y=>
   rw[H]at h;have I:=sf c (n+1) r;rw[H]at I;rcases ui.mp h with rfl|h
   .have:=I v (ub ..);simp only[jV,uN,u9]
    lia
   have:=I w (ua _ h);simp only[jV]
   lia
noncomputable def bR(i:Nat)(r:Zg):List (Zg):=if i=0\/i=3 then spl 32 (Qa (Y9 i)-1) r else spl 32 (Qa r+1) r
theorem Np(h:w∈bR i r):Qa w<=Qa r:=by unfold bR at h;split at h;show sf _ _ _ _ h;show sf _ _ _ _ h
theorem EF(i:Nat)(r:Zg)(k:Nat):Qa ((bR i r).getD k [])<=Qa r:=by
 rw[Qc]
 cases h:(bR i r)[k]? with
 |none=>simp
 |some w=>show Np (QD h)
def JC(r:Zg)(i:Nat)(Z:List (Zg)):Prop:=pE (fw r)=Qr i/\Z=bR i r/\Qa Z=Qa (Y9 i)/\((i=2\/i=3)->Jm (Z.getD 2 []))
theorem JC.uniq(a:JC r i ws)(b:JC r j vs):i=j/\ws=vs:=by have e:i=j:=Option.some.inj (a.1.symm.trans b.1);subst e;show(rfl,a.2.1.trans b.2.1.symm)
abbrev ky(s:String):Key:=.inr (T (cd s))
noncomputable def zR(i:Nat)(Z:List (Zg)):List (Key×V):=(ky "word",V.str (T (Z.getD 0 [])))::(ky "name",V.str (T (Z.getD 1 [])))::
 (if i=0 then[(ky "rest",V.str (T (Z.getD 2 [])))]else if i=1 then[]else if i=2 then[(ky "number",V.int (digitsVal (Z.getD 2 []):Nat))]else if i=3 then[(ky "number",V.int (digitsVal (Z.getD 2 []):Nat)),(ky "rest",V.str (T (Z.getD 3 [])))]else[(ky "other",V.str (T (Z.getD 2 [])))])
noncomputable def J0(i:Nat)(Z:List (Zg)):List (Key×V):=(ky "word",V.str (T (Z.getD 0 [])))::(ky "name",V.str (T (Z.getD 1 [])))::
 (if i=0 then[(ky "rest",V.str (T (Z.getD 2 [])))]else if i=1 then[]else if i=2 then[(ky "number",V.str (T (Z.getD 2 [])))]else if i=3 then[(ky "number",V.str (T (Z.getD 2 []))),(ky "rest",V.str (T (Z.getD 3 [])))]else[(ky "other",V.str (T (Z.getD 2 [])))])
noncomputable def kf:List String:=["word","name","rest","number","other"]
theorem d8:∀a∈kf,∀b∈kf,a≠b->cd a≠cd b:=by rfl'
theorem ah(h:cd a≠cd b):(ky a=ky b)=False:=by rw[eq_iff_iff,iff_false];intro z;show h (xb.mp (Sum.inr.inj z))
theorem rW{α:Type}{l:List α}{n:Nat}(h:Qa l=n+1):∃a r,l=a::r/\Qa r=n:=by
 cases l with
 |nil=>cases h
 |cons a r=>show(a,r,rfl,Nat.succ.inj h)
theorem LC{α:Type}{l:List α}(h:Qa l=2):∃a b,l=[a,b]:=by obtain⟨a,l,rfl,g⟩:=rW h;obtain⟨b,l,rfl,g2⟩:=rW g;show(a,b,by rw[vw.mp g2])
theorem ni{α:Type}{l:List α}(h:Qa l=3):∃a b c,l=[a,b,c]:=by obtain⟨a,l,rfl,g⟩:=rW h;obtain⟨b,c,rfl⟩:=LC g;show(a,b,c,rfl)
theorem Ff(m:i<5)(H:Qa Z=Qa (Y9 i)):ij (rK (Y9 i) (Z.map λw=>V.str (T w))) []=J0 i Z:=by have q:∀a∈kf,∀b∈kf,a≠b->(ky a=ky b)=False:=λa I b S n=>ah (d8 a I b S n);have Q:=q "word" ∅ "name" ∅ ∅;have j:=q "word" ∅ "rest" ∅ ∅;have r:=q "word" ∅ "number" ∅ ∅;have B:=q "word" ∅ "other" ∅ ∅;have M:=q "name" ∅ "rest" ∅ ∅;have Y:=q "name" ∅ "number" ∅ ∅;have f:=q "name" ∅ "other" ∅ ∅;have p:=q "number" ∅ "rest" ∅ ∅;rcases T6 m with rfl|rfl|rfl|rfl|rfl;obtain⟨a,b,c,rfl⟩:=ni H;simp[Y9,rK,ij,cE,J0,Q,j,M];obtain⟨a,b,rfl⟩:=LC H;simp[Y9,rK,ij,cE,J0,Q];obtain⟨a,b,c,rfl⟩:=ni H;simp[Y9,rK,ij,cE,J0,Q,r,Y];obtain⟨a,Z,rfl,g⟩:=rW H;obtain⟨b,c,d,rfl⟩:=ni g;simp[Y9,rK,ij,cE,J0,Q,j,r,M,Y,p];obtain⟨a,b,c,rfl⟩:=ni H;simp[Y9,rK,ij,cE,J0,Q,B,f]
theorem wo(m:i<5)(Z:List (Zg)):qw (J0 i Z) (ky "number")=if i=2\/i=3 then Qr (V.str (T (Z.getD 2 [])))else none:=by
 have q:∀a∈kf,∀b∈kf,a≠b->(ky a=ky b)=False:=λa I b H n=>ah (d8 a I b H n);have Q:=q "word" ∅ "number" ∅ ∅;have j:=q "name" ∅ "number" ∅ ∅;have r:=q "rest" ∅ "number" ∅ ∅;have B:=q "other" ∅ "number" ∅ ∅
 match i,m with
 |0,_=>simp[J0,qw,Q,j,r]
 |1,_=>simp[J0,qw,Q,j,r]
 |2,_=>simp[J0,qw,Q,j,r]
 |3,_=>simp[J0,qw,Q,j,r]
 |4,_=>simp[J0,qw,Q,j,B]
theorem Dj(m:i<5)(H:i=2\/i=3)(Z:List (Zg)):cE (J0 i Z) (ky "number") (V.int (digitsVal (Z.getD 2 []):Nat))=zR i Z:=by have q:∀a∈kf,∀b∈kf,a≠b->(ky a=ky b)=False:=λa I b S n=>ah (d8 a I b S n);have Q:=q "word" ∅ "number" ∅ ∅;have j:=q "name" ∅ "number" ∅ ∅;have r:=q "rest" ∅ "number" ∅ ∅;rcases H with rfl|rfl;simp[J0,zR,cE,Q,j,r];simp[J0,zR,cE,Q,j,r]
theorem NC(H:¬(i=2\/i=3))(Z:List (Zg)):J0 i Z=zR i Z:=by unfold J0 zR;rw[Zo (c:=i=2) λz=>H (.inl z),Zo (c:=i=3) λz=>H (.inr z),Zo (c:=i=2) λz=>H (.inl z),Zo (c:=i=3) λz=>H (.inr z)]
theorem Lz(i:Nat)(Z:List (Zg)):Qa (J0 i Z)<=4:=by
 unfold J0
 repeat' split
 all_goals simp
theorem Ca(i:Nat)(Z:List (Zg)):qw (zR i Z) (ky "word")=Qr (V.str (T (Z.getD 0 []))):=JB (p:=(ky "word",_)) rfl
theorem Y7(i:Nat)(Z:List (Zg)):qw (zR i Z) (ky "name")=Qr (V.str (T (Z.getD 1 []))):=by have q:=ah (d8 "word" ∅ "name" ∅ ∅);show(qt (p:=(ky "word",_)) (by rw[q];show id)).trans (JB (p:=(ky "name",_)) rfl)
theorem fA(Z:List (Zg)):qw (zR 0 Z) (ky "rest")=Qr (V.str (T (Z.getD 2 []))):=by have q:=ah (d8 "word" ∅ "rest" ∅ ∅);have Q:=ah (d8 "name" ∅ "rest" ∅ ∅);simp[zR,qw,q,Q]
theorem xP(m:i<5)(Z:List (Zg)):qw (zR i Z) (ky "other")=if i=4 then Qr (V.str (T (Z.getD 2 [])))else none:=by
 have q:∀a∈kf,∀b∈kf,a≠b->(ky a=ky b)=False:=λa I b H n=>ah (d8 a I b H n);have Q:=q "word" ∅ "other" ∅ ∅;have j:=q "name" ∅ "other" ∅ ∅;have r:=q "rest" ∅ "other" ∅ ∅;have B:=q "number" ∅ "other" ∅ ∅
 match i,m with
 |0,_=>simp[zR,qw,Q,j,r]
 |1,_=>simp[zR,qw,Q,j,r]
 |2,_=>simp[zR,qw,Q,j,B]
 |3,_=>simp[zR,qw,Q,j,r,B]
 |4,_=>simp[zR,qw,Q,j,r]
theorem _root_.L2.DGet.kys(h:H d=Qr (.dK kvs))(s:String):DGet H d (V.str (Qe s)) (qw kvs (ky s)):=by
 have e:V.str (Qe s)=kV (ky s):=by change _=V.str (T (cd s));rw[dG]
 rw[e];show DGet.k h
abbrev YF:=List (Zg×Zg)
noncomputable def txK(kept:YF):List (Key×V):=kept.map λp=>((.inr (T p.1):Key),V.str (T p.2))
noncomputable def qa(kept:YF)(n:Zg):Option (Zg):=(kept.find? λp=>p.1=n).map (·.2)
noncomputable def i6(kept:YF)(n x:Zg):YF:=if(qa kept n).isSome then kept.map (λp=>if p.1=n then Prod.mk p.1 x else p)else kept++[(n,x)]
theorem nu(n:Zg):∀O:YF,qw (txK O) (.inr (T n))=(qa O n).map λx=>V.str (T x)
 |[]=>rfl
 |p::r=>by
  by_cases h:p.1=n
  .have E:qw (txK (p::r)) (.inr (T n))=Qr (V.str (T p.2)):=JB (p:=((.inr (T p.1):Key),V.str (T p.2))) (r:=txK r) (by rw[h]);rw[E];unfold qa;rw[Uj,decide_eq_true h];rfl
  have E:qw (txK (p::r)) (.inr (T n))=qw (txK r) (.inr (T n)):=qt (p:=((.inr (T p.1):Key),V.str (T p.2))) (r:=txK r) λz=>h (xb.mp (Sum.inr.inj z));rw[E,nu n r];unfold qa;rw[Uj,decide_eq_false h]
theorem EB(O:YF)(n x:Zg):cE (txK O) (.inr (T n)) (V.str (T x))=txK (i6 O n x):=by
 unfold cE i6;rw[wj,nu,Va]
 cases(qa O n).isSome with
 |true=>
  rw[Zx rfl,Zx rfl];unfold txK;rw[u6,u6];show uM λp _=>?_;change(if(Sum.inr (T p.1):Key)=.inr (T n)then _ else _)=_;by_cases h:p.1=n
  .rw[Zx (by rw[h])];change _=Prod.mk (Sum.inr (T (if p.1=n then Prod.mk p.1 x else p).1):Key) (V.str (T (if p.1=n then Prod.mk p.1 x else p).2));rw[Zx h]
  rw[Zo λz=>h (xb.mp (Sum.inr.inj z))];change _=Prod.mk (Sum.inr (T (if p.1=n then Prod.mk p.1 x else p).1):Key) (V.str (T (if p.1=n then Prod.mk p.1 x else p).2));rw[Zo h]
 |false=>
  rw[Zo ∅,Zo ∅];unfold txK;rw[uh];rfl
def qz(n:Zg):Prop:=1<=n.length/\n.length<=8/\∀c∈n,97<=c/\c<=122
def xV(O:YF)(i:Nat)(Z:List (Zg)):Prop:=((Z.getD 0 []=cd "keep"\/Z.getD 0 []=cd "load")->qz (Z.getD 1 []))/\(¬(Z.getD 0 []=cd "keep"\/Z.getD 0 []=cd "load")->(qa O (Z.getD 1 [])).isSome=true/\(i=4->(qa O (Z.getD 2 [])).isSome=true))
noncomputable def fsD(t:jP):List (Str×V):=[("texts",.ref t)]
def qh(C:jP)(H:Hp)(o:jP)(t:jP)(O:YF):Prop:=(∃d,H o=Qr (.ins C d (fsD t)))/\H t=Qr (.dK (txK O))
theorem qh.same(d:qh C H o t kept)(s:zy H H'):qh C H' o t kept:=by obtain⟨⟨D,x⟩,I⟩:=d;show((D,s.at x (by nofun)),s.at I (by nofun))
theorem dc(n:Nat)(H:0<k):Qa (ZR (n:Int))<=k↔n<10 ^ k:=by rw[bP,jO];show Nat.length_toDigits_le_iff ∅ H
theorem Ku(n:Nat):0<Qa (ZR (n:Int)):=by rw[bP,jO];show Nat.length_toDigits_pos
theorem dv(h:n<2 ^ 200):n.log2<1920:=by
 by_cases H:n=0
 .subst H
  decide
 show(Nat.log2_lt H).mpr (Qp h (Nat.pow_le_pow_right ∅ ∅))
theorem qz.noB(h:qz n):32∉n:=λm=>by
 have:=h.2.2 32 m
 lia
end LD
namespace L2
open PySem
theorem Dg(M:Mkr X.prog X.w X.K X.mg X.base CX0 k x C ps dvs sp)(Y:YN (k+1) X.A)(Q:autoParam (Gl X x) ZF)(H:autoParam ((x==("__debug__":Str))=false) z8):PE X (.Call (.Name x p) [] [] pos) (B6 C sp dvs E0 oU):=by show cD M.ex λf g d F Z S hd=>KN Z F Y Q M.at_ S hd BI H
end L2
namespace LB
open PySem PySem.W PyProof.Rows
theorem xE{P:α×β×γ×δ×ε->Prop}(h:∀a b c d e,P (a,b,c,d,e)):∀x,P x:=λ_=>h ..
theorem Ew{P:α×β×γ×δ×ε×ζ->Prop}(h:∀a b c d e f,P (a,b,c,d,e,f)):∀x,P x:=λ_=>h ..
theorem Ex{P:α×β×γ×δ×ε×ζ×η->Prop}(h:∀a b c d e f g,P (a,b,c,d,e,f,g)):∀x,P x:=λ_=>h ..
noncomputable def gal:Bool->vo->Array vo->Nat->Nat->Nat->StateT j9 Sem (Option Nat):=sortPriv% PySem.Builtin.gallop
noncomputable def mlo:Array vo->Array vo->StateT j9 Sem (Array vo):=sortPriv% PySem.Builtin.mergeLo
noncomputable def mhi:Array vo->Array vo->StateT j9 Sem (Array vo):=sortPriv% PySem.Builtin.mergeHi
structure Ks(st st':j9):Prop where
 kind:kindOf st'=kindOf st
 arr:QaB st'=QaB st
 pend:vq st'=vq st
 fail:Qam st'=Qam st
theorem Ks.refl(st:j9):Ks st st:=(rfl,rfl,rfl,rfl)
theorem Ks.trans{a b c:j9}(x:Ks a b)(y:Ks b c):Ks a c:=(y.kind.trans x.kind,y.arr.trans x.arr,y.pend.trans x.pend,y.fail.trans x.fail)
section
variable{prog:j8}{w:uj}{A:uv}{E:ZW}{s:jQ}{κ:vm}{it:Array vo}{O:vV}{key:Nat->O.α}{n:Nat}
def Cmp(prog:j8)(w:uj)(A:uv)(s:jQ)(κ:vm)(it:Array vo)(key:Nat->O.α)(n:Nat):Prop:=
 ∀i j,i<n->j<n->∀Q:Bool->jQ->Prop,Q (O.blt (key i) (key j)) s->jS (ud prog w) A (keyLt' κ (u8 it i).1 (u8 it j).1) Q (λ_ _=>False) s
theorem Xo(U:Cmp prog w A s κ it key n){st:j9}(I:kindOf st=κ){i j:Nat}(H:i<n)(u:j<n){Q:Option Bool->j9->Prop}(h:Q (Qr (O.blt (key i) (key j))) st):wpS (ud prog w) A E s (lt' (u8 it i) (u8 it j)) Q st:=by rw[lt'_eq];show jU (Qaf ?_);rw[I];show jU (Qav (uG (uE (U i j H u (λa S=>S=s/\a=O.blt (key i) (key j)) (rfl,rfl)) ?_ λ_ _ z=>z.elim)));rintro a S ⟨rfl,rfl⟩;show(rfl,jY h)
def Ah(prog:j8)(w:uj)(A:uv)(s:jQ)(κ:vm)(it:Array vo)(key:Nat->O.α)(n:Nat):Prop:=
 ∀i j,j<i->i<n->∀Q:Bool->jQ->Prop,Q (O.blt (key i) (key j)) s->jS (ud prog w) A (keyLt' κ (u8 it i).1 (u8 it j).1) Q (λ_ _=>False) s
theorem yB(U:Ah prog w A s κ it key n){st:j9}(I:kindOf st=κ){i j:Nat}(u:j<i)(H:i<n){Q:Option Bool->j9->Prop}(h:Q (Qr (O.blt (key i) (key j))) st):wpS (ud prog w) A E s (lt' (u8 it i) (u8 it j)) Q st:=by rw[lt'_eq];show jU (Qaf ?_);rw[I];show jU (Qav (uG (uE (U i j u H (λa S=>S=s/\a=O.blt (key i) (key j)) (rfl,rfl)) ?_ λ_ _ z=>z.elim)));rintro a S ⟨rfl,rfl⟩;show(rfl,jY h)
noncomputable def AL(it:Array vo)(l:Zg):Array vo:=(l.map (u8 it)).toArray
theorem cW(l:Zg):(AL it l).size=Qa l:=by simp[AL]
theorem km(H:i<Qa l):(AL it l)[i]?=Qr (u8 it (l.getD i 0)):=by simp[AL,H,Qc]
theorem lB(l:Zg)(x:Nat):(AL it l).push (u8 it x)=AL it (l++[x]):=by simp[AL]
theorem dy(l m:Zg):AL it l++AL it m=AL it (l++m):=by simp[AL]
theorem sj(l:Zg)(i j:Nat):(AL it l).extract i j=AL it ((l.drop i).take (j-i)):=by simp[AL,List.extract_eq_take_drop,List.map_drop,map_take]
theorem Ci(l:Zg):(AL it l).reverse=AL it l.reverse:=by simp[AL]
theorem zH{l:Zg}{i:Nat}(H:i<Qa l){st:j9}{Q:vo->j9->Prop}(h:Q (u8 it (l.getD i 0)) st):wpS (ud prog w) A E s (elem' (AL it l) i) Q st:=by rw[elem'_eq,km H];show jY h
noncomputable def bey(key:Nat->O.α)(left:Bool)(x y:Nat):Bool:=if left then O.blt (key y) (key x)else !O.blt (key x) (key y)
def Bhd:Bool->Nat->Nat->Prop
 |true,x,y=>x<y
 |false,x,y=>y<x
theorem sD(U:Ah prog w A s κ it key n){left:Bool}{x:Nat}{l:Zg}{b i:Nat}(P:∀y∈l,y<n)(f:x<n)(H:b+i<Qa l)(hd:Bhd left x (l.getD (b+i) 0)){st:j9}(I:kindOf st=κ){Q:Option Bool->j9->Prop}(h:Q (Qr (bey key left x (l.getD (b+i) 0))) st):
 wpS (ud prog w) A E s (elem' (AL it l) (b+i) >>=λz=>if left=true then lt' z (u8 it x)else lt' (u8 it x) z >>=λr=>pure (VP (λx=> !x) r)) Q st:=by
 have p:l.getD (b+i) 0<n:=by show P _ ?_;rw[Qc,Qd H];simp
 show jU (zH H ?_);unfold bey at h
 cases left with
 |true=>show yB U I hd p h
 |false=>show jU (yB U I hd f (jY h))
theorem NS{M:vJ}(P:Nat->Bool){m:Nat}{st:j9}{f:Nat->Option (Option Nat)×Nat×Nat->StateT j9 Sem (ForInStep (Option (Option Nat)×Nat×Nat))}
 (q:∀i lo H,lo ≥ H->wpS M A E s (f i (Qs,lo,H)) (λr S=>S=st/\r=.done (Qs,lo,H)) st)
 (B:∀i lo H,lo<H->H<=m->wpS M A E s (f i (Qs,lo,H)) (λr S=>S=st/\r=.yield (if P (lo+(H-lo)/2)=true then(Qs,lo+(H-lo)/2+1,H)else(Qs,lo,lo+(H-lo)/2))) st)
 (R:∀i j,i<=j->j<m->P j=true->P i=true) {lo H:Nat} (y:lo<=H) (J:H<=m) (Q:∀i,i<lo->P i=true) (d:∀i,H<=i->i<m->P i=false):
 wpS M A E s (forIn [0:m] ((Qs,lo,H):Option (Option Nat)×Nat×Nat) f) (λc S=>S=st/\∃k t,c=(Qs,t,k)/\k<=m/\(∀i,i<k->P i=true)/\∀i,k<=i->i<m->P i=false) st:=by
 show uP (I:=λx c S=>S=st/\∃lo H,c=(Qs,lo,H)/\lo<=H/\H<=m/\H-lo<=m-x/\(∀i,i<lo->P i=true)/\∀i,H<=i->i<m->P i=false) ?_ ?_ (rfl,lo,H,rfl,y,J,⋯,Q,d)
 .rintro x c S _ g ⟨rfl,lo,H,rfl,y,J,p,Q,d⟩;rcases Ur lo H with h|h
  .show u0 (B x lo H h J) ?_;rintro r S ⟨rfl,rfl⟩;show(rfl,?_);by_cases e:P (lo+(H-lo)/2)=true
   .rw[Zx e];show(_,_,rfl,⋯,J,⋯,λi Y=>R i _ ⋯ ⋯ e,d)
   rw[Zo e];show(_,_,rfl,⋯,⋯,⋯,Q,λi Y Z=>?_)
   cases z:P i with
   |false=>rfl
   |true=>show ZD (R _ i Y Z z) e
  show u0 (q x lo H h) ?_;rintro r S ⟨rfl,rfl⟩;have:lo=H:=⋯
  subst this;show(rfl,lo,lo,rfl,J,Q,d)
 rintro c S ⟨rfl,lo,H,rfl,y,J,p,Q,d⟩;have:lo=H:=⋯
 subst this;show(rfl,lo,lo,rfl,J,Q,d)
theorem nN(Z:Ah prog w A s κ it key n){left:Bool}{x:Nat}{l:Zg}{b m h:Nat}(P:∀y∈l,y<n)(f:x<n)(hb:b+m<=Qa l)(hh:h<m)(hd:∀i,i<m->Bhd left x (l.getD (b+i) 0)){st:j9}(U:kindOf st=κ){Q:Option Nat->j9->Prop}
 (M:∀i j,i<=j->j<m->bey key left x (l.getD (b+j) 0)=true->bey key left x (l.getD (b+i) 0)=true)
 (q:∀k,k<=m->(∀i,i<k->bey key left x (l.getD (b+i) 0)=true)->(∀i,k<=i->i<m->bey key left x (l.getD (b+i) 0)=false)->Q (Qr k) st):
 wpS (ud prog w) A E s (gal left (u8 it x) (AL it l) b m h) Q st:=by
 unfold gal;show jU (sD Z P f ⋯ (hd _ ⋯) U ?_);dsimp only
 have neg:∀{i j},i<=j->j<m->bey key left x (l.getD (b+i) 0)=false->bey key left x (l.getD (b+j) 0)=false:=λ{i j} z J H=>by
  cases e:bey key left x (l.getD (b+j) 0)with
  |false=>rfl
  |true=>rw[M i j z J e]at H;cases H
 cases e0:bey key left x (l.getD (b+h) 0)with
 |true=>
  rw[Zx rfl]
  show jU (u0 (uP (I:=λi c S=>S=st/\∃lo o,c=(Qs,lo,o)/\lo<o/\i+1<=o/\h+lo<m/\bey key left x (l.getD (b+(h+lo)) 0)=true)
   (Q:=λc S=>S=st/\∃lo o,c=(Qs,lo,o)/\lo<o/\h+lo<m/\bey key left x (l.getD (b+(h+lo)) 0)=true/\(m-h<=o\/h+o<m/\bey key left x (l.getD (b+(h+o)) 0)=false)) ?_ ?_ (rfl,0,1,rfl,⋯,⋯,⋯,e0)) ?_)
  .rintro i c S _ p ⟨rfl,lo,o,rfl,z,J,H,d⟩;dsimp only;by_cases t:o ≥ m-h
   .rw[Zx t];show jY (rfl,lo,o,rfl,z,H,d,.inl t)
   rw[Zo t];show jU (sD Z P f ⋯ (hd _ ⋯) U ?_);dsimp only
   cases u:bey key left x (l.getD (b+(h+o)) 0)with
   |true=>
    show jY (rfl,o,2 * o+1,rfl,⋯,⋯,⋯,u)
   |false=>
    show jY (rfl,lo,o,rfl,z,H,d,.inr (⋯,u))
  .rintro c S ⟨rfl,lo,o,rfl,z,J,H,d⟩;show(rfl,lo,o,rfl,z,H,d,.inl ⋯)
  rintro c S ⟨rfl,lo,o,rfl,z,H,d,r⟩;dsimp only;show jU (u0 (NS (λi=>bey key left x (l.getD (b+i) 0)) (m:=m) (λi lo p R=>?_) (λi lo p v Y=>?_) M ⋯ ⋯ (λi p=>M i _ ⋯ H d) λi p Y=>?_) ?_)
  .dsimp only;rw[Zx R];show jY (rfl,rfl)
  .dsimp only;rw[Zo ⋯];show jU (sD Z P f ⋯ (hd _ ⋯) U ?_);dsimp only;cases bey key left x (l.getD (b+(lo+(p-lo)/2)) 0)<;>show jY (rfl,rfl)
  .rcases r with r|⟨r,D⟩
   lia
   show neg ⋯ Y D
  rintro c S ⟨rfl,k,a1,rfl,g,B,C⟩;show jY (q k g B C)
 |false=>
  rw[Zo Qk]
  show jU (u0 (uP (I:=λi c S=>S=st/\∃lo o,c=(Qs,lo,o)/\lo<o/\i+1<=o/\lo<=h/\bey key left x (l.getD (b+(h-lo)) 0)=false)
   (Q:=λc S=>S=st/\∃lo o,c=(Qs,lo,o)/\lo<o/\lo<=h/\bey key left x (l.getD (b+(h-lo)) 0)=false/\(h+1<=o\/o<=h/\bey key left x (l.getD (b+(h-o)) 0)=true)) ?_ ?_ (rfl,0,1,rfl,⋯,⋯,⋯,e0)) ?_)
  .rintro i c S _ p ⟨rfl,lo,o,rfl,z,J,H,d⟩;dsimp only;by_cases t:o ≥ h+1
   .rw[Zx t];show jY (rfl,lo,o,rfl,z,H,d,.inl t)
   rw[Zo t];show jU (sD Z P f ⋯ (hd _ ⋯) U ?_);dsimp only
   cases u:bey key left x (l.getD (b+(h-o)) 0)with
   |false=>
    show jY (rfl,o,2 * o+1,rfl,⋯,⋯,⋯,u)
   |true=>
    show jY (rfl,lo,o,rfl,z,H,d,.inr (⋯,u))
  .rintro c S ⟨rfl,lo,o,rfl,z,J,H,d⟩;show(rfl,lo,o,rfl,z,H,d,.inl ⋯)
  rintro c S ⟨rfl,lo,o,rfl,z,H,d,r⟩;dsimp only;show jU (u0 (NS (λi=>bey key left x (l.getD (b+i) 0)) (m:=m) (λi lo p R=>?_) (λi lo p v Y=>?_) M ⋯ ⋯ (λi p=>?_) λi p Y=>neg p Y d) ?_)
  .dsimp only;rw[Zx R];show jY (rfl,rfl)
  .dsimp only;rw[Zo ⋯];show jU (sD Z P f ⋯ (hd _ ⋯) U ?_);dsimp only;cases bey key left x (l.getD (b+(lo+(p-lo)/2)) 0)<;>show jY (rfl,rfl)
  .rcases r with r|⟨r,D⟩
   lia
   show M i _ ⋯ ⋯ D
  rintro c S ⟨rfl,k,a1,rfl,g,B,C⟩;show jY (q k g B C)
end
end LB
namespace LB
open PySem PySem.W PyProof.Rows
section
variable{prog:j8}{w:uj}{A:uv}{E:ZW}{s:jQ}{κ:vm}{it:Array vo}{O:vV}{key:Nat->O.α}{n:Nat}
def Srt(key:Nat->O.α)(l:Zg):Prop:=l.Pairwise λi j=>O.kle (key i) (key j)
theorem Srt.get(h:Srt key l)(S:i<=j)(H:j<Qa l):O.kle (key (l.getD i 0)) (key (l.getD j 0)):=by
 rcases Ur i j with w|w
 .have:=Ul.mp h i j ⋯ H w;rw[Qc,Qc,Qd H,Qd (show i<Qa l by lia)];show this
 have:i=j:=⋯
 subst this;show Uv _
theorem Srt.app(h:Srt key l)(H:Srt key m)(d:∀x∈l,∀y∈m,O.kle (key x) (key y)):Srt key (l++m):=U0.mpr (h,H,d)
theorem Srt.sub(h:Srt key l)(s:List.Sublist m l):Srt key m:=List.Pairwise.sublist s h
structure Mg(key:Nat->O.α)(la lb:Zg)(lo:Zg)(ia ib:Nat):Prop where
 srt:Srt key lo
 lea:∀x∈lo,∀y∈la.drop ia,O.kle (key x) (key y)
 leb:∀x∈lo,∀y∈lb.drop ib,O.kle (key x) (key y)
 perm:(lo++(la.drop ia++lb.drop ib)).Perm (la++lb)
section
variable{la lb lo:Zg}{ia ib:Nat}
theorem Mg.outA(h:Mg key la lb lo ia ib)(sa:Srt key la)(k:Nat)(d:∀x∈(la.drop ia).take k,∀y∈lb.drop ib,O.kle (key x) (key y)):Mg key la lb (lo++(la.drop ia).take k) (ia+k) ib:=by
 have e:(la.drop ia).take k++la.drop (ia+k)=la.drop ia:=by rw[<-UO,QK]
 have U:Srt key ((la.drop ia).take k++la.drop (ia+k)):=by rw[e];show sa.sub (Ve _ _)
 show ZL (U0.mp U) λS q z=>?_;show(h.srt.app S λx H y p=>h.lea x H y (Uc p),λx H y p=>?_,λx H y p=>?_,?_)
 .rcases ut.mp H with H|H;show h.lea x H y (by rw[<-e];show j0 _ p);show z x H y p
 .rcases ut.mp H with H|H;show h.leb x H y p;show d x H y p
 show List.Perm.trans (List.Perm.of_eq ?_) h.perm;rw[<-e,uq,uq];simp only[e]
theorem Mg.outB(h:Mg key la lb lo ia ib)(B:Srt key lb)(k:Nat)(d:∀x∈(lb.drop ib).take k,∀y∈la.drop ia,O.kle (key x) (key y)):Mg key la lb (lo++(lb.drop ib).take k) ia (ib+k):=by
 have e:(lb.drop ib).take k++lb.drop (ib+k)=lb.drop ib:=by rw[<-UO,QK]
 have U:Srt key ((lb.drop ib).take k++lb.drop (ib+k)):=by rw[e];show B.sub (Ve _ _)
 show ZL (U0.mp U) λS q z=>?_;show(h.srt.app S λx H y p=>h.leb x H y (Uc p),λx H y p=>?_,λx H y p=>?_,?_)
 .rcases ut.mp H with H|H;show h.lea x H y p;show d x H y p
 .rcases ut.mp H with H|H;show h.leb x H y (by rw[<-e];show j0 _ p);show z x H y p
 show List.Perm.trans ?_ h.perm;rw[uq];show List.Perm.append_left lo ?_;rw[<-uq];show List.Perm.trans (List.Perm.append_right _ Vi) ?_;rw[uq,e]
theorem pV{l:Zg}{i:Nat}(h:i<Qa l):(l.drop i).take 1=[l.getD i 0]:=by rw[Q7 h,QJ,Ue,Qc,Qd h];rfl
theorem Br{l:Zg}{i:Nat}{y:Nat}(h:y∈l.drop i):∃j,i<=j/\j<Qa l/\y=l.getD j 0:=by obtain⟨k,H,e⟩:=Vm.mp h;rw[uf]at H;show(i+k,⋯,⋯,?_);rw[Vt]at e;rw[Qc,Qd ⋯,<-e];rfl
theorem fS{l:Zg}{i k:Nat}{y:Nat}(h:y∈(l.drop i).take k):∃j,i<=j/\j<Qa l/\j<i+k/\y=l.getD j 0:=by obtain⟨j,H,e⟩:=Vm.mp h;rw[jZ,uf]at H;show(i+j,⋯,⋯,⋯,?_);rw[UX,Vt]at e;rw[Qc,Qd ⋯,<-e];rfl
end
theorem rM(l:Zg)(i:Nat):(AL it l).extract i (Qa l)=AL it (l.drop i):=by rw[sj,QL (by rw[uf];show Qg _)]
theorem xR(l:Zg)(i k:Nat):(AL it l).extract i (i+k)=AL it ((l.drop i).take k):=by rw[sj,Vc]
theorem GD(x:Nat):#[u8 it x]=AL it [x]:=rfl
def Res(it:Array vo)(key:Nat->O.α)(U f:Zg)(r:Array vo):Prop:=∃m,r=AL it m/\m.Perm (U++f)/\Srt key m
section
variable{la lb lo:Zg}{ia ib:Nat}
theorem Mg.stepA(h:Mg key la lb lo ia ib)(sa:Srt key la)(hi:ia<Qa la)(d:∀y∈lb.drop ib,O.kle (key (la.getD ia 0)) (key y)):Mg key la lb (lo++[la.getD ia 0]) (ia+1) ib:=by rw[<-pV hi];show h.outA sa 1 λx H=>?_;rw[pV hi]at H;rw[j5.mp H];show d
theorem Mg.stepB(h:Mg key la lb lo ia ib)(S:Srt key lb)(m:ib<Qa lb)(d:∀y∈la.drop ia,O.kle (key (lb.getD ib 0)) (key y)):Mg key la lb (lo++[lb.getD ib 0]) ia (ib+1):=by rw[<-pV m];show h.outB S 1 λx H=>?_;rw[pV m]at H;rw[j5.mp H];show d
theorem Mg.fin1(h:Mg key la lb lo ia ib)(sa:Srt key la)(S:Srt key lb)(H:ia=Qa la\/ib=Qa lb):Res it key la lb (AL it lo++(AL it la).extract ia (Qa la)++(AL it lb).extract ib (Qa lb)):=by
 rw[rM,rM,dy,dy,uq];show(_,rfl,h.perm,?_);rcases H with rfl|rfl
 .rw[UE,u9];show h.srt.app (S.sub (Ve _ _)) h.leb
 rw[UE,vx];show h.srt.app (sa.sub (Ve _ _)) h.lea
theorem Mg.fin2(h:Mg key la lb lo ia ib)(S:Srt key lb)(z:∀y∈lb,O.kle (key y) (key (la.getD (Qa la-1) 0)))(m:ia+1=Qa la):Res it key la lb (AL it lo++(AL it lb).extract ib (Qa lb)++(AL it la).extract ia (Qa la)):=by
 rw[rM,rM,dy,dy];show(_,rfl,?_,?_)
 .rw[uq];show List.Perm.trans (List.Perm.append_left lo Vi) h.perm
 have e:la.drop ia=[la.getD (Qa la-1) 0]:=by rw[<-QL (l:=la.drop ia) (i:=1) (by rw[uf];lia),pV ⋯,show Qa la-1=ia by lia]
 rw[e];show(h.srt.app (S.sub (Ve _ _)) h.leb).app (Wx _ _) λx H y p=>?_;rw[j5.mp p];rcases ut.mp H with H|H;show h.lea x H _ (by rw[e];show j5.mpr rfl);show z x (Uu H)
end
def In(it:Array vo)(key:Nat->O.α)(U f:Zg)(R:Array vo)(I Y:Nat):Prop:=∃lo,R=AL it lo/\Mg key U f lo I Y/\I+1<Qa U/\Y<Qa f
theorem zj{l:Zg}{i:Nat}(h:i<Qa l):l.getD i 0∈l:=by rw[Qc,Qd h];show QN h
noncomputable def Zay:Nat->StateT j9 Sem Unit:=sortPriv% PySem.Builtin.setMinGallop
theorem EI{M:vJ}{g:Nat}{st:j9}{Q:Unit->j9->Prop}(h:∀S,Ks st S->Q () S):wpS M A E s (Zay g) Q st:=vW (h _ (rfl,rfl,rfl,rfl))
theorem zJ{M:vJ}{α:Type}{a b:Nat}{x y:StateT j9 Sem α}{Q:α->j9->Prop}{st:j9}(H:a=b->wpS M A E s x Q st)(I:a≠b->wpS M A E s y Q st):wpS M A E s (if(a==b)=true then x else y) Q st:=by
 by_cases e:a=b
 .rw[Zx (by simpa using e)];show H e
 rw[Zo (by simpa using e)];show I e
theorem q9{M:vJ}{α:Type}{c:Prop}[Decidable c]{x y:StateT j9 Sem α}{Q:α->j9->Prop}{st:j9}(H:c->wpS M A E s x Q st)(I:¬c->wpS M A E s y Q st):wpS M A E s (if c then x else y) Q st:=by
 by_cases e:c
 .rw[Zx e];show H e
 rw[Zo e];show I e
theorem N4(S:Srt key l)(U:b+m<=Qa l)(i j:Nat)(H:i<=j)(u:j<m)(h:bey key false x (l.getD (b+j) 0)=true):bey key false x (l.getD (b+i) 0)=true:=by
 have h:(!O.blt (key x) (key (l.getD (b+j) 0)))=true:=h;change(!O.blt (key x) (key (l.getD (b+i) 0)))=true
 rw[Q3]at h ⊢
 show QH (S.get ⋯ ⋯) h
theorem N5(S:Srt key l)(U:b+m<=Qa l)(i j:Nat)(H:i<=j)(u:j<m)(h:bey key true x (l.getD (b+j) 0)=true):bey key true x (l.getD (b+i) 0)=true:=by
 have h:O.klt (key (l.getD (b+j) 0)) (key x):=h;have g:O.kle (key (l.getD (b+i) 0)) (key (l.getD (b+j) 0)):=S.get ⋯ ⋯;change O.blt (key (l.getD (b+i) 0)) (key x)=true;rcases O.negTrans _ (key (l.getD (b+i) 0)) _ h with w|w
 .rw[show O.blt (key (l.getD (b+j) 0)) (key (l.getD (b+i) 0))=false from g]at w;cases w
 show w
theorem Cp(h:bey key left x y=true):O.kle (key y) (key x):=by
 cases left with
 |true=>show UI h
 |false=>
  have h:(!O.blt (key x) (key y))=true:=h;rw[Q3]at h;show h
theorem x9(h:bey key left x y=false):O.kle (key x) (key y):=by
 cases left with
 |true=>show h
 |false=>
  have h:(!O.blt (key x) (key y))=false:=h;rw[Bool.not_eq_false']at h;show UI h
theorem Du{left:Bool}{l:Zg}{x b k:Nat}(h:∀i,i<k->bey key left x (l.getD (b+i) 0)=true)(y:Nat)(H:y∈(l.drop b).take k):O.kle (key y) (key x):=by show zh (fS H) λi I J U z=>?_;subst z;have:=Cp (h (i-b) (by omega));rwa[show b+(i-b)=i by omega]at this
theorem H0{left:Bool}{l:Zg}{x b k m:Nat}(Y:Qa l<=b+m)(h:∀i,k<=i->i<m->bey key left x (l.getD (b+i) 0)=false)(y:Nat)(H:y∈l.drop (b+k)):O.kle (key x) (key y):=by show Zz (Br H) λi I J z=>?_;subst z;have:=x9 (h (i-b) ⋯ ⋯);rwa[show b+(i-b)=i by lia]at this
theorem Srt.head{l:Zg}(h:Srt key l){i y:Nat}(H:y∈l.drop i):O.kle (key (l.getD i 0)) (key y):=by show Zz (Br H) λj J M z=>?_;subst z;show h.get J M
theorem Kr{M:vJ}{α:Type}{x:StateT j9 Sem α}{Q:α->j9->Prop}{st:j9}(h:∀q:α->j9->Prop,(∀r S,Q r S->q r S)->wpS M A E s x q st):wpS M A E s x Q st:=h Q λ_ _ h=>h
theorem ifJ{M:vJ}{α:Type}{c:Prop}[Decidable c]{x:Nat->StateT j9 Sem α}{a b:Nat}{Q:α->j9->Prop}{st:j9}(h:∀m,wpS M A E s (x m) Q st):wpS M A E s (if c then x a else x b) Q st:=q9 (λ_=>h a) λ_=>h b
theorem PQ(hC:Ah prog w A s κ it key n){U f:Zg}(ha:∀y∈U,y<n)(hb:∀y∈f,y<n)(sa:Srt key U)(B:Srt key f)(na:U≠[])(nb:f≠[])(hd:∀x∈U,∀y∈f,x<y)
 (h0:∀y∈U,O.kle (key (f.getD 0 0)) (key y)) (h1:∀y∈f,O.kle (key y) (key (U.getD (Qa U-1) 0))) {st:j9} (hk:kindOf st=κ) {Q:Array vo->j9->Prop}
 (q:∀m S,Ks st S->m.Perm (U++f)->Srt key m->Q (AL it m) S):wpS (ud prog w) A E s (mlo (AL it U) (AL it f)) Q st:=by
 unfold mlo;have b5:0<Qa U:=vU.mpr na;have am:0<Qa f:=vU.mpr nb;have qr:∀r S,Ks st S->Res it key U f r->Q r S:=λr S ks a8=>Zz a8 λm e p sm=>by clear a8;show e▸q m S ks p sm
 have m0:Mg key U f [f.getD 0 0] 0 1:=by have:=Mg.stepB (key:=key) (la:=U) (lb:=f) (lo:=[]) (ia:=0) (ib:=0) (List.Pairwise.nil,(λx hx=>by cases hx),(λx hx=>by cases hx),List.Perm.refl _) B am (by rw[UF];show h0);show this
 show jU (Qav (vf (rfl,?_)));show jU (zH am ?_);simp -zeta -zetaHave only[cW,GD];show zJ (λc1=>jY (qr _ _ (Ks.refl _) (m0.fin1 sa B (.inr c1)))) λc1=>zJ (λc2=>jY (qr _ _ (Ks.refl _) (m0.fin2 B h1 c2))) λc2=>?_;show jU (Qaf ?_)
 show jU (u0 (uP (I:=λi c S=>Ks st S/\c.1=Qs/\In it key U f c.2.1 c.2.2.1 c.2.2.2.1/\i+1<=c.2.2.1+c.2.2.2.1)
  (Q:=λc S=>Ks st S/\∃r,c.1=Qr r/\Res it key U f r) ?_ ?_ (Ks.refl _,rfl,(_,rfl,m0,by dsimp only;lia,by dsimp only;lia),by dsimp only;lia)) ?_)
 .show λi=>xE λret R d g mg b4 _ hi z=>?_;show za z λaM r1 ak cnt=>?_;clear z;dsimp only at r1 ak cnt;dsimp -zeta -zetaHave only;subst r1
  show jU (u0 (uP (I:=λi c S=>Ks st S/\c.1=Qs/\In it key U f c.2.1 c.2.2.1 c.2.2.2.1/\d+g+i<=c.2.2.1+c.2.2.2.1)
   (Q:=λc S=>Ks st S/\((∃r,c.1=Qr r/\Res it key U f r)\/c.1=Qs/\In it key U f c.2.1 c.2.2.1 c.2.2.2.1/\d+g+1<=c.2.2.1+c.2.2.2.1)) ?_ ?_ (aM,rfl,ak,by change d+g+0<=d+g;lia)) ?_)
  .show λj=>Ew λret R ja jb ac bc a9 _ hj z=>?_;show za z λH r2 zq Z=>?_;clear z;show zh zq λlo a4 a7 d1 d2=>?_;clear zq;subst a4
   dsimp only at r2 d1 d2 Z a7 ⊢
   subst r2;show jU (zH d2 (jU (zH ⋯ (jU (yB hC (H.kind.trans hk) (hd _ (zj ⋯) _ (zj d2)) (hb _ (zj d2)) ?_)))));dsimp only
   cases e:O.blt (key (f.getD jb 0)) (key (U.getD ja 0))with
   |true=>
    rw[Zx rfl];show jU (zH d2 ?_);have M:=a7.stepB B d2 λy hy=>QH (UI e) (sa.head hy);simp only[lB];by_cases c3:jb+1=Qa f
    .rw[Zx (by simpa using c3)];show jY (H,.inl (_,rfl,M.fin1 sa B (.inr c3)))
    rw[Zo (by simpa using c3)];split;show jY (H,.inr (rfl,(_,rfl,M,d1,by dsimp only;lia),by change d+g+1<=ja+(jb+1);lia));show jY (H,rfl,(_,rfl,M,d1,by dsimp only;lia),by change d+g+(j+1)<=ja+(jb+1);lia)
   |false=>
    rw[Zo Qk];show jU (zH (show ja<Qa U by lia) ?_);have M:=a7.stepA sa ⋯ λy hy=>QH e (B.head hy);simp only[lB];by_cases c3:ja+1+1=Qa U
    .rw[Zx (by simpa using c3)];show jY (H,.inl (_,rfl,M.fin2 B h1 c3))
    rw[Zo (by simpa using c3)];split;show jY (H,.inr (rfl,(_,rfl,M,by dsimp only;lia,d2),by change d+g+1<=ja+1+jb;lia));show jY (H,rfl,(_,rfl,M,by dsimp only;lia,d2),by change d+g+(j+1)<=ja+1+jb;lia)
  .show λc a9 z=>za z λH r2 u Z=>?_;clear z;show(H,.inr (r2,u,⋯))
  show Ew λret R ja jb ac bc a9 z=>?_;obtain⟨H,⟨r,r2,J⟩|⟨r2,u,Z⟩⟩:=z
  .dsimp only at r2;subst r2;show jY (H,r,rfl,J)
  dsimp only at r2 u Z;subst r2;dsimp -zeta -zetaHave only;show jU (Qav (vf (rfl,?_)))
  show jU (u0 (uP (I:=λi c S=>Ks st S/\c.1=Qs/\In it key U f c.2.1 c.2.2.1 c.2.2.2.1/\ja+jb<=c.2.2.1+c.2.2.2.1)
   (Q:=λc S=>Ks st S/\((∃r,c.1=Qr r/\Res it key U f r)\/c.1=Qs/\In it key U f c.2.1 c.2.2.1 c.2.2.2.1/\ja+jb<=c.2.2.1+c.2.2.2.1)) ?_ ?_ (H,rfl,u,Qg _)) ?_)
  .show λj=>Ex λret R ka kb M b7 b8 ab _ hj z=>?_;show za z λY r3 zq C=>?_;clear z;show zh zq λlo a4 m3 d1 d2=>?_;clear zq;subst a4;dsimp only at r3 d1 d2 C m3;subst r3;show Kr λQQ hQ=>?_
   extract_lets -underBinder s1 a3 s2 aK s3 aL s4 as s5 an ap jp aN
   show ifJ (x:=jp ()) λbd=>?_;dsimp -zeta -zetaHave only[jp,aK,aL,a3,as,an,ap,s1,s2,s3,s4,s5];clear aN jp ap an s5 as s4 aL s3 aK s2 a3 s1;show jU (EI λal t=>jU (zH d2 (jU (nN hC ha (hb _ (zj d2)) ⋯ ⋯ (by intro i hi;show hd _ (zj ⋯) _ (zj d2)) ((Y.trans t).kind.trans hk) (N4 sa ⋯) λk k1 k2 k3=>?_))));replace t:=Y.trans t;have m4:=m3.outA sa k λx hx y hy=>QH (Du k2 x hx) (B.head hy);have g4:=H0 ⋯ k3;dsimp -zeta -zetaHave only
   extract_lets -underBinder b6 jp aw aT
   have h2:∀a a6,Mg key U f a6 a kb->ka<=a->a+1<Qa U->(∀y∈U.drop a,O.kle (key (f.getD kb 0)) (key y))->wpS (ud prog w) A E s (jp () (AL it a6) a) QQ al:=by
    intro a a6 m4 a1 a2 g4;dsimp -zeta -zetaHave only[jp];have m5:=m4.stepB B d2 g4;show jU (zH d2 ?_)
    extract_lets -underBinder aG b0
    simp -zeta -zetaHave only[aG,b0,lB];show zJ (λc6=>jY (hQ _ _ (t,.inl (_,rfl,m5.fin1 sa B (.inr c6))))) λc6=>jU (zH ⋯ (jU (nN hC hb (ha _ (zj ⋯)) ⋯ ⋯ (by intro i hi;show hd _ (zj ⋯) _ (zj ⋯)) (t.kind.trans hk) (N5 B ⋯) λv v1 v2 v3=>?_)));have m6:=m5.outB B v λx hx y hy=>QH (Du v2 x hx) (sa.head hy);have g6:=H0 ⋯ v3;dsimp -zeta -zetaHave only
    extract_lets -underBinder b9 a5 aH b3
    have h3:∀b D,Mg key U f D a b->kb+1<=b->b<Qa f->(∀y∈f.drop b,O.kle (key (U.getD a 0)) (key y))->wpS (ud prog w) A E s (a5 () (AL it D) b) QQ al:=by
     intro b D m6 b1 b2 g6;dsimp -zeta -zetaHave only[a5];have m7:=m6.stepA sa ⋯ g6;show jU (zH ⋯ ?_)
     extract_lets -underBinder aJ aZ
     simp -zeta -zetaHave only[aJ,aZ,lB];show zJ (λc8=>jY (hQ _ _ (t,.inl (_,rfl,m7.fin2 B h1 c8)))) λc8=>q9 (λ_=>jY (hQ _ _ (t,.inr (rfl,(_,rfl,m7,by dsimp only;lia,b2),by dsimp only;lia)))) λ_=>jY (hQ _ _ (t,rfl,(_,rfl,m7,by dsimp only;lia,b2),by dsimp only;lia))
    clear_value a5
    simp -zeta -zetaHave only[aH,b3,xR,dy];show q9 (λvz=>zJ (λc7=>jY (hQ _ _ (t,.inl (_,rfl,m6.fin1 sa B (.inr c7))))) λc7=>h3 _ _ m6 ⋯ ⋯ g6) λvz=>?_;obtain rfl:v=0:=⋯
    rw[Ue,vx,Us]at m6;rw[Us]at g6;show h3 _ _ m6 ⋯ ⋯ g6
   clear_value jp
   simp -zeta -zetaHave only[aw,aT,xR,dy];show q9 (λkz=>zJ (λc4=>jY (hQ _ _ (t,.inl (_,rfl,m4.fin2 B h1 c4)))) λc4=>zJ (λc5=>jY (hQ _ _ (t,.inl (_,rfl,m4.fin1 sa B (.inl c5))))) λc5=>h2 _ _ m4 ⋯ ⋯ g4) λkz=>?_;obtain rfl:k=0:=⋯
   rw[Ue,vx,Us]at m4;rw[Us]at g4;show h2 _ _ m4 (Qg _) d1 g4
  .show λc ab z=>za z λY r3 P C=>?_;clear z;show(Y,.inr (r3,P,C))
  show Ex λret R ka kb mg ac bc ab z=>?_;obtain⟨Y,⟨r,r3,J⟩|⟨r3,P,C⟩⟩:=z
  .dsimp only at r3;subst r3;show jY (Y,r,rfl,J)
  dsimp only at r3 P C;subst r3;dsimp only;show jU (vW (jY (Y.trans (rfl,rfl,rfl,rfl),rfl,P,?_)));change i+1+1<=ka+kb
  lia
 .show xE λret R d g mg S z=>?_;show za z λ_ _ zq cnt=>?_;clear z;show zh zq λlo _ _ d1 d2=>?_;clear zq;dsimp only at d1 d2 cnt
  lia
 show xE λret R d g mg S z=>?_;obtain⟨ks,r,r1,J⟩:=z;dsimp only at r1;subst r1;show jY (qr r S ks J)
end
end LB
namespace LB
open PySem PySem.W PyProof.Rows
section
variable{prog:j8}{w:uj}{A:uv}{E:ZW}{s:jQ}{κ:vm}{it:Array vo}{O:vV}{key:Nat->O.α}{n:Nat}
structure Mh(key:Nat->O.α)(la lb:Zg)(hi:Zg)(na nb:Nat):Prop where
 srt:Srt key hi
 lea:∀x∈hi,∀y∈la.take na,O.kle (key y) (key x)
 leb:∀x∈hi,∀y∈lb.take nb,O.kle (key y) (key x)
 perm:(la.take na++(lb.take nb++hi)).Perm (la++lb)
section
variable{la lb hi:Zg}{na nb:Nat}
theorem B9{l:Zg}{j m:Nat}(h:j<=m):l.take j++(l.drop j).take (m-j)=l.take m:=by have e:=QK j (l.take m);rw[Wg,show min j m=j by lia]at e;rw[List.take_drop,show j+(m-j)=m by lia];show e
theorem Mh.outA(h:Mh key la lb hi na nb)(sa:Srt key la){j:Nat}(u:j<=na)(d:∀x∈(la.drop j).take (na-j),∀y∈lb.take nb,O.kle (key y) (key x)):Mh key la lb ((la.drop j).take (na-j)++hi) j nb:=by
 have e:=B9 (l:=la) u;have U:Srt key (la.take j++(la.drop j).take (na-j)):=by rw[e];show sa.sub (UW _ _)
 show ZL (U0.mp U) λf S z=>?_;show(Srt.app S h.srt λx H y p=>h.lea y p x (by rw[<-e];show j0 _ H),λx H y p=>?_,λx H y p=>?_,?_)
 .rcases ut.mp H with H|H;show z y p x H;show h.lea x H y (by rw[<-e];show vh _ p)
 .rcases ut.mp H with H|H;show d x H y p;show h.leb x H y p
 show List.Perm.trans ?_ h.perm;rw[<-e,uq];show List.Perm.append_left _ ?_;rw[<-uq,<-uq];show List.Perm.append_right _ Vi
theorem Mh.outB(h:Mh key la lb hi na nb)(B:Srt key lb){j:Nat}(u:j<=nb)(d:∀x∈(lb.drop j).take (nb-j),∀y∈la.take na,O.kle (key y) (key x)):Mh key la lb ((lb.drop j).take (nb-j)++hi) na j:=by
 have e:=B9 (l:=lb) u;have U:Srt key (lb.take j++(lb.drop j).take (nb-j)):=by rw[e];show B.sub (UW _ _)
 show ZL (U0.mp U) λf S z=>?_;show(Srt.app S h.srt λx H y p=>h.leb y p x (by rw[<-e];show j0 _ H),λx H y p=>?_,λx H y p=>?_,?_)
 .rcases ut.mp H with H|H;show d x H y p;show h.lea x H y p
 .rcases ut.mp H with H|H;show z y p x H;show h.leb x H y (by rw[<-e];show vh _ p)
 show List.Perm.trans (List.Perm.of_eq ?_) h.perm;rw[<-e,uq]
theorem Ek{l:Zg}{m:Nat}(h:m<=Qa l)(H:0<m):(l.drop (m-1)).take (m-(m-1))=[l.getD (m-1) 0]:=by rw[show m-(m-1)=1 by lia,pV ⋯]
theorem Mh.stepA(h:Mh key la lb hi na nb)(sa:Srt key la)(H:na<=Qa la)(m:0<na)(d:∀y∈lb.take nb,O.kle (key y) (key (la.getD (na-1) 0))):Mh key la lb (la.getD (na-1) 0::hi) (na-1) nb:=by
 have:=h.outA sa (j:=na-1) (by omega) λx f=>by rw[Ek H m]at f;rw[j5.mp f];show d
 rwa[Ek H m]at this
theorem Mh.stepB(h:Mh key la lb hi na nb)(S:Srt key lb)(H:nb<=Qa lb)(m:0<nb)(d:∀y∈la.take na,O.kle (key y) (key (lb.getD (nb-1) 0))):Mh key la lb (lb.getD (nb-1) 0::hi) na (nb-1):=by
 have:=h.outB S (j:=nb-1) ⋯ λx f=>by rw[Ek H m]at f;rw[j5.mp f];show d
 rwa[Ek H m]at this
theorem lA(l:Zg)(m:Nat):(AL it l).extract 0 m=AL it (l.take m):=by rw[sj,UF,Vg]
theorem Mh.fin1(h:Mh key la lb hi na nb)(sa:Srt key la)(S:Srt key lb)(j:na=0\/nb=0):Res it key la lb ((AL it la).extract 0 na++(AL it lb).extract 0 nb++(AL it hi.reverse).reverse):=by
 rw[lA,lA,Ci,WO,dy,dy,uq];show(_,rfl,h.perm,?_);rcases j with rfl|rfl
 .rw[Ue,u9];show(S.sub (UW _ _)).app h.srt λx H y p=>h.leb y p x H
 rw[Ue,u9];show(sa.sub (UW _ _)).app h.srt λx H y p=>h.lea y p x H
theorem Mh.fin2(h:Mh key la lb hi na nb)(sa:Srt key la)(m:∀y∈la,O.kle (key (lb.getD 0 0)) (key y))(P:0<Qa lb)(j:nb=1):Res it key la lb ((AL it lb).extract 0 nb++(AL it la).extract 0 na++(AL it hi.reverse).reverse):=by
 rw[lA,lA,Ci,WO,dy,dy];subst j;show(_,rfl,?_,?_)
 .show List.Perm.trans ?_ h.perm;rw[<-uq];show List.Perm.append_right _ Vi
 have e:lb.take 1=[lb.getD 0 0]:=by have:=pV P;rwa[UF]at this
 rw[uq];rw[e];show Srt.app (Wx _ _) ((sa.sub (UW _ _)).app h.srt λx f y H=>h.lea y H x f) λx f y H=>?_;rw[j5.mp f];rcases ut.mp H with H|H;show m y (Uc H);show h.leb y H _ (by rw[e];show j5.mpr rfl)
theorem Kn{l:Zg}{m y:Nat}(h:y∈l.take m):∃j,j<Qa l/\j<m/\y=l.getD j 0:=by
 have:y∈(l.drop 0).take m:=by rwa[UF]
 show zh (fS this) λj _ J Y e=>(j,J,⋯,e)
theorem Srt.last{l:Zg}(h:Srt key l){m y:Nat}(Y:m<=Qa l)(H:y∈l.take m):O.kle (key y) (key (l.getD (m-1) 0)):=by show Zz (Kn H) λj J M z=>?_;subst z;show h.get ⋯ ⋯
theorem ES{left:Bool}{l:Zg}{x k:Nat}(h:∀i,i<k->bey key left x (l.getD (0+i) 0)=true)(y:Nat)(H:y∈l.take k):O.kle (key y) (key x):=Du h y (by rwa[UF])
theorem N3{left:Bool}{l:Zg}{x k m:Nat}(h:∀i,k<=i->i<m->bey key left x (l.getD (0+i) 0)=false)(y:Nat)(H:y∈(l.drop k).take (m-k)):O.kle (key x) (key y):=by show zh (fS H) λi I J U z=>?_;subst z;have:=x9 (h i I (by omega));rwa[VC]at this
theorem lC(h:Zg)(x:Nat):(AL it h.reverse).push (u8 it x)=AL it (x::h).reverse:=by rw[lB,VX]
theorem DA(h l:Zg)(i j:Nat):AL it h.reverse++((AL it l).extract i j).reverse=AL it ((l.drop i).take (j-i)++h).reverse:=by rw[sj,Ci,dy,WT]
end
def Ih(it:Array vo)(key:Nat->O.α)(U f:Zg)(R:Array vo)(d m:Nat):Prop:=∃H,R=AL it H.reverse/\Mh key U f H d m/\1<=d/\d<=Qa U/\2<=m/\m<=Qa f
theorem PN(hC:Ah prog w A s κ it key n){U f:Zg}(ha:∀y∈U,y<n)(hb:∀y∈f,y<n)(sa:Srt key U)(B:Srt key f)(na:U≠[])(nb:f≠[])(hd:∀x∈U,∀y∈f,x<y)
 (h0:∀y∈U,O.kle (key (f.getD 0 0)) (key y)) (h1:∀y∈f,O.kle (key y) (key (U.getD (Qa U-1) 0))) {st:j9} (hk:kindOf st=κ) {Q:Array vo->j9->Prop}
 (q:∀m S,Ks st S->m.Perm (U++f)->Srt key m->Q (AL it m) S):wpS (ud prog w) A E s (mhi (AL it U) (AL it f)) Q st:=by
 unfold mhi;have b0:0<Qa U:=vU.mpr na;have a3:0<Qa f:=vU.mpr nb;have qr:∀r S,Ks st S->Res it key U f r->Q r S:=λr S ks a9=>Zz a9 λm e p sm=>by clear a9;show e▸q m S ks p sm
 have m0:Mh key U f [U.getD (Qa U-1) 0] (Qa U-1) (Qa f):=by show Mh.stepA (key:=key) (la:=U) (lb:=f) (hi:=[]) (na:=Qa U) (nb:=Qa f) (List.Pairwise.nil,(λx hx=>by cases hx),(λx hx=>by cases hx),?_) sa (Qg _) b0 (by rw[QE];show h1);rw[QE,QE,vx]
 show jU (Qav (vf (rfl,?_)));simp -zeta -zetaHave only[cW];show jU (zH ⋯ ?_);simp -zeta -zetaHave only[GD];rw[show[U.getD (Qa U-1) 0]=[U.getD (Qa U-1) 0].reverse from rfl];show zJ (λc1=>jY (qr _ _ (Ks.refl _) (m0.fin1 sa B (.inl c1)))) λc1=>zJ (λc2=>jY (qr _ _ (Ks.refl _) (m0.fin2 sa h0 a3 c2))) λc2=>?_;show jU (Qaf ?_)
 show jU (u0 (uP (I:=λi c S=>Ks st S/\c.1=Qs/\Ih it key U f c.2.2.2.1 c.2.1 c.2.2.1/\c.2.1+c.2.2.1+i+1<=Qa U+Qa f)
  (Q:=λc S=>Ks st S/\∃r,c.1=Qr r/\Res it key U f r) ?_ ?_ (Ks.refl _,rfl,(_,rfl,m0,by dsimp only;lia,by dsimp only;lia,by dsimp only;lia,by dsimp only;lia),by dsimp only;lia)) ?_)
 .show λi=>xE λret ia ib R mg b5 _ hi z=>?_;show za z λaT r1 al cnt=>?_;clear z;dsimp only at r1 al cnt;dsimp -zeta -zetaHave only;subst r1
  show jU (u0 (uP (I:=λi c S=>Ks st S/\c.1=Qs/\Ih it key U f c.2.2.2.1 c.2.1 c.2.2.1/\c.2.1+c.2.2.1+i<=ia+ib)
   (Q:=λc S=>Ks st S/\((∃r,c.1=Qr r/\Res it key U f r)\/c.1=Qs/\Ih it key U f c.2.2.2.1 c.2.1 c.2.2.1/\c.2.1+c.2.2.1+1<=ia+ib)) ?_ ?_ (aT,rfl,al,by dsimp only;lia)) ?_)
  .show λj=>Ew λret ja jb R ac bc ab _ hj z=>?_;show za z λH D zq Z=>?_;clear z;show zI zq λhi z=>ZO z λa5 a8 d1 d2 d3 d=>?_;clear z zq;subst a5
   dsimp only at D d1 d2 d3 d Z a8 ⊢
   subst D;show jU (zH ⋯ (jU (zH ⋯ (jU (yB hC (H.kind.trans hk) (hd _ (zj ⋯) _ (zj ⋯)) (hb _ (zj ⋯)) ?_)))));dsimp only
   cases e:O.blt (key (f.getD (jb-1) 0)) (key (U.getD (ja-1) 0))with
   |true=>
    rw[Zx rfl];show jU (zH (show ja-1<Qa U by lia) ?_);have M:=a8.stepA sa d2 d1 λy hy=>QH (B.last d hy) (UI e);simp only[lC];show zJ (λc3=>jY (H,.inl (_,rfl,M.fin1 sa B (.inl c3)))) λc3=>q9 (λ_=>jY (H,.inr (rfl,(_,rfl,M,by dsimp only;lia,by dsimp only;lia,d3,d),by dsimp only;lia))) λ_=>jY (H,rfl,(_,rfl,M,by dsimp only;lia,by dsimp only;lia,d3,d),by dsimp only;lia)
   |false=>
    rw[Zo Qk];show jU (zH (show jb-1<Qa f by lia) ?_);have M:=a8.stepB B d ⋯ λy hy=>QH (sa.last d2 hy) e;simp only[lC];show zJ (λc3=>jY (H,.inl (_,rfl,M.fin2 sa h0 a3 c3))) λc3=>q9 (λ_=>jY (H,.inr (rfl,(_,rfl,M,d1,d2,by dsimp only;lia,by dsimp only;lia),by dsimp only;lia))) λ_=>jY (H,rfl,(_,rfl,M,d1,d2,by dsimp only;lia,by dsimp only;lia),by dsimp only;lia)
  .show λc ab z=>za z λH D u Z=>?_;clear z;show(H,.inr (D,u,⋯))
  show Ew λret ja jb R ac bc ab z=>?_;obtain⟨H,⟨r,D,J⟩|⟨D,u,Z⟩⟩:=z
  .dsimp only at D;subst D;show jY (H,r,rfl,J)
  dsimp only at D u Z;subst D;dsimp -zeta -zetaHave only;show jU (Qav (vf (rfl,?_)))
  show jU (u0 (uP (I:=λi c S=>Ks st S/\c.1=Qs/\Ih it key U f c.2.2.2.1 c.2.1 c.2.2.1/\c.2.1+c.2.2.1<=ja+jb)
   (Q:=λc S=>Ks st S/\((∃r,c.1=Qr r/\Res it key U f r)\/c.1=Qs/\Ih it key U f c.2.2.2.1 c.2.1 c.2.2.1/\c.2.1+c.2.2.1<=ja+jb)) ?_ ?_ (H,rfl,u,Qg _)) ?_)
  .show λj=>Ex λret ka kb R M b7 b8 ak _ hj z=>?_;show za z λY r3 zq C=>?_;clear z;show zI zq λhi z=>ZO z λa5 m3 d1 d2 d3 d=>?_;clear z zq;subst a5;dsimp only at r3 d1 d2 d3 d C m3;subst r3;show Kr λQQ hQ=>?_
   extract_lets -underBinder s1 aK s2 aM s3 a4 s4 as s5 an ap jp aZ
   show ifJ (x:=jp ()) λbd=>?_;dsimp -zeta -zetaHave only[jp,aK,aM,a4,as,an,ap,s1,s2,s3,s4,s5];clear aZ jp ap an s5 as s4 a4 s3 aM s2 aK s1;show jU (EI λam t=>jU (zH ⋯ (jU (nN hC ha (hb _ (zj ⋯)) ⋯ ⋯ (by intro i hi;show hd _ (zj ⋯) _ (zj ⋯)) ((Y.trans t).kind.trans hk) (N4 sa ⋯) λk k1 k2 k3=>?_))));replace t:=Y.trans t;have m4:=m3.outA sa k1 λx hx y hy=>QH (B.last d hy) (N3 k3 x hx);have g4:=ES k2;dsimp -zeta -zetaHave only
   extract_lets -underBinder kk b6 jp aw b3
   have h2:∀a a6,Mh key U f a6 a kb->1<=a->a<=ka->(∀y∈U.take a,O.kle (key y) (key (f.getD (kb-1) 0)))->wpS (ud prog w) A E s (jp () a (AL it a6.reverse)) QQ am:=by
    intro a a6 m4 a1 a2 g4;dsimp -zeta -zetaHave only[jp]
    extract_lets -underBinder aN
    dsimp -zeta -zetaHave only[aN];have m5:=m4.stepB B d ⋯ g4;show jU (zH ⋯ ?_)
    extract_lets -underBinder aG
    simp -zeta -zetaHave only[aG,aN,lC];show zJ (λc6=>jY (hQ _ _ (t,.inl (_,rfl,m5.fin2 sa h0 a3 c6)))) λc6=>jU (zH ⋯ (jU (nN hC hb (ha _ (zj ⋯)) ⋯ ⋯ (by intro i hi;show hd _ (zj ⋯) _ (zj ⋯)) (t.kind.trans hk) (N5 B ⋯) λv v1 v2 v3=>?_)));have m6:=m5.outB B v1 λx hx y hy=>QH (sa.last ⋯ hy) (N3 v3 x hx);have g6:=ES v2;dsimp -zeta -zetaHave only
    extract_lets -underBinder k4 b9 a7 aH b4
    have h3:∀b g,Mh key U f g a b->2<=b->b+1<=kb->(∀y∈f.take b,O.kle (key y) (key (U.getD (a-1) 0)))->wpS (ud prog w) A E s (a7 () b (AL it g.reverse)) QQ am:=by
     intro b g m6 b1 b2 g6;dsimp -zeta -zetaHave only[a7]
     extract_lets -underBinder aL
     dsimp -zeta -zetaHave only[aL];have m7:=m6.stepA sa ⋯ a1 g6;show jU (zH ⋯ ?_)
     extract_lets -underBinder aJ
     simp -zeta -zetaHave only[aJ,aL,lC];show zJ (λc8=>jY (hQ _ _ (t,.inl (_,rfl,m7.fin1 sa B (.inl c8))))) λc8=>q9 (λ_=>jY (hQ _ _ (t,.inr (rfl,(_,rfl,m7,by dsimp only;lia,by dsimp only;lia,b1,by dsimp only;lia),by dsimp only;lia)))) λ_=>jY (hQ _ _ (t,rfl,(_,rfl,m7,by dsimp only;lia,by dsimp only;lia,b1,by dsimp only;lia),by dsimp only;lia))
    clear_value a7
    simp -zeta -zetaHave only[k4,aH,b4,DA];show q9 (λvz=>zJ (λc7=>jY (hQ _ _ (t,.inl (_,rfl,m6.fin2 sa h0 a3 c7)))) λc7=>zJ (λc8=>jY (hQ _ _ (t,.inl (_,rfl,m6.fin1 sa B (.inr c8))))) λc8=>h3 _ _ m6 ⋯ ⋯ g6) λvz=>?_;obtain rfl:v=kb-1:=⋯
    rw[Ui,Ue,u9]at m6;show h3 _ _ m6 ⋯ ⋯ g6
   clear_value jp
   simp -zeta -zetaHave only[kk,aw,b3,DA];show q9 (λkz=>zJ (λc4=>jY (hQ _ _ (t,.inl (_,rfl,m4.fin1 sa B (.inl c4))))) λc4=>h2 _ _ m4 ⋯ k1 g4) λkz=>?_;obtain rfl:k=ka:=⋯
   rw[Ui,Ue,u9]at m4;show h2 _ _ m4 d1 (Qg _) g4
  .show λc ak z=>za z λY r3 P C=>?_;clear z;show(Y,.inr (r3,P,C))
  show Ex λret ka kb R mg ac bc ak z=>?_;obtain⟨Y,⟨r,r3,J⟩|⟨r3,P,C⟩⟩:=z
  .dsimp only at r3;subst r3;show jY (Y,r,rfl,J)
  dsimp only at r3 P C;subst r3;dsimp only;show jU (vW (jY (Y.trans (rfl,rfl,rfl,rfl),rfl,P,?_)));dsimp only
  lia
 .show xE λret ia ib R mg S z=>?_;show za z λ_ _ zq cnt=>?_;clear z;show zI zq λlo z=>ZO z λ_ _ d1 d2 d3 d=>?_;clear z zq;dsimp only at d1 d2 d3 d cnt
  lia
 show xE λret ia ib R mg S z=>?_;obtain⟨ks,r,r1,J⟩:=z;dsimp only at r1;subst r1;show jY (qr r S ks J)
end
end LB
namespace LB
open PySem PySem.W PyProof.Rows
section
variable{prog:j8}{w:uj}{A:uv}{E:ZW}{s:jQ}{κ:vm}{it:Array vo}{O:vV}{key:Nat->O.α}{n:Nat}
def Sg(key:Nat->O.α)(l:Zg)(a b:Nat):Prop:=∀i j,a<=i->i<=j->j<b->O.kle (key (l.getD i 0)) (key (l.getD j 0))
theorem rP{l:Zg}{a m i:Nat}(H:i<m):((l.drop a).take m).getD i 0=l.getD (a+i) 0:=by rw[Qc,Qc,Vs,Zx H,Uq]
theorem Sg.srt(h:Sg key l a (a+m)):Srt key ((l.drop a).take m):=by show Ul.mpr λi j H u S=>?_;rw[jZ,uf]at H u;have:=h (a+i) (a+j) ⋯ ⋯ ⋯;rw[UX,UX,Vt,Vt];rw[Qc,Qc,Qd (show a+i<Qa l by lia),Qd (show a+j<Qa l by lia)]at this;show this
structure Gd(κ:vm)(it:Array vo)(n:Nat)(st:j9)(l:Zg)(ps:fB):Prop where
 kind:kindOf st=κ
 fail:Qam st=Qs
 arr:QaB st=AL it l
 pend:vq st=ps.toArray
 perm:l.Perm (Qi n)
theorem Gd.len{st:j9}{l:Zg}{p:fB}(h:Gd κ it n st l p):Qa l=n:=by rw[h.perm.length_eq,uF]
theorem Gd.lt{st:j9}{l:Zg}{p:fB}(h:Gd κ it n st l p):∀y∈l,y<n:=λy H=>QA.mp (h.perm.mem_iff.mp H)
def Own(l:Zg)(a b:Nat):Prop:=∀i,a<=i->i<b->a<=l.getD i 0/\l.getD i 0<b
def qI(key:Nat->O.α)(l:Zg):fB->Nat->Nat->Prop
 |[],a,b=>a=b
 |p::r,a,b=>p.1=a/\1<=p.2.1/\(Sg key l a (a+p.2.1)/\Own l a (a+p.2.1))/\qI key l r (a+p.2.1) b
theorem qI.app:∀{x y:fB} {a b:Nat},qI key l (x++y) a b↔∃m,qI key l x a m/\qI key l y m b
 |[],y,a,b=>(λh=>(a,rfl,h),λf=>by obtain⟨m,e,h⟩:=f;rw[show a=m from e];show h)
 |p::x,y,a,b=>by show(λv=>?_,λ(m,(H,I,Q,d),q)=>(H,I,Q,qI.app.mpr (m,d,q)));obtain⟨H,I,Q,d⟩:=v;obtain⟨m,q,u⟩:=qI.app.mp d;show(m,(H,I,Q,q),u)
theorem qI.le:∀{x:fB} {a b:Nat},qI key l x a b->a<=b
 |[],a,b,h=>V0 h
 |p::x,a,b,(_,_,_,h)=>by
  have:=h.le
  lia
theorem qI.congr:∀{x:fB} {a b:Nat},(∀i,a<=i->i<b->l'.getD i 0=l.getD i 0)->qI key l x a b->qI key l' x a b
 |[],a,b,_,h=>h
 |p::x,a,b,e,(y,I,Q,d)=>by
  have:=d.le;show(y,I,(λi j H S u=>?_,λi H u=>?_),qI.congr (λi H=>e i ⋯) d)
  .rw[e i H ⋯,e j ⋯ ⋯];show Q.1 i j H S u
  rw[e i H ⋯];show Q.2 i H u
theorem As(c:Nat):∀(d:List vo) (k:Nat) (arr:Array vo),c+k+Qa d<=arr.size->∀j:Nat,((d.zipIdx k).foldl (λa (p:vo×Nat)=>a.setIfInBounds (c+p.2) p.1) arr)[j]?=if c+k<=j/\j<c+k+Qa d then d[j-(c+k)]? else arr[j]?
 |[],k,arr,h,j=>by rw[Zo (by rw[uC];lia)];rfl
 |x::d,k,arr,h,j=>by
  rw[jV]at h;have:=As c d (k+1) (arr.setIfInBounds (c+k) x) (by rw[Array.size_setIfInBounds];lia) j;rw[V2,jn];show this.trans ?_;rw[jV];by_cases y:j=c+k
  .subst y;rw[Zo ⋯,Zx ⋯,V9,Zx rfl,Ui];simp
   lia
  by_cases H:c+(k+1)<=j/\j<c+(k+1)+Qa d;rw[Zx H,Zx ⋯,show j-(c+k)=(j-(c+(k+1)))+1 by lia,U9];rw[Zo H,Zo ⋯,V9,Zo ⋯]
noncomputable def sJ(l m:Zg)(c:Nat):Zg:=l.take c++(m++l.drop (c+Qa m))
theorem L7(h:c+Qa m<=Qa l):(((m.map (u8 it)).zipIdx 0).foldl (λa (p:vo×Nat)=>a.setIfInBounds (c+p.2) p.1) (AL it l))=AL it (sJ l m c):=by apply WY;intro j;rw[As c _ 0 _ (by rw[jO,cW];lia) j,jO,Us];unfold AL sJ;rw[Vj,Vj,Qm,Qm,Qm];by_cases H:c<=j/\j<c+Qa m;rw[Zx H,Qt (by rw[jZ];lia),jZ,show min c (Qa l)=c by lia,Qx ⋯];rw[Zo H];by_cases I:j<c;rw[Qx (by rw[jZ];lia),Vs,Zx I];rw[Qt (by rw[jZ];lia),jZ,show min c (Qa l)=c by lia,Qt ⋯,Uq,show c+Qa m+(j-c-Qa m)=j by lia]
theorem dJ(h:c+Qa m<=Qa l):(sJ l m c).getD i 0=if c<=i/\i<c+Qa m then m.getD (i-c) 0 else l.getD i 0:=by unfold sJ;rw[Qc];by_cases H:c<=i/\i<c+Qa m;rw[Zx H,Qt (by rw[jZ];lia),jZ,show min c (Qa l)=c by lia,Qx ⋯,Qc];rw[Zo H,Qc];by_cases I:i<c;rw[Qx (by rw[jZ];lia),Vs,Zx I];rw[Qt (by rw[jZ];lia),jZ,show min c (Qa l)=c by lia,Qt ⋯,Uq,show c+Qa m+(i-c-Qa m)=i by lia]
theorem nD(h:m.Perm ((l.drop c).take (Qa m))):(sJ l m c).Perm l:=by
 unfold sJ;have e:l=l.take c++((l.drop c).take (Qa m)++l.drop (c+Qa m)):=by rw[<-UO,QK,QK]
 show List.Perm.trans (List.Perm.append_left _ (List.Perm.append_right _ h)) (List.Perm.of_eq e.symm)
theorem NH{M:vJ}{x st:j9}{Q:PUnit->j9->Prop}(h:Q ⟨⟩ x):wpS M A E s (set x:StateT j9 Sem PUnit) Q st:=by unfold wpS;rw[StateT.run_set];show jN (rfl,h)
theorem RV{M:vJ}{x st:j9}{l:Zg}{ps:fB}{Q:PUnit->j9->Prop}(H:Gd κ it n x l ps)(h:∀S,Gd κ it n S l ps->Q ⟨⟩ S):wpS M A E s (set x:StateT j9 Sem PUnit) Q st:=NH (h x H)
theorem PR{M:vJ}{f:j9->j9}{st:j9}{l:Zg}{p:fB}{Q:PUnit->j9->Prop}(H:Gd κ it n (f st) l p)(h:∀S,Gd κ it n S l p->Q ⟨⟩ S):wpS M A E s (modify f:StateT j9 Sem PUnit) Q st:=vW (h _ H)
theorem Gd.ks{st S:j9}{l:Zg}{p:fB}(h:Gd κ it n st l p)(k:Ks st S):Gd κ it n S l p:=(k.kind.trans h.kind,k.fail.trans h.fail,k.arr.trans h.arr,k.pend.trans h.pend,h.perm)
theorem C2(hC:Ah prog w A s κ it key n){st:j9}{l:Zg}{pre post:fB}{sa d p sb t r e:Nat}(J:Gd κ it n st l (pre++(sa,d,p)::(sb,t,r)::post))(he:e<=n)(hR:qI key l (pre++(sa,d,p)::(sb,t,r)::post) 0 e)
 {Q:Bool->j9->Prop} (q:∀a6 M,Gd κ it n a6 M (pre++(sa,d+t,p)::post)->(∀i,e<=i->M.getD i 0=l.getD i 0)->qI key M (pre++(sa,d+t,p)::post) 0 e->Q true a6):wpS (ud prog w) A E s (mergeAt' (Qa pre)) Q st:=by
 unfold mergeAt';have as:=J.len;have P:=J.lt;obtain⟨x,R1,rfl,a1,⟨D,W1⟩,rfl,b1,⟨C,W2⟩,R2⟩:=qI.app.mp hR;dsimp only at a1 D W1 b1 C W2 R2 J R1;have aw:=R2.le
 have a3:∀M,(∀i,¬(sa<=i/\i<sa+d+t)->M.getD i 0=l.getD i 0)->Sg key M sa (sa+d+t)->Own M sa (sa+d+t)->qI key M (pre++(sa,d+t,p)::post) 0 e:=λM H I al=>by
  show qI.app.mpr (sa,R1.congr λi _ hi=>H i ⋯,rfl,by change 1<=d+t;lia,?_,?_)
  .change Sg key M sa (sa+(d+t))/\Own M sa (sa+(d+t));rw[<-Ww];show(I,al)
  change qI key M post (sa+(d+t)) e;rw[<-Ww];show R2.congr λi hi _=>H i ⋯
 show jU (Qaf ?_);have e1:(vq st)[Qa pre]?=Qr (sa,d,p):=by rw[J.pend];simp
 have e2:(vq st)[Qa pre+1]?=Qr (sa+d,t,r):=by rw[J.pend];simp
 rw[e1,e2];dsimp only;have ea:=J.arr;unfold QaB at ea;show jU (RV (κ:=κ) (it:=it) (n:=n) (l:=l) (ps:=pre++(sa,d+t,p)::post) (J.kind,J.fail,J.arr,?_,J.perm) λa4 f=>?_)
 .change((vq st).setIfInBounds (Qa pre) (sa,d+t,p)).eraseIdxIfInBounds (Qa pre+1)=_;rw[J.pend];simp[List.eraseIdx_append_of_length_le]
 rw[ea]
 have a2:∀{left:Bool} {b m x:Nat},Sg key l b (b+m)->∀i j,i<=j->j<m->bey key left x (l.getD (b+j) 0)=true->bey key left x (l.getD (b+i) 0)=true:=λ{left b m x} S i j ap hj h=>by
  have g:=S (b+i) (b+j) ⋯ ⋯ ⋯
  cases left with
  |true=>
   rcases O.negTrans _ (key (l.getD (b+i) 0)) _ (show O.blt (key (l.getD (b+j) 0)) (key x)=true from h)with w|w
   .rw[show O.blt (key (l.getD (b+j) 0)) (key (l.getD (b+i) 0))=false from g]at w;cases w
   show w
  |false=>
   have h:(!O.blt (key x) (key (l.getD (b+j) 0)))=true:=h;change(!O.blt (key x) (key (l.getD (b+i) 0)))=true
   rw[Q3]at h ⊢
   show QH g h
 have W0:Own l sa (sa+d+t):=λi H I=>by
  by_cases c:i<sa+d
  .have:=W1 i H c
   lia
  have:=W2 i ⋯ I
  lia
 have gm:∀i,i<n->l.getD i 0<n:=λi hi=>P _ (zj ⋯);show jU (zH ⋯ (jU (nN hC P (gm _ ⋯) ⋯ ⋯ (by intro i hi;show Qp (W1 (sa+i) ⋯ ⋯).2 (W2 (sa+d) ⋯ ⋯).1) f.kind (a2 D) λk k1 k2 k3=>?_)));dsimp only;have a5:∀i,sa<=i->i<sa+k->O.kle (key (l.getD i 0)) (key (l.getD (sa+d) 0)):=λi H I=>by have:=Cp (k2 (i-sa) ⋯);rwa[show sa+(i-sa)=i by lia]at this
 have am:∀i,sa+k<=i->i<sa+d->O.kle (key (l.getD (sa+d) 0)) (key (l.getD i 0)):=λi H I=>by have:=x9 (k3 (i-sa) ⋯ ⋯);rwa[show sa+(i-sa)=i by lia]at this
 show zJ (λc1=>jY (q a4 l f (λ_ _=>rfl) (a3 l (λ_ _=>rfl) (λi j H I R=>?_) W0))) λc1=>?_
 .by_cases c:j<sa+d;show D i j H I c;by_cases c':i<sa+d;show QH (a5 i H ⋯) (C _ j (Qg _) ⋯ R);show C i j ⋯ I R
 rw[show sa+k+(d-k)-1=sa+d-1 by lia];show jU (zH ⋯ (jU (nN hC P (gm _ ⋯) ⋯ ⋯ (by intro i hi;show Qp (W1 (sa+d-1) ⋯ ⋯).2 (W2 (sa+d+i) ⋯ ⋯).1) f.kind (a2 C) λv v1 v2 v3=>?_)));dsimp only;have an:∀i,sa+d<=i->i<sa+d+v->O.kle (key (l.getD i 0)) (key (l.getD (sa+d-1) 0)):=λi H I=>by have:=Cp (v2 (i-(sa+d)) ⋯);rwa[show sa+d+(i-(sa+d))=i by lia]at this
 have a8:∀i,sa+d+v<=i->i<sa+d+t->O.kle (key (l.getD (sa+d-1) 0)) (key (l.getD i 0)):=λi H I=>by have:=x9 (v3 (i-(sa+d)) ⋯ ⋯);rwa[show sa+d+(i-(sa+d))=i by lia]at this
 show zJ (λc2=>jY (q a4 l f (λ_ _=>rfl) (a3 l (λ_ _=>rfl) (λi j H I R=>?_) W0))) λc2=>?_
 .by_cases c:j<sa+d;show D i j H I c;by_cases c':i<sa+d;show QH (D i (sa+d-1) H ⋯ ⋯) (a8 j ⋯ R);show C i j ⋯ I R
 have ex:(AL it l).extract (sa+k) (sa+d)=AL it ((l.drop (sa+k)).take (d-k)):=by rw[sj,show sa+d-(sa+k)=d-k by lia]
 rw[ex,xR];have lx:Qa ((l.drop (sa+k)).take (d-k))=d-k:=by rw[jZ,uf];lia
 have ly:Qa ((l.drop (sa+d)).take v)=v:=by rw[jZ,uf];lia
 have hx:∀y∈(l.drop (sa+k)).take (d-k),y<n:=λy B=>P y (Uu (Uc B));have B:∀y∈(l.drop (sa+d)).take v,y<n:=λy B=>P y (Uu (Uc B));have sx:Srt key ((l.drop (sa+k)).take (d-k)):=Sg.srt λi j H I R=>D i j ⋯ I ⋯;have sy:Srt key ((l.drop (sa+d)).take v):=Sg.srt λi j H I R=>C i j H I ⋯;have p0:∀y∈(l.drop (sa+k)).take (d-k),O.kle (key (((l.drop (sa+d)).take v).getD 0 0)) (key y):=λy B=>by show zh (fS B) λj U j2 j3 Z=>?_;subst Z;rw[rP ⋯];show am j U ⋯
 have p1:∀y∈(l.drop (sa+d)).take v,O.kle (key y) (key (((l.drop (sa+k)).take (d-k)).getD (Qa ((l.drop (sa+k)).take (d-k))-1) 0)):=λy B=>by show zh (fS B) λj U j2 j3 Z=>?_;subst Z;rw[lx,rP ⋯,show sa+k+(d-k-1)=sa+d-1 by lia];show an j U j3
 have ak:(l.drop (sa+k)).take (d-k)++(l.drop (sa+d)).take v=(l.drop (sa+k)).take (d-k+v):=by rw[jx,UO,show sa+k+(d-k)=sa+d by lia]
 have a7:∀m u,Ks a4 u->m.Perm ((l.drop (sa+k)).take (d-k)++(l.drop (sa+d)).take v)->Srt key m->Gd κ it n (setArr u ((((AL it m).toList).zipIdx 0).foldl (λa (p:vo×Nat)=>a.setIfInBounds (sa+k+p.2) p.1) (QaB u))) (sJ l m (sa+k)) (pre++(sa,d+t,p)::post)/\(∀i,e<=i->(sJ l m (sa+k)).getD i 0=l.getD i 0)/\qI key (sJ l m (sa+k)) (pre++(sa,d+t,p)::post) 0 e:=λm u ks pm sm=>by
  have G2:=f.ks ks;have lm:Qa m=d-k+v:=by rw[pm.length_eq,jR,lx,ly]
  have hm:sa+k+Qa m<=Qa l:=⋯
  have mem:∀i,sa+k<=i->i<sa+k+Qa m->(∃j,sa+k<=j/\j<sa+d/\m.getD (i-(sa+k)) 0=l.getD j 0)\/∃j,sa+d<=j/\j<sa+d+v/\m.getD (i-(sa+k)) 0=l.getD j 0:=λi H I=>by
   have:=pm.mem_iff.mp (zj (l:=m) (i:=i-(sa+k)) ⋯);rcases ut.mp this with z|z;show zh (fS z) λj U j2 j3 e=>.inl (j,U,⋯,e)
   show zh (fS z) λj U j2 j3 e=>.inr (j,U,j3,e)
  show((G2.kind,G2.fail,?_,G2.pend,(nD (by rw[lm,<-ak];show pm)).trans f.perm),λi hi=>by rw[dJ hm,Zo ⋯],a3 _ (λi hi=>by rw[dJ hm,Zo ⋯]) (λi j H I R=>?_) λi H I=>?_)
  .change(((AL it m).toList).zipIdx 0).foldl (λa (p:vo×Nat)=>a.setIfInBounds (sa+k+p.2) p.1) (QaB u)=_;rw[G2.arr];show L7 hm
  .rw[dJ hm,dJ hm];by_cases Y:sa+k<=i/\i<sa+k+Qa m
   .rw[Zx Y];by_cases cj:sa+k<=j/\j<sa+k+Qa m
    .rw[Zx cj];show sm.get ⋯ ⋯
    rw[Zo cj];rcases mem i Y.1 Y.2 with⟨y,y1,y2,e⟩|⟨y,y1,y2,e⟩
    .rw[e];show QH (D y (sa+d-1) ⋯ ⋯ ⋯) (a8 j ⋯ R)
    rw[e];show C y j y1 ⋯ R
   rw[Zo Y];by_cases cj:sa+k<=j/\j<sa+k+Qa m
   .rw[Zx cj];rcases mem j cj.1 cj.2 with⟨y,y1,y2,e⟩|⟨y,y1,y2,e⟩
    .rw[e];show D i y H ⋯ y2
    rw[e];show QH (a5 i H ⋯) (C _ y (Qg _) y1 ⋯)
   rw[Zo cj];by_cases c':j<sa+k;show D i j H I ⋯;by_cases ab:i<sa+k;show QH (a5 i H ab) (C _ j (Qg _) ⋯ R);show C i j ⋯ I R
  rw[dJ hm];by_cases Y:sa+k<=i/\i<sa+k+Qa m
  .rw[Zx Y];rcases mem i Y.1 Y.2 with⟨y,y1,y2,e⟩|⟨y,y1,y2,e⟩
   .rw[e];show W0 y ⋯ ⋯
   rw[e];show W0 y ⋯ ⋯
  rw[Zo Y];show W0 i H I
 have hd:∀x∈(l.drop (sa+k)).take (d-k),∀y∈(l.drop (sa+d)).take v,x<y:=λx hx y B=>by show zh (fS hx) λi i1 i2 i3 Z=>?_;subst Z;show zh (fS B) λj U j2 j3 Z=>?_;subst Z;show Qp (W1 i ⋯ ⋯).2 (W2 j U ⋯).1
 show q9 (λ_=>?_) λ_=>?_
 all_goals
  first
   |show jU (PQ hC hx B sx sy (λz=>by rw[z]at lx;simp at lx;lia) (λz=>by rw[z]at ly;simp at ly;lia) hd p0 p1 f.kind λm u ks pm sm=>?_)
   |show jU (PN hC hx B sx sy (λz=>by rw[z]at lx;simp at lx;lia) (λz=>by rw[z]at ly;simp at ly;lia) hd p0 p1 f.kind λm u ks pm sm=>?_)
  show ZL (a7 m u ks pm sm) λg1 g3 g2=>?_;show jU (PR (κ:=κ) (it:=it) (n:=n) g1 λa9 G3=>jU (Qaf ?_));have ef:=G3.fail;unfold Qam at ef;rw[ef];show jY (q a9 _ G3 g3 g2)
end
end LB
namespace LB
open PySem PySem.W PyProof.Rows
section
variable{prog:j8}{w:uj}{A:uv}{E:ZW}{s:jQ}{κ:vm}{it:Array vo}{O:vV}{key:Nat->O.α}{n:Nat}
theorem nQ(U:Cmp prog w A s κ it key n){st:j9}{l:Zg}{p:fB}(H:Gd κ it n st l p){i j:Nat}(m:i<n)(u:j<n){Q:Option Bool->j9->Prop}(h:Q (Qr (O.blt (key (l.getD i 0)) (key (l.getD j 0)))) st):wpS (ud prog w) A E s (ltAt' i j) Q st:=by rw[ltAt'_eq];have v:=H.len;show jU (Qaf ?_);dsimp only;rw[H.arr];show jU (zH ⋯ (jU (zH ⋯ (Xo U H.kind (H.lt _ (zj ⋯)) (H.lt _ (zj ⋯)) h))))
noncomputable def oJ(l:Zg)(i j:Nat):Zg:=sJ l ((l.drop i).take (j-i)).reverse i
theorem BV{l:Zg}{i j:Nat}(H:i<=j)(I:j<=Qa l):((l.drop i).take (j-i)).reverse.length=j-i:=by
 rw[uV,jZ,uf]
 lia
theorem Jy{l:Zg}{i j k:Nat}(H:i<=j)(I:j<=Qa l):(oJ l i j).getD k 0=if i<=k/\k<j then l.getD (i+j-1-k) 0 else l.getD k 0:=by
 obtain⟨d,rfl⟩:=Nat.le.dest H;have r:=BV H I;unfold oJ
 rw[Vc]at r ⊢
 rw[dJ (by rw[r];show I),r];by_cases h:i<=k/\k<i+d
 .obtain⟨m,rfl⟩:=Nat.le.dest h.1;have Y:m<d:=Nat.lt_of_add_lt_add_left h.2;have tl:Qa ((l.drop i).take d)=d:=by rw[<-uV,r]
  rw[Zx h,Zx h,Vc,Qc,UU (by rw[tl];show Y),tl,<-Qc,rP ⋯,show i+(i+d)-1-(i+m)=i+(d-1-m)by lia]
 rw[Zo h,Zo h]
theorem xF{l:Zg}{i j:Nat}(H:i<=j)(I:j<=Qa l):(oJ l i j).Perm l:=by show nD ?_;rw[BV H I];show List.reverse_perm _
theorem NM(f:Nat->Nat)(P:a.size=Qa l)(h:∀k,k<Qa l->a[k]?=Qr (u8 it (f k))/\l.getD k 0=f k):a=AL it l:=by apply WY;intro k;by_cases H:k<Qa l;rw[(h k H).1,km H,(h k H).2];rw[Uz ⋯,Uz (by rw[cW];lia)]
theorem K9(x:i<=j)(H:j<=Qa l):mirror (AL it l) i j ((j-i)/2)=AL it (oJ l i j):=by have I:Qa (oJ l i j)=Qa l:=(xF x H).length_eq;show NM (λk=>(oJ l i j).getD k 0) (by rw[mirror_size,cW,I]) λk J=>(?_,rfl);rw[getElem?_mirror_all (by rw[cW];show H),Jy x H];split;rw[km ⋯];rw[km ⋯]
theorem yZ{M:vJ}{st:j9}{l:Zg}{p:fB}(H:Gd κ it n st l p){i j:Nat}(x:i<=j)(I:j<=n){Q:Unit->j9->Prop}(h:∀S,Gd κ it n S (oJ l i j) p->Q () S):wpS M A E s (reverseSlice' i j) Q st:=by rw[reverseSlice'_eq];have u:=H.len;show vW (h _ (H.kind,H.fail,?_,H.pend,(xF x ⋯).trans H.perm));change mirror (QaB st) i j ((j-i)/2)=_;rw[H.arr];show K9 x ⋯
noncomputable def rp(O:vV):vV where
 α:=O.α×Nat
 blt a b:=O.blt a.1 b.1 || (!O.blt b.1 a.1 && decide (a.2<b.2))
 irrefl a:=by simp[O.irrefl]
 trans a b c x H:=by
  simp only[Uk,QW,Q3,decide_eq_true_eq]at x H ⊢
  rcases x with x|⟨x,J⟩
  .rcases H with H|⟨H,P⟩
   .show .inl (O.trans _ _ _ x H)
   .show .inl ((O.negTrans _ c.1 _ x).resolve_right λz=>?_);rw[H]at z;cases z
  .rcases H with H|⟨H,P⟩
   .show .inl ((O.negTrans _ a.1 _ H).resolve_left λz=>?_);rw[x]at z;cases z
   .show .inr (QH x H,⋯)
 negTrans a b c h:=by
  simp only[Uk,QW,Q3,decide_eq_true_eq]at h ⊢
  rcases h with h|⟨h,k⟩
  .rcases O.negTrans _ b.1 _ h with z|z
   .show .inl (.inl z)
   .show .inr (.inl z)
  .cases p:O.blt a.1 b.1 with
   |true=>show .inl (.inl rfl)
   |false=>
    cases B:O.blt b.1 c.1 with
    |true=>show .inr (.inl rfl)
    |false=>
     have I:O.blt b.1 a.1=false:=by
      cases z:O.blt b.1 a.1 with
      |false=>rfl
      |true=>
       rcases O.negTrans _ c.1 _ z with y|y
       .rw[B]at y;cases y
       .rw[h]at y;cases y
     have R:O.blt c.1 b.1=false:=by
      cases z:O.blt c.1 b.1 with
      |false=>rfl
      |true=>
       rcases O.negTrans _ a.1 _ z with y|y
       .rw[h]at y;cases y
       .rw[p]at y;cases y
     rcases Ur a.2 b.2 with z|z
     .show .inl (.inr (I,z))
     .show .inr (.inr (R,⋯))
 total a b x H:=by rw[WR]at x H;have e:=O.total _ _ x.1 H.1;have g:=x.2;have g2:=H.2;rw[H.1]at g;rw[x.1]at g2;simp only[Vf,jA,decide_eq_false_iff_not]at g g2;show Prod.ext e ⋯
noncomputable def lx(key:Nat->O.α)(i:Nat):(rp O).α:=(key i,i)
theorem N2(h:O.klt (key i) (key j)):(rp O).kle (lx key i) (lx key j):=by have g:O.blt (key i) (key j)=true:=h;have g2:O.blt (key j) (key i)=false:=UI h;change(O.blt (key j) (key i) || (!O.blt (key i) (key j) && decide (j<i)))=false;rw[g,g2];rfl
theorem N1(h:O.kle (key i) (key j))(H:i<=j):(rp O).kle (lx key i) (lx key j):=by have g:O.blt (key j) (key i)=false:=h;change(O.blt (key j) (key i) || (!O.blt (key i) (key j) && decide (j<i)))=false;rw[g,decide_eq_false ⋯,VN];rfl
theorem Kl(h:(rp O).kle (lx key i) (lx key j)):O.kle (key i) (key j):=by have h:(O.blt (key j) (key i) || (!O.blt (key i) (key j) && decide (j<i)))=false:=h;show(WR.mp h).1
theorem Kk(h:j<i):(rp O).blt (lx key i) (lx key j)=O.blt (key i) (key j):=by change(O.blt (key i) (key j) || (!O.blt (key j) (key i) && decide (i<j)))=_;rw[decide_eq_false ⋯,VN,Wv]
theorem Cmp.lx(U:Cmp prog w A s κ it key n):Ah prog w A s κ it (lx key) n:=λi j u H Q q=>by rw[Kk u]at q;show U i j H ⋯ Q q
theorem Hy{M:vJ}{st:j9}{l:Zg}{lo a H:Nat}{f:Nat->Option (Option Nat)×Nat->StateT j9 Sem (ForInStep (Option (Option Nat)×Nat))}(B:1<=a)(J:a<=H)(d:Sg (lx key) l lo (lo+a))(R:Own l lo (lo+a))(t:∀i,lo+a<=i->i<lo+H->l.getD i 0=i)
 (Q:∀i x,1<=x->x<H->wpS M A E s (f i (Qs,x)) (λr P=>P=st/\r=if O.blt (key (l.getD (lo+x) 0)) (key (l.getD (lo+x-1) 0))=true then .done (Qs,x)else .yield (Qs,x+1)) st):
 wpS M A E s (forIn [a:H] ((Qs,a):Option (Option Nat)×Nat) f) (λc P=>P=st/\∃m,c=(Qs,m)/\a<=m/\m<=H/\(Sg (lx key) l lo (lo+m)/\Own l lo (lo+m))/\(m=H\/m<H/\O.klt (key (l.getD (lo+m) 0)) (key (l.getD (lo+m-1) 0)))) st:=by
 show uP (I:=λx c P=>P=st/\c=(Qs,x)/\Sg (lx key) l lo (lo+x)/\Own l lo (lo+x)) ?_ ?_ (rfl,rfl,d,R)
 .show λx c P g y Y=>za Y λz Z S W=>?_;clear Y;subst z;subst Z;show u0 (Q x x ⋯ y) ?_;rintro r P ⟨rfl,rfl⟩
  cases e:O.blt (key (l.getD (lo+x) 0)) (key (l.getD (lo+x-1) 0))with
  |true=>show(rfl,x,rfl,g,⋯,(S,W),.inr (y,e))
  |false=>
   have u:=t (lo+x) ⋯ ⋯;show(rfl,rfl,λi j p U v=>?_,λi p v=>?_)
   .by_cases c:j<lo+x;show S i j p U c;have:j=lo+x:=⋯
    subst this;by_cases C:i=lo+x
    .subst C;show Uv _
    show QH (S i (lo+x-1) p ⋯ ⋯) (N1 e (by have:=W (lo+x-1) ⋯ ⋯;lia))
   by_cases c:i=lo+x
   .rw[c,u]
    lia
   have:=W i p ⋯
   lia
 show λc P Y=>za Y λz Z S W=>?_;clear Y;subst z;subst Z
 rw[show max a H=H by lia]at S W ⊢
 show(rfl,H,rfl,J,Qg _,(S,W),.inl rfl)
def Fl(key:Nat->O.α)(l:Zg)(a b:Nat):Prop:=∀i j,a<=i->i<j->j<b->(rp O).kle (lx key (l.getD j 0)) (lx key (l.getD i 0))
structure Dn(key:Nat->O.α)(n:Nat)(l:Zg)(lo c x:Nat):Prop where
 own:Own l lo c
 un:∀i,c<=i->i<n->l.getD i 0=i
 fall:Fl key l lo c
 less:∀i j,lo<=i->i<c->c<=j->j<x->O.klt (key (l.getD j 0)) (key (l.getD i 0))
 eq:∀i,c<=i->i<x->key (l.getD i 0)=key (l.getD (x-1) 0)
structure Dn1(key:Nat->O.α)(n:Nat)(l:Zg)(lo x:Nat):Prop where
 own:Own l lo x
 un:∀i,x<=i->i<n->l.getD i 0=i
 fall:Fl key l lo x
theorem Dn.close{l:Zg}{lo c x:Nat}(h:Dn key n l lo c x)(v:Qa l=n)(y:lo<=c)(I:c<x)(Q:x<=n):Dn1 key n (oJ l c x) lo x:=by
 have g:∀k,(oJ l c x).getD k 0=if c<=k/\k<x then c+x-1-k else l.getD k 0:=λk=>by rw[Jy ⋯ ⋯];split;show h.un _ ⋯ ⋯;rfl
 have e:∀i,c<=i->i<x->key i=key (x-1):=λi a b=>by have:=h.eq i a b;rwa[h.un i a ⋯,h.un (x-1) ⋯ ⋯]at this
 show(λi H p=>?_,λi H m=>?_,λi j H S u=>?_)
 .rw[g];split
  lia
  have:=h.own i H ⋯
  lia
 .rw[g,Zo ⋯];show h.un i ⋯ m
 rw[g,g];by_cases f:c<=j
 .rw[Zx (f,u)];by_cases C:c<=i
  .rw[Zx (C,⋯)];show N1 ?_ ⋯;rw[e _ ⋯ ⋯,e (c+x-1-i) ⋯ ⋯];show Uv _
  rw[Zo ⋯];have:=h.less i (c+x-1-j) H ⋯ ⋯ ⋯;rw[h.un (c+x-1-j) ⋯ ⋯]at this;show N2 this
 rw[Zo ⋯,Zo ⋯];show h.fall i j H S ⋯
theorem Dn.one{l:Zg}{lo c x:Nat}(h:Dn key n l lo c x)(y:lo<=c)(I:c+1=x)(Q:x<=n):Dn1 key n l lo x:=by
 show(λi H f=>?_,λi H m=>h.un i ⋯ m,λi j H S u=>?_)
 .by_cases e:i=c
  .rw[h.un i ⋯ ⋯]
   lia
  have:=h.own i H ⋯
  lia
 by_cases e:j=c;show N2 (h.less i j H ⋯ ⋯ u);show h.fall i j H S ⋯
theorem Dn1.open{l:Zg}{lo x:Nat}(h:Dn1 key n l lo x)(P:∀i,lo<=i->i<x->O.klt (key (l.getD x 0)) (key (l.getD i 0))):Dn key n l lo x (x+1):=by
 show(h.own,h.un,h.fall,λi j m H u M=>?_,λi y I=>?_)
 .have:j=x:=⋯
  subst this;show P i m H
 rw[show i=x+1-1 by lia]
theorem Dn.more{l:Zg}{lo c x:Nat}(h:Dn key n l lo c x)(I:c<x)(e:key (l.getD x 0)=key (l.getD (x-1) 0)):Dn key n l lo c (x+1):=by
 show(h.own,h.un,h.fall,λi j m H u M=>?_,λi Q d=>?_)
 .by_cases z:j=x
  .rw[z,e];show h.less i (x-1) m H ⋯ ⋯
  show h.less i j m H u ⋯
 rw[Nat.add_sub_cancel,e];by_cases z:i=x;rw[z,e];show h.eq i Q ⋯
theorem PD(x:O.klt a b)(H:O.kle b c):O.klt a c:=(O.negTrans _ c _ x).resolve_right λz=>by have H:O.blt c b=false:=H;rw[H]at z;cases z
theorem Dn.low{l:Zg}{lo c x:Nat}(h:Dn key n l lo c x)(I:c<x)(i:Nat)(H:lo<=i)(d:i<x):O.kle (key (l.getD (x-1) 0)) (key (l.getD i 0)):=by
 by_cases z:c<=i
 .rw[h.eq i z d];show Uv _
 show UI (h.less i (x-1) H ⋯ ⋯ ⋯)
theorem TV{M:vJ}{α:Type}{c:Prop}[Decidable c]{x y:StateT j9 Sem α}{Q:α->j9->Prop}{st:j9}(R:j9->Prop)(B:c->(∀S,R S->wpS M A E s y Q S)->wpS M A E s x Q st)(I:¬c->R st)(H:∀S,R S->wpS M A E s y Q S):wpS M A E s (if c then x else y) Q st:=q9 (λz=>B z H) λz=>H st (I z)
theorem HS(hC:Cmp prog w A s κ it key n){st:j9}{l:Zg}{Z:fB}(R:Gd κ it n st l Z){lo H:Nat}(h1:1<=H)(h2:lo+H<=n)(hU:∀i,lo<=i->i<n->l.getD i 0=i){Q:Option Nat->j9->Prop}
 (q:∀m M P,Gd κ it n M P Z->(∀i,i<lo->P.getD i 0=l.getD i 0)->1<=m->m<=H->Sg (lx key) P lo (lo+m)/\Own P lo (lo+m)->(∀i,lo+m<=i->i<n->P.getD i 0=i)->Q (Qr m) M):wpS (ud prog w) A E s (countRun' lo H) Q st:=by
 have ln:=R.len
 have s1:Sg (lx key) l lo (lo+1):=λi j h1 h2 h3=>by
  have:i=j:=⋯
  subst this;show Uv _
 have w1:Own l lo (lo+1):=λi a b=>by
  rw[hU i a ⋯]
  lia
 unfold countRun';show jU (u0 (Hy (key:=key) (Qg 1) h1 s1 w1 (λi a b=>hU i ⋯ ⋯) λi x v B=>?_) ?_)
 .dsimp only;show jU (nQ hC R ⋯ ⋯ ?_);dsimp only;split<;>show jY (rfl,rfl)
 rintro _ _ ⟨rfl,m,rfl,m1,m2,⟨S,W⟩,hm⟩;rename_i st;dsimp only;show zJ (λc=>jY (q m st l R (λ_ _=>rfl) m1 m2 (S,W) λi a b=>hU i ⋯ b)) λc=>?_;have hm:=hm.resolve_left c;have a2:(∀k,lo<=k->k<lo+m->key (l.getD k 0)=key (l.getD (lo+m-1) 0))->Dn key n l lo lo (lo+m):=λsame=>(λi a b=>by lia,λi a b=>hU i a b,λi j a b c=>by lia,λi j a b=>by lia,same);show TV (λM=>∃P,Gd κ it n M P Z/\(∀i,i<lo->P.getD i 0=l.getD i 0)/\Dn key n P lo (lo+m) (lo+(m+1))) (λc a1=>?_) (λc=>(l,R,λ_ _=>rfl,?_)) ?_
 .show jU (nQ hC R ⋯ ⋯ ?_);dsimp only
  cases a3:O.blt (key (l.getD lo 0)) (key (l.getD (lo+m-1) 0))with
  |true=>
   rw[Zx rfl];show jY (q m st l R (λ_ _=>rfl) m1 m2 (S,W) λi a b=>hU i ⋯ b)
  |false=>
   rw[Zo Qk];have same:∀k,lo<=k->k<lo+m->key (l.getD k 0)=key (l.getD (lo+m-1) 0):=λk h1 h2=>O.total _ _ (QH a3 (Kl (S lo k (Qg _) h1 h2))) (Kl (S k (lo+m-1) h1 ⋯ ⋯));have D:=(a2 same).close ln (Qg _) ⋯ ⋯;show jU (yZ R ⋯ ⋯ λM G'=>a1 M (_,G',λi p=>?_,D.open λi p u=>?_));rw[Jy ⋯ ⋯,Zo ⋯];rw[Jy ⋯ ⋯,Jy ⋯ ⋯,Zo ⋯,Zx (p,u),same (lo+(lo+m)-1-i) ⋯ ⋯];show hm.2
 .have:m=1:=⋯
  subst this;show Dn1.open (w1,λi a b=>hU i ⋯ b,λi j a b c=>by lia) λi p u=>?_;have:i=lo:=⋯
  subst this;show hm.2
 rintro M ⟨P,G',fr,D⟩;have ab:=G'.len;show jU (Qav (vf (rfl,?_)))
 show jU (u0 (uP (I:=λx c r=>∃U z,c=(Qs,x,z)/\Gd κ it n r U Z/\(∀i,i<lo->U.getD i 0=l.getD i 0)/\Dn key n U lo (lo+x-(z+1)) (lo+x)/\z+1<=x)
  (Q:=λc r=>∃x U z,c=(Qs,x,z)/\m+1<=x/\x<=H/\Gd κ it n r U Z/\(∀i,i<lo->U.getD i 0=l.getD i 0)/\Dn key n U lo (lo+x-(z+1)) (lo+x)/\z+1<=x) ?_ ?_ (P,0,rfl,G',fr,by rw[show lo+(m+1)-(0+1)=lo+m by lia];show D,⋯)) ?_)
 .rintro x c r v B ⟨U,z,rfl,g,f,d,hz⟩;have Y:=g.len;dsimp only;show jU (nQ hC g ⋯ ⋯ ?_);dsimp only
  cases e:O.blt (key (U.getD (lo+x) 0)) (key (U.getD (lo+x-1) 0))with
  |true=>
   rw[Zx rfl];have low:∀i,lo<=i->i<lo+x->O.klt (key (U.getD (lo+x) 0)) (key (U.getD i 0)):=λi a b=>PD e (d.low ⋯ i a b);show q9 (λcz=>jU (yZ g ⋯ ⋯ λJ C=>jY (_,0,rfl,C,λi p=>?_,?_,⋯))) λcz=>jY (U,0,rfl,g,f,?_,⋯)
   .rw[Jy ⋯ ⋯,Zo ⋯];show f i p
   .have:=(d.close Y ⋯ ⋯ ⋯).open λi p u=>by rw[Jy ⋯ ⋯,Zo ⋯];rw[Jy ⋯ ⋯];split;show low _ ⋯ ⋯;show low i p u
    rw[show lo+(x+1)-(0+1)=lo+x by lia];show this
   have:=(d.one ⋯ ⋯ ⋯).open low;rw[show lo+(x+1)-(0+1)=lo+x by lia];show this
  |false=>
   rw[Zo Qk];show jU (nQ hC g ⋯ ⋯ ?_);dsimp only
   cases e':O.blt (key (U.getD (lo+x-1) 0)) (key (U.getD (lo+x) 0))with
   |true=>
    rw[Zx rfl];show jY (x,U,z,rfl,v,⋯,g,f,d,hz)
   |false=>
    rw[Zo Qk];have ee:key (U.getD (lo+x) 0)=key (U.getD (lo+x-1) 0):=O.total _ _ e e';show jY (U,z+1,rfl,g,f,?_,⋯);rw[show lo+(x+1)-(z+1+1)=lo+x-(z+1)by lia];show d.more ⋯ ee
 .rintro c r ⟨U,z,rfl,g,f,d,hz⟩
  rw[show max (m+1) H=H by lia]at d hz ⊢
  show(H,U,z,rfl,⋯,Qg _,g,f,d,hz)
 rintro c r ⟨x,U,z,rfl,v,B,g,f,d,hz⟩;have Y:=g.len;dsimp only;show TV (λJ=>∃t,Gd κ it n J t Z/\(∀i,i<lo->t.getD i 0=l.getD i 0)/\Dn1 key n t lo (lo+x)) (λcz up=>jU (yZ g ⋯ ⋯ λJ C=>up J (_,C,λi p=>?_,d.close Y ⋯ ⋯ ⋯))) (λcz=>(U,g,f,d.one ⋯ ⋯ ⋯)) ?_
 .rw[Jy ⋯ ⋯,Zo ⋯];show f i p
 rintro J ⟨t,C,a4,D3⟩;have al:=C.len;show jU (yZ C ⋯ ⋯ λa8 G4=>?_);have g4:∀i,(oJ t lo (lo+x)).getD i 0=if lo<=i/\i<lo+x then t.getD (lo+(lo+x)-1-i) 0 else t.getD i 0:=λi=>Jy ⋯ ⋯
 have a6:∀i,i<lo->(oJ t lo (lo+x)).getD i 0=l.getD i 0:=λi p=>by rw[g4,Zo ⋯];show a4 i p
 have u4:∀i,lo+x<=i->i<n->(oJ t lo (lo+x)).getD i 0=i:=λi p hn=>by rw[g4,Zo ⋯];show D3.un i p hn
 show jU (u0 (Hy (l:=oJ t lo (lo+x)) (key:=key) (lo:=lo) ⋯ B (λi j p a7 u=>?_) (λi p u=>?_) (λi p u=>u4 i p ⋯) λi y ak a9=>?_) ?_)
 .rw[g4,g4,Zx ⋯,Zx ⋯];by_cases a5:i=j
  .rw[a5];show Uv _
  show D3.fall _ _ ⋯ ⋯ ⋯
 .rw[g4,Zx (p,u)];show D3.own _ ⋯ ⋯
 .dsimp only;show jU (nQ hC G4 ⋯ ⋯ ?_);dsimp only;split<;>show jY (rfl,rfl)
 rintro _ _ ⟨rfl,y,rfl,y1,y2,S4,_⟩;show jY (q y _ _ G4 a6 ⋯ y2 S4 λi p hn=>u4 i ⋯ hn)
end
end LB
namespace LB
open PySem PySem.W PyProof.Rows
section
variable{prog:j8}{w:uj}{A:uv}{E:ZW}{s:jQ}{κ:vm}{it:Array vo}{O:vV}{key:Nat->O.α}{n:Nat}
noncomputable def Ax(l:Zg)(a d:Nat):Zg:=sJ l (l.getD a 0::(l.drop (a-d)).take d) (a-d)
theorem Az{l:Zg}{a d:Nat}(H:a<Qa l)(I:d<=a):Qa (l.getD a 0::(l.drop (a-d)).take d)=d+1:=by
 rw[jV,jZ,uf]
 lia
theorem Ay{l:Zg}{a d k:Nat}(H:a<Qa l)(I:d<=a):(Ax l a d).getD k 0=if k=a-d then l.getD a 0 else if a-d<k/\k<=a then l.getD (k-1) 0 else l.getD k 0:=by
 unfold Ax;have bl:=Az H I;rw[dJ ⋯,bl];by_cases C:k=a-d
 .rw[Zx ⋯,Zx C,show k-(a-d)=0 by lia];rfl
 rw[Zo C];by_cases r:a-d<k/\k<=a;rw[Zx ⋯,Zx r,show k-(a-d)=(k-1-(a-d))+1 by lia,List.getD_cons_succ,rP ⋯,show a-d+(k-1-(a-d))=k-1 by lia];rw[Zo ⋯,Zo r]
theorem xi{l:Zg}{a d:Nat}(H:a<Qa l)(I:d<=a):(Ax l a d).Perm l:=by
 show nD ?_;have e:(l.drop (a-d)).take (d+1)=(l.drop (a-d)).take d++[l.getD a 0]:=by rw[jx,UO,show a-d+d=a by lia,pV H]
 rw[Az H I,e];show(List.perm_append_singleton _ _).symm
theorem HB(H:a<Qa l)(I:d<=a):bubble (AL it l) a d=AL it (Ax l a d):=by have J:Qa (Ax l a d)=Qa l:=(xi H I).length_eq;show NM (λk=>(Ax l a d).getD k 0) (by rw[bubble_size,cW,J]) λk M=>(?_,rfl);rw[getElem?_bubble (by rw[cW];show H) d I,Ay H I];split;rw[km H];split;rw[km ⋯];rw[km ⋯]
theorem MM{M:vJ}{st:j9}{l:Zg}{p:fB}(H:Gd κ it n st l p){a b:Nat}(x:a<n)(I:b<=a){Q:Unit->j9->Prop}(h:∀S,Gd κ it n S (Ax l a (a-b)) p->Q () S):wpS M A E s (moveDown' a b) Q st:=by rw[moveDown'_eq];have u:=H.len;show vW (h _ (H.kind,H.fail,?_,H.pend,(xi ⋯ ⋯).trans H.perm));change bubble (QaB st) a (a-b)=_;rw[H.arr];show HB ⋯ ⋯
theorem OV(hC:Cmp prog w A s κ it key n){st:j9}{l:Zg}{t:fB}(hG:Gd κ it n st l t){lo f ok:Nat}(y:1<=ok)(H:ok<=f)(h3:lo+f<=n)(D:Sg (lx key) l lo (lo+ok)/\Own l lo (lo+ok))(hU:∀i,lo+ok<=i->i<n->l.getD i 0=i){Q:Bool->j9->Prop}
 (q:∀P M,Gd κ it n P M t->(∀i,i<lo->M.getD i 0=l.getD i 0)->Sg (lx key) M lo (lo+f)/\Own M lo (lo+f)->(∀i,lo+f<=i->i<n->M.getD i 0=i)->Q true P):wpS (ud prog w) A E s (binarySort' lo f ok) Q st:=by
 unfold binarySort'
 show jU (u0 (uP (I:=λk c P=>c=(Qs,())/\∃M,Gd κ it n P M t/\(∀i,i<lo->M.getD i 0=l.getD i 0)/\(Sg (lx key) M lo (lo+k)/\Own M lo (lo+k))/\∀i,lo+k<=i->i<n->M.getD i 0=i)
  (Q:=λc P=>c=(Qs,())/\∃M,Gd κ it n P M t/\(∀i,i<lo->M.getD i 0=l.getD i 0)/\(Sg (lx key) M lo (lo+f)/\Own M lo (lo+f))/\∀i,lo+f<=i->i<n->M.getD i 0=i) ?_ ?_ (rfl,l,hG,λ_ _=>rfl,by rw[show max ok 1=ok by lia];show(D,hU))) ?_)
 .rintro k c P m p ⟨rfl,M,g,Y,⟨S,W⟩,U⟩;have a3:=g.len;dsimp only
  show jU (u0 (uP (I:=λx c R=>R=P/\∃a b,c=(Qs,a,b)/\a<=b/\b<=k/\b+x<=k+a/\(∀i,lo<=i->i<lo+a->(rp O).kle (lx key (M.getD i 0)) (lx key (M.getD (lo+k) 0)))/\∀i,lo+b<=i->i<lo+k->(rp O).kle (lx key (M.getD (lo+k) 0)) (lx key (M.getD i 0)))
   (Q:=λc R=>R=P/\∃a b,c=(Qs,a,b)/\a<=k/\(∀i,lo<=i->i<lo+a->(rp O).kle (lx key (M.getD i 0)) (lx key (M.getD (lo+k) 0)))/\∀i,lo+a<=i->i<lo+k->(rp O).kle (lx key (M.getD (lo+k) 0)) (lx key (M.getD i 0))) ?_ ?_ (rfl,0,k,rfl,⋯,⋯,⋯,λi y H=>by lia,λi y H=>by lia)) ?_)
  .rintro x c R _ hx ⟨rfl,a,b,rfl,ab,bk,bx,J,Z⟩;dsimp only;show q9 (λc=>?_) λc=>jU (nQ hC g ⋯ ⋯ ?_)
   .have:a=b:=⋯
    subst this;show jY (rfl,a,a,rfl,⋯,J,Z)
   dsimp only;rw[<-Kk (key:=key) (i:=M.getD (lo+k) 0) (j:=M.getD (lo+(a+b)/2) 0) (by rw[U (lo+k) ⋯ ⋯];show(W _ ⋯ ⋯).2)]
   cases e:(rp O).blt (lx key (M.getD (lo+k) 0)) (lx key (M.getD (lo+(a+b)/2) 0))with
   |true=>
    rw[Zx rfl];show jY (rfl,a,(a+b)/2,rfl,⋯,⋯,⋯,J,λi y H=>QH (UI e) (S _ i ⋯ y H))
   |false=>
    rw[Zo Qk];show jY (rfl,(a+b)/2+1,b,rfl,⋯,⋯,⋯,λi y H=>QH (S i _ y ⋯ ⋯) e,Z)
  .rintro c R ⟨rfl,a,b,rfl,ab,bk,bx,J,Z⟩;have:a=b:=⋯
   subst this;show(rfl,a,a,rfl,⋯,J,Z)
  rintro c R ⟨rfl,a,b,rfl,ak,J,Z⟩;obtain⟨d,rfl⟩:=Nat.le.dest ak;dsimp only;have B:∀i,(Ax M (lo+(a+d)) d).getD i 0=if i=lo+a then M.getD (lo+(a+d)) 0 else if lo+a<i/\i<=lo+(a+d)then M.getD (i-1) 0 else M.getD i 0:=λi=>by rw[Ay ⋯ ⋯,show lo+(a+d)-d=lo+a by lia]
  have uu:=U (lo+(a+d)) (Qg _) ⋯;show jU (MM g ⋯ ⋯ λa2 z=>?_);rw[show lo+(a+d)-(lo+a)=d by lia]at z;show jY (rfl,_,z,λi r=>?_,(λi j r a1 C=>?_,λi r C=>?_),λi r C=>?_)
  .rw[B,Zo ⋯,Zo ⋯];show Y i r
  .rw[B,B];clear B uu z g Y hG D hU H h3 m p U W
   repeat' split
   all_goals first
    |(exfalso;lia)
    |show Uv _
    |show J _ ⋯ ⋯
    |show Z _ ⋯ ⋯
    |show S _ _ ⋯ ⋯ ⋯
  .rw[B,uu];have u:=W (i-1);have v:=W i;clear B uu z g Y hG D hU H h3 m p U W
   repeat' split
   all_goals lia
  rw[B,Zo ⋯,Zo ⋯];show U i ⋯ C
 .rintro c P ⟨rfl,M,g,Y,S,U⟩;rw[show max (max ok 1) f=f by lia]at S U;show(rfl,M,g,Y,S,U)
 rintro c P ⟨rfl,M,g,Y,S,U⟩;show jY (q P M g Y S U)
theorem qI.pos:∀{x:fB} {a b:Nat},qI key l x a b->Qa x+a<=b
 |[],a,b,h=>by
  have:a=b:=h;simp only[uC]
  lia
 |p::x,a,b,(_,H,_,h)=>by
  have:=h.pos;rw[jV]
  lia
theorem Xl(h:i+2<=Qa ps):∃pre a b post,ps=pre++a::b::post/\Qa pre=i/\Qa post+i+2=Qa ps:=by show(ps.take i,ps[i],ps[i+1],ps.drop (i+2),?_,by rw[jZ];omega,by rw[uf];omega);rw[<-Q7,<-Q7,QK]
theorem qI.pow(h:qI key l (pre++[(x,y,z)]) a b):qI key l (pre++[(x,y,z')]) a b:=by show JN (qI.app.mp h) λm H I Q d p=>qI.app.mpr (m,H,I,Q,d,p)
theorem Pl{c:Prop}[Decidable c]{a b k:Nat}(H:a<=k)(I:b<=k):(if c then a else b)<=k:=by split<;>assumption
theorem xw(Y:Ah prog w A s κ it key n){st:j9}{l:Zg}{P:fB}{e i:Nat}(I:Gd κ it n st l P)(x:e<=n)(R:qI key l P 0 e)(H:i+2<=Qa P){Q:Bool->j9->Prop}
 (q:∀S M p,Gd κ it n S M p->(∀i,e<=i->M.getD i 0=l.getD i 0)->qI key M p 0 e->Qa p+1=Qa P->Q true S):wpS (ud prog w) A E s (mergeAt' i) Q st:=by
 obtain⟨pre,⟨sa,d,j⟩,⟨z,m,t⟩,post,rfl,rfl,C⟩:=Xl H;show C2 Y I x R λr U g f R2=>q r U _ g f R2 ?_;simp only[jR,jV]
 lia
theorem Bv{α:Type}(f:α->α)(x:α):∀pre:List α,(pre++[x]).modify (Qa pre) f=pre++[f x]
 |[]=>rfl
 |a::r=>by rw[uN,jV,List.modify_succ_cons,Bv f x r];rfl
theorem Nh{M:vJ}{st:j9}{l:Zg}{p:fB}{z:Nat×Nat×Nat}(H:Gd κ it n st l p){Q:PUnit->j9->Prop}(h:∀S,Gd κ it n S l (p++[z])->Q ⟨⟩ S):wpS M A E s (modify λs=>setPending s ((vq s).push z):StateT j9 Sem PUnit) Q st:=by show vW (h _ (H.kind,H.fail,H.arr,?_,H.perm));change(vq st).push z=_;rw[H.pend];simp
theorem RD{M:vJ}{st:j9}{l:Zg}{pre:fB}{a b c g:Nat}(H:Gd κ it n st l (pre++[(a,b,c)])){Q:PUnit->j9->Prop}(h:∀S,Gd κ it n S l (pre++[(a,b,g)])->Q ⟨⟩ S):wpS M A E s (modify λs=>setPending s ((vq s).modify ((vq s).size-1) λx=>(x.1,x.2.1,g)):StateT j9 Sem PUnit) Q st:=by show vW (h _ (H.kind,H.fail,H.arr,?_,H.perm));change(vq st).modify ((vq st).size-1) (λx=>(x.1,x.2.1,g))=_;rw[H.pend];simp;show Bv _ _ pre
theorem OT(hC:Cmp prog w A s κ it key n){st:j9}(hG:Gd κ it n st (Qi n) []){Q:Unit->j9->Prop}(q:∀M U P,Gd κ it n M U P->Sg (lx key) U 0 n->Q () M):wpS (ud prog w) A E s sortRuns' Q st:=by
 unfold sortRuns';show jU (Qaf ?_);have ea:=hG.arr;unfold QaB at ea;rw[ea];simp -zeta -zetaHave only[cW,uF]
 show jU (u0 (uP (I:=λx c M=>∃l P lo,c=(Qs,lo)/\Gd κ it n M l P/\qI (lx key) l P 0 lo/\lo<=n/\x<=lo/\∀i,lo<=i->i<n->l.getD i 0=i)
  (Q:=λc M=>∃l P,c=(Qs,n)/\Gd κ it n M l P/\qI (lx key) l P 0 n) ?_ ?_ (_,[],0,rfl,hG,rfl,⋯,⋯,λi _ t=>by rw[Qc,Ux t];rfl)) ?_)
 .rintro x c f _ hx ⟨l1,P,lo,rfl,g,y,a7,ab,U1⟩;dsimp -zeta -zetaHave only;show q9 (λc=>?_) λc=>jU (HS hC g ⋯ ⋯ U1 λm a1 l2 G2 a5 m1 m2 S2 U2=>?_)
  .have:lo=n:=⋯
   subst this;show jY (l1,P,rfl,g,y)
  have R2:=y.congr (l':=l2) λi _ t=>a5 i t;dsimp -zeta -zetaHave only;show Kr λQQ hQ=>?_
  extract_lets -underBinder mm jp
  have h3:∀m Y d,Gd κ it n Y d P->qI (lx key) d P 0 lo->1<=m->lo+m<=n->(Sg (lx key) d lo (lo+m)/\Own d lo (lo+m))->(∀i,lo+m<=i->i<n->d.getD i 0=i)->wpS (ud prog w) A E s (jp () m) QQ Y:=by
   intro m Y d G3 R3 m1 m2 S3 U3;dsimp -zeta -zetaHave only[jp];show jU (Qaf ?_);have D:=G3.pend;unfold vq at D;rw[D,List.back?_toArray]
   extract_lets -underBinder a4
   have h4:∀Z v H,Gd κ it n Z v H->qI (lx key) v H 0 lo->(Sg (lx key) v lo (lo+m)/\Own v lo (lo+m))->(∀i,lo+m<=i->i<n->v.getD i 0=i)->wpS (ud prog w) A E s (a4 ()) QQ Z:=λZ v H B R4 S4 U4=>jU (Nh B λa3 G5=>jY (hQ _ _ (_,_,_,rfl,G5,qI.app.mpr (lo,R4,rfl,by dsimp only;lia,S4,rfl),⋯,⋯,U4)))
   clear_value a4
   rcases VH P with rfl|⟨pre,⟨z1,z2,z3⟩,rfl⟩
   .show h4 _ _ _ G3 R3 S3 U3
   rw[VJ]at G3 R3 ⊢
   rw[WQ];dsimp only;show jU (u0 (uP (I:=λx c M=>c=(Qs,())/\∃U u,Gd κ it n M U u/\(∀i,lo<=i->U.getD i 0=d.getD i 0)/\qI (lx key) U u 0 lo/\u≠[]) (Q:=λc M=>c=(Qs,())/\∃U u,Gd κ it n M U u/\(∀i,lo<=i->U.getD i 0=d.getD i 0)/\qI (lx key) U u 0 lo/\u≠[]) ?_ (λ_ _ z=>z) (rfl,_,_,G3,λ_ _=>rfl,R3,by simp)) ?_)
   .rintro x c Z _ _ ⟨rfl,v,H,B,f4,R4,C⟩;show jU (Qaf ?_);have D:=B.pend;unfold vq at D;rw[D,j7];by_cases c3:Qa H>1
    .rw[Zx c3,Vj,Qd ⋯];dsimp only;show q9 (λ_=>jY (rfl,v,H,B,f4,R4,C)) λ_=>jU (xw hC.lx B ⋯ R4 ⋯ λa3 l5 a9 G5 f5 R5 h5=>?_);rw[Zo ∅];show jY (rfl,l5,a9,G5,λi t=>(f5 i t).trans (f4 i t),R5,λz=>by rw[z]at h5;simp at h5;lia)
    rw[Zo c3];show jY (rfl,v,H,B,f4,R4,C)
   rintro c Z ⟨rfl,v,H,B,f4,R4,C⟩;dsimp only;rcases VH H with rfl|⟨ak,⟨y1,y2,y3⟩,rfl⟩
   .show ZD rfl C
   rw[VJ]at B R4;show jU (RD B λa3 G5=>h4 _ _ _ G5 R4.pow (λi j t a2 hj=>?_,λi t hj=>?_) λi t hn=>?_)
   .rw[f4 i t,f4 j (QC t a2)];show S3.1 i j t a2 hj
   .rw[f4 i t];show S3.2 i t hj
   rw[f4 i (QC (Q6 ..) t)];show U3 i t hn
  clear_value jp
  dsimp -zeta -zetaHave only[mm];show q9 (λc2=>jU (Qav (vf (rfl,jU (OV hC G2 m1 ⋯ ⋯ S2 U2 λY d G3 a6 S3 U3=>?_))))) λc2=>h3 m a1 l2 G2 R2 m1 ⋯ S2 U2;rw[Zo ∅];show h3 _ Y d G3 (R2.congr (l':=d) λi _ t=>a6 i t) ⋯ ⋯ S3 U3
 .rintro c M ⟨l,P,lo,rfl,G,R,a7,ab,_⟩;have:lo=n:=⋯
  subst this;show(l,P,rfl,G,R)
 rintro c M ⟨l,P,rfl,G,R⟩;dsimp only;have lp:=R.pos
 show jU (u0 (uP (I:=λx c M=>c=(Qs,())/\∃l P,Gd κ it n M l P/\qI (lx key) l P 0 n/\Qa P+x<=n)
  (Q:=λc M=>c=(Qs,())/\∃l P,Gd κ it n M l P/\qI (lx key) l P 0 n/\Qa P<=1) ?_ ?_ (rfl,l,P,G,R,⋯)) ?_)
 .rintro x c f _ hx ⟨rfl,l1,J,g,y,h1⟩;show jU (Qaf ?_);have D:=g.pend;unfold vq at D;rw[D,j7];show q9 (λc=>jY (rfl,l1,J,g,y,c)) λc=>?_;show jU (xw hC.lx g (Qg n) y (Nat.add_le_of_le_sub ⋯ (Pl ⋯ ⋯)) λa1 l2 a8 G2 _ R2 h2=>?_);rw[Zo ∅];show jY (rfl,l2,a8,G2,R2,⋯)
 .rintro c f ⟨rfl,l1,J,g,y,h1⟩;show(rfl,l1,J,g,y,⋯)
 rintro c f ⟨rfl,l1,J,g,y,h1⟩;show jY (q f l1 J g ?_);rcases J with _|⟨p,_|⟨p2,r⟩⟩;show λi j _ _ hj=>by have:0=n:=y;lia
 .obtain⟨_,_,⟨S,_⟩,e⟩:=y;have e:0+p.2.1=n:=e;rwa[e]at S
 show ZD h1 (by simp)
end
end LB
namespace LB
open PySem PySem.W PyProof.Rows
theorem lQ(l:Zg)(i:Nat):LS.gt l.toArray i=l.getD i 0:=by unfold LS.gt;rw[QV,Vj,Qc]
theorem Dr{prog:j8}{w:uj}{O:vV}{m:Nat->O.α}{n:Nat}:L2.Aj prog w m n:=by
 intro A E d s r v R y J I;subst y;have U:Cmp prog w A s d (r.toArray.zip v.toArray) m (Qa v):=λi j t u Q q=>by have:=I.ask i j Q s t u rfl λC e=>e▸q;rw[kat_ask_eq R]at this;show this
 have sz:(r.toArray.zip v.toArray).size=Qa v:=by simp[R]
 have Y:Gd d (r.toArray.zip v.toArray) (Qa v) (SortSt.mk' d (r.toArray.zip v.toArray) #[] 7 Qs) (Qi (Qa v)) []:=by show(rfl,rfl,?_,rfl,List.Perm.refl _);change r.toArray.zip v.toArray=AL (r.toArray.zip v.toArray) (Qi (Qa v));have e:=kas_range (r.toArray.zip v.toArray);rw[sz]at e;rw[List.map_toArray]at e;unfold AL;show e.symm
 have:=OT (E:=E) U Y (Q:=λ_ P=>∃p:Array Nat,LS.Pm (Qa v) p/\LS.Ust m p (Qa v)/\QaB P=p.map (u8 (r.toArray.zip v.toArray))/\Qam P=Qs) λP M Z G S=>by
  have D:=G.len;have B:∀i j,i<j->j<Qa v->(rp O).kle (lx m (M.getD i 0)) (lx m (M.getD j 0)):=λi j x J=>S i j (Qo _) (Ua x) J;show(M.toArray,G.perm,(λi j H u=>?_,λi j H u e=>?_),?_,G.fail)
  .rw[lQ,lQ];show Kl (S i j (Qo _) H u)
  .rw[lQ,lQ]at e ⊢
   have h:=B i j H u;have h:(O.blt (m (M.getD j 0)) (m (M.getD i 0)) || (!O.blt (m (M.getD i 0)) (m (M.getD j 0)) && decide (M.getD j 0<M.getD i 0)))=false:=h;rw[e,O.irrefl]at h;have h:¬M.getD j 0<M.getD i 0:=by simpa using h
   have nd:M.Nodup:=G.perm.nodup_iff.mpr List.nodup_range
   have ne:M.getD i 0≠M.getD j 0:=λz=>by
    rw[Qc,Qc,Qd (show i<Qa M by lia),Qd (show j<Qa M by lia)]at z;have:=(jg nd).mp (Option.some.inj (by simpa using z))
    lia
   lia
  rw[G.arr];simp[AL]
 show this
end LB
namespace L2
open PySem PySem.Spec PyProof.Rows
section
def EO(K:Qb)(P:jP)(S:Pos)(q:Str)(C:List (Str×Nat))(t:TA)(g:TE):TE:=λD H Q=>t D H λv E=>aR (λa=>a0 (
 ∃(x:ZE) (R:List (Zg)),Src K E a x/\Qa x<=100000/\Qa R=Qa x/\Bk P S q E/\(∀O i y,zy E O->x[i]?=Qr y->g (Bf y C D) O λk I=>I=O/\k=.str (T (R.getD i [])))/\
  ∀O l (p:Zg),zy E O->YZ P E O->Bk P S q O->O l=Qs->p.Perm (Qi (Qa x))->p.Pairwise (λi j=>R.getD i []<=R.getD j []/\(R.getD i []=R.getD j []->i<j))->Q (.ref l) (upd O l (.lst (p.map λi=>x.getD i .non)))
 )) v
theorem xC{K:Qb}(hK:X.K=K)(hc:X.calm=true)(hr:YN 2 X.A)(L:DP X c P)(a4:Gl X "sorted")(hm:X.mg "sorted"=Qs)(t:gx X S cl)(B:defaultsOf params X.env=([],[]))(hq:X.env.qual++"<lambda>"=q)
 (hk:S.kind=.function) (a2:∀y∈S.names,y.2≠ .cell) (a3:Jp X S cp) (hx:S.names.lookup x=Qr .local) (a9:x∉cp.map (·.1)) (ak:S.isCoroutine=false) (J:S.isGenerator=false)
 (hb:∀(Y:Value) (m:Value) (C u:Value),Qap (kla_fn "<lambda>" q params body S cl Y m C) ([u],[])=pure [(x,u)]) (ha:PA X [e] ta)
 (he:∀A L f m s H,PE (cxL X A (newEnv S L jX cl (q++".<locals>.") (Qr f) (.ref m) Qs uK) (x::cp.map (·.1)) s H) body te)
 (hs:autoParam (uc [e] X.env=[(false,eval e X.env)]) ZF):PE X (.Call (.Name "sorted" np) [e] [(Qr "key",.Lambda params body S lp,kp)] pos) (EO K P lp q cp ta te):=by
 subst hK;intro Zc s σ H Q I h;show uJ (JL I a4 hm nA (callWith_kw ?_ (by rw[hs];rfl) (by rw[hs];rfl)));have hp:=ha pos Zc s σ H _ I h;show thn hp λus s1 hv=>?_;obtain⟨vs,H1,I1,rv,U⟩:=hv;obtain⟨a,rfl,U⟩:=aR1 U
 ·
  show zQ U λxs kL zr=>ZO zr λg a8 D bk E R=>?_;clear zr U;show Zf rv.one λu a1 ru=>?_;subst a1;cases ru;show kws_cons (IX (body:=body) I1 L t B bk hq λf m Y C H2 s2 I2 a7 a5 Z se=>kws_nil ?_);change jS _ X.A (call (.builtin "sorted") [.ref a] [(Qe "key",.ref f)]) _ _ s2;show thn (F6 (Q:=λv H'=>Q v H') hc (hr.mono ∅) I2 (Z.src g) a8 (LB.Dr (O:=PyProof.Rows.strKind.toKeyOrd)) D (λps j i y k w' d hy r a6=>?_) λl p hl ab pw=>R H2 l p Z se a5 hl ab pw) λv j z=>?_
  .have hd:X.A.in1.in1.depth<recursionLimit:=by have:=hr.dp;change X.A.depth<_;lia
   have ho:j.heap.get? f=Qr (Qa3 "<lambda>" q params body S cl Y m C):=(d.pin (f,_) (j0 _ (vh _ (j0 _ (j5.mpr rfl))))).1;have M:j.heap.CodeRec (.ref m) q:=(d.hok m _ a7).1;show IW (X:=X) (x:=x) (cp:=cp) d (show X.A.frames=Qr X.stack from d.ok.frames) (show X.A.handled=Qs from d.ok.hd hc) hd t hk a2 a3 hx a9 ak J ho M (λu=>hb Y (.ref m) C u) a6 he ?_
   have hi:i<Qa kL:=by
    have:=(Qh.mp hy).1
    lia
   have ek:k=.str (T (kL.getD i [])):=by rw[Qm,Qd hi]at r;rw[Qc,Qd hi];show(Option.some.inj r).symm
   rw[ek];show E H2 i y Z hy
  show Zy z λv' H3 d r3 q3=>(v',H3,d.unpinned,r3,q3)
end
section
def Dp(K:Qb):ZE->Hp->VK->Prop:=λv H Q=>aR (λa=>a0 (
 ∃ns:List Int,Src K H a (ns.map V.int)/\Qa ns<=100000/\∀l (m:List Int),H l=Qs->m.Perm ns->m.Pairwise (· <=·)->Q (.ref l) (upd H l (.lst (m.map V.int)))
 )) v
theorem HI{K:Qb}(y:X.K=K)(d:X.calm=true):JU X (.builtin "sorted") (Dp K):=by
 subst y;intro Z s D H v t Q I r h;unfold Dp at h;obtain⟨a,rfl,h⟩:=aR1 h
 ·
  show Zz h λns f C q=>?_;clear h;show Zf (J1 r) λu z g=>?_;subst z;cases g
  have U:Qa (ns.map V.int)=Qa ns:=jO ..
  show F7 (κ:=QaJ) (O:=yx) (key:=λi=>ns.getD i (0:Int)) d I f ⋯ (LB.Dr (O:=yx)) (λS v E Q' M R J j=>IK R ⋯ j) (λS v M R=>?_) λl p B x Y=>?_
  .have:=L1 (prog:=X.prog) (w:=X.w) (A:=X.A.in1.in1) (s:=S) R;rw[U];show this
  rw[U]at x Y;have P:p.toList.Perm (Qi (Qa ns)):=x;have pn:(p.toList.map λi=>ns.getD i 0).Perm ns:=by have:=P.map λi=>ns.getD i 0;rw[sZ]at this;show this
  have:=q l (p.toList.map λi=>ns.getD i 0) B pn (Vd.mpr (NF x Y));have e:(p.toList.map λi=>ns.getD i 0).map V.int=p.toList.map λi=>(ns.map V.int).getD i .non:=by rw[u6];show uM λi m=>?_;have m:i<Qa ns:=QA.mp (P.mem_iff.mp m);rw[Qc,Qm,Qd m];change V.int (ns.getD i 0)=_;rw[Qc,Qd m];rfl
  rw[e]at this;show this
def Dq(w:uj):ZE->Hp->VK->Prop:=λv H Q=>aR (λa=>a0 (
 ∃C:Zg,H a=Qr (su w a C)/\Qa C<=100000/\∀l (q:Zg),H l=Qs->q.Perm C->q.Pairwise (λi j=>i<=j)->Q (.ref l) (upd H l (.lst (q.map λc=>V.str (T [c]))))
 )) v
theorem HJ(hw:X.w=w)(t:X.calm=true):JU X (.builtin "sorted") (Dq w):=by
 subst hw;intro Zc s σ H vs us Q I r h;unfold Dq at h;obtain⟨a,rfl,h⟩:=aR1 h
 ·
  show Zz h λcs f a1 q=>?_;clear h;show Zf (J1 r) λu Z ru=>?_;subst Z;cases ru;have st:xZ X.w s.heap a cs:=(I.hok a _ f).1;show t7 (H:=H) (κ:=QaJ) (O:=PyProof.Rows.strKind.toKeyOrd) t (I.ok.hd t) λA E hA=>AH hA st λvs Y d pm rv g1 g2 g=>?_;have I':Inv X Zc σ H Y:=by obtain⟨h',g',d',t',o'⟩:=Y;have e1:g'=s.gens:=g1;have e2:o'=s.os:=g2;subst e1 e2;show I.call' (ch:=[]) rfl (λb o q n U f=>g b o q,λb o q n U f=>(o.slots,g b o q),λb o q n f=>n,λb o q f=>(o,g b o q),λb ys q=>q,λb o y q=>q,λb ps q=>(#[],by rw[q];simp)) (λb o q=>(I.hok b o q).stay (λc y t z=>g c y z) (λc z=>z) λc ys z=>z) I.bare λb U=>(QF U).elim
  have P:Qa (d.map λc=>V.str (T [c]))=Qa d:=jO ..
  have em:(d.map λc=>V.str (T [c]))=(d.map λc=>[c]).map λk=>V.str (T k):=by rw[u6];rfl
  show(d.map λc=>V.str (T [c]),λi=>(d.map λc=>[c]).getD i [],I',rv,by rw[P,pm.length_eq];omega,LB.Dr (O:=PyProof.Rows.strKind.toKeyOrd),λs2 D E2 Q2 I2 R J q2=>?_,λs2 D I2 R=>?_,λl p B pp pu=>?_)
  .rw[em]at R;show Be R (by rw[P]at J;simpa using J) q2
  .rw[em]at R;have:=DW (prog:=X.prog) (w:=X.w) (A:=X.A.in1.in1) (s:=s2) R;rw[P];rw[jO]at this;show this
  rw[P]at pp pu;have x:∀i∈p.toList,i<Qa d:=λi m=>QA.mp (pp.mem_iff.mp m);have up:=LH pp pu;have e:(p.toList.map λi=>(d.map λc=>V.str (T [c])).getD i .non)=(p.toList.map λi=>d.getD i 0).map λc=>V.str (T [c]):=by rw[u6];show uM λi m=>?_;have m:=x i m;change _=V.str (T [d.getD i 0]);rw[Qc,Qc,Qm,Qd m];rfl
  rw[e];show q l _ B ?_ ?_
  .have M:(p.toList.map λi=>d.getD i 0).Perm ((Qi (Qa d)).map λi=>d.getD i 0):=pp.map _;have J:((Qi (Qa d)).map λi=>d.getD i 0)=d:=by show UN (by simp) λi a2 C=>?_;rw[Vk,Vr,Qc,Qd C];rfl
   rw[J]at M;show M.trans pm
  rw[Vd];show up.imp_of_mem λ{i j} m v S=>?_;have m:=x i m;have v:=x j v;rw[Qc,Qc,Qm,Qm,Qd m,Qd v]at S;rw[Qc,Qc,Qd m,Qd v];rcases LO.Mf S with z|⟨z,_⟩;show Ua z;show V0 z
end
end L2
namespace LD
open PySem L2 LP NumText
theorem EV(Z:List (Zg)):qw (zR 2 Z) (ky "number")=Qr (V.int (digitsVal (Z.getD 2 []):Nat)):=by have e:zR 2 Z=[(ky "word",V.str (T (Z.getD 0 []))),(ky "name",V.str (T (Z.getD 1 []))),(ky "number",V.int (digitsVal (Z.getD 2 []):Nat))]:=rfl;have H:=d8 "word" ∅ "number" ∅ ∅;have I:=d8 "name" ∅ "number" ∅ ∅;rw[e,qt (by rw[ah H];show id),qt (by rw[ah I];show id),JB rfl]
theorem dn(I:pE w=Qr 0)(H:32∉w)(j:32∉n):JC (w++32::(n++32::x)) 0 [w,n,x]:=by show(by rw[lP _ H];show I,?_,rfl,λh=>ZD h ∅);change _=spl 32 2 _;rw[qJ 1 _ H,qJ 0 _ j,t8]
theorem dq(I:pE w=Qr 1)(H:32∉w)(j:32∉n):JC (w++32::n) 1 [w,n]:=by show(by rw[lP _ H];show I,?_,rfl,λh=>ZD h ∅);change _=spl 32 (Qa (w++32::n)+1) (w++32::n);rw[qJ _ _ H,ng _ j]
theorem sQ(p:i=2\/i=4)(I:pE w=Qr i)(H:32∉w)(j:32∉n)(Y:32∉m)(Q:i=2->Jm m):JC (w++32::(n++32::m)) i [w,n,m]:=by
 show(by rw[lP _ H];show I,?_,?_,λh=>?_)
 .have:¬(i=0\/i=3):=⋯
  unfold bR;rw[Zo this];have e:Qa (w++32::(n++32::m))+1=Qa (w++(n++32::m))+1+1:=by simp;lia
  rw[e,qJ _ _ H];have e:Qa (w++(n++32::m))+1=Qa (w++(n++m))+1+1:=by simp;lia
  rw[e,qJ _ _ j,ng _ Y]
 .rcases p with rfl|rfl<;>rfl
 show Q ⋯
theorem Fi(I:pE w=Qr 3)(H:32∉w)(j:32∉n)(Y:32∉m)(Q:Jm m):JC (w++32::(n++32::(m++32::x))) 3 [w,n,m,x]:=by show(by rw[lP _ H];show I,?_,rfl,λ_=>Q);change _=spl 32 3 _;rw[qJ 2 _ H,qJ 1 _ j,qJ 0 _ Y,t8]
theorem Fb:∀(r:Zg),(∀c∈r,48<=c/\c<=57)->digitsVal r<10 ^ Qa r:=by
 intro r;generalize H:Qa r=k
 induction k generalizing r with
 |zero=>
  intro _;rw[vw.mp H]
  decide
 |succ k I=>
 intro h;rcases VH r with rfl|⟨l,c,rfl⟩
 .cases H
 rw[VJ]at h H ⊢
 rw[jR,jW]at H;have H:Qa l=k:=⋯
 rw[digitsVal_snoc,Nat.pow_succ];have:=I l H λd hd=>h d (vh _ hd);have:=h c (by simp)
 lia
theorem fh{n:Nat}(h:n<10 ^ 9):Jm (ZR (n:Int)):=by
 show(Ku n,(dc n ∅).mpr h,me n,λH=>?_);have D:=me n;have v:=Y3 n;have le:∀k,0<k->(Qa (ZR (n:Int))<=k↔n<10 ^ k):=λk E=>dc n E;generalize ZR (n:Int)=l at H D v le
 match l,H with
 |[],H=>cases H
 |[c],H=>rw[show c=48 from H]
 |c::d::r,H=>
  exfalso;have H:c=48:=H;subst H;rw[digitsVal_zero]at v;have:=Fb (d::r) λc f=>D c (ua _ f);rw[v]at this;have:=(le (Qa (d::r)) (by simp)).mpr this;simp at this
  lia
theorem Jm.noB(g:Jm m):32∉m:=λh=>by
 have:=g.2.2.1 32 h
 lia
end LD
namespace L2
open PySem PySem.Spec PyProof.Rows
section
def rJ:ZE->Hp->VK->Prop:=λx H Q=>aV (λv r=>match v with
 | .int i=>a0 (i.natAbs.log2<1920/\Q (.str (T (ZR i))) H) r
 | .str z=>a0 (Q (.str z) H) r
 |_=>False) x
theorem nC:JU X (.type "str") rJ:=by
 intro p s D H x U Q I r h;obtain⟨v,x,rfl,h⟩:=EZ h
 cases v with
 |int i=>
  obtain⟨rfl,m,q⟩:=Ao h;show Zf (J1 r) λu Z Y=>zI Y λt j=>?_;clear Y;subst Z;subst j;have e:T (ZR i)=(toString i:Str):=T_L _;rw[e]at q;show PySem.P.str_of_int m (.str _,H,I.tok _,(_,rfl),q)
 |str z=>obtain ⟨rfl,h⟩:=Ao h
         show Zf (J1 r) λu Z Y=>zI Y λt j=>?_;clear Y;subst Z;subst j;show PySem.P.str_of_str (.str _,H,I,(_,rfl),h)
 |_=>show h.elim
end
def Fp(t:TS):iY->St->Hp->Prop
 |D,[],H=>t D [] H
 |D,a::r,H=>t D (a::r) H
def Fq(t:TT):St->Hp->(Bool->Hp->Prop)->Prop
 |[],H,Q=>t [] H Q
 |a::r,H,Q=>t (a::r) H Q
theorem YM{X:Cx}{st:List Stmt}{t:TS}(h:PSs X st t):PSs X st (Fp t):=λz s E H D I q=>h z s E H D I (by cases E<;>show q)
theorem kU(h:PT X e t):PT X e (Fq t):=λz s D H Q I q=>h z s D H Q I (by cases D<;>show q)
noncomputable def gh:ZT->ZE->St
 |_::N,v::Y=>Qr v::gh N Y
 |_::N,[]=>Qs::gh N []
 |[],_=>[]
theorem stR{N:ZT}{v:ZE}{t:TS}{D:iY}{H:Hp}(h:t D (gh N v) H)(e:autoParam (JZ N v=gh N v) ZF):t D (JZ N v) H:=e▸h
structure Pw(K:Qb)(P:j8)(w:uj)(mg:z9)(base h:Heap):Prop where
 X:K.In h
 G:h.Ns jX mg
structure DfT(K:Qb)(x:Str)(st:Stmt)(f:jP):Prop where
 a:vG K jX x=Qr (Qr (.ref f))
 F:∃fd,Fun K x x st f fd
structure DfM(K:Qb)(C:jP)(x q:Str)(st:Stmt)(f:jP):Prop where
 a:vi K (.ref C) x=Qr (Qr (.ref f))
 i:isFn K (.ref f)=true
 F:∃fd,Fun K x q st f fd
section
variable{K:Qb}{P:j8}{w:uj}{mg:z9}{base h:Heap}{C:jP}{x q:Str}{st:Stmt}{f:jP}{k:Nat}{ps:ZT}
theorem DfT.mk2{y:Value}{H Q:Option jP}{O:Array (Option Value)}{kV d p B ct:Value}(a:vG K jX x=Qr (Qr (.ref f)))(l:K.lookup f=Qr (y,H,.func (Qat x x (zY st) (zz st) (Zq st) .none kV d p Q B ct),O))
 (c:Qan K B x=true) (k:vB K (.ref f)=true):DfT K x st f:=(a,_,nM l c k)
theorem DfM.mk2{y:Value}{H Q:Option jP}{O:Array (Option Value)}{kV d p B ct:Value}(a:vi K (.ref C) x=Qr (Qr (.ref f)))(i:isFn K (.ref f)=true)(l:K.lookup f=Qr (y,H,.func (Qat x q (zY st) (zz st) (Zq st) .none kV d p Q B ct),O))
 (c:Qan K B q=true) (k:vB K (.ref f)=true):DfM K C x q st f:=(a,i,_,nM l c k)
theorem DfT.fn(D:DfT K x st f)(T:Pw K P w mg base h)(S:Sp)(ok:∀{g},Fun K x x st f g->Z0 P w K mg base CX0 k f g ps S)
 (b:∀(kV d p:Value) (O:Option jP) (B ct:Value) (u:ZY),Qa u=Qa ps->Qap (Qat x x (zY st) (zz st) (Zq st) .none kV d p O B ct) (u,[])=pure (ps.zip u)):Fn P w K mg base k x ps S:=by
 obtain⟨g,F⟩:=D.F;show⟨(f,g,ok F,vc T.X T.G D.a,F.kp,F.binds b)⟩
theorem DfT.fnX(D:DfT K x st f)(T:Pw K P w mg base h)(S:Sp)(ok:∀{g},Fun K x x st f g->Z0 P w K mg base (CX1 P w) k f g ps S)
 (b:∀(kV d p:Value) (O:Option jP) (B ct:Value) (u:ZY),Qa u=Qa ps->Qap (Qat x x (zY st) (zz st) (Zq st) .none kV d p O B ct) (u,[])=pure (ps.zip u)):FnX P w K mg base k x ps S:=by
 obtain⟨g,F⟩:=D.F;show⟨(f,g,ok F,vc T.X T.G D.a,F.kp,F.binds b)⟩
theorem DfM.md(D:DfM K C x q st f)(_:Pw K P w mg base h)(z:Cls K C)(S:Sp)(ok:∀{g},Fun K x q st f g->Z0 P w K mg base CX k f g ps S)
 (b:∀(kV d p:Value) (O:Option jP) (B ct:Value) (u:ZY),Qa u=Qa ps->Qap (Qat x q (zY st) (zz st) (Zq st) .none kV d p O B ct) (u,[])=pure (ps.zip u)):Md P w K mg base CX k C x ps [] S:=by
 obtain⟨g,F⟩:=D.F;show((f,g,[],ok F,(D.a,D.i,F.kp),F.binds b,.nil),z)
end
section
theorem vq0(d:autoParam (X.N[0]?=Qr x) ZF)(M:autoParam (Vis X.env.scope x) GB)(hd:autoParam ((x==("__debug__":Str))=false) z8)(H:autoParam ((x==("__classdict__":Str))=false) z8):PE X (.Name x pos) (oG 0):=qv 0 d M hd H
theorem vq1(d:autoParam (X.N[1]?=Qr x) ZF)(M:autoParam (Vis X.env.scope x) GB)(hd:autoParam ((x==("__debug__":Str))=false) z8)(H:autoParam ((x==("__classdict__":Str))=false) z8):PE X (.Name x pos) (oG 1):=qv 1 d M hd H
theorem vq2(d:autoParam (X.N[2]?=Qr x) ZF)(M:autoParam (Vis X.env.scope x) GB)(hd:autoParam ((x==("__debug__":Str))=false) z8)(H:autoParam ((x==("__classdict__":Str))=false) z8):PE X (.Name x pos) (oG 2):=qv 2 d M hd H
theorem vq3(d:autoParam (X.N[3]?=Qr x) ZF)(M:autoParam (Vis X.env.scope x) GB)(hd:autoParam ((x==("__debug__":Str))=false) z8)(H:autoParam ((x==("__classdict__":Str))=false) z8):PE X (.Name x pos) (oG 3):=qv 3 d M hd H
theorem Zh(x:PE X e te)(H:autoParam (uc [e] X.env=(false,eval e X.env)::uc [] X.env) ZF):PA X [e] (kj te oU):=Zk x iu H
theorem fsc(a:autoParam (q.kind=.function) ZF)(b:autoParam (q.isCoroutine=false) ZF)(c:autoParam (q.isGenerator=false) ZF)(d:autoParam (N.Nodup) gw)(e:autoParam (N.take (Qa P)=P) ZF)(f:autoParam (∀x∈P,q.names.lookup x=Qr .local\/q.names.lookup x=Qr .cell) gw)(g:autoParam (∀y∈q.names,y.2≠ .free) gw):ZA N P q:=(a,b,c,d,e,f,g)
theorem vtx(h:LD.qa kept n=Qr x):qw (LD.txK kept) (.inr (T n))=Qr (V.str (T x)):=by rw[LD.nu,h];rfl
theorem nmT{Q:V->Prop}(hd:H d=Qr (.dK (LD.zR i ws)))(r:H t=Qr (.dK (LD.txK kept)))(f:LD.qa kept (ws.getD 1 [])=Qr x)(q:Q (.str (T x))):
 ∃a v,V.ref d=.ref a/\DGet H a (.str (Qe "name")) (Qr v)/\∃b u,V.ref t=.ref b/\DGet H b v (Qr u)/\Q u:=(d,_,rfl,LD.Y7 i ws▸DGet.kys hd "name",t,_,rfl,vtx f▸DGet.k (k:=.inr (T (ws.getD 1 []))) r,q)
theorem Z4(K:Qb)(Y:X.mg "len"=Qs)(x:PE X e te)(y:autoParam (X.K=K) ZF)(Q:autoParam (Gl X "len") ZF)(H:autoParam (uc [e] X.env=(false,eval e X.env)::uc [] X.env) ZF):PE X (.Call (.Name "len" p) [e] [] pos) (tCB (wI K) (kj te oU)):=
 qk (O2 y) Q Y OY (Zk x iu H) (he:=H)
theorem ZP(K:Qb)(I:PE X a ta)(H:PE X b tb)(x:autoParam (X.K=K) ZF)(g:autoParam (xY b) Ot):PE X (.Subscript a b pos) (tOp (ixV K) ta tb):=Et (Xi x) I H g
theorem YO(K:Qb)(x:PE X e te)(H:PO X ql tl)(B:PO X qu th)(y:autoParam (X.K=K) ZF):PE X (.Subscript e (.Slice ql qu Qs p2) pos) (tSl (slV K) te tl th):=KO (XJ y) x H B
theorem Z7(Y:YN k X.A)(t:PE X o td)(H:PE X i ty)(g:autoParam (OH i) Ot):PE X (.Subscript o i pos) (Lo td ty):=M0 (lU Y) t H g
end
end L2
namespace My
open PySem L2 LW LP LD NumText
local macro_rules| `(tactic|simp_all![$xs,*])=> `(tactic|((try dsimp only[WN,Qa,$(⟨xs.elemsAndSeps⟩),*]);try simp only[$(⟨xs.elemsAndSeps⟩),*]))| `(tactic|simp_all! only[$xs,*])=> `(tactic|dsimp only[WN,Qa,$(⟨xs.elemsAndSeps⟩),*])| `(tactic|simp! $[only%$o]? [$xs,*])=> `(tactic|dsimp! $[only%$o]? [Nz,LI,yS,oE,XR,Lq,K4,rIn,inT,IC,Pf,RE,R8,XT,XS,Oh,Og,ED,Oe,EC,XG,X3,RT,T1,Lv,B6,Lw,Ls,vx,$(⟨xs.elemsAndSeps⟩),*])| `(tactic|dsimp! $[only%$o]? [$xs,*])=> `(tactic|simp_all! $[only%$o]? [aR,aS,aI,aB,a0,o0,aV,Fp,Fq,gh,L2.JZ,uo,QaR,jV,uC,uw,Qal,uN,u9,Nat.reduceAdd,Nat.reduceSub,Int.reduceLT,Int.reduceLE,true_and,and_true,decide_eq_true_eq,if_true,if_false,String.reduceEq,Vx,Vf,QX,decide_true,decide_false,Qar,Qas,gS,oG,tC,Gj,xK,we,qW,Gi,xM,xJ,Gf,tOp,tUn,tCB,kj,oU,Gk,Gg,tFn,tB2,Ge,tOr,Gh,trV,tSl,iX,pT,Gu,vOr,LJ,E1,FE,yw,lV,ltV,eqR,neR,sc,isV,Bb,FG,ixV,slV,wI,CO,isS,Bs,yC,pG,tBM,Ln,tyV,tFE,L_T,Od,Lx,Of,Lr,XW,XZ,tH0,unb,XX,Xb,RU,Xj,RL,RM,EE,tCR,tCL,yK,eX,EO,Dp,Dq,rJ,Bf,A6,pF,CJ,Lo,XU,EN,N9,Lp,List.set_nil,XI,Hw,R9,tCZ,tCP,Sd,tB,$(⟨xs.elemsAndSeps⟩),*])| `(tactic|and_intros)=> `(tactic|(simp only[jR,jW,jV,uC];lia))
noncomputable def top(i:Nat):Stmt:=PySem.Challenge.pw_backindex_k96_whole_two_desks.main.body.getD i (.Pass (0,0,0,0))
abbrev cP:Stmt:=top 13
abbrev zP:ZT:=["place","last"]
theorem oS:ZA ["place","last"] zP (Zq cP):=fsc
abbrev eO:Stmt:=top 14
abbrev eL:ZT:=["gap"]
theorem tY:ZA ["gap"] eL (Zq eO):=fsc
abbrev eQ:Stmt:=top 15
abbrev Jt:ZT:=["word"]
theorem t5:ZA ["word"] Jt (Zq eQ):=fsc
abbrev Jd:Stmt:=top 17
abbrev zX:ZT:=["text"]
theorem wV:ZA ["text"] zX (Zq Jd):=fsc
abbrev cQ:Stmt:=top 19
abbrev cA:ZT:=["one","other"]
theorem Jg:ZA ["one","other","most","size"] cA (Zq cQ):=fsc
abbrev bA:Stmt:=top 20
abbrev aX:ZT:=["one","other"]
theorem mY:ZA ["one","other"] aX (Zq bA):=fsc
abbrev bB:Stmt:=top 23
abbrev Jc:ZT:=["text"]
theorem au:ZA ["text","order","letters"] Jc (Zq bB):=fsc
abbrev dU:Stmt:=top 25
abbrev J9:ZT:=["text"]
theorem gJ:ZA ["text","pair"] J9 (Zq dU):=fsc
abbrev JT:Stmt:=top 27
abbrev JJ:ZT:=["held","other","place"]
theorem zK:ZA ["held","other","place","size","rows","fewer"] JJ (Zq JT):=fsc
abbrev ar:Stmt:=top 29
abbrev J8:ZT:=["text","other"]
theorem zU:ZA ["text","other","held","pieces","end","size"] J8 (Zq ar):=fsc
abbrev bC:Stmt:=top 34
abbrev ba:ZT:=["piece","other"]
theorem mZ:ZA ["piece","other"] ba (Zq bC):=fsc
abbrev cR:Stmt:=top 35
abbrev cB:ZT:=["text","piece","slips"]
theorem Jh:ZA ["text","piece","slips","found","place","wrong"] cB (Zq cR):=fsc
abbrev iD:Stmt:=top 37
abbrev gX:ZT:=["text"]
theorem ay:ZA ["text","runs","start","place"] gX (Zq iD):=fsc
abbrev kW:Stmt:=top 38
abbrev fK:ZT:=["letters","home"]
theorem pR:ZA ["letters","home","runs"] fK (Zq kW):=fsc
abbrev eS:Stmt:=top 39
abbrev eN:ZT:=["text"]
theorem qY:ZA ["text","runs","start","end"] eN (Zq eS):=fsc
abbrev gb:Stmt:=top 40
abbrev fM:ZT:=["text"]
theorem Jz:ZA ["text","words","home","runs","letters"] fM (Zq gb):=fsc
abbrev iC:Stmt:=top 42
abbrev gW:ZT:=["letters","home"]
theorem ax:ZA ["letters","home","held","row","road"] gW (Zq iC):=fsc
abbrev eR:Stmt:=top 43
abbrev eM:ZT:=["letters","home"]
theorem av:ZA ["letters","home","road","held","signs"] eM (Zq eR):=fsc
abbrev cS:Stmt:=top 45
abbrev JE:ZT:=["text","one","other"]
theorem oT:ZA ["text","one","other"] JE (Zq cS):=fsc
abbrev dS:Stmt:=top 46
abbrev J7:ZT:=["text"]
theorem gI:ZA ["text","order"] J7 (Zq dS):=fsc
abbrev Yf:Stmt:=top 47
abbrev zb:ZT:=["text","times"]
theorem zG:ZA ["text","times","order","longest","one","other","size"] zb (Zq Yf):=fsc
abbrev dW:Stmt:=top 48
abbrev dE:ZT:=["text"]
theorem YT:ZA ["text","sizes","commons","row","place","size"] dE (Zq dW):=fsc
abbrev f7:Stmt:=top 49
abbrev fJ:ZT:=["text"]
theorem wU:ZA ["text"] fJ (Zq f7):=fsc
abbrev f9:Stmt:=top 53
abbrev fL:ZT:=["row"]
theorem qM:ZA ["row","word","parts","words","told"] fL (Zq f9):=fsc
abbrev iB:Stmt:=top 54
abbrev gU:ZT:=["word"]
theorem Ab:ZA ["word"] gU (Zq iB):=fsc
abbrev cO:Stmt:=top 55
abbrev cy:ZT:=["texts","told"]
theorem fv:ZA ["texts","told","part"] cy (Zq cO):=fsc
abbrev eP:Stmt:=top 56
abbrev Js:ZT:=["texts","name","text"]
theorem tZ:ZA ["texts","name","text"] Js (Zq eP):=fsc
abbrev kX:Stmt:=top 57
abbrev aY:ZT:=["things"]
theorem BZ:ZA ["things"] aY (Zq kX):=fsc
abbrev cI:Stmt:=top 58
abbrev cm:ZT:=["texts","told"]
theorem oP:ZA ["texts","told"] cm (Zq cI):=fsc
abbrev cJ:Stmt:=top 59
abbrev cn:ZT:=["texts","told"]
theorem fm:ZA ["texts","told","pair"] cn (Zq cJ):=fsc
abbrev br:Stmt:=top 60
abbrev aP:ZT:=["texts","told"]
theorem mV:ZA ["texts","told"] aP (Zq br):=fsc
abbrev dR:Stmt:=top 62
abbrev dD:ZT:=["texts","told"]
theorem cT:ZA ["texts","told","text","many"] dD (Zq dR):=fsc
abbrev cN:Stmt:=top 63
abbrev cx:ZT:=["texts","told"]
theorem oR:ZA ["texts","told"] cx (Zq cN):=fsc
abbrev cM:Stmt:=top 64
abbrev cw:ZT:=["texts","told"]
theorem fu:ZA ["texts","told","pair"] cw (Zq cM):=fsc
abbrev bu:Stmt:=top 65
abbrev aQ:ZT:=["texts","told"]
theorem mW:ZA ["texts","told"] aQ (Zq bu):=fsc
abbrev cH:Stmt:=top 66
abbrev ck:ZT:=["texts","told"]
theorem oO:ZA ["texts","told"] ck (Zq cH):=fsc
abbrev cL:Stmt:=top 67
abbrev cu:ZT:=["texts","told"]
theorem fq:ZA ["texts","told","found"] cu (Zq cL):=fsc
abbrev bz:Stmt:=top 68
abbrev aW:ZT:=["texts","told"]
theorem eG:ZA ["texts","told","piece"] aW (Zq bz):=fsc
abbrev bw:Stmt:=top 69
abbrev aU:ZT:=["texts","told"]
theorem mX:ZA ["texts","told"] aU (Zq bw):=fsc
abbrev cK:Stmt:=top 70
abbrev cq:ZT:=["texts","told"]
theorem oQ:ZA ["texts","told"] cq (Zq cK):=fsc
abbrev dQ:Stmt:=top 71
abbrev dC:ZT:=["texts","told"]
theorem rH:ZA ["texts","told"] dC (Zq dQ):=fsc
abbrev iE:Stmt:=top 76
abbrev d0:ZT:=["_law_script","_law_k"]
theorem Ac:ZA ["_law_script","_law_k"] d0 (Zq iE):=fsc
abbrev y9:Stmt:=top 77
abbrev xW:ZT:=["_law_script","_law_at"]
theorem bS:ZA ["_law_script","_law_at","_law_by","_law_prime","_law_cell","_law_big_here","_law_k","_law_one"] xW (Zq y9):=fsc
abbrev oN:Stmt:=top 78
abbrev iL:ZT:=[]
theorem t6:ZA ["_law_some"] iL (Zq oN):=fsc
abbrev iG:Stmt:=top 79
abbrev gZ:ZT:=["_law_big_here","_law_most"]
theorem zk:ZA ["_law_big_here","_law_most","_law_stock_here","_law_size","_law_kind","_law_few","_law_text","_law_k"] gZ (Zq iG):=fsc
abbrev gc:Stmt:=top 80
abbrev fN:ZT:=["_law_whole","_law_big_here"]
theorem zZ:ZA ["_law_whole","_law_big_here","_law_place","_law_size","_law_piece","_law_sign"] fN (Zq gc):=fsc
abbrev iF:Stmt:=top 81
abbrev gY:ZT:=["_law_big_here"]
theorem qD:ZA ["_law_big_here","_law_size","_law_name","_law_k"] gY (Zq iF):=fsc
abbrev tW:Stmt:=top 82
abbrev lG:ZT:=["_law_desk","_law_row"]
theorem xI:ZA ["_law_desk","_law_row","_law_told"] lG (Zq tW):=fsc
abbrev kZ:Stmt:=top 83
abbrev kA:ZT:=["_law_name","_law_whole","_law_big_here"]
theorem JW:ZA ["_law_name","_law_whole","_law_big_here","_law_kind","_law_piece","_law_number"] kA (Zq kZ):=fsc
abbrev kY:Stmt:=top 84
abbrev kr:ZT:=["_law_whole","_law_row","_law_told"]
theorem pS:ZA ["_law_whole","_law_row","_law_told","_law_words"] kr (Zq kY):=fsc
abbrev Aa:Stmt:=top 85
abbrev xX:ZT:=["_law_whole","_law_row","_law_told"]
theorem B0:ZA ["_law_whole","_law_row","_law_told","_law_words"] xX (Zq Aa):=fsc
abbrev tV:Stmt:=top 86
abbrev sr:ZT:=["_law_desk","_law_name","_law_whole","_law_parts"]
theorem iV:ZA ["_law_desk","_law_name","_law_whole","_law_parts","_law_end","_law_start"] sr (Zq tV):=fsc
abbrev mT:Stmt:=top 87
abbrev DS:ZT:=["_law_script"]
theorem qC:ZA ["_law_script","_law_most","_law_whole","_law_big_here","_law_name","_law_other","_law_first","_law_second","_law_told","_law_k","_law_row","_law_last","_law_third"] DS (Zq mT):=fsc
abbrev Yu:Stmt:=(qP (top 24)).getD 0 (.Pass (0,0,0,0))
abbrev zS:ZT:=["self","letters","home"]
theorem eD:ZA ["self","letters","home","column"] zS (Zq Yu):=fsc
abbrev JS:Stmt:=(qP (top 24)).getD 1 (.Pass (0,0,0,0))
abbrev qA:ZT:=["self","row"]
theorem i8:ZA ["self","row"] qA (Zq JS):=fsc
abbrev aq:Stmt:=(qP (top 24)).getD 2 (.Pass (0,0,0,0))
abbrev J6:ZT:=["self","sign"]
theorem lh:ZA ["self","sign"] J6 (Zq aq):=fsc
abbrev JR:Stmt:=(qP (top 24)).getD 3 (.Pass (0,0,0,0))
abbrev JI:ZT:=["self","sign","row"]
theorem i7:ZA ["self","sign","row"] JI (Zq JR):=fsc
abbrev qX:Stmt:=(qP (top 24)).getD 4 (.Pass (0,0,0,0))
abbrev YY:ZT:=["self","sign","row"]
theorem gM:ZA ["self","sign","row"] YY (Zq qX):=fsc
abbrev qO:Stmt:=(qP (top 24)).getD 5 (.Pass (0,0,0,0))
abbrev YJ:ZT:=["self","sign","rows"]
theorem gf:ZA ["self","sign","rows"] YJ (Zq qO):=fsc
abbrev bq:Stmt:=(qP (top 24)).getD 6 (.Pass (0,0,0,0))
abbrev Jb:ZT:=["self","row"]
theorem eB:ZA ["self","row","sign"] Jb (Zq bq):=fsc
abbrev YS:Stmt:=(qP (top 32)).getD 0 (.Pass (0,0,0,0))
abbrev zw:ZT:=["self","text","gap"]
theorem bD:ZA ["self","text","gap","row","place"] zw (Zq YS):=fsc
abbrev cF:Stmt:=(qP (top 32)).getD 1 (.Pass (0,0,0,0))
abbrev JD:ZT:=["self","piece"]
theorem Je:ZA ["self","piece","found","sign"] JD (Zq cF):=fsc
abbrev cG:Stmt:=(qP (top 32)).getD 2 (.Pass (0,0,0,0))
abbrev cg:ZT:=["self","row"]
theorem Jf:ZA ["self","row","steps"] cg (Zq cG):=fsc
abbrev bj:Stmt:=(qP (top 32)).getD 3 (.Pass (0,0,0,0))
abbrev aO:ZT:=["self","piece"]
theorem eA:ZA ["self","piece","found"] aO (Zq bj):=fsc
abbrev ao:Stmt:=(qP (top 32)).getD 4 (.Pass (0,0,0,0))
abbrev J5:ZT:=["self","piece"]
theorem dX:ZA ["self","piece","found"] J5 (Zq ao):=fsc
abbrev qL:Stmt:=(qP (top 74)).getD 0 (.Pass (0,0,0,0))
abbrev Jr:ZT:=["self"]
theorem tX:ZA ["self"] Jr (Zq qL):=fsc
abbrev f6:Stmt:=(qP (top 74)).getD 1 (.Pass (0,0,0,0))
abbrev fI:ZT:=["self","row"]
theorem ki:ZA ["self","row","told"] fI (Zq f6):=fsc
abbrev wJ:Pos:=(39,44,39,70)
abbrev kg:Str:="order_of.<locals>.<lambda>"
abbrev Zv(t:jP)(H:Hp):Prop:=Bk t wJ kg H
abbrev lZ:Pos:=(64,53,64,76)
abbrev eh:Str:="Letters.__init__.<locals>.<lambda>"
abbrev Zp(t:jP)(H:Hp):Prop:=Bk t lZ eh H
structure Cs where
 BackError:jP
 NoPlace:jP
 NoGap:jP
 NoText:jP
 NoTimes:jP
 Empty:jP
 TooLong:jP
 NoName:jP
 NoRow:jP
structure Er(K:Qb)(mg:z9)(c:Cs):Prop where
 qaH:mg "BackError"=Qr (.ref c.BackError)
 qaI:ExC K c.BackError
 qaP:mg "NoPlace"=Qr (.ref c.NoPlace)
 qaQ:ExC K c.NoPlace
 qbh:mg "NoGap"=Qr (.ref c.NoGap)
 qbi:ExC K c.NoGap
 qaZ:mg "NoText"=Qr (.ref c.NoText)
 qa0:ExC K c.NoText
 qaM:mg "NoTimes"=Qr (.ref c.NoTimes)
 qaD:ExC K c.NoTimes
 qan:(Jn K c.NoTimes).contains (.ref c.NoTimes)=true
 qau:(Jn K c.NoTimes).contains (.ref c.Empty)=false
 qa6:mg "Empty"=Qr (.ref c.Empty)
 qaY:ExC K c.Empty
 qax:(Jn K c.Empty).contains (.ref c.Empty)=true
 qaR:mg "TooLong"=Qr (.ref c.TooLong)
 qaS:ExC K c.TooLong
 qaX:mg "NoName"=Qr (.ref c.NoName)
 qaF:ExC K c.NoName
 qal:(Jn K c.NoName).contains (.ref c.BackError)=true
 qat:(Jn K c.NoName).contains (.ref c.NoTimes)=false
 qaw:(Jn K c.NoName).contains (.ref c.Empty)=false
 qaJ:mg "NoRow"=Qr (.ref c.NoRow)
 qaK:ExC K c.NoRow
structure Cf(K:Qb)(Zd:jP)(Zs:jP)(ZM:jP):Prop where
 qaa:Cls K Zd
 qae:qV K Zd "column"
 qao:qV K Zd "forths"
 qap:qV K Zd "home"
 qac:qV K Zd "last"
 qaj:qV K Zd "totals"
 qam:Cls K Zs
 qay:qV K Zs "gap"
 qaf:qV K Zs "held"
 qag:qV K Zs "known"
 qbs:Cls K ZM
 qas:qV K ZM "texts"
noncomputable def ip:List (Str×V):=[("keep",.str "word name rest"),("load",.str "word name rest"),("ahead",.str "word name rest"),("drop",.str "word name"),("off",.str "word name number"),("text",.str "word name"),("pack",.str "word name"),("count",.str "word name rest"),("find",.str "word name rest"),("near",.str "word name number rest"),("often",.str "word name number"),("kinds",.str "word name"),("lone",.str "word name"),("cut",.str "word name rest"),("both",.str "word name other")]
noncomputable def gq:ZE:=[.str "keep",.str "load"]
noncomputable def sW:List (Str×Str):=[("keep","answer_keep"),("load","answer_load"),("ahead","answer_ahead"),("off","answer_off"),("text","answer_text"),("pack","answer_pack"),("count","answer_count"),("find","answer_find"),("near","answer_near"),("often","answer_often"),("kinds","answer_kinds"),("lone","answer_lone"),("cut","answer_cut")]
structure Tp(K:Qb)(P:Qa0)(mg:z9)(Ya zo zE:jP):Prop where
 qbD:mg "FORMS"=Qr (.ref Ya)
 qa7:sv K P Ya ip
 qbE:mg "KEEPING"=Qr (.ref zo)
 qaT:LY K zo gq
 qbF:mg "ANSWERS"=Qr (.ref zE)
 qaU:OJ K P mg zE sW
structure Gc(mg:z9):Prop where
 MOST_SIGNS:∃t,mg "MOST_SIGNS"=Qr (.int 300 t)
 NO_LETTER:∃t,mg "NO_LETTER"=Qr (.str "\n" t)
structure Bn(mg:z9):Prop where
 dict:mg "dict"=Qs
 enumerate:mg "enumerate"=Qs
 int:mg "int"=Qs
 isinstance:mg "isinstance"=Qs
 len:mg "len"=Qs
 list:mg "list"=Qs
 max:mg "max"=Qs
 min:mg "min"=Qs
 range:mg "range"=Qs
 reversed:mg "reversed"=Qs
 set:mg "set"=Qs
 sorted:mg "sorted"=Qs
 str:mg "str"=Qs
 sum:mg "sum"=Qs
 zip:mg "zip"=Qs
section
variable{P:j8}{w:uj}{K:Qb}{mg:z9}{base:Heap}
variable{zE Ya zo ZM Zs Zd f Za Zb:jP}{c:Cs}{fd:uY}
def z7(K:Qb)(c:Cs):Sp:=λv H Q E=>aS (λz=>a0 (Qa (L z)<=sizeLine/\(Jm (L z)->Q (.int (digitsVal (L z):Nat)) H)/\(¬Jm (L z)->E (.ref c.NoRow) Qs H))) v
theorem tD(F:Fun K "number_in" "number_in" eQ f fd)(B:Bn mg)(R:Er K mg c):Z0 P w K mg base (CX1 P w) 1 f fd Jt (z7 K c):=by
 show F.okX t5 (λC A _ s H Y Q E Z m=>aS_all m λz _ m=>a0_all m λh=>ZL h λO q e=>?_)
 repeat clear m
 clear h;show(_,(Ze (Z5 (PW.pt (mO (ZV rA (Z4 K B.len vq0) Zl) (mO (ZV nT (Z4 K B.len vq0) Zl) (iy (ZV rB (YH (K:=K) rfl Qz Wp Wn Eo vq0 (Zh Zr)) Zr))))) (Zj (YI ZU R.qaK R.qaJ (Zh Zr))) ZG) (Ze (Z5 (PW.pt (tR (ZV bf (ZP K vq0 Zl) Zr) (mM (ZV rB vq0 Zr)))) (Zj (YI ZU R.qaK R.qaJ (Zh Zr))) ZG) (Zj (ZC (Yt yd (by rfl) B.int yb (Zh vq0)))))),stR ?_);have J:=jT;have t:L (Qe "0123456789")=UZ 48 10:=by rfl'
 have x:L (Qe "")=[]:=by rfl'
 have I:L (Qe "0")=[48]:=by rfl'
 have D:(∀c∈L z,c∈UZ 48 10)↔∀c∈L z,48<=c/\c<=57:=by show forall_congr' λc=>forall_congr' λ_=>by rw[W7];lia
 simp![gtV,t,x,I];show(O,zF (λw=>(∅,e λg=>by have:=g.1;lia)) λr=>(O,zF (λw=>(∅,e λg=>by have:=g.2.1;lia)) λM=>(O,λl j=>?_)));have p:L z≠[]:=λw=>by rw[w]at r;show r ∅
 by_cases y:l=[]
 .have d:=D.mp (j.mp y);rw[decide_eq_true y];show Bc (O,_,Y0 0 ⋯ ⋯,zF (λw=>?_) λw=>(⋯,p,d,q (⋯,⋯,d,λv=>ZD (by rw[show((0:Int)).toNat=0 from rfl,v]) w)));have u:(L z).getD 0 0=48:=UM w;by_cases S:L z=[48]
  .rw[decide_eq_true S];show Bc (⋯,p,d,q (⋯,⋯,d,λ_=>S))
  rw[decide_eq_false S];show Bd (∅,e λg=>S (g.2.2.2 u))
 rw[decide_eq_false y];show Bd (∅,e λg=>y (j.mpr (D.mpr g.2.2.1)))
theorem IM:ip=Ea.map λp=>(Qe p.1,V.str (Qe (A5 p.2))):=rfl
theorem Gn(w:Zg):lu ip (T w)=(pE w).map λi=>V.str (Qe (A5 i)):=by rw[IM];show EU w Ea
def bI(K:Qb)(c:Cs):Sp:=λv H Q E=>aS (λz=>a0 (Qa (L z)<=5000/\(∀i Z,JC (L z) i Z->∀I d,Zw H I->H d=Qs->I d=Qr (.dK (zR i Z))->Q (.ref d) I)/\((¬ ∃i Z,JC (L z) i Z)->∀I,Zw H I->E (.ref c.NoRow) Qs I))) v
theorem wN(F:Fun K "read_row" "read_row" f9 f fd)(B:Bn mg)(ER:Er K mg c)(TP:Tp K w.params mg Ya zo zE)(zW:FnX P w K mg base 1 "number_in" Jt (z7 K c)):Z0 P w K mg base (CX1 P w) 2 f fd fL (bI K c):=by
 show F.okX qM (λab A _ s H vs Q E hr hJ=>aS_all hJ λz _ hJ=>a0_all hJ λh=>ZL h λhl q e=>?_)
 repeat clear hJ
 clear h;show(_,(Ze (ZK (Zu 1 qM.nd (ZP K (YH (K:=K) rfl Qz V5 V4 pM vq0 (Zh Zr)) Zl))) (Ze (Z5 (ZV (FJ (K:=K) rfl rfl TP.qa7) vq1 (fV (v:=.ref Ya) rfl TP.qbD rfl)) (Zj (YI ZU ER.qaK ER.qaJ (Zh Zr))) ZG) (Ze (ZK (Zu 2 qM.nd (YH (K:=K) rfl Qz UQ UP l7 (Et (Ph (K:=K) rfl rfl TP.qa7) (fV (v:=.ref Ya) rfl TP.qbD rfl) vq1 (λ_ _=>rfl)) (Zh Zr)))) (Ze (ZK (Zu 3 qM.nd (YH (K:=K) rfl Qz UQ UP l7 vq0 (Zh Zr)))) (Ze (ZK (Z5 (ZV bf (ZP K vq2 (N7 Om Zl)) Zr) (Zj (Zu 3 qM.nd (YH (K:=K) rfl Qz UQ UP l7 vq0 (Zk Zr (Zh (Zt cV (Z4 K B.len vq2) Zl)))))) ZG)) (Ze (Z5 (ZV rB (Z4 K B.len vq3) (Z4 K B.len vq2)) (Zj (YI ZU ER.qaK ER.qaJ (Zh Zr))) ZG) (Ze (ZK (Zu 4 qM.nd (KH (K:=K) rfl rfl B.dict B.zip (Zk vq2 (Zh vq3))))) (Ze (ZK (Z5 (yP (KD (lU hr) Zr (qv 4))) (Zj (r0 (lU hr) (qv 4) Zr (Yp ZU.toTk zW hr (Zh (Z7 hr (qv 4) Zr))) rfl)) ZG)) (Zj (ZC (qv 4))))))))))),stR ?_);have a6:=jT;have S:L (Qe " ")=[32]:=by rfl'
 show zx (λm I=>Zw H I/\m=[Qr (V.str z),Qr (V.str (T (fw (L z)))),Qs,Qs,Qs]) ?_ ?_
 .simp![S];show(32,rfl,⋯,λk h1 J p M=>(_,_,.inr (SqT.of Zi),rfl,Zw.updN M,by rw[T9 h1 J]),λh1 p M=>(_,_,.inr (SqT.of Zi),rfl,Zw.updN M,by rw[Xa h1,T_L]))
 intro _ H1 t;obtain⟨s1,rfl⟩:=t;simp![true_and];have r:=Gn (fw (L z))
 cases O:pE (fw (L z))with
 |none=>
  rw[O]at r;rw[r];show Bd (∅,e (λ(i,ws,g)=>by have:=g.1;rw[O]at this;cases this) H1 s1)
 |some i=>
  have x:=Io O;replace r:lu ip (T (fw (L z)))=Qr (V.str (Qe (A5 i))):=by rw[r,O];rfl
  rw[r];show Bc ?_;have hL:∀s:String,L (Qe s)=cd s:=λ_=>rfl;show zx (λm I=>Zw H I/\∃p,I p=Qr (.lst ((Y9 i).map λw=>V.str (T w)))/\m=[Qr (V.str z),Qr (V.str (T (fw (L z)))),Qr (V.ref p),Qs,Qs]) ?_ ?_
  .simp![S,r];have l1:∀i,i<5->Qa (L (Qe (A5 i)))+2<=sizeLine:=by rw[a6];rfl'
   show(_,rfl,?_);simp![S];show(32,rfl,∅,l1 i x,λp M=>(s1.upd M,p,?_,rfl));rw[hL,Lh i x];show Zi
  intro _ H2 t;show ZI t λs2 Z=>Zf Z λp M R=>?_;clear Z t;subst R;show zx (λm I=>Zw H I/\∃q,I p=Qr (.lst ((Y9 i).map λw=>V.str (T w)))/\I q=Qr (.lst ((spl 32 (Qa (L z)+1) (L z)).map λw=>V.str (T w)))/\m=[Qr (V.str z),Qr (V.str (T (fw (L z)))),Qr (V.ref p),Qr (V.ref q),Qs]) ?_ ?_
  .simp![S];show(32,rfl,∅,⋯,λq U=>(s2.upd U,q,(Zn (Zm M U)).trans M,Zi,rfl))
  intro _ H3 t;show ZI t λs3 Z=>Zz Z λq0 u a9 C=>?_;clear Z t;subst C;show zx (λm I=>Zw H I/\∃q,I p=Qr (.lst ((Y9 i).map λw=>V.str (T w)))/\I q=Qr (.lst ((bR i (L z)).map λw=>V.str (T w)))/\m=[Qr (V.str z),Qr (V.str (T (fw (L z)))),Qr (V.ref p),Qr (V.ref q),Qs]) ?_ ?_
  .simp! only[S];show(_,_,.inl (SqL.of u),Fz x,?_);simp![hL];have a4:IY i=cd "rest"↔(i=0\/i=3):=decide_eq_decide.mp (CS i x);show zF (λY=>?_) λY=>?_
   .rw[a4]at Y
    have fl:1<=Qa (Y9 i)/\Qa (Y9 i)<=4:=by
     rw[CI i x];split
     lia
     split<;>lia
    have hn:((Qa ((Y9 i).map λw=>V.str (T w)):Int)-1).toNat=Qa (Y9 i)-1:=by rw[jO];lia
    show(_,.inl (SqL.of u),32,rfl,∅,⋯,by rw[jO];lia,by rw[jO];lia,λq U=>(s3.upd U,q,(Zn (Zm u U)).trans u,?_,rfl));rw[Zi,hn];unfold bR;rw[Zx Y]
   rw[a4]at Y;show(s3,q0,u,?_,rfl);unfold bR;rw[Zo Y];show a9
  intro _ H4 t;show ZI t λs4 Z=>Zz Z λq1 a2 a5 C=>?_;clear Z t;subst C;simp! only[true_and];show(_,.inl (SqL.of a5),_,.inl (SqL.of a2),zF (λa1=>(∅,e (λ(j,ws,g)=>?_) H4 s4)) λa8=>?_)
  .have ej:j=i:=Option.some.inj (g.1.symm.trans O);subst ej;simp only[Q3,decide_eq_false_iff_not,jO]at a1;show a1 (by have:=g.2.2.1;rw[g.2.1]at this;lia)
  have y:Qa (bR i (L z))=Qa (Y9 i):=by
   simp only[Q3,decide_eq_false_iff_not,jO,Decidable.not_not]at a8
   lia
  show zx (λm I=>Zw H I/\∃d,H d=Qs/\I d=Qr (.dK (J0 i (bR i (L z))))/\m=[Qr (V.str z),Qr (V.str (T (fw (L z)))),Qr (V.ref p),Qr (V.ref q1),Qr (V.ref d)]) ?_ ?_
  .simp! only[true_and];show(Y9 i,(bR i (L z)).map λw=>V.str (T w),SqL.of a2,SqL.of a5,by rw[jO];show y.symm,λd hd=>(s4.upd hd,d,s4.free hd,?_,rfl));rw[Zi,Ff x y]
  intro _ H5 t;show ZI t λs5 Z=>Zz Z λd a3 D C=>?_;clear Z t;subst C;show zx (λm I=>Zw H I/\JC (L z) i (bR i (L z))/\I d=Qr (.dK (zR i (bR i (L z))))/\m=[Qr (V.str z),Qr (V.str (T (fw (L z)))),Qr (V.ref p),Qr (V.ref q1),Qr (V.ref d)]) ?_ ?_
  .simp![true_and];have ek:V.str (Qe "number")=kV (ky "number"):=by change _=V.str (T (cd "number"));rw[dG]
   show(d,_,rfl,by rw[ek];show DGet.k D,_,rfl,?_);rw[wo x];by_cases J:i=2\/i=3
   .rw[Zx J];show Bd (d,_,rfl,by rw[ek];show(wo x (bR i (L z))).trans (Zx J)▸DGet.k D,?_);have ak:Qa ((bR i (L z)).getD 2 [])<=5000:=QC (EF i (L z) 2) hl;simp only[z7,L_T,aR,aS,aI,aB,a0];show(⋯,λg=>(d,_,rfl,by rw[ek];show .inl (_,ky "number",D,rfl,by have:=Lz i (bR i (L z));lia,rfl),?_),λg=>e (λ(j,ws,gr)=>?_) H5 s5)
    .rw[Dj x J];show(λb o hb=>?_,(O,rfl,y,λ_=>g),Zi);rw[Zn (Zm hb a3)];show s5 b o hb
    have ej:j=i:=Option.some.inj (gr.1.symm.trans O);subst ej;show g (gr.2.1▸gr.2.2.2 J)
   rw[Zo J];show Bc (s5,(O,rfl,y,λz=>ZD z J),NC J _▸D)
  intro _ H6 t;show za t λs6 g6 a7 R=>?_;subst R;simp! only[true_and];show q i _ g6 H6 d s6 a3 a7
def df(K:Qb):Sp:=λv H Q _=>aS (λz=>a0 (Qa (L z)<=5000/\∀b:Bool,(b=true↔qz (L z))->Q (.bl b) H)) v
theorem yE(F:Fun K "is_name" "is_name" iB f fd)(B:Bn mg):Z0 P w K mg base CX0 1 f fd gU (df K):=by
 show F.ok Ab (λD A _ s H v Q E Y m=>aS_all m λz _ m=>a0_all m λh=>?_)
 repeat clear m
 obtain⟨O,q⟩:=h;show(_,(Zj (ZC (MV (FQ MO MO Zl (Z4 K B.len vq0) Zl) (Rt (mG bf (YH (K:=K) rfl Qz Wp Wn Eo vq0 (Zh Zr)) Zr))))),stR ?_);have g:=jT;have p:L (Qe "abcdefghijklmnopqrstuvwxyz")=UZ 97 26:=by rfl'
 have y:L (Qe "")=[]:=by rfl'
 have d:(∀c∈L z,c∈UZ 97 26)↔∀c∈L z,97<=c/\c<=122:=by show forall_congr' λc=>forall_congr' λ_=>by rw[W7];lia
 simp![leV,p,y];show(⋯,zF (λx=>zF (λI=>(⋯,λl C=>q _ (λz=>(⋯,⋯,d.mp (C.mp (of_decide_eq_true z))),λn=>decide_eq_true (C.mpr (d.mpr n.2.2))))) λI=>q false (λz=>(by cases z),λn=>by have:=n.2.1;lia)) λx=>q false (λz=>(by cases z),λn=>by have:=n.1;lia))
def Jj(K:Qb)(c:Cs):Sp:=λv H Q E=>aR (λt=>aR (λd=>a0 (∃O i Z,H t=Qr (.dK (txK O))/\i<5/\H d=Qr (.dK (zR i Z))/\(∀k,Qa (Z.getD k [])<=5000)/\(xV O i Z->∀I,Zw H I->Q .non I)/\(¬xV O i Z->∀I,Zw H I->E (.ref c.NoName) Qs I)))) v
theorem oq(F:Fun K "check_names" "check_names" cO f fd)(U:Er K mg c)(TP:Tp K w.params mg Ya zo zE)(gO:Fn P w K mg base 1 "is_name" gU (df K)):Z0 P w K mg base (CX1 P w) 2 f fd cy (Jj K c):=by
 show F.okX fv (λa2 A _ s H vs Q E Y C=>aR_all C λt _ C=>aR_all C λd _ C=>a0_all C λh=>?_)
 repeat clear C
 show ZH h λO i Z zr=>ZO zr λht hi hd hw q e=>?_;clear zr h;show(_,(Ze (Z5 (ZV (Xt (K:=K) rfl) (Z7 Y vq1 Zr) (fV (v:=.ref zo) rfl TP.qbE rfl)) (Ze (Z5 (yQ (tQ (K:=K) rfl (Z8 gO Y (Zh (Z7 Y vq1 Zr))))) (Zj (YI ZU U.qaF U.qaX (Zh Zr))) ZG) (Zj Nc)) ZG) (Zj (Ng (K:=K) rfl ZU.own rfl (zm (Zk Zr (Zh Zr))) (qai 2 fv.nd) (YM (Zj (Z5 (PW.pt (tR (yP (KD (lU Y) vq2 vq1)) (mM (yP (xB (lU Y) (Z7 Y vq1 vq2) vq0))))) (Zj (YI ZU U.qaF U.qaX (Zh Zr))) ZG)))))),stR ?_);have a3:=jT;have ek:∀s:String,V.str (Qe s)=kV (ky s):=λs=>by change _=V.str (T (cd s));rw[dG]
 simp![Pg,df]
 have r:inV (V.str (T (Z.getD 0 []))) gq=true↔(Z.getD 0 []=cd "keep"\/Z.getD 0 []=cd "load"):=by
  have es:∀s:String,(Qe s==T (Z.getD 0 []))=true↔Z.getD 0 []=cd s:=λs=>by rw[beq_iff_eq,<-dG,xb];show eq_comm
  change((Qe "keep"==T (Z.getD 0 [])) || ((Qe "load"==T (Z.getD 0 [])) || false))=true↔_;rw[Uk,Uk,es,es];simp
 show(d,_,rfl,Ca i Z▸DGet.kys hd "word",zo,gq,rfl,.inr (TP.qaT.sq H),rfl,rfl,zF (λB=>?_) λB=>?_)
 .show(d,_,rfl,Y7 i Z▸DGet.kys hd "name",?_);simp only[L_T];show(hw 1,λb hb=>zF (λI=>(∅,e (λn=>?_) H (Zw.refl H))) λI=>q (λ_=>hb.mp (by simpa using I),λn=>ZD (r.mp B) n) H (Zw.refl H));have:=hb.mpr (n.1 (r.mp B));rw[this]at I;cases I
 rw[r]at B;simp! only[Oj,Pg];show(⋯,?_);intro p hp;have np:∀{b:jP} {o:HO},H b=Qr o->b≠p:=λh=>Zm h hp;have S:Zw H (upd H p (HO.tup [V.str (Qe "name"),V.str (Qe "other")])):=Zw.updN hp;show(_,SqT.of Zi,λk g R=>R=upd H p (HO.tup [V.str (Qe "name"),V.str (Qe "other")])/\(∃x,g=[Qr (V.ref t),Qr (V.ref d),x])/\(1<=k->(qa O (Z.getD 1 [])).isSome=true)/\(2<=k->i=4->(qa O (Z.getD 2 [])).isSome=true),(rfl,(_,rfl),λz=>ZD z ∅,λz=>ZD z ∅),?_,?_,?_)
 .intro k g R _ u;obtain⟨rfl,_⟩:=u;show SqT.of Zi
 .intro k x g R m u;obtain⟨rfl,⟨y,rfl⟩,D,g2⟩:=u;simp![true_and];have j:=S d _ hd;have M:=S t _ ht
  match k,m,D,g2 with
  |0,m,_,_=>
   cases Option.some.inj m;show(d,_,rfl,DGet.kys j "name",_,rfl,?_);rw[Y7];show Bd (d,_,rfl,Y7 i Z▸DGet.kys j "name",t,_,rfl,DGet.k (k:=.inr (T (Z.getD 1 []))) M,_,rfl,?_);rw[nu,Va];show zF (λI=>(∅,e (λn=>?_) _ S)) λI=>((_,rfl),λ_=>by rw[Q3,W8]at I;show I,λz=>ZD z ∅);have:=(n.2 B).1;rw[this]at I;cases I
  |1,m,D,_=>
   cases Option.some.inj m;show(d,_,rfl,DGet.kys j "other",_,rfl,?_);rw[xP hi];by_cases J:i=4
   .rw[Zx J];show Bd (d,_,rfl,(xP hi Z).trans (Zx J)▸DGet.kys j "other",t,_,rfl,DGet.k (k:=.inr (T (Z.getD 2 []))) M,_,rfl,?_);rw[nu,Va];show zF (λI=>(∅,e (λn=>?_) _ S)) λI=>((_,rfl),λ_=>D ∅,λ_ _=>by rw[Q3,W8]at I;show I);have:=(n.2 B).2 J;rw[this]at I;cases I
   rw[Zo J];show Bc ((_,rfl),λ_=>D ∅,λ_ z=>ZD z J)
  |k+2,m,_,_=>cases m
 intro g R u;show za u λa1 _ D g2=>?_;subst a1;show q (λz=>ZD z B,λ_=>(D ∅,g2 ∅)) _ S
def z6(K:Qb)(c:Cs):Sp:=λv H Q E=>aR (λt=>aS (λn=>aS (λx=>a0 (∃O,H t=Qr (.dK (txK O))/\Qa O<=1000/\Qa (L x)<=5000/\(Qa (L x)<=300->Q (.str (Qe "ok")) (upd H t (.dK (txK (i6 O (L n) (L x))))))/\(300<Qa (L x)->E (.ref c.TooLong) Qs H))))) v
theorem tw(F:Fun K "keep_text" "keep_text" eP f fd)(B:Bn mg)(R:Er K mg c)(g:Gc mg):Z0 P w K mg base (CX1 P w) 1 f fd Js (z6 K c):=by
 show F.okX tZ (λC A _ s H v Q E Y m=>aR_all m λt _ m=>aS_all m λn _ m=>aS_all m λx _ m=>a0_all m λh=>JN h λO r I u q e=>?_)
 repeat clear m
 clear h;show(_,(Ze (Z5 (ZV nT (Z4 K B.len vq2) (BM rfl g.MOST_SIGNS)) (Zj (YI ZU R.qaS R.qaR (Zh Zr))) ZG) (Ze (r0 (lU Y) vq0 vq1 vq2 rfl) (Zj (ZC Zr)))),stR ?_);have d:=jT;simp![gtV];show(⋯,zF (λy=>(∅,e ⋯)) λy=>(t,_,rfl,.inl (_,.inr (T (L n)),r,by rw[T_L];rfl,by unfold txK;rw[jO];lia,rfl),?_));have:=EB O (L n) (L x);rw[T_L,T_L]at this;rw[T_L,this];show q ⋯
def Yx(K:Qb)(c:Cs):Sp:=λv H Q E=>aR (λt=>aR (λd=>a0 (∃O Z,H t=Qr (.dK (txK O))/\Qa O<=1000/\H d=Qr (.dK (zR 0 Z))/\Qa (Z.getD 2 [])<=5000/\(Qa (Z.getD 2 [])<=300->Q (.str (Qe "ok")) (upd H t (.dK (txK (i6 O (Z.getD 1 []) (Z.getD 2 []))))))/\(300<Qa (Z.getD 2 [])->E (.ref c.TooLong) Qs H)))) v
theorem nX(F:Fun K "answer_keep" "answer_keep" cI f fd)(J:FnX P w K mg base 1 "keep_text" Js (z6 K c)):Z0 P w K mg base (CX1 P w) 2 f fd cm (Yx K c):=by
 show F.okX oP (λC A _ s H v Q E Y m=>aR_all m λt _ m=>aR_all m λd _ m=>a0_all m λh=>?_)
 repeat clear m
 show zQ h λO Z z=>ZO z λr I hd u q e=>?_;clear z h;show(_,(Zj (ZC (Yp ZU.toTk J Y (Zk vq0 (Zk (Z7 Y vq1 Zr) (Zh (Z7 Y vq1 Zr))))))),stR ?_);have x:∀s:String,V.str (Qe s)=kV (ky s):=λs=>by change _=V.str (T (cd s));rw[dG]
 simp! only[true_and];show(d,_,rfl,Y7 0 Z▸DGet.kys hd "name",d,_,rfl,fA Z▸DGet.kys hd "rest",?_);simp only[z6,L_T,aR,aS,aI,aB,a0];show(O,r,I,u,q,e)
def YC(K:Qb)(c:Cs):Sp:=λv H Q E=>aR (λt=>aR (λd=>a0 (∃O i Z x,H t=Qr (.dK (txK O))/\H d=Qr (.dK (zR i Z))/\qa O (Z.getD 1 [])=Qr x/\Q (.str (T x)) H))) v
theorem om(F:Fun K "answer_text" "answer_text" cN f fd):Z0 P w K mg base (CX1 P w) 1 f fd cx (YC K c):=by
 show F.okX oR (λC A _ s H v Q E Y m=>aR_all m λt _ m=>aR_all m λd _ m=>a0_all m λh=>?_)
 repeat clear m
 show ZH h λO i Z z=>zh z λx r hd g q=>?_;clear z h;show(_,(Zj (ZC (Z7 Y vq0 (Z7 Y vq1 Zr)))),stR ?_);have y:∀s:String,V.str (Qe s)=kV (ky s):=λs=>by change _=V.str (T (cd s));rw[dG]
 simp! only[true_and];have M:=vtx g;show(d,_,rfl,Y7 i Z▸DGet.kys hd "name",t,_,rfl,M▸DGet.k (k:=.inr (T (Z.getD 1 []))) r,q)
def ZX(K:Qb)(c:Cs):Sp:=λv H Q E=>aI (λp=>aI (λl=>a0 (((0<=p/\p<=l)->Q .non H)/\(¬(0<=p/\p<=l)->E (.ref c.NoPlace) Qs H)))) v
theorem ot(F:Fun K "check_place" "check_place" cP f fd)(O:Er K mg c):Z0 P w K mg base (CX1 P w) 1 f fd zP (ZX K c):=by
 show F.okX oS (λC A _ s H v Q E Y m=>aI_all m λp _ m=>aI_all m λl _ m=>a0_all m λh=>?_)
 repeat clear m
 obtain⟨q,e⟩:=h;show(_,(Zj (Z5 (PW.pt (mO (ZV rA vq0 Zl) (iy (ZV nT vq0 vq1)))) (Zj (YI ZU O.qaQ O.qaP (Zh Zr))) ZG)),stR ?_);dsimp![true_and];show zF (λr=>(∅,e ⋯)) λr=>zF (λx=>(∅,e ⋯)) λx=>q (⋯,⋯)
def az(K:Qb)(c:Cs):Sp:=λv H Q E=>aI (λg=>a0 ((g<1->E (.ref c.NoGap) Qs H)/\(¬g<1->Q .non H))) v
theorem tu(F:Fun K "check_gap" "check_gap" eO f fd)(O:Er K mg c):Z0 P w K mg base (CX1 P w) 1 f fd eL (az K c):=by
 show F.okX tY (λC A _ s H v Q E Y m=>aI_all m λ_ _ m=>a0_all m λh=>?_)
 repeat clear m
 show(_,(Zj (Z5 (ZV rA vq0 Zl) (Zj (YI ZU O.qbi O.qbh (Zh Zr))) ZG)),stR ?_);simp![true_and];show zF (λz=>(∅,h.1 z)) λz=>h.2 z
def di(K:Qb):Sp:=λv H Q _=>aS (λz=>a0 (Qa (L z)<=1000/\∀p I t r,Zw H I->H p=Qs->I p=Qr (.lst (t.map V.ref))->dF I t r->flat r=L z->qH r->Q (.ref p) I)) v
theorem yG(F:Fun K "runs_of" "runs_of" iD f fd)(B:Bn mg):Z0 P w K mg base CX0 1 f fd gX (di K):=by
 show F.ok ay (λa2 A _ s H vs Q E hr m=>aS_all m λz _ m=>a0_all m λh=>?_)
 repeat clear m
 obtain⟨hl,q⟩:=h;show(_,(Ze (Zu 1 ay.nd (fW iu)) (Ze (Zu 2 ay.nd Zl) (Ze (Nf PassesOwn.never rfl B.range (Zk Zl (Zh (Zt ZJ (Z4 K B.len vq0) Zl))) (qai 3 ay.nd) (YM (Zj (Z5 (PW.pt (mO (ZV bf vq3 (Z4 K B.len vq0)) (iy (ZV rB (ZP K vq0 vq3) (ZP K vq0 vq2))))) (Ze (qR (YH (K:=K) rfl Ut UK UJ fg vq1 (Zh (zm (Zk (ZP K vq0 vq2) (Zh (Zt cV vq3 vq2))))))) (Zj (Zu 2 ay.nd vq3))) ZG)))) (Zj (ZC vq1))))),stR ?_);dsimp! only[Oi];have a3:=jT;show(⋯,λp hp=>(⋯,(⋯,⋯,⋯,⋯),?_))
 show(λi σ I=>∃(st:Nat) (v:Option V) (R:List jP) (r:J2),σ=[Qr (V.str z),Qr (V.ref p),Qr (V.int st),v]/\Zw H I/\I p=Qr (.lst (R.map V.ref))/\dF I R r/\qH r/\flat r=(L z).take st/\st<=Qa (L z)/\Qa R<=i/\
  (i<Qa (L z)->st<=i/\(∀j,st<=j->j<=i->(L z).getD j 0=(L z).getD st 0)/\∀a,r.getLast?=Qr a->a.1≠(L z).getD st 0)/\(i=Qa (L z)->st=i),
  (0,_,[],[],rfl,Zw.updN hp,Zi,tU _,Iu,rfl,Qo _,Qg _,λ_=>(Qg _,λj C h2=>by rw[show j=0 by lia],λa O=>by cases O),λ_=>rfl),?_,?_)
 .intro i σ I hi u;obtain⟨st,v,R,r,rfl,Z,C,ra,gd,fl,g,a1,Y,_⟩:=u;obtain⟨i1,i2,i3⟩:=Y ⋯;have a4:i<Qa (L z):=⋯
  dsimp![true_and]
  have step:∀(e:i+1=Qa (L z)\/(L z).getD (i+1) 0≠(L z).getD st 0) (t:jP),I t=Qs->
   ∃l d y,V.ref p=V.ref l/\[V.ref t]=[y]/\upd I t (HO.tup [V.str (T [(L z).getD st 0]),V.int (1+(i:Int)-st)]) l=Qr (HO.lst d)/\Qa d<sizeLine/\
    ∃(S:Nat) (v':Option V) (J:List jP) (x:J2),[Qr (V.str z),Qr (V.ref p),Qr (V.int (1+(i:Int))),Qr (V.int (1+(i:Int)))]=[Qr (V.str z),Qr (V.ref p),Qr (V.int S),v']/\
     Zw H (upd (upd I t (HO.tup [V.str (T [(L z).getD st 0]),V.int (1+(i:Int)-st)])) l (HO.lst (d++[y])))/\upd (upd I t (HO.tup [V.str (T [(L z).getD st 0]),V.int (1+(i:Int)-st)])) l (HO.lst (d++[y])) p=Qr (.lst (J.map V.ref))/\
     dF (upd (upd I t (HO.tup [V.str (T [(L z).getD st 0]),V.int (1+(i:Int)-st)])) l (HO.lst (d++[y]))) J x/\qH x/\flat x=(L z).take S/\S<=Qa (L z)/\Qa J<=i+1/\
     (i+1<Qa (L z)->S<=i+1/\(∀j,S<=j->j<=i+1->(L z).getD j 0=(L z).getD S 0)/\∀a,x.getLast?=Qr a->a.1≠(L z).getD S 0)/\(i+1=Qa (L z)->S=i+1):=by
   intro e t D;have np:p≠t:=Zm C D;have U:upd I t (HO.tup [V.str (T [(L z).getD st 0]),V.int (1+(i:Int)-st)]) p=Qr (HO.lst (R.map V.ref)):=by rw[Zn np];show C
   show(p,_,_,rfl,rfl,U,by rw[jO];lia,i+1,_,R++[t],r++[((L z).getD st 0,i+1-st)],by rw[show(1+(i:Int))=((i+1:Nat):Int)by lia],mU (Zw.upd Z D) hp,?_,?_,?_,?_,⋯,by simp;lia,λh=>(Qg _,λj k1 k2=>by rw[show j=i+1 by lia],λa O=>?_),λh=>rfl)
   .rw[Zi,uh];rfl
   .show pQ (iA ra ((iH (Zw.updN D)).trans (xH U))) ?_;rw[Zn (Ne.symm np),Zi,show(1+(i:Int)-st)=((i+1-st:Nat):Int)by lia]
   show Fj gd (by change 1<=i+1-st;lia) i3
   .rw[A0,fl];show(Nv ⋯ ⋯ λj k1 k2=>i2 j k1 ⋯).symm
   rw[WQ]at O;cases O;rcases e with e|e
   lia
   show Ne.symm e
  have stN:atI (L z) (st:Int)=Qr ((L z).getD st 0):=Y0 0 ⋯ ⋯;show(⋯,zF (λe=>(.inl (_,SqL.of C),⋯,_,stN,⋯,λt D=>step (.inl ⋯) t D)) λe=>(⋯,_,Y0 0 ⋯ ⋯,⋯,_,stN,?_));rw[show(1+(i:Int)).toNat=i+1 by lia];show zF (λM=>(.inl (_,SqL.of C),⋯,_,stN,⋯,λt D=>step (.inr λz=>by rw[z]at M;simp at M) t D)) λM=>?_;have e3:(L z).getD (i+1) 0=(L z).getD st 0:=by simpa using M
  show(st,_,R,r,rfl,Z,C,ra,gd,fl,g,⋯,λh=>(⋯,λj k1 k2=>?_,i3),λh=>by lia);by_cases hj:j<=i;show i2 j k1 hj;rw[show j=i+1 by lia];show e3
 intro σ I u;obtain⟨st,v,R,r,rfl,Z,C,ra,gd,fl,g,a1,_,Y⟩:=u;dsimp! only[true_and];show q p I R r Z hp C ra ?_ gd;rw[fl,QL ⋯]
def JY(K:Qb)(c:Cs):Sp:=λv H Q E=>aS (λz=>aI (λh=>a0 (Qa (L z)<=300/\(¬(0<=h/\h<=Qa (L z))->E (.ref c.NoPlace) Qs H)/\((0<=h/\h<=Qa (L z))->∀r,qH r->flat r=L z->∀I,Zw H I->Q (.str (T (ZR h++32::wr r))) I)))) v
theorem BC(F:Fun K "packed" "packed" kW f fd)(B:Bn mg)(ZN:FnX P w K mg base 1 "check_place" zP (ZX K c))(gQ:Fn P w K mg base 1 "runs_of" gX (di K)):Z0 P w K mg base (CX1 P w) 2 f fd fK (JY K c):=by
 show F.okX pR (λa2 A _ s H vs Q E Z m=>aS_all m λz _ m=>aI_all m λh _ m=>a0_all m λh=>ZL h λhl e q=>?_)
 repeat clear m
 clear h;show(_,(Ze (qR (Yp ZU.toTk ZN Z (Zk vq1 (Zh (Z4 K B.len vq0))))) (Ze (ZK (K0 2 K (own:=["sign","many"]) (cp:=[]) rfl (Z8 gQ Z (Zh vq0)) (λ_ _ _ _=>fX) (λ_ _ _ _=>(yL (d9 (tK vq0) (d9 (tK vq1) (d9 Zr Dh))))) pR.nd)) (Zj (ZC (Zt ZJ (yL (d9 (tK vq1) (d9 Zr Dh))) (YH (K:=K) rfl Qz UD UC (l6 (K:=K) rfl) Zr (Zh vq2))))))),stR ?_);have a3:=jT;simp! only[ZX];show(⋯,λhh=>?_,e);obtain⟨h,rfl⟩:∃k:Nat,h=(k:Int):=(h.toNat,⋯);show zx (λj H'=>Zw H H'/\∃p R,qH R/\flat R=L z/\H' p=Qr (.lst ((R.map λr:Nat×Nat=>r.1::(ZR (r.2:Nat)++[59])).map λl=>V.str (T l)))/\j=[Qr (V.str z),Qr (V.int (h:Int)),Qr (V.ref p)]) ?_ ?_
 .simp! only[di];show(⋯,λp H1 ts R S hp x ra I g=>?_);have Y:=ra.1;have J:=y4 g;rw[I]at J;show(_,SqL.of x,by rw[jO];lia,λi O d=>O=H1/\d=((R.take i).map λr:Nat×Nat=>r.1::(ZR (r.2:Nat)++[59])).map λl=>V.str (T l),(rfl,rfl),?_,?_,?_)
  .intro i O d _ u;obtain⟨rfl,_⟩:=u;show SqL.of x
  .intro i r O d v u;obtain⟨rfl,rfl⟩:=u;rw[Qm]at v;show Zf (Qv.mp v) λt et y=>?_;subst y;have hi:i<Qa R:=by rw[<-Y];show(Qh.mp et).1
   have ei:R[i]?=Qr R[i]:=Qd hi;show Zf (ra.2 i R[i] ei) λt' U ht=>?_;rw[et]at U;cases Option.some.inj U;have hm:=bN (QN hi) (by rw[I];show hl);show(t,_,_,rfl,SqT.of ht,?_);simp![true_and];have f1:=(MN R[i].2 hm).1;have a1:L (Qe ";")=[59]:=by rfl'
   rw[a1];show(⋯,⋯,Xs _ hm,⋯,by rw[jW];lia,by rw[jR,jW];lia,?_);rw[QZ,ei,uh,uh];rfl
  rintro O d ⟨rfl,rfl⟩ l C;show(S.upd C,l,R,g,I,?_,rfl);rw[Zi,jO,Y,QE]
 intro _ H1 u;show ZI u λS zr=>ze zr λp R g I x D=>?_;clear zr u;subst D;simp![true_and];have f1:=(MN h ⋯).1;have M:L (Qe " ")=[32]:=by rfl'
 have J:=y4 g;have wl:=Dz (rs:=R) λr Z=>bN Z (by rw[I];show hl);rw[I]at J;rw[M,lL];show(Xs h ⋯,⋯,by rw[jW];lia,by rw[jR,jW];lia,_,SqL.of x,?_,?_,?_)
 .rw[uC,WE,<-WV];change Qa (wr R)+0<=_
  lia
 .rw[dt,jR,jW];change _+Qa (wr R)<=_
  lia
 rw[dt,uq];show q hh R g I _ S
def aA(K:Qb)(c:Cs):Sp:=λv H Q E=>aS (λz=>a0 (Qa (L z)<=1000000/\(∀R,L z=wr R->(∀r∈R,Jm (ZR (r.2:Nat)))->∀p t I,Zw H I->H p=Qs->I p=Qr (.lst (t.map V.ref))->dF I t R->Q (.ref p) I)/\
 ((∀R,L z=wr R->¬ ∀r∈R,Jm (ZR (r.2:Nat)))->∀I,Zw H I->E (.ref c.NoRow) Qs I))) v
theorem tF(F:Fun K "read_runs" "read_runs" eS f fd)(B:Bn mg)(ER:Er K mg c)(zW:FnX P w K mg base 1 "number_in" Jt (z7 K c)):Z0 P w K mg base (CX1 P w) 2 f fd eN (aA K c):=by
 show F.okX qY (λa2 A _ s H vs Q E Y O=>aS_all O λz _ O=>a0_all O λh=>ZL h λhl q e=>?_)
 repeat clear O
 clear h;show(_,(Ze (Zu 1 qY.nd (fW iu)) (Ze (Zu 2 qY.nd Zl) (Ze (tP ZU.own (kU (ZV rA vq2 (Z4 K B.len vq0))) (YM (Ze (ZK (Zu 3 qY.nd (YH (K:=K) rfl Qz PySem.F.slot_str_find PySem.F.type_str_find PL vq0 (Zk Zr (Zh (Zt ZJ vq2 Zl)))))) (Ze (Z5 (ZV rA vq3 Zl) (Zj (YI ZU ER.qaK ER.qaJ (Zh Zr))) ZG) (Ze (qR (YH (K:=K) rfl Ut UK UJ fg vq1 (Zh (zm (Zk (ZP K vq0 vq2) (Zh (Yp ZU.toTk zW Y (Zh (YO K vq0 (aE (Zt ZJ vq2 Zl)) (aE vq3)))))))))) (Zj (Zu 2 qY.nd (Zt ZJ vq3 Zl)))))))) (Zj (ZC vq1))))),stR ?_);have a3:=jT;have a1:L (Qe ";")=[59]:=by rfl'
 simp! only[tWh];show(⋯,λp hp=>?_);have g0:∀r∈([]:J2),Jm (ZR (r.2:Nat)):=λr Y=>by cases Y
 show(λk σ I=>∃(done:J2) (JP:Zg) (v:Option V) (S:List jP),k=Qa JP/\L z=wr done++JP/\(∀r∈done,Jm (ZR (r.2:Nat)))/\Zw H I/\I p=Qr (.lst (S.map V.ref))/\dF I S done/\σ=[Qr (V.str z),Qr (V.ref p),Qr (V.int (Qa (wr done):Int)),v],(_,[],L z,Qs,[],rfl,rfl,g0,Zw.updN hp,Zi,tU _,rfl),?_);intro k σ I u;obtain⟨done,JP,v,S,rfl,C,gd,sm,J,ra,rfl⟩:=u;have a4:=ra.1;have dl:=oY done;have zl:Qa (L z)=Qa (wr done)+Qa JP:=by rw[C,jR]
 simp![true_and];show(⋯,?_)
 cases JP with
 |nil=>
  rw[vx]at C;show zF (λw=>ZD w (by rw[C];lia)) λ_=>q done C gd p S I sm hp J ra
 |cons d t=>
  rw[jV]at zl;show zF (λ_=>?_) λw=>ZD ⋯ w;show zx (λσ' H2=>H2=I/\∃r:Int,((r= -1/\∀x∈t,x≠59)\/∃w m,t=w++59::m/\(∀x∈w,x≠59)/\r=((Qa (wr done)+1+Qa w:Nat):Int))/\σ'=[Qr (V.str z),Qr (V.ref p),Qr (V.int (Qa (wr done):Int)),Qr (V.int r)]) ?_ ?_
  .simp![true_and];show(59,a1,⋯,λr Y=>?_);rw[show((Qa (wr done):Int)+1).toNat=Qa (wr done)+1 by lia]at Y;show(r,Im C Y,rfl)
  intro _ H2 u;obtain⟨rfl,r,Y,rfl⟩:=u;have j:∀{M:J2},L z=wr M->∃n R,t=ZR ((n:Nat):Int)++59::wr R/\M=done++(d,n)::R:=λ{M} h=>by show Zf (oZ (h.symm.trans C)) λtail e1 e2=>?_;show ZS (EW e2.symm) λn R e3 U=>(n,R,U,by rw[e1,e3])
  rcases Y with⟨rfl,hn⟩|⟨w,m,et,hw,rfl⟩
  .simp! only[true_and];show(∅,e (λM h g=>?_) H2 sm);show ZS (j h) λn R U _=>hn 59 (by rw[U];simp) rfl
  simp![z7]
  have tl:Qa t=Qa w+1+Qa m:=by
   rw[et,jR,jV]
   lia
  have ec:cut (L z) (Qr ((Qa (wr done):Int)+1)) (Qr ((Qa (wr done)+1+Qa w:Nat):Int))=w:=by rw[show((Qa (wr done):Int)+1)=((Qa (wr done)+1:Nat):Int)by lia,show((Qa (wr done)+1+Qa w:Nat):Int)=((Qa (wr done)+1:Nat):Int)+(Qa w:Int)by lia,LP.lJ];rw[C,et,show wr done++d::(w++59::m)=(wr done++[d])++(w++59::m)by simp,show Qa (wr done)+1=Qa (wr done++[d])by simp,ju,jq]
  have ac:atI (L z) (Qa (wr done):Int)=Qr d:=by unfold atI ixN;rw[Zx ⋯,Zx ⋯,Qj,W3,C,Qt (Qg _),Ui];rfl
  rw[ec];show zF (λw=>ZD w ⋯) λ_=>(.inl (_,SqL.of J),⋯,_,ac,⋯,⋯,λg=>(⋯,λtt D=>?_),λg=>?_)
  .have np:p≠tt:=Zm J D;have Z:upd H2 tt (HO.tup [V.str (T [d]),V.int ((digitsVal w:Nat):Int)]) p=Qr (HO.lst (S.map V.ref)):=(Zn np).trans J;have gn:=Iv g;show(p,_,_,rfl,rfl,Z,by rw[jO];lia,Qa m,⋯,done++[(d,digitsVal w)],m,Qr (V.int ((Qa (wr done)+1+Qa w:Nat):Int)),S++[tt],rfl,?_,?_,mU (Zw.upd sm D) hp,?_,?_,?_)
   .rw[EX,gn,C,et];simp
   .intro r Y;rcases ut.mp Y with y|y;show gd r y;rw[j5.mp y];change Jm (ZR ((digitsVal w:Nat):Int));rw[gn];show g
   .rw[Zi,uh];rfl
   .show pQ (iA ra ((iH (Zw.updN D)).trans (xH Z))) ?_;rw[Zn (Ne.symm np),Zi]
   rw[EX,gn,jR,jV,jR,jW,show((Qa (wr done)+1+Qa w:Nat):Int)+1=((Qa (wr done)+(Qa w+1+1):Nat):Int)by lia]
  show e (λM h gg=>?_) _ sm;show ZS (j h) λn R U e5=>?_;obtain⟨e6,_⟩:=iJ hw (PY n) (et.symm.trans U);show g ?_;rw[e6];show gg (d,n) (by rw[e5];simp)
def bJ(K:Qb)(c:Cs):Sp:=λv H Q E=>aS (λz=>a0 (Qa (L z)<=1000000/\(∀h r,Pk (L z) h r->∀p I,Zw H I->H p=Qs->I p=Qr (.tup [.str (T (flat r)),.int (h:Int)])->Q (.ref p) I)/\((∀h r,¬Pk (L z) h r)->∀I,Zw H I->E (.ref c.NoRow) Qs I))) v
theorem wO(F:Fun K "unpacked" "unpacked" gb f fd)(B:Bn mg)(ER:Er K mg c)(GC:Gc mg)(zW:FnX P w K mg base 1 "number_in" Jt (z7 K c))(aM:FnX P w K mg base 2 "packed" fK (JY K c))(eK:FnX P w K mg base 2 "read_runs" eN (aA K c)):Z0 P w K mg base (CX1 P w) 3 f fd fM (bJ K c):=by
 show F.okX Jz (λam A _ s H vs Q E hr hJ=>aS_all hJ λz _ hJ=>a0_all hJ λh=>ZL h λzl q e=>?_)
 repeat clear hJ
 clear h;show(_,(Ze (ZK (Zu 1 Jz.nd (YH (K:=K) rfl Qz V5 V4 pM vq0 (Zh Zr)))) (Ze (ZK (Zu 2 Jz.nd (Yp ZU.toTk zW hr (Zh (ZP K vq1 Zl))))) (Ze (ZK (Zu 3 Jz.nd (Yp ZU.toTk eK hr (Zh (ZP K vq1 Zl))))) (Ze (ZK (Z5 (ZV nT (qk (HK (K:=K) rfl rfl) (by rfl) B.sum Ct (Zh (mH K (own:=["sign","many"]) (cp:=[]) rfl vq3 (λ_ _ _ _=>fX) (λ_ _ _ _=>vq1)))) (BM rfl GC.MOST_SIGNS)) (Zj (YI ZU ER.qaK ER.qaJ (Zh Zr))) ZG)) (Ze (ZK (Zu 4 Jz.nd (YH (K:=K) rfl Qz UD UC (l6 (K:=K) rfl) Zr (Zh (mH K (own:=["sign","many"]) (cp:=[]) rfl vq3 (λ_ _ _ _=>fX) (λ_ _ _ _=>(Zt BA vq0 vq1))))))) (Ze (ZK (Z5 (PW.pt (mO (ZV nT vq2 (Z4 K B.len (qv 4))) (iy (ZV rB (Yp ZU.toTk aM hr (Zk (qv 4) (Zh vq2))) vq0)))) (Zj (YI ZU ER.qaK ER.qaJ (Zh Zr))) ZG)) (Zj (ZC (zm (Zk (qv 4) (Zh vq2))))))))))),stR ?_);have an:=jT;have ab:L (Qe " ")=[32]:=by rfl'
 simp! only[true_and];show zx (λd I=>Zw H I/\∃p C b w2,Prt 32 (L z) C b w2/\I p=Qr (.tup [.str (T C),.str (T b),.str (T w2)])/\d=[Qr (V.str z),Qr (V.ref p),Qs,Qs,Qs]) ?_ ?_
 .simp![true_and];show(32,ab,⋯,λk hk hn p hp=>(Zw.updN hp,p,_,_,_,KU hk hn,Zi,rfl),λhn p hp=>(Zw.updN hp,p,_,_,_,RG hn,by rw[Zi,T_L],rfl))
 intro _ H1 u;show ZI u λM zr=>ZH zr λp1 C b zr=>Zz zr λw2 pt h1 a3=>?_;clear zr u;subst a3;obtain⟨as,aw⟩:=Nb pt;show zx (λd I=>I=H1/\Jm C/\d=[Qr (V.str z),Qr (V.ref p1),Qr (V.int ((digitsVal C:Nat):Int)),Qs,Qs]) ?_ ?_
 .simp! only[true_and];show(_,_,.inr (SqT.of h1),rfl,?_);simp![z7];show(⋯,λg=>g,λg=>e (λh R k=>g ?_) _ M);rw[(KR k pt).2.1];show Bz (by have:=k.2.1;have:=k.2.2.1;lia)
 intro _ H1 u;show ZL u λa9 g0 Z=>?_;clear u;subst a9;subst Z;show zx (λd I=>Zw H1 I/\∃p2 ts R,w2=wr R/\I p2=Qr (.lst (ts.map V.ref))/\dF I ts R/\d=[Qr (V.str z),Qr (V.ref p1),Qr (V.int ((digitsVal C:Nat):Int)),Qr (V.ref p2),Qs]) ?_ ?_
 .simp! only[true_and];show(_,_,.inr (SqT.of h1),rfl,?_);simp![aA];show(⋯,λR hr g p2 ts H2 S ap h2 ra=>(S,p2,ts,R,hr,h2,ra,rfl),λhn H2 S=>e (λh R k=>?_) _ (M.trans S));show hn R (KR k pt).2.2 λr hr=>Bz (bN hr k.2.1)
 intro _ H2 u;show ZI u λS zr=>cD zr λp2 ts R a8 h2 ra a3=>?_;clear zr u;subst a3;have Y:=ra.1;have dl:=oY R;rw[<-a8]at dl;have a5:∀{h x},Pk (L z) h x->x=R/\h=digitsVal C:=λ{h x} k=>by show ZL (KR k pt) λ_ a1 a2=>(LM (a2.symm.trans a8),by rw[a1,Y3])
 show zx (λd I=>Zw H2 I/\Qa (flat R)<=300/\d=[Qr (V.str z),Qr (V.ref p1),Qr (V.int ((digitsVal C:Nat):Int)),Qr (V.ref p2),Qs]) ?_ ?_
 .simp![gtV];show(_,SqL.of h2,by rw[jO];lia,λi H3 j=>H3=H2/\j=((R.take i).map λr:Nat×Nat=>((r.2:Nat):Int)).map V.int,(rfl,rfl),?_,?_,?_)
  .intro i H3 j _ u;obtain⟨rfl,_⟩:=u;show SqL.of h2
  .intro i r H3 j D u;obtain⟨rfl,rfl⟩:=u;rw[Qm]at D;show Zf (Qv.mp D) λt et Z=>?_;subst Z;have hi:i<Qa R:=by rw[<-Y];show(Qh.mp et).1
   have ei:R[i]?=Qr R[i]:=Qd hi;show Zf (ra.2 i R[i] ei) λt' U ht=>?_;rw[et]at U;cases Option.some.inj U;show(t,_,_,rfl,SqT.of ht,?_);simp![true_and];rw[QZ,ei,uh,uh];rfl
  rintro H3 j ⟨rfl,rfl⟩ l J;rw[jO,Y,QE];show(_,SqL.of Zi,?_);rw[A3];show zF (λw=>(∅,e (λh x k=>?_) _ ((M.trans S).upd J))) λw=>(Zw.updN J,⋯);have:=k.2.1;rw[(a5 k).1]at this
  lia
 intro _ H3 u;show ZL u λa4 fl Z=>?_;clear u;subst Z;have h3:=a4 _ _ h2;have al:=iA ra (iH a4);show zx (λd I=>Zw H3 I/\d=[Qr (V.str z),Qr (V.ref p1),Qr (V.int ((digitsVal C:Nat):Int)),Qr (V.ref p2),Qr (V.str (T (flat R)))]) ?_ ?_
 .simp![true_and];show(_,SqL.of h3,by rw[jO];lia,λi H4 j=>H4=H3/\j=((R.take i).map λr:Nat×Nat=>rep r.2 [r.1]).map λl=>V.str (T l),(rfl,rfl),?_,?_,?_)
  .intro i H4 j _ u;obtain⟨rfl,_⟩:=u;show SqL.of h3
  .intro i r H4 j D u;obtain⟨rfl,rfl⟩:=u;rw[Qm]at D;show Zf (Qv.mp D) λt et Z=>?_;subst Z;have hi:i<Qa R:=by rw[<-Y];show(Qh.mp et).1
   have ei:R[i]?=Qr R[i]:=Qd hi;show Zf (al.2 i R[i] ei) λt' U ht=>?_;rw[et]at U;cases Option.some.inj U;have hm:=bN (QN hi) fl;show(t,_,_,rfl,SqT.of ht,?_);simp![true_and];show((⋯,⋯,by rw[Qj];lia),?_);rw[QZ,ei,uh,uh];rfl
  rintro H4 j ⟨rfl,rfl⟩ l J;rw[jO,Y,QE,lL];show(_,SqL.of Zi,?_,?_)
  .rw[uC,WE,<-WV,A2]
   lia
  rw[dt,A2];show(Zw.updN J,rfl)
 intro _ H4 u;obtain⟨ak,rfl⟩:=u;have a6:=((M.trans S).trans a4).trans ak;show zx (λd I=>Zw H4 I/\(∃m,flat m=flat R/\Pk (L z) (digitsVal C) m)/\d=[Qr (V.str z),Qr (V.ref p1),Qr (V.int ((digitsVal C:Nat):Int)),Qr (V.ref p2),Qr (V.str (T (flat R)))]) ?_ ?_
 .simp![gtV,JY];show(⋯,zF (λw=>(∅,e (λh x k=>?_) _ a6)) λw=>(fl,λy=>ZD (⋯,⋯) y,λ_ m a7 v H5 O=>?_))
  .have:=k.2.2.1;obtain⟨a1,a2⟩:=a5 k;rw[a1,a2]at this
   lia
  by_cases ee:ZR ((digitsVal C:Nat):Int)++32::wr m=L z
  .rw[decide_eq_true ee];show Bc (O,m,v,a7,by rw[v];show fl,by rw[v];lia,ee.symm)
  rw[decide_eq_false ee];show Bd (∅,e (λh x k=>ee ?_) _ (a6.trans O));obtain⟨a1,a2⟩:=a5 k;subst a1 a2;rw[d7 a7 k.1 v];show k.2.2.2.symm
 intro _ H5 u;obtain⟨O,⟨m,v,k⟩,rfl⟩:=u;have sm:=a6.trans O;simp! only[true_and];show(⋯,λp hp=>q _ m k p _ (sm.upd hp) (sm.free hp) (by rw[Zi,v]))
def Y5(K:Qb):Sp:=λv H Q _=>aS (λa=>aS (λb=>a0 (Q (.bl (decide (L a<L b))) H))) v
theorem mB(F:Fun K "comes_before" "comes_before" bA f fd):Z0 P w K mg base CX0 1 f fd aX (Y5 K):=by
 show F.pure mY (λC A outer s H v Q E Y m=>aS_all m λ_ _ m=>aS_all m λ_ _ m=>a0_all m λh=>?_)
 repeat clear m
 show(_,(Zj (ZC (mG rA vq0 vq1))),stR ?_);dsimp only[WN,Qa,aR,aS,aI,aB,a0,o0,aV,Fp,Fq,gh,L2.JZ,uo,QaR,jV,uC,uw,Qal,uN,u9,Nat.reduceAdd,Nat.reduceSub,Int.reduceLT,Int.reduceLE,true_and,and_true,decide_eq_true_eq,if_true,if_false,String.reduceEq,Vx,Vf,QX,decide_true,decide_false,Qar,Qas,gS,oG,tC,Gj,xK,we,qW,Gi,xM,xJ,Gf,tOp,tUn,tCB,kj,oU,Gk,Gg,tFn,tB2,Ge,tOr,Gh,trV,tSl,iX,pT,Gu,vOr,LJ,E1,FE,yw,lV,ltV,eqR,neR,sc,isV,Bb,FG,ixV,slV,wI,CO,isS,Bs,yC,pG,tBM,Ln,tyV,tFE,L_T];show(Zw.refl _,h)
def zD(K:Qb)(c:Cs)(C:jP)(t:jP):Sp:=λv H Q E=>aR (λx=>aS (λz=>aI (λh=>a0 (Qa (L z)<=300/\Zp t H/\(∃d,H x=Qr (.ins C d []))/\(¬(0<=h/\h<=Qa (L z))->E (.ref c.NoPlace) Qs H)/\((0<=h/\h<=Qa (L z))->∀I,(∀b o,b≠x->H b=Qr o->(∀p,o≠ .tbl p)->I b=Qr o)->(∀b,H b≠Qs->I b≠Qs)->(∀b o,b≠x->b≠t->H b=Qr o->I b=Qr o)->Zp t I->Jq C I x (L z) h.toNat->Q .non I))))) v
theorem mq{f:jP}{fd:uY}(F:Fun K "__init__" "Letters.__init__" Yu f fd)(B:Bn mg){Za:jP}{cd:jP}(Y:Lm mg base cd Za)(as:fd.code=.ref cd){c:Cs}(ER:Er K mg c){Ya zo zE:jP}(TP:Tp K w.params mg Ya zo zE){Zd Zs ZM:jP}(I:Cf K Zd Zs ZM)(GC:Gc mg)(ZN:FnX P w K mg base 1 "check_place" zP (ZX K c)):Z0 P w K mg base (CX1 P w) 3 f fd zS (zD K c Zd Za):=by
 show F.okLX as eD (λA _ s H vs Q E hr hJ=>aR_all hJ λx _ hJ=>aS_all hJ λz _ hJ=>aI_all hJ λh _ hJ=>a0_all hJ λh=>?_)
 repeat clear hJ
 obtain⟨hl,bk,⟨D,hx⟩,e,q⟩:=h;show(_,(Ze (qR (Yp ZU.toTk ZN hr (Zk vq2 (Zh (Z4 K B.len vq1))))) (Ze (Zu 3 eD.nd (Zt ZJ (Zt ZJ (YO K vq1 qd (aE vq2)) (KJ rfl GC.NO_LETTER)) (YO K vq1 (aE vq2) qd))) (Ze (de I.qaa I.qae vq0 vq3) (Ze (de I.qaa I.qap vq0 vq2) (Ze (ZK (de I.qaa I.qac vq0 (Z4 K B.len vq1))) (Ze (de I.qaa I.qaj vq0 (BJ K (own:=["sign"]) (cp:=[(("letters":Str),1)]) rfl (qk (HJ (w:=w) rfl rfl) (by rfl) B.sorted nA (Zh (Yt (O3 (w:=w) rfl rfl) (by rfl) B.set OZ (Zh vq1)))) (λ_ _ _ _=>fX) (λ_ _ _ _=>(zm (Zk vq0 (Zh (YH (K:=K) rfl Qz Wq Wo Bm vq1 (Zh vq0)))))))) (Zj (de I.qaa I.qao vq0 (xC (K:=K) (x:="row") (cp:=[(("column":Str),3)]) (q:=eh) rfl rfl (hr.mono ∅) (Y.at rfl) rfl B.sorted rfl rfl rfl rfl (by rfl') ((rfl,rfl,rfl),trivial) rfl (by rfl') rfl rfl (λ_ _ _ _=>rfl) (Zh (Yt D4 (by rfl) B.range Aw (Zh (Z4 K B.len vq3)))) (λ_ _ _ _ _ _=>(ZP K vq1 vq0))))))))))),stR ?_);simp![ZX];have aN:=jT;show(⋯,λhh=>?_,λhh=>e hh);obtain⟨m,rfl⟩:∃m:Nat,h=(m:Int):=(h.toNat,⋯);have hm:m<=Qa (L z):=⋯
 have q:=q hh;rw[Qj]at q;have c1:=cY (L z) Qs (Qr (m:Int));have c2:=cY (L z) (Qr (m:Int)) Qs;have c3:Qa (L (Qe "\n"))=1:=by rfl'
 have cl:=AF hm;show(⋯,⋯,⋯,by rw[jR];lia,?_);rw[HR];show(_,_,hx,∅,_,_,Zi,by change 1<1000;decide,?_);rw[nq];show zx (λσ' H'=>H'=upd H x (HO.ins Zd D (qm (Qe "last") (V.int (Qa (L z):Nat)) (qm (Qe "home") (V.int (m:Int)) (qm (Qe "column") (V.str (T (Y8 (L z) m))) []))))/\σ'=[Qr (V.ref x),Qr (V.str z),Qr (V.int (m:Int)),Qr (V.str (T (Y8 (L z) m)))]) ?_ ?_
 .simp![true_and];show(⋯,_,_,Zi,by change 2<1000;decide,?_);rw[nq]
 intro _ _ C;obtain⟨rfl,rfl⟩:=C;generalize hF:qm (Qe "last") (V.int (Qa (L z):Nat)) (qm (Qe "home") (V.int (m:Int)) (qm (Qe "column") (V.str (T (Y8 (L z) m))) []))=F3;simp![true_and];have lF:Qa F3=3:=by rw[<-hF];rfl
 have aJ:Zp Za (upd H x (HO.ins Zd D F3)):=g9 bk hx;show(⋯,λp Z hp nd mem=>(Z,Zi,?_,λl J a5 pm pw=>?_))
 .have:=LO.lW nd λc hc=>(mem c).mp hc
  lia
 have lq:Qa J<=Qa (L z):=by rw[pm.length_eq];show LO.lW nd λc hc=>(mem c).mp hc
 have x1:upd (upd H x (HO.ins Zd D F3)) p (su w p Z) x=Qr (HO.ins Zd D F3):=sh hp;have x2:upd (upd (upd H x (HO.ins Zd D F3)) p (su w p Z)) l (HO.lst (J.map λc=>V.str (T [c]))) x=Qr (HO.ins Zd D F3):=(Zn (Zm x1 a5)).trans x1;have l2:upd (upd (upd H x (HO.ins Zd D F3)) p (su w p Z)) l (HO.lst (J.map λc=>V.str (T [c]))) l=Qr (HO.lst (J.map λc=>V.str (T [c]))):=Zi;have ak:∀b o,b≠x->H b=Qr o->upd (upd (upd H x (HO.ins Zd D F3)) p (su w p Z)) l (HO.lst (J.map λc=>V.str (T [c]))) b=Qr o:=λb o S e=>by have v:upd H x (HO.ins Zd D F3) b=Qr o:=(Zn S).trans e;have e2:upd (upd H x (HO.ins Zd D F3)) p (su w p Z) b=Qr o:=(Zn (Zm v hp)).trans v;show(Zn (Zm e2 a5)).trans e2
 have ab:Zp Za (upd (upd (upd H x (HO.ins Zd D F3)) p (su w p Z)) l (HO.lst (J.map λc=>V.str (T [c])))):=(aJ.put hp).put a5;have al:∀b,H b≠Qs->upd (upd (upd H x (HO.ins Zd D F3)) p (su w p Z)) l (HO.lst (J.map λc=>V.str (T [c]))) b≠none:=λb S=>eV (eV (eV S))
 generalize upd (upd (upd H x (HO.ins Zd D F3)) p (su w p Z)) l (HO.lst (J.map λc=>V.str (T [c])))=HZ at x2 l2 ak ab al ⊢
 show(_,SqL.of l2,by rw[jO];lia,λi O M=>Zw HZ O/\∃R:List jP,M=R.map V.ref/\Prs O R (J.take i) (L z),(Zw.refl _,[],rfl,rfl,λj d e=>by simp at e),?_,?_,?_)
 .intro i O M _ C;obtain⟨sm,_⟩:=C;show sm.seq (SqL.of l2)
 .intro i y O M hy C;show ZI C λsm zr=>Zf zr λR a4 pr=>?_;clear zr C;subst a4;rw[Qm]at hy;show Zf (Qv.mp hy) λd ed a4=>?_;subst a4;simp![true_and];show(d,rfl,⋯,λt ht=>(Zw.upd sm ht,R++[t],by rw[uh];rfl,?_));rw[QZ,ed];show(pr.same (iH (Zw.updN ht))).snoc Zi
 rintro O M ⟨sm,R,rfl,pr⟩ u a2;rw[jO,QE]at pr;have x3:upd O u (HO.lst (R.map V.ref)) x=Qr (HO.ins Zd D F3):=(Zn (Zm (sm _ _ x2) a2)).trans (sm _ _ x2);have t3:upd O u (HO.lst (R.map V.ref)) u=Qr (HO.lst (R.map V.ref)):=Zi;have a7:∀b o,b≠x->H b=Qr o->upd O u (HO.lst (R.map V.ref)) b=Qr o:=λb o S e=>by have v:=sm _ _ (ak b o S e);show(Zn (Zm v a2)).trans v
 have am:Zp Za (upd O u (HO.lst (R.map V.ref))):=(Yc ab sm).put a2;have a9:=pr.same (iH (Zw.updN (o:=HO.lst (R.map V.ref)) a2));have ap:∀b,H b≠Qs->upd O u (HO.lst (R.map V.ref)) b≠none:=λb S=>eV (sm.nn (al b S))
 generalize upd O u (HO.lst (R.map V.ref))=H3 at x3 t3 a7 am a9 ap ⊢
 have n3:u≠x:=by rintro rfl;rw[t3]at x3;cases x3
 have aT:Qa (qm (Qe "totals") (V.ref u) F3)=4:=by rw[<-hF];rfl
 show(_,_,x3,⋯,⋯,λr a6=>?_);have aH:Zp Za (upd H3 x (HO.ins Zd D (qm (Qe "totals") (V.ref u) F3))):=g9 am x3;have x4:upd (upd H3 x (HO.ins Zd D (qm (Qe "totals") (V.ref u) F3))) r (HO.rng 0 (Qa (Y8 (L z) m):Int)) x=Qr (HO.ins Zd D (qm (Qe "totals") (V.ref u) F3)):=sh a6;have an:∀b o,b≠x->H3 b=Qr o->upd (upd H3 x (HO.ins Zd D (qm (Qe "totals") (V.ref u) F3))) r (HO.rng 0 (Qa (Y8 (L z) m):Int)) b=Qr o:=λb o S e=>by have v:upd H3 x (HO.ins Zd D (qm (Qe "totals") (V.ref u) F3)) b=Qr o:=(Zn S).trans e;show(Zn (Zm v a6)).trans v
 have er:=La (Qa (Y8 (L z) m));have el:Qa (mP 0 (Qa (Y8 (L z) m):Int))=Qa (Y8 (L z) m):=by rw[er];simp
 show(_,(Y8 (L z) m).map λc=>[c],.inr (.inr (0,_,Zi,rfl,⋯,⋯,⋯,⋯)),⋯,by rw[jO,el],aH.put a6,λH5 i y a1 hy=>?_,λH5 l4 p4 a1 aM aK U a3 aL=>?_)
 .have hi:=(Qh.mp hy).1;rw[el]at hi;rw[er,Qm,Ux hi]at hy;cases Option.some.inj hy;simp![true_and];show(⋯,_,Y0 0 ⋯ ⋯,?_);rw[Qj,Qc,Qc,Qm,Qd hi];rfl
 have x5:=a1.at x4 (by nofun);have x6:upd H5 l4 (HO.lst (p4.map λi=>(mP 0 (Qa (Y8 (L z) m):Int)).getD i V.non)) x=Qr (HO.ins Zd D (qm (Qe "totals") (V.ref u) F3)):=(Zn (Zm x5 U)).trans x5;show(_,_,x6,⋯,?_);have a8:∀b o,b≠x->H3 b=Qr o->(∀ps,o≠ .tbl ps)->upd (upd H5 l4 (HO.lst (p4.map λi=>(mP 0 (Qa (Y8 (L z) m):Int)).getD i V.non))) x (HO.ins Zd D (qm (Qe "forths") (V.ref l4) (qm (Qe "totals") (V.ref u) F3))) b=Qr o:=λb o S e n=>by have v:=a1.at (an b o S e) n;show(Zn S).trans ((Zn (Zm v U)).trans v)
 show q _ (λb o S e n=>a8 b o S (a7 b o S e) n) (λb S=>eV (eV (a1.nn (eV (eV (ap b S)))))) (λb o S ht e=>?_) (g9 (aK.put U) x6) (D,u,l4,?_,((R,J,a8 _ _ n3 t3 (by nofun),a9.1,λj d e=>?_,pm.nodup_iff.mpr nd,λc=>pm.mem_iff.trans (mem c)),p4,?_,?_,?_),hm)
 .have v:=aM _ _ ht (an b o S (a7 b o S e));show(Zn S).trans ((Zn (Zm v U)).trans v)
 .rw[Zi,<-hF];show congrArg (λf=>Qr (HO.ins Zd D f)) (Ip (L z) m u l4)
 .show Zf (a9.2 j d e) λt v e2=>?_;have:t≠x:=by rintro rfl;rw[x3]at e2;cases e2
  show(t,v,a8 _ _ this e2 (by nofun))
 .have n4:l4≠x:=Ne.symm (Zm x5 U);rw[Zn n4,Zi]
  congr 2
  show uM λj hj=>?_;have aG:j<Qa (Y8 (L z) m):=by rw[<-el];show QA.mp (a3.mem_iff.mp hj)
  rw[er,Qc,Qm,Ux aG];rfl
 .rw[el,cl]at a3;show a3
 show aL.imp_of_mem λ{i j} hi hj h=>?_
 have g:∀i∈p4,((Y8 (L z) m).map λc=>[c]).getD i []=[(Y8 (L z) m).getD i 0]:=λi hi=>by
  have aw:i<Qa (Y8 (L z) m):=by rw[<-el];show QA.mp (a3.mem_iff.mp hi)
  rw[Qc,Qc,Qm,Qd aw];rfl
 rw[g i hi,g j hj]at h;show h
def zL(K:Qb)(c:Cs)(C:jP):Sp:=λv H Q E=>aR (λa=>aI (λr=>a0 (∃R h,Jq C H a R h/\Qa R<=1000/\(¬(0<=r/\r<=Qa R)->E (.ref c.NoPlace) Qs H)/\((0<=r/\r<=Qa R)->Q (if r=(h:Int)then .non else .str (T [(Y8 R h).getD r.toNat 0])) H)))) v
theorem i4(F:Fun K "letter" "Letters.letter" JS f fd)(C:Cf K Zd Zs ZM)(z:FnX P w K mg base 1 "check_place" zP (ZX K c)):Z0 P w K mg base (CX1 P w) 2 f fd qA (zL K c Zd):=by
 show F.okX i8 (λB A _ s H v Q E Y m=>aR_all m λa _ m=>aI_all m λr _ m=>a0_all m λh=>?_)
 repeat clear m
 obtain⟨R,h,⟨D,t,u,g,_,Z⟩,O,e,q⟩:=h;show(_,(Ze (qR (Yp ZU.toTk z Y (Zk vq1 (Zh (YL C.qaa C.qac vq0))))) (Ze (Z5 (ZV bf vq1 (YL C.qaa C.qap vq0)) (Zj (ZC kR)) ZG) (Zj (ZC (ZP K (YL C.qaa C.qae vq0) vq1))))),stR ?_);simp! only[ZX];have p:=jT;have I:=AF Z;show(_,_,_,g,rfl,?_);simp! only[true_and];show(λd=>(_,_,_,g,rfl,?_),λd=>e d);have q:=q d;simp![true_and];show zF (λj=>?_) λj=>(_,_,_,g,rfl,?_)
 .rw[Zx j]at q;show q
 rw[Zo j]at q;simp![true_and];show(⋯,_,Y0 0 ⋯ ⋯,q)
def qF(K:Qb)(C:jP):Sp:=λv H Q _=>aR (λa=>aS (λy=>a0 (∃R h d,Jq C H a R h/\Qa R<=1000/\L y=[d]/\Q (.int (1+(R.countP λx=>decide (x<d):Nat))) H))) v
theorem kP(F:Fun K "first" "Letters.first" aq f fd)(B:Bn mg)(R:Cf K Zd Zs ZM)(aL:Fn P w K mg base 1 "comes_before" aX (Y5 K)):Z0 P w K mg base CX0 2 f fd J6 (qF K Zd):=by
 show F.pure lh (λa1 A outer s H vs Q E hr m=>aR_all m λa _ m=>aS_all m λy _ m=>a0_all m λh=>?_)
 repeat clear m
 obtain⟨C,h,d,⟨dx,a3,fo,j,⟨⟨ts,D,S,Y,t3,nd,mem⟩,_⟩,hm⟩,hl,hy,q⟩:=h;show(_,(Zj (ZC (Zt ZJ Zl (qk (HK (K:=K) rfl rfl) (by rfl) B.sum Ct (Zh (mH K (own:=["letter","many"]) (cp:=[(("sign":Str),1)]) rfl (YL R.qaa R.qaj vq0) (λ_ _ _ _=>yN (tQ (K:=K) rfl (Z8 aL hr (Zk vq0 (Zh vq2))))) (λ_ _ _ _=>vq1))))))),stR ?_);simp! only[Y5];have a2:=jT;have ld:Qa D<=Qa C:=LO.lW nd λc hc=>(mem c).mp hc;show(_,_,_,j,rfl,?_);simp! only[true_and];show(_,SqL.of S,by rw[jO];lia,λi O g=>O=H/\g=(((D.take i).filter λx=>decide (x<d)).map λx=>(C.count x:Int)).map V.int,(rfl,rfl),?_,?_,?_)
 .intro i O g _ u;obtain⟨rfl,_⟩:=u;show SqL.of S
 .intro i r O g p u;obtain⟨rfl,rfl⟩:=u;rw[Qm]at p;show Zf (Qv.mp p) λt et Z=>?_;subst Z;have hi:i<Qa D:=by rw[<-Y];show(Qh.mp et).1
  have ei:D[i]?=Qr D[i]:=Qd hi;show Zf (t3 i D[i] ei) λt' U ht=>?_;rw[et]at U;cases Option.some.inj U;show(t,_,_,rfl,SqT.of ht,?_);simp![Y5];rw[hy,QZ,ei];have I:([D[i]]<[d])↔D[i]<d:=by rw[QS];simp
  show zF (λz=>?_) λz=>?_
  .have M:=I.mp z;have J:jH (λx=>decide (x<d)) (Qr D[i]).toList=[D[i]]:=by simp[jj,M]
   rw[W4,J,uh,uh];rfl
  have M:¬D[i]<d:=λy=>z (I.mpr y);have J:jH (λx=>decide (x<d)) (Qr D[i]).toList=[]:=by simp[jj,M]
  rw[W4,J,vx]
 rintro O g ⟨rfl,rfl⟩ l v;rw[jO,Y,QE];show(_,SqL.of Zi,Zw.updN v,?_);rw[B5 d C D nd λx j=>(mem x).mpr j];show q
def qe(K:Qb)(c:Cs)(C:jP):Sp:=λv H Q E=>aR (λa=>aS (λy=>aI (λr=>a0 (∃R h d,Jq C H a R h/\Qa R<=1000/\L y=[d]/\(¬(0<=r/\r<=Qa R+1)->E (.ref c.NoPlace) Qs H)/\((0<=r/\r<=Qa R+1)->Q (.int (((Y8 R h).take r.toNat).count d:Nat)) H))))) v
theorem i0(F:Fun K "before" "Letters.before" JR f fd)(C:Cf K Zd Zs ZM)(z:FnX P w K mg base 1 "check_place" zP (ZX K c)):Z0 P w K mg base (CX1 P w) 2 f fd JI (qe K c Zd):=by
 show F.okX i7 (λB A _ s H v Q E Y m=>aR_all m λa _ m=>aS_all m λy _ m=>aI_all m λr _ m=>a0_all m λh=>?_)
 repeat clear m
 obtain⟨R,h,d,⟨D,Z,x,j,_,u⟩,O,p,e,q⟩:=h;show(_,(Ze (qR (Yp ZU.toTk z Y (Zk vq2 (Zh (Zt ZJ (YL C.qaa C.qac vq0) Zl))))) (Zj (ZC (YH (K:=K) rfl Qz Wq Wo Bm (YL C.qaa C.qae vq0) (Zk vq1 (Zk Zl (Zh vq2))))))),stR ?_);simp! only[ZX];have t:=jT;show(_,_,_,j,rfl,?_);simp! only[true_and];show(λg=>(_,_,_,j,rfl,?_),λg=>e g);have q:=q g;simp![true_and];show(d,p,g.1,q)
def Z9(K:Qb)(c:Cs)(C:jP):Sp:=λv H Q E=>aR (λa=>aS (λy=>aI (λr=>a0 (∃R h d,Jq C H a R h/\Qa R<=1000/\L y=[d]/\(¬(0<=r/\r<=Qa R+1)->E (.ref c.NoPlace) Qs H)/\((0<=r/\r<=Qa R+1)->Q (.int (1+(R.countP λx=>decide (x<d):Nat)+(((Y8 R h).take r.toNat).count d:Nat))) H))))) v
theorem gL(F:Fun K "row_with" "Letters.row_with" qX f fd)(O:Md P w K mg base CX0 2 Zd "first" J6 [] (qF K Zd))(g:Md P w K mg base (CX1 P w) 2 Zd "before" JI [] (qe K c Zd)):Z0 P w K mg base (CX1 P w) 3 f fd YY (Z9 K c Zd):=by
 show F.okX gM (λB A _ s H v Q E Y m=>aR_all m λa _ m=>aS_all m λy _ m=>aI_all m λr _ m=>a0_all m λh=>?_)
 repeat clear m
 show kN h ?_;clear h;intro C h d R S p e q;show(_,(Zj (ZC (Zt ZJ (mI O Y vq0 (Zh vq1)) (iw ZU.toTk g Y vq0 (Zk vq1 (Zh vq2)))))),stR ?_);simp! only[qF,qe];have I:=R;show Z6 I λD t u j _ Z=>(a,_,_,rfl,j,rfl,C,h,d,R,S,p,a,_,_,rfl,j,rfl,C,h,d,R,S,p,e,q)
def Yg(K:Qb)(c:Cs)(C:jP):Sp:=λv H Q E=>aR (λa=>aI (λr=>a0 (∃R h,Jq C H a R h/\Qa R<=1000/\(∀c∈R,c≠10)/\(¬(0<=r/\r<=Qa R)->E (.ref c.NoPlace) Qs H)/\((0<=r/\r<=Qa R)->Q (X2 (LO.bk (LO.rsL R h) r.toNat)) H)))) v
theorem mj(F:Fun K "back" "Letters.back" bq f fd)(j:Md P w K mg base (CX1 P w) 2 Zd "letter" qA [] (zL K c Zd))(p:Md P w K mg base (CX1 P w) 3 Zd "row_with" YY [] (Z9 K c Zd)):Z0 P w K mg base (CX1 P w) 4 f fd Jb (Yg K c Zd):=by
 show F.okX eB (λB A _ s H x Q E Y m=>aR_all m λa _ m=>aI_all m λr _ m=>a0_all m λh=>?_)
 repeat clear m
 show cC h ?_;clear h;intro C h R O g e q;show(_,(Ze (Zu 2 eB.nd (iw ZU.toTk j Y vq0 (Zh vq1))) (Ze (Z5 (ZV PZ vq2 kR) (Zj (ZC kR)) ZG) (Zj (ZC (iw ZU.toTk p Y vq0 (Zk vq2 (Zh vq1))))))),stR ?_);simp! only[zL,Z9];have I:=R;show Z6 I λD v y t _ Z=>?_;clear I;show(a,_,_,rfl,t,rfl,C,h,R,O,e,λd=>?_);have q:=q d;by_cases u:r=(h:Int)
 .subst u;rw[Qj,LO.L8 Z]at q;simp![Zx];show q
 have J:r.toNat≠h:=⋯
 rw[LO.Cr Z g ⋯ J]at q;simp![Zo u];show(a,_,_,rfl,t,rfl,C,h,_,R,O,L_T _,λz=>ZD (d.1,⋯) z,λ_=>?_);show q
def zB(K:Qb)(c:Cs)(C:jP):Sp:=λv H Q E=>aR (λa=>aS (λy=>aR (λp=>a0 (∃R h d,∃lo m:Int,Jq C H a R h/\Qa R<=1000/\L y=[d]/\H p=Qr (.tup [.int lo,.int m])/\(0<=lo/\lo<=Qa R+1)/\(0<=m/\m<=Qa R+1)/\
 ∀t,H t=Qs->Q (.ref t) (upd H t (.tup [.int (1+(R.countP λx=>decide (x<d):Nat)+(((Y8 R h).take lo.toNat).count d:Nat)),.int (1+(R.countP λx=>decide (x<d):Nat)+(((Y8 R h).take m.toNat).count d:Nat))])))))) v
theorem fU(F:Fun K "rows_with" "Letters.rows_with" qO f fd)(r:Md P w K mg base (CX1 P w) 3 Zd "row_with" YY [] (Z9 K c Zd)):Z0 P w K mg base (CX1 P w) 4 f fd YJ (zB K c Zd):=by
 show F.okX gf (λB A _ s H M Q E Y m=>aR_all m λa _ m=>aS_all m λy _ m=>aR_all m λp _ m=>a0_all m λh=>?_)
 repeat clear m
 show ZH h λS h d Z=>zQ Z λlo U Z=>ZO Z λR O u C x Z=>ZI Z λJ q=>?_;clear Z;show(_,(Zj (ZC (zm (Zk (iw ZU.toTk r Y vq0 (Zk vq1 (Zh (ZP K vq2 Zl)))) (Zh (iw ZU.toTk r Y vq0 (Zk vq1 (Zh (ZP K vq2 Zl))))))))),stR ?_);simp! only[Z9];have j:=jT;have I:=R;show Z6 I λdx D fo g _ hm=>?_;clear I;show(a,_,_,rfl,g,rfl,_,_,.inr (SqT.of C),rfl,?_);simp! only[Z9];show(S,h,d,R,O,u,λz=>ZD x z,λ_=>(a,_,_,rfl,g,rfl,_,_,.inr (SqT.of C),rfl,?_));simp! only[Z9];show(S,h,d,R,O,u,λz=>ZD J z,λ_=>(⋯,λt v=>q t v))
def dh(K:Qb)(c:Cs)(C:jP)(t:jP):Sp:=λv H Q E=>aS (λz=>aI (λh=>a0 (Qa (L z)<=300/\(∀c∈L z,c≠10)/\Zp t H/\(¬(0<=h/\h<=Qa (L z))->∀I,zy H I->YZ t H I->Zp t I->E (.ref c.NoPlace) Qs I)/\
 ((0<=h/\h<=Qa (L z))->∀m,m<=Qa (L z)->LO.rd (LO.rsL (L z) h.toNat) m=Qr h.toNat->∀p I,zy H I->YZ t H I->Zp t I->H p=Qs->I p=Qr (.lst (((Qi (m+1)).map λi=>(((LO.rd (LO.rsL (L z) h.toNat) i).getD 0:Nat):Int)).map V.int))->Q (.ref p) I)))) v
theorem yF(F:Fun K "road_of" "road_of" iC f fd)(a8:Mkr P w K mg base (CX1 P w) 3 "Letters" Zd zS [] (zD K c Zd Za))(a9:Md P w K mg base (CX1 P w) 4 Zd "back" Jb [] (Yg K c Zd)):Z0 P w K mg base (CX1 P w) 5 f fd gW (dh K c Zd Za):=by
 show F.okX ax (λam A _ s H vs Q E hr t=>aS_all t λz _ t=>aI_all t λh _ t=>a0_all t λh=>qN h λhl j bk e q=>?_)
 repeat clear t
 clear h;show(_,(Ze (Zu 2 ax.nd (yM ZU.toTk a8 (hr.mono ∅) (Zk vq0 (Zh vq1)))) (Ze (Zu 3 ax.nd Zl) (Ze (Zu 4 ax.nd (fW (Zh vq3))) (Ze (tP ZU.own (kU (ZV rB vq3 vq1)) (YM (Ze (Zu 3 ax.nd (iw ZU.toTk a9 hr vq2 (Zh vq3))) (Zj (qR (YH (K:=K) rfl Ut UK UJ fg (qv 4) (Zh vq3))))))) (Zj (ZC (qv 4))))))),stR ?_);simp![zD,tWh];have an:=jT;intro x dx R y a2;have C:upd H dx (HO.own x) x=none:=(Zn (Ne.symm a2)).trans R;show(hl,(bk.put y).put C,(dx,Zi),λd=>e d _ ((Zw.upd (Zw.updN y) C).toN) ((Zw.upd (Zw.updN y) C).toE) ((bk.put y).put C),λd U ab ak a7 a4 S=>?_);obtain⟨g,rfl⟩:∃g:Nat,h=(g:Int):=(h.toNat,⋯);have hg:g<=Qa (L z):=⋯
 rw[Qj]at S;have q:=q d;rw[Qj]at q;have J:=ff R y ab ak;have al:=kM R y a7;show Zf (LO.FZ hg j) λm hm em=>?_;show(⋯,λp D=>?_);have kx:∀xs b o,U b=Qr o->upd U p (HO.lst xs) b=Qr o:=λxs b o e=>(Zn (Zm e D)).trans e;show(λk σ H2=>∃i r:Nat,k=m-i/\i<=m/\LO.rd (LO.rsL (L z) g) i=Qr r/\σ=[Qr (V.str z),Qr (V.int (g:Int)),Qr (V.ref x),Qr (V.int (r:Int)),Qr (V.ref p)]/\H2=upd U p (HO.lst (((Qi (i+1)).map λi=>(((LO.rd (LO.rsL (L z) g) i).getD 0:Nat):Int)).map V.int)),(_,0,0,rfl,Qo _,rfl,rfl,rfl),?_);intro k σ H2 u;show cC u λi r Z hi O a5 a6=>?_;clear u;subst Z;subst a5;subst a6;simp! only[Yg];have as:=LO.BU O;show zF (λY=>?_) λY=>?_
 .have M:r≠g:=λw=>by subst w;simp at Y
  show Zf (LO.yV hg j O M) λb eb B=>?_;have a1:i<m:=by rcases Ur i m with z|z;show z;cases Nat.le_antisymm hi z;rw[em]at O;cases O;show ZD rfl M
  have v:=S.same λb o e _=>kx (((Qi (i+1)).map λi=>(((LO.rd (LO.rsL (L z) g) i).getD 0:Nat):Int)).map V.int) b o e;have I:=v;show Z6 I λaw ap fo a3 _ _=>?_;clear I;show(x,_,_,rfl,a3,rfl,_,_,v,⋯,j,λw=>ZD (⋯,⋯) w,λ_=>?_);rw[Qj,eb];simp! only[X2];show(.inl (_,SqL.of Zi),p,_,_,rfl,rfl,Zi,by rw[jO,jO,uF];lia,m-(i+1),⋯,i+1,b,rfl,a1,B,rfl,?_);rw[nq,Q4 (n:=i+1),uh,uh,uZ,uZ,B];rfl
 have M:r=g:=by
  simp at Y
  lia
 subst M;cases LO.oH O em;show q _ hm O _ _ (J.upd D) (al.upd D) (a4.put D) (J.free D) Zi
def qZ(K:Qb)(c:Cs)(C:jP)(t:jP):Sp:=λv H Q E=>aS (λz=>aI (λh=>a0 (Qa (L z)<=300/\(∀c∈L z,c≠10)/\Zp t H/\(¬(0<=h/\h<=Qa (L z))->∀I,zy H I->YZ t H I->Zp t I->E (.ref c.NoPlace) Qs I)/\
 ((0<=h/\h<=Qa (L z))->∀m,m<=Qa (L z)->LO.rd (LO.rsL (L z) h.toNat) m=Qr h.toNat->∀I,zy H I->YZ t H I->Zp t I->(m≠Qa (L z)->E (.ref c.NoText) Qs I)/\(m=Qa (L z)->Q (.str (T (LO.sI (LO.rsL (L z) h.toNat) (Qa (L z))))) I))))) v
theorem tE(F:Fun K "read_back" "read_back" eR f fd)(B:Bn mg)(ER:Er K mg c)(gP:FnX P w K mg base 5 "road_of" gW (dh K c Zd Za))(al:Mkr P w K mg base (CX1 P w) 3 "Letters" Zd zS [] (zD K c Zd Za))(ap:Md P w K mg base (CX1 P w) 2 Zd "letter" qA [] (zL K c Zd)):Z0 P w K mg base (CX1 P w) 6 f fd eM (qZ K c Zd Za):=by
 show F.okX av (λaw A _ s H vs Q E hr hJ=>aS_all hJ λz _ hJ=>aI_all hJ λh _ hJ=>a0_all hJ λh=>qN h λhl ab bk e q=>?_)
 repeat clear hJ
 clear h;show(_,(Ze (ZK (Zu 2 av.nd (Yp ZU.toTk gP hr (Zk vq0 (Zh vq1))))) (Ze (ZK (Z5 (ZV rB (Z4 K B.len vq2) (Zt ZJ (Z4 K B.len vq0) Zl)) (Zj (YI ZU ER.qa0 ER.qaZ (Zh Zr))) ZG)) (Ze (ZK (Zu 3 av.nd (yM ZU.toTk al (hr.mono ∅) (Zk vq0 (Zh vq1))))) (Ze (KZ 4 K (own:=["row"]) (cp:=[(("home":Str),1),(("held":Str),3)]) rfl vq2 (λ_ _ _ _=>yN (ZV rB vq0 vq1)) (λ_ _ _ _=>(mI ap.quiet hr vq2 (Zh vq0))) av.nd) (Zj (ZC (De (K:=K) rfl rfl B.reversed Zr (qv 4)))))))),stR ?_);have aH:=jT;show zx (λd I=>∃(g m:Nat) (p:jP),h=(g:Int)/\g<=Qa (L z)/\m<=Qa (L z)/\LO.rd (LO.rsL (L z) g) m=Qr g/\zy H I/\YZ Za H I/\Zp Za I/\I p=Qr (.lst (((Qi (m+1)).map λi=>(((LO.rd (LO.rsL (L z) g) i).getD 0:Nat):Int)).map V.int))/\d=[Qr (V.str z),Qr (V.int h),Qr (V.ref p),Qs,Qs]) ?_ ?_
 .simp! only[dh];show(hl,ab,bk,e,λhh m hm R p H1 S D C hp h1=>?_);obtain⟨g,rfl⟩:∃g:Nat,h=(g:Int):=(h.toNat,⋯);rw[Qj]at R h1;show(g,m,p,rfl,⋯,hm,R,S,D,C,h1,rfl)
 intro _ H1 t;show ZH t λg m p Y=>ZO Y λa7 hg hm R S Y=>za Y λD C h1 a4=>?_;clear Y t;subst a7;subst a4;have hh:0<=(g:Int)/\(g:Int)<=Qa (L z):=(⋯,⋯);have q:=q hh m hm;rw[Qj]at q;have q:=q R;show zx (λd I=>I=H1/\m=Qa (L z)/\d=[Qr (V.str z),Qr (V.int (g:Int)),Qr (V.ref p),Qs,Qs]) ?_ ?_
 .simp![true_and];show(_,.inl (SqL.of h1),⋯,?_);rw[jO,jO,uF];show zF (λJ=>?_) λJ=>?_;show(∅,(q H1 S D C).1 (by rintro rfl;simp at J));simp at J
  lia
 intro _ H1 t;show ZL t λa5 a6 Z=>?_;clear t;subst a5;subst a6;subst Z;show zx (λd I=>∃x,zy H I/\YZ Za H I/\Zp Za I/\Jq Zd I x (L z) g/\I p=Qr (.lst (((Qi (Qa (L z)+1)).map λi=>(((LO.rd (LO.rsL (L z) g) i).getD 0:Nat):Int)).map V.int))/\d=[Qr (V.str z),Qr (V.int (g:Int)),Qr (V.ref p),Qr (V.ref x),Qs]) ?_ ?_
 .simp![zD];intro x dx hx O a8;have a3:upd H1 dx (HO.own x) x=none:=(Zn (Ne.symm a8)).trans hx;show(hl,(C.put O).put a3,(dx,Zi),λz=>ZD hh z,λ_ H2 am an as U u=>?_);have a2:=ff hx O am an;rw[Qj]at u;show(x,S.trans a2,D.trans (kM hx O as),U,u,a2.at h1 (by nofun),rfl)
 intro _ H2 t;show zI t λx Y=>ZO Y λsm se U u h2 ak=>?_;clear Y t;subst ak;simp! only[true_and];have a1:=u;show Z6 a1 λaL aJ fo a9 _ _=>?_;clear a1;show(_,SqL.of h2,by rw[jO,jO,uF];lia,λi H3 v=>H3=H2/\v=((Qi (min i (Qa (L z)))).map λj=>[(Y8 (L z) g).getD ((LO.rd (LO.rsL (L z) g) j).getD 0) 0]).map λl=>V.str (T l),(rfl,by rw[Nat.zero_min];rfl),?_,?_,?_)
 .intro i H3 v _ t;obtain⟨rfl,_⟩:=t;show SqL.of h2
 .intro i y H3 v hy t;obtain⟨rfl,rfl⟩:=t;rw[Qm,Qm]at hy;show Zf (Qv.mp hy) λn1 e1 Z=>?_;subst Z;show Zf (Qv.mp e1) λn2 e2 Z=>?_;subst Z;have hi:i<Qa (L z)+1:=by simpa using(Qh.mp e2).1
  rw[Ux hi]at e2;cases Option.some.inj e2;obtain⟨r,er⟩:=LO.iU R (show i<=Qa (L z)by lia);have aK:=LO.BU er;rw[er];simp![zL,Option.getD_some];show zF (λJ=>?_) λJ=>?_
  .have n0:r≠g:=λw=>by subst w;simp at J
   have aG:i<Qa (L z):=by
    rcases Ur i (Qa (L z))with w1|w1;show w1;have:i=Qa (L z):=⋯
    subst this;rw[R]at er;cases er;show ZD rfl n0
   show(x,_,_,rfl,a9,rfl,_,_,u,⋯,λw=>ZD (⋯,⋯) w,λ_=>?_);rw[Zo ⋯,Qj];rw[Q5 ⋯,Q5 ⋯,Q4,uh,uh,uZ,uZ,er];rfl
  have n0:r=g:=by
   simp at J
   lia
  subst n0;have:=LO.oH er R;subst this;rw[WF,U6 ⋯]
 rintro H3 v ⟨rfl,rfl⟩ l M;rw[jO,jO,uF,U6 ⋯];show(_,SqL.of Zi,?_,?_)
 .rw[show Qa (L (Qe ""))=0 by rfl',WE,LO.Ll _ _ λ_=>rfl]
  lia
 have e0:L (Qe "")=[]:=by rfl'
 rw[e0,dt,LO.Fd hg R _ (Qg _)];show(q _ (sm.upd M) (se.upd M) (U.put M)).2 rfl
def zd(K:Qb)(t:jP):Sp:=λv H Q _=>aS (λz=>a0 (Qa (L z)<=300/\Zv t H/\∀p I,zy H I->YZ t H I->Zv t I->H p=Qs->I p=Qr (.lst ((LO.ord (L z)).map λi:Nat=>V.int i))->Q (.ref p) I)) v
theorem wM{f:jP}{fd:uY}(F:Fun K "order_of" "order_of" Jd f fd)(B:Bn mg){Zb:jP}{cd:jP}(C:Lm mg base cd Zb)(M:fd.code=.ref cd){c:Cs}(ER:Er K mg c){Ya zo zE:jP}(TP:Tp K w.params mg Ya zo zE){Zd Zs ZM:jP}(CF:Cf K Zd Zs ZM)(GC:Gc mg):Z0 P w K mg base CX0 3 f fd zX (zd K Zb):=by
 show F.okL M wV (λA _ s H vs Q E d D=>aS_all D λz _ D=>a0_all D λh=>ZL h λhl bk q=>?_)
 repeat clear D
 clear h;show(_,(Zj (ZC (xC (K:=K) (x:="place") (cp:=[(("text":Str),0)]) (q:=kg) rfl rfl (d.mono ∅) (C.at rfl) rfl B.sorted rfl rfl rfl rfl (by rfl') ((rfl,rfl,rfl),trivial) rfl (by rfl') rfl rfl (λ_ _ _ _=>rfl) (Zh (Yt D4 (by rfl) B.range Aw (Zh (Zt ZJ (Z4 K B.len vq0) Zl)))) (λ_ _ _ _ _ _=>(YO K vq1 (aE vq0) qd))))),stR ?_);dsimp![true_and];have a1:=jT;have O:mP 0 ((Qa (L z):Int)+1)=(Qi (Qa (L z)+1)).map λj:Nat=>V.int j:=Nm _;have R:Qa (mP 0 ((Qa (L z):Int)+1))=Qa (L z)+1:=by rw[O];simp
 show(⋯,λr I=>(_,(Qi (Qa (L z)+1)).map (λj=>(L z).drop j),.inr (.inr (0,_,Zi,rfl,⋯,⋯,⋯,⋯)),⋯,by rw[R];simp,bk.put I,λZ i y Y J=>?_,λZ l1 p Y se U g pm pw=>?_))
 .have t:=(Qh.mp J).1;rw[R]at t;rw[O,Qm,Ux t]at J;cases Option.some.inj J;show(⋯,?_);rw[fQ _ _ t,af]
 rw[R]at pm;have m:∀j∈p,j<Qa (L z)+1:=λj u=>QA.mp (pm.mem_iff.mp u);have ep:p=LO.ord (L z):=by show LO.Kz pm (pw.imp_of_mem λ{i j} t u h=>?_);have h:=h.1;rw[fQ _ _ (m i t),fQ _ _ (m j u)]at h;show h
 have v:Zw H (upd H r (HO.rng 0 ((Qa (L z):Int)+1))):=Zw.updN I;have S:=(Zw.toN v).trans Y;show q l1 _ (S.upd g) (((Zw.toE v).trans se).upd g) (U.put g) (S.free g) ?_;rw[Zi]
 congr 2
 rw[<-ep];show uM λj u=>?_;rw[O,fQ _ _ (m j u)]
def Yl(K:Qb)(t:jP):Sp:=λv H Q _=>aS (λz=>a0 (Qa (L z)<=300/\Zv t H/\∀p I,zy H I->YZ t H I->Zv t I->H p=Qs->I p=Qr (.tup [.str (T (LO.Z3 (L z))),.int (LO.qB (L z))])->Q (.ref p) I)) v
theorem mC(F:Fun K "last_letters" "last_letters" bB f fd)(ZZ:Fn P w K mg base 3 "order_of" zX (zd K Zb)):Z0 P w K mg base CX0 4 f fd Jc (Yl K Zb):=by
 show F.ok au (λM A _ s H vs Q E Y m=>aS_all m λz _ m=>a0_all m λh=>ZL h λR bk q=>?_)
 repeat clear m
 clear h;show(_,(Ze (Zu 1 au.nd (Z8 ZZ Y (Zh vq0))) (Ze (Zu 2 au.nd (YH (K:=K) rfl Qz UD UC (l6 (K:=K) rfl) Zr (Zh (BJ K (own:=["place"]) (cp:=[(("text":Str),0)]) rfl vq1 (λ_ _ _ _=>yN (ZV nT vq0 Zl)) (λ_ _ _ _=>(ZP K vq1 (Zt cV vq0 Zl))))))) (Zj (ZC (zm (Zk vq2 (Zh (YH (K:=K) rfl Ut PySem.F.slot_list_index PySem.F.type_list_index (MJ (K:=K) rfl) vq1 (Zh Zl))))))))),stR ?_);simp![gtV,wX,zd];have a1:=jT;show(R,bk,λp J S u B hp x=>?_);rw[LO.MT]at x;have ol:=LO.zT (L z);show(_,SqL.of x,by rw[jO,jO];lia,λi O d=>O=J/\d=(LO.ltk (L z) i).map λc=>V.str (T [c]),(rfl,rfl),?_,?_,?_)
 .intro i O d _ t;obtain⟨rfl,_⟩:=t;show SqL.of x
 .intro i y O d v t;obtain⟨rfl,rfl⟩:=t;rw[<-LO.MT,Qm]at v;show Zf (Qv.mp v) λj r Z=>?_;subst Z;have hj:j<=Qa (L z):=LO.Y2.mp (QD r);simp![gtV,wX];show zF (λC=>(⋯,_,Y0 0 ⋯ ⋯,?_)) λC=>?_
  .rw[LO.Kj r ⋯,uh,show((j:Int)-1).toNat=j-1 by lia];rfl
  have:j=0:=⋯
  subst this;rw[LO.Ki r]
 rintro O d ⟨rfl,rfl⟩ l g;rw[jO,jO,LO.En (L z) ⋯,lL]
 have ll:Qa (LO.Z3 (L z))<=301:=by
  have:=LO.MI (L z) (Qa (L z)+1);rw[LO.En (L z) (Qg _)]at this
  lia
 show((LO.Z3 (L z)).map λc=>[c],SqL.of (by rw[Zi,u6];rfl),?_,?_)
 .rw[XO (λc:Nat=>c),jO,uC]
  lia
 rw[dt,NY (λc:Nat=>c),List.map_id'];have I:upd O l (HO.lst ((LO.Z3 (L z)).map λc=>V.str (T [c]))) p=Qr (HO.lst (((LO.ord (L z)).map λi:Nat=>(i:Int)).map V.int)):=by rw[Zn (Zm x g)];show x
 show(.inl (_,SqL.of I),p,_,rfl,SqL.of I,LO.A9 _,⋯,λU D=>?_);rw[LO.IB];show q U _ ((S.upd g).upd D) ((u.upd g).upd D) ((B.put g).put D) ((S.upd g).free D) Zi
def YX(K:Qb)(C:jP)(t D:jP):Sp:=λv H Q _=>aS (λz=>a0 (Qa (L z)<=300/\Zv t H/\Zp D H/\t≠D/\∀x I,zy H I->Zv t I->Zp D I->H x=Qs->Jq C I x (LO.Z3 (L z)) (LO.qB (L z))->Q (.ref x) I)) v
theorem rF(F:Fun K "letters_of" "letters_of" dU f fd)(Ys:Fn P w K mg base 4 "last_letters" Jc (Yl K Zb))(O:Mkr P w K mg base (CX1 P w) 3 "Letters" Zd zS [] (zD K c Zd Za)):Z0 P w K mg base CX0 5 f fd J9 (YX K Zd Zb Za):=by
 show F.ok gJ (λa1 A _ s H vs Q E Z m=>aS_all m λz _ m=>a0_all m λh=>qN h λhl R bk j q=>?_)
 repeat clear m
 clear h;show(_,(Ze (Zu 1 gJ.nd (Z8 Ys Z (Zh vq0))) (Zj (ZC (XD O.quiet (Z.mono ∅) (Zk (ZP K vq1 Zl) (Zh (ZP K vq1 Zl))))))),stR ?_);simp! only[Yl];have a2:=jT;have ll:=LO.qy (L z);have hh:=LO.iQ (L z);show(hl,R,λp H1 S r t hp D=>(_,_,.inr (SqT.of D),rfl,_,_,.inr (SqT.of D),rfl,?_));have B:=bk.keep R (Ne.symm j) r;simp![zD];intro x M g y u;have C:upd H1 M (HO.own x) x=none:=(Zn (Ne.symm u)).trans g;show(⋯,(B.put y).put C,(M,Zi),λz=>ZD (⋯,⋯) z,λ_ H2 d U v J I=>?_);rw[Qj]at I;have Y:=ff g y d U;show q x H2 (S.trans Y) (t.keep B j (kM g y v)) J (S.free g) I
def zA(K:Qb)(c:Cs)(B C:jP)(t D:jP):Sp:=λv H Q E=>aR (λx=>aS (λz=>aI (λg=>a0 (Qa (L z)<=300/\Zv t H/\Zp D H/\t≠D/\(∃d,H x=Qr (.ins C d []))/\(g<1->E (.ref c.NoGap) Qs H)/\
 (¬g<1->∀I,(∀b o,b≠x->H b=Qr o->(∀p,o≠ .tbl p)->I b=Qr o)->(∀b,H b≠Qs->I b≠Qs)->Zv t I->Zp D I->pf C B I x (L z) g->Q .non I))))) v
theorem fj{f:jP}{fd:uY}{T:jP}(F:xT K "__init__" "Finder.__init__" YS f T fd)(B:Bn mg){Zb Za:jP}{c:Cs}(ER:Er K mg c){Ya zo zE:jP}(TP:Tp K w.params mg Ya zo zE){Zd Zs ZM:jP}(O:Cf K Zd Zs ZM)(GC:Gc mg)(bF:FnX P w K mg base 1 "check_gap" eL (az K c))(ZZ:Fn P w K mg base 3 "order_of" zX (zd K Zb))(YE:Fn P w K mg base 5 "letters_of" J9 (YX K Zd Zb Za)):Z0 P w K mg base (CX1 P w) 6 f fd zw (zA K c Zd Zs Zb Za):=by
 show F.okX bD (λaT A _ s H vs Q E hr M=>aR_all M λx _ M=>aS_all M λz _ M=>aI_all M λg _ M=>a0_all M λh=>?_)
 repeat clear M
 obtain⟨hl,bo,bk,a9,⟨D,hx⟩,e,q⟩:=h;show(_,(Ze (qR (Yp ZU.toTk bF hr (Zh vq2))) (Ze (de O.qam O.qaf vq0 (Z8 YE hr (Zh vq1))) (Ze (de O.qam O.qay vq0 vq2) (Ze (ZK (de O.qam O.qag vq0 BL)) (Zj (Ez (K:=K) rfl ZU.own rfl B.enumerate (Zh (Z8 ZZ hr (Zh vq1))) (qai 3 bD.nd) (qai 4 bD.nd) (YM (Zj (Z5 (ZV bf (Zt qb (qv 4) vq2) Zl) (Zj (r0 (lU hr) (YL O.qam O.qag vq0) vq3 (qv 4) rfl)) ZG))))))))),stR ?_);simp! only[az,YX];have aZ:=jT;show(e,λhg=>(hl,bo,bk,a9,λh H1 Y aJ ap hh aH=>?_));have q:=q hg;have m:=Y.at hx (by nofun);show(_,_,m,∅,_,_,Zi,(show 1<1000 by decide),?_);rw[nq];generalize hF:qm (Qe "gap") (V.int g) (qm (Qe "held") (V.ref h) [])=F2;have lF:Qa F2=2:=by rw[<-hF];rfl
 show zx (λσ' I=>∃d,upd H1 x (HO.ins Zs D F2) d=Qs/\I=upd (upd (upd H1 x (HO.ins Zs D F2)) d (HO.dK [])) x (HO.ins Zs D (qm (Qe "known") (V.ref d) F2))/\σ'=[Qr (V.ref x),Qr (V.str z),Qr (V.int g),Qs,Qs]) ?_ ?_
 .simp![true_and];intro d hd;show(_,_,(Zn (Ne.symm (nj hd).2)).trans Zi,⋯,d,hd,rfl)
 intro _ _ u;show Zz u λd hd Z U=>?_;clear u;subst Z;subst U;simp! only[T7,zd];have eF:qm (Qe "known") (V.ref d) F2=fsF h d g:=by rw[<-hF];rfl
 obtain⟨ab,a2⟩:=nj hd;have x2:upd (upd H1 x (HO.ins Zs D F2)) d (HO.dK []) x=Qr (HO.ins Zs D F2):=(Zn (Ne.symm a2)).trans Zi;have ak:Zv Zb (upd (upd H1 x (HO.ins Zs D F2)) d (HO.dK [])):=Bk.put (g9 aJ m) hd;have as:Zp Za (upd (upd H1 x (HO.ins Zs D F2)) d (HO.dK [])):=Bk.put (g9 ap m) hd;show(hl,g9 ak x2,λp H6 S al aL aG h6=>?_);rw[eF]at S al aG;have aK:=Bk.keep (g9 as x2 (o:=HO.ins Zs D (fsF h d g))) (g9 ak x2) (Ne.symm a9) al;have kx:aF x d H H6:=(((aF.ofN Y).updX).updD.updX).trans (aF.ofN S);have x6:=S.at Zi (by nofun);have d6:=S.at ((Zn a2).trans Zi) (by nofun)
 have aM:Jq Zd H6 h (LO.Z3 (L z)) (LO.qB (L z)):=by
  show Jq.same (aH.same2 λb o e n1 n2 n3=>?_) λb o e n=>S.at e n;have bx:b≠x:=λw=>by subst w;rw[m]at e;cases e;show ZD (n3 _ _ _ rfl) ∅
  have bd:b≠d:=λw=>by subst w;rw[ab]at e;cases e
  show(Zn bx).trans ((Zn bd).trans ((Zn bx).trans e))
 rw[LO.MT]at h6;have ol:=LO.zT (L z);show(_,SqL.of h6,λk σ I=>∃v v' J,σ=[Qr (V.ref x),Qr (V.str z),Qr (V.int g),v,v']/\I p=Qr (HO.lst (((LO.ord (L z)).map λi:Nat=>(i:Int)).map V.int))/\I x=Qr (HO.ins Zs D (fsF h d g))/\I d=Qr (.dK (pX J))/\dZ J (L z) g k/\Qa J<=k/\Zv Zb I/\Zp Za I/\Jq Zd I h (LO.Z3 (L z)) (LO.qB (L z))/\aF x d H I,(_,_,[],rfl,h6,x6,d6,λr=>by rw[Zo λw=>by lia];rfl,Qg _,aL,aK,aM,kx),?_,?_,?_)
 .intro k σ I _ u;show Z6 u λv v' J _ h' _=>?_;clear u;show SqL.of h'
 .rintro k y σ I t hy ⟨v,v',J,rfl,h',x',d',kn,aw,a5,a4,a1,C⟩ ht;rw[<-LO.MT,Qm]at hy;show Zf (Qv.mp hy) λj ej Z=>?_;subst Z;have hk:k<Qa (LO.ord (L z)):=(Qh.mp ej).1;obtain⟨an,am⟩:=kn.step ej;have kt:∀o,Zw I (upd I t o):=λo=>Zw.updN ht;have le:Qa (pX J)=Qa J:=by unfold pX;rw[jO]
  simp![ML];have h4:=kt (HO.tup [V.int (k:Int),V.int (j:Int)]) _ _ h';have x4:=kt (HO.tup [V.int (k:Int),V.int (j:Int)]) _ _ x';have R:=kt (HO.tup [V.int (k:Int),V.int (j:Int)]) _ _ d';have a6:Zv Zb (upd I t (HO.tup [V.int (k:Int),V.int (j:Int)])):=a5.put ht;have a3:Zp Za (upd I t (HO.tup [V.int (k:Int),V.int (j:Int)])):=a4.put ht;have a7:Jq Zd (upd I t (HO.tup [V.int (k:Int),V.int (j:Int)])) h (LO.Z3 (L z)) (LO.qB (L z)):=a1.same λb o e _=>kt _ _ _ e;have a8:aF x d H (upd I t (HO.tup [V.int (k:Int),V.int (j:Int)])):=C.trans (aF.ofN (kt _).toN)
  generalize upd I t (HO.tup [V.int (k:Int),V.int (j:Int)])=H4 at h4 x4 R a6 a3 a7 a8 ⊢
  have pd:p≠d:=λw=>by subst w;rw[h4]at R;cases R
  show(⋯,zF (λhz=>?_) λhz=>(_,_,J,rfl,h4,x4,R,am hz,⋯,a6,a3,a7,a8));obtain⟨nl,aN⟩:=an hz;show(_,_,_,x4,rfl,d,_,rfl,GH.k (k:=.inl (k:Int)) R ⋯,?_);rw[K3 _ nl];show(_,_,J++[((k:Int),V.int (j:Int))],rfl,(Zn pd).trans h4,(Zn (Ne.symm a2)).trans x4,Zi,aN,by rw[jR,jW];lia,DY a6 R,DY a3 R,a7.same2 λb o e n1 n2 n3=>(Zn λw=>?_).trans e,a8.updD);subst w;rw[R]at e;cases e;show n2 _ rfl
 intro σ I u;show ZH u λv v' J zr=>ZO zr λU h' x' d' kn zr=>qN zr λaw a5 a4 a1 C=>?_;clear zr u;subst U;rw[jO,jO,ol]at kn;show q I (λb o n e n1=>C.1 b o n (λw=>?_) e n1) C.2 a5 a4 (D,h,d,J,x',a1,d',kn,⋯);subst w;rw[Y.free ab]at e;cases e
def Yv(K:Qb)(z C:jP):Sp:=λv H Q _=>aR (λx=>aS (λy=>a0 (∃l g,pf C z H x l g/\Qa l<=300/\(∀c∈L y,c≠10)/\Qa (L y)<=1000/\∀p I,Zw H I->H p=Qs->I p=Qr (.tup [.int (LO.low l (L y):Nat),.int (LO.aD l (L y):Nat)])->Q (.ref p) I))) v
theorem nU(F:Fun K "rows" "Finder.rows" cF f fd)(B:Bn mg)(C:Cf K Zd Zs ZM)(U:Md P w K mg base (CX1 P w) 4 Zd "rows_with" YJ [] (zB K c Zd)):Z0 P w K mg base CX0 5 f fd JD (Yv K Zd Zs):=by
 show F.ok Je (λa1 A _ s H vs Q E hr m=>aR_all m λx _ m=>aS_all m λy _ m=>a0_all m λh=>cC h λl g fi hl Y hy q=>?_)
 repeat clear m
 clear h;show(_,(Ze (Zu 2 Je.nd (zm (Zk Zl (Zh (Zt ZJ (YL C.qaa C.qac (YL C.qam C.qaf vq0)) Zl))))) (Ze (Nd PassesOwn.never rfl B.reversed (Zh vq1) (qai 3 Je.nd) (YM (Zj (Zu 2 Je.nd (mI U.quiet hr (YL C.qam C.qaf vq0) (Zk vq3 (Zh vq2))))))) (Zj (ZC vq2)))),stR ?_);simp! only[Mq];have a2:=jT;show ZH fi λdx h d Z=>Zz Z λps O il _=>?_;clear Z fi;have ll:=LO.qy l;have J:=il;show Z6 J λa4 a3 fo j _ hm=>?_;clear J;show(_,_,_,O,rfl,?_);simp! only[Mq];show(_,_,_,j,rfl,?_);simp![Mq];show(⋯,λp0 r=>(⋯,λi D I=>∃p v,D=[Qr (V.ref x),Qr (V.str y),Qr (V.ref p),v]/\Zw H I/\H p=Qs/\I p=Qr (.tup [.int (LO.low l ((L y).drop (Qa (L y)-i)):Nat),.int (LO.aD l ((L y).drop (Qa (L y)-i)):Nat)]),(p0,_,rfl,Zw.updN r,r,?_),?_,?_))
 .rw[Zi,Vg,UA (Qg _),LO.rV,LO.sR,ll];rfl
 .intro i D I hi u;show ze u λp v z S hp M=>?_;clear u;subst z;rw[uV]at hi;simp! only[zB];have ei:(L y)[Qa (L y)-(i+1)]?=Qr (L y)[Qa (L y)-(i+1)]:=Qd ⋯;have ed:=LO.eY ei;rw[show Qa (L y)-(i+1)+1=Qa (L y)-i by lia]at ed;have eg:(L y).reverse.getD i 0=(L y)[Qa (L y)-(i+1)]:=by rw[Qc,UU hi,show Qa (L y)-1-i=Qa (L y)-(i+1)by lia,ei];rfl
  have R:=Y _ (QN (show Qa (L y)-(i+1)<Qa (L y)by lia));rw[eg];have b1:=LO.Kh l ((L y).drop (Qa (L y)-i));have b2:=LO.fR l ((L y).drop (Qa (L y)-i));show(_,_,_,S _ _ O,rfl,h,_,_,rfl,S _ _ j,rfl,_,_,_,_,_,il.same λb o e _=>S _ _ e,⋯,rfl,M,(⋯,⋯),(⋯,⋯),λt ht=>?_);show(t,_,rfl,S.upd ht,S.free ht,?_);rw[Zi,Qj,Qj,LO.EG _ R,LO.BW _ R,<-ed]
 intro D I u;show ze u λp v z S hp M=>?_;subst z;rw[uV,Ui,UF]at M;simp! only[true_and];show q p I S hp M
def Ji(K:Qb)(c:Cs)(z C:jP):Sp:=λv H Q E=>aR (λx=>aI (λr=>a0 (∃l g,pf C z H x l g/\Qa l<=300/\(∀c∈l,c≠10)/\(¬(0<=r/\r<=Qa l)->E (.ref c.NoPlace) Qs H)/\
 ((0<=r/\r<=Qa l)->∀t,H t=Qs->Q (.ref t) (upd H t (.tup [.int (Ye l r.toNat:Nat),.int ((Ye l r.toNat:Nat)%g)])))))) v
theorem nV(F:Fun K "walk" "Finder.walk" cG f fd)(C:Cf K Zd Zs ZM)(ZN:FnX P w K mg base 1 "check_place" zP (ZX K c))(v:Md P w K mg base (CX1 P w) 4 Zd "back" Jb [] (Yg K c Zd)):Z0 P w K mg base (CX1 P w) 5 f fd cg (Ji K c Zd Zs):=by
 show F.okX Jf (λa1 A _ s H vs Q E Y m=>aR_all m λx _ m=>aI_all m λr _ m=>a0_all m λh=>cC h λl g fi hl B e q=>?_)
 repeat clear m
 clear h;show(_,(Ze (qR (Yp ZU.toTk ZN Y (Zk vq1 (Zh (YL C.qaa C.qac (YL C.qam C.qaf vq0)))))) (Ze (Zu 2 Jf.nd Zl) (Ze (tP ZU.own (kU (yP (xB (lU Y) vq1 (YL C.qam C.qag vq0)))) (YM (Ze (Zu 1 Jf.nd (iw ZU.toTk v Y (YL C.qam C.qaf vq0) (Zh vq1))) (Zj (rZ (i:=2) C7 Jf.nd rfl (by ac_nf) Zl))))) (Zj (ZC (zm (Zk (Zt ZJ (Z7 Y (YL C.qam C.qag vq0) vq1) vq2) (Zh vq2)))))))),stR ?_);simp! only[tWh,ZX];have a2:=jT;show ZH fi λdx h d M=>JN M λps y il hd kn g1=>?_;clear M fi;have ll:=LO.qy l;have I:=il;show Z6 I λa5 a3 fo O _ hm=>?_;clear I;show(_,_,_,y,rfl,?_);simp! only[true_and];show(_,_,_,O,rfl,?_);simp! only[ZX];show(λhh=>?_,λhh=>e ⋯);obtain⟨r,rfl⟩:∃k:Nat,r=(k:Int):=(r.toNat,⋯);replace q:=q (⋯,⋯);rw[Qj]at q;obtain⟨o1,o2⟩:=bQ (l:=l) (r:=r) ⋯;generalize Ye l r=p at q o1 o2;subst o2;have m0:=QR (p:Int) (show g≠0 by lia);have m1:=QM (p:Int) (show 0<g by lia);show(λk J U=>∃s:Nat,k=((p:Int)%g).toNat-s/\(s:Int)<=(p:Int)%g/\s<=p/\J=[Qr (V.ref x),Qr (V.int (LO.qU l (p-s):Nat)),Qr (V.int (s:Int))]/\U=H,(_,0,rfl,⋯,Qo _,rfl,rfl),?_);intro k J U u;show JN u λs z hs a4 Z R=>?_;clear u;subst z;subst Z;subst R;have sm:=Li g1 (show(0:Int)<=(s:Int)by lia) hs;have kl:=kn.at (j:=p-s) ⋯;rw[show((p-s:Nat):Int)=(p:Int)-(s:Int)by lia,sm]at kl;have D:=DGet.k (k:=.inl ((LO.qU l (p-s):Nat):Int)) hd;rw[wm,kl]at D;simp! only[BP];show(_,_,_,y,rfl,d,_,rfl,D,?_);by_cases hz:(p:Int)%g-(s:Int)=0
 .rw[Zx hz]at D ⊢
  show(false,rfl,Bc (_,_,_,y,rfl,d,_,rfl,D,?_));simp! only[true_and];show(⋯,λt ht=>?_);rw[show(p:Int)-(s:Int)+(s:Int)=(p:Int)by lia,show(s:Int)=(p:Int)%g by lia];show q t ht
 rw[Zo hz];show(true,rfl,Bd (_,_,_,y,rfl,h,_,_,rfl,O,rfl,?_))
 have a7:0<p-s:=by
  rcases Nat.eq_zero_or_pos (p-s)with w|w
  .have:(p:Int)-(s:Int)=0:=⋯
   rw[this,Int.zero_emod]at sm
   lia
  show w
 have S:=LO.L9 (l:=l) (p:=p-s-1) ⋯;rw[show p-s-1+1=p-s by lia]at S;have a6:=LO.r8 (l:=l) (j:=p-s) ⋯;simp![Yg];show(_,_,il,⋯,λc hc=>B c (LO.pN hc),λw=>ZD (⋯,⋯) w,λ_=>?_);rw[Qj,<-LO.fk,S];show(((p:Int)%g).toNat-(s+1),⋯,s+1,rfl,⋯,⋯,?_);rw[show p-(s+1)=p-s-1 by lia];rfl
def qS(K:Qb)(z C:jP):Sp:=λv H Q _=>aR (λx=>aS (λy=>a0 (∃l g,pf C z H x l g/\Qa l<=300/\(∀c∈L y,c≠10)/\Qa (L y)<=1000/\∀I,Zw H I->Q (.int (Qa (plc l (L y)):Nat)) I))) v
theorem mh(F:Fun K "count" "Finder.count" bj f fd)(j:Md P w K mg base CX0 5 Zs "rows" JD [] (Yv K Zd Zs)):Z0 P w K mg base CX0 6 f fd aO (qS K Zd Zs):=by
 show F.ok eA (λC A _ s H R Q E u m=>aR_all m λx _ m=>aS_all m λy _ m=>a0_all m λh=>cC h λl g t O Y v q=>?_)
 repeat clear m
 clear h;show(_,(Ze (Zu 2 eA.nd (mI j u vq0 (Zh vq1))) (Zj (ZC (Zt cV (ZP K vq2 Zl) (ZP K vq2 Zl))))),stR ?_);simp! only[wX,Yv];have I:∃D r,H x=Qr (HO.ins Zs D r)/\r.lookup (Qe "rows")=none:=by show ZH t λd z d1 Z=>Zf Z λJ ex _=>(d,_,ex,rfl)
 show ZS I λd M ex B=>?_;clear I;show(x,_,_,rfl,ex,B,l,g,t,O,Y,v,λp U S hp z=>(_,_,.inr (SqT.of z),rfl,_,_,.inr (SqT.of z),rfl,?_));dsimp only
 have e:((LO.aD l (L y):Nat):Int)-((LO.low l (L y):Nat):Int)=(Qa (plc l (L y)):Nat):=by
  rw[LO.l8];unfold LO.aD
  lia
 rw[e];show q _ S
def qE(K:Qb)(z C:jP):Sp:=λv H Q _=>aR (λx=>aS (λy=>a0 (∃l g,pf C z H x l g/\Qa l<=300/\(∀c∈l,c≠10)/\(∀c∈L y,c≠10)/\Qa (L y)<=1000/\∀p I,Zw H I->H p=Qs->I p=Qr (.lst ((plc l (L y)).map λi:Nat=>V.int i))->Q (.ref p) I))) v
theorem kO(F:Fun K "places" "Finder.places" ao f fd)(B:Bn mg)(M:Md P w K mg base CX0 5 Zs "rows" JD [] (Yv K Zd Zs))(a1:Md P w K mg base (CX1 P w) 5 Zs "walk" cg [] (Ji K c Zd Zs)):Z0 P w K mg base CX0 6 f fd J5 (qE K Zd Zs):=by
 show F.ok dX (λa2 A _ s H vs Q E hr m=>aR_all m λx _ m=>aS_all m λy _ m=>a0_all m λh=>?_)
 repeat clear m
 show zQ h λl g Z=>ZO Z λJ hl R Y hy q=>?_;clear Z h;show(_,(Ze (Zu 2 dX.nd (mI M hr vq0 (Zh vq1))) (Zj (ZC (qk (HI (K:=K) rfl rfl) (by rfl) B.sorted nA (Zh (FR B.range (own:=["row"]) (cp:=[(("self":Str),0)]) rfl (Zk (ZP K vq2 Zl) (Zh (ZP K vq2 Zl))) (λ_ _ _ _=>fX) (λ_ _ _ _=>(ZP K (mI a1.quiet hr vq1 (Zh vq0)) Zl)))))))),stR ?_);simp! only[Yv];have a3:=jT;have j:∃dx v,H x=Qr (HO.ins Zs dx v)/\v.lookup (Qe "rows")=Qs/\v.lookup (Qe "walk")=none:=by show ZH J λD C d1 Z=>Zf Z λa4 ex _=>(D,_,ex,rfl,rfl)
 show Zy j λD a5 ex ef ew=>?_;clear j;show(x,_,_,rfl,ex,ef,l,g,J,hl,Y,hy,λp H1 S hp C=>(_,_,.inr (SqT.of C),rfl,_,_,.inr (SqT.of C),rfl,?_));have hh:=LO.fR l (L y)
 have a6:LO.low l (L y)<=LO.aD l (L y):=Q6 ..
 simp! only[true_and];show((⋯,⋯,⋯,⋯,⋯),λi O d=>Zw H1 O/\d=((Qi i).map λk=>((Ye l (LO.low l (L y)+k):Nat):Int)).map V.int,(Zw.refl _,rfl),?_,?_)
 .intro i O d hi u;obtain⟨I,rfl⟩:=u;simp! only[Ji];have s2:=S.trans I;show(x,_,_,rfl,s2 _ _ ex,ew,l,g,J.same λb o e _=>s2 _ _ e,hl,R,λz=>ZD (⋯,⋯) z,λ_ t ht=>(_,_,.inr (SqT.of Zi),rfl,?_));show(I.upd ht,?_);rw[Q4,uh,uh,show(((LO.low l (L y):Nat):Int)+(i:Int)).toNat=LO.low l (L y)+i by lia];rfl
 rintro O d ⟨I,rfl⟩ p2 U;rw[show(((LO.aD l (L y):Nat):Int)-((LO.low l (L y):Nat):Int)).toNat=LO.aD l (L y)-LO.low l (L y)by lia];show(_,.inl (SqL.of Zi),by rw[jO,uF];lia,λp3 ms r pm pw=>?_);have em:=LO.Di pm pw;subst em;show q p3 _ ((S.trans (I.upd U)).upd r) ((S.trans (I.upd U)).free r) ?_;rw[Zi,u6];rfl
noncomputable def unl(p q:Zg):Nat:=(Qi (min (Qa p) (Qa q))).countP λi=>decide (p.getD i 0≠q.getD i 0)
def qT(K:Qb):Sp:=λv H Q _=>aS (λa=>aS (λb=>a0 (Qa (L a)<=100000/\∀I,Zw H I->Q (.int (unl (L a) (L b):Nat)) I))) v
theorem mD(F:Fun K "unlike_signs" "unlike_signs" bC f fd)(B:Bn mg):Z0 P w K mg base CX0 1 f fd ba (qT K):=by
 show F.ok mZ (λD A _ s H v Q E Y m=>aS_all m λa _ m=>aS_all m λb _ m=>a0_all m λh=>?_)
 repeat clear m
 obtain⟨O,q⟩:=h;show(_,(Zj (ZC (Z4 K B.len (FT B.zip (own:=["sign","beside"]) (cp:=[]) rfl (Zk vq0 (Zh vq1)) (λ_ _ _ _=>yN (ZV rB vq0 vq1)) (λ_ _ _ _=>vq0))))),stR ?_);simp![true_and];show(⋯,λi J d=>Zw H J/\Qa d=(Qi i).countP (λi=>decide ((L a).getD i 0≠(L b).getD i 0)),(Zw.refl _,rfl),?_,?_)
 .rintro i J d t x M ⟨S,I⟩ r;have C:=LO.ae (λi=>decide ((L a).getD i 0≠(L b).getD i 0)) i;show zF (λw=>(S.upd r,?_)) λw=>(S.upd r,?_)
  .have n:(L a).getD i 0≠(L b).getD i 0:=λe=>by rw[e]at w;simp at w
   rw[jR,jW,I,C,Zx (decide_eq_true n)]
  have n:(L a).getD i 0=(L b).getD i 0:=by simp at w;show w
  rw[I,C,Zo (by rw[decide_eq_true_eq];show λz=>z n),Us]
 rintro J d ⟨S,I⟩ l g;show(_,.inl (SqL.of Zi),?_);rw[I];show q _ (S.upd g)
noncomputable def gH(l p:Zg)(s:Int)(n:Nat):J2:=(Qi n).filterMap λi=>if(unl p ((l.drop i).take (Qa p)):Int)<=s then Qr (i,unl p ((l.drop i).take (Qa p)))else Qs
theorem C3(l p:Zg)(s:Int)(n:Nat):gH l p s (n+1)=gH l p s n++(if(unl p ((l.drop n).take (Qa p)):Int)<=s then[(n,unl p ((l.drop n).take (Qa p)))]else[]):=by
 unfold gH;rw[Q4,UV]
 congr 1
 by_cases h:(unl p ((l.drop n).take (Qa p)):Int)<=s<;>simp[h]
theorem xx(l p:Zg)(s:Int)(n:Nat):Qa (gH l p s n)<=n:=by unfold gH;show QC (Wt _ _) ?_;simp
def cX(H:Hp)(Q:List jP)(p:J2):Prop:=Qa Q=Qa p/\∀(j:Nat) t x,Q[j]?=Qr t->p[j]?=Qr x->H t=Qr (.tup [.int (x.1:Int),.int (x.2:Int)])
theorem cX.keep{H I:Hp}{Q:List jP}{p:J2}(h:cX H Q p)(s:∀b d,H b=Qr (.tup d)->I b=Qr (.tup d)):cX I Q p:=(h.1,λj t x a b=>s _ _ (h.2 j t x a b))
theorem cX.snoc{H:Hp}{Q:List jP}{p:J2}{t:jP}{x:Nat×Nat}(h:cX H Q p)(e:H t=Qr (.tup [.int (x.1:Int),.int (x.2:Int)])):cX H (Q++[t]) (p++[x]):=by
 show(by simp[h.1],λj m y q g=>?_);by_cases u:j<Qa Q
 .rw[Qx u]at q;rw[Qx (by rw[<-h.1];show u)]at g;show h.2 j m y q g
 rw[Qt ⋯]at q;rw[Qt (by rw[<-h.1];lia),<-h.1]at g
 have r:j-Qa Q=0:=by
  have:=(Qh.mp q).1;simp at this
  lia
 rw[r]at q g;cases Option.some.inj q;cases Option.some.inj g;show e
def Jl(K:Qb):Sp:=λv H Q _=>aS (λz=>aS (λy=>aI (λs=>a0 (Qa (L z)<=1000/\Qa (L y)<=1000/\∀p I (t:List jP),Zw H I->H p=Qs->I p=Qr (.lst (t.map V.ref))->cX I t (gH (L z) (L y) s ((Qa (L z):Int)-Qa (L y)+1).toNat)->Q (.ref p) I)))) v
theorem ow(F:Fun K "near_places" "near_places" cR f fd)(B:Bn mg)(aN:Fn P w K mg base 1 "unlike_signs" ba (qT K)):Z0 P w K mg base CX0 2 f fd cB (Jl K):=by
 show F.ok Jh (λa1 A _ s H vs Q E hr m=>aS_all m λz _ m=>aS_all m λy _ m=>aI_all m λs _ m=>a0_all m λh=>ZL h λhz hy q=>?_)
 repeat clear m
 clear h;show(_,(Ze (Zu 3 Jh.nd (fW iu)) (Ze (mL PassesOwn.never rfl B.range (Zh (Zt ZJ (Zt cV (Z4 K B.len vq0) (Z4 K B.len vq1)) Zl)) (qai 4 Jh.nd) (YM (Ze (ZK (Zu 5 Jh.nd (Z8 aN hr (Zk vq1 (Zh (YO K vq0 (aE (qv 4)) (aE (Zt ZJ (qv 4) (Z4 K B.len vq1))))))))) (Zj (Z5 (ZV MO (qv 5) vq2) (Zj (qR (YH (K:=K) rfl Ut UK UJ fg vq3 (Zh (zm (Zk (qv 4) (Zh (qv 5)))))))) ZG))))) (Zj (ZC vq3)))),stR ?_);simp! only[Dt,wX];have a2:=jT;show(⋯,λp U=>(⋯,⋯,(⋯,⋯),λi D I=>Zw H I/\∃(R:List jP) (v4 v5:Option V),I p=Qr (.lst (R.map V.ref))/\cX I R (gH (L z) (L y) s i)/\D=[Qr (V.str z),Qr (V.str y),Qr (V.int s),Qr (V.ref p),v4,v5],(Zw.updN U,[],_,_,Zi,(rfl,λj t x r=>by simp at r),rfl),?_,?_))
 .intro i D I hi u;show ZI u λM Y=>Z6 Y λR v4 v5 O g Z=>?_;clear Y u;subst Z;show zx (λd v=>Zw I v/\d=[Qr (V.str z),Qr (V.str y),Qr (V.int s),Qr (V.ref p),Qr (V.int (i:Int)),Qr (V.int (unl (L y) (((L z).drop i).take (Qa (L y))):Nat))]) ?_ ?_
  .simp! only[qT];rw[WJ,lJ];show(⋯,⋯,⋯,λH2 S=>(S,rfl))
  intro _ H2 u;obtain⟨S,rfl⟩:=u;have J:=S _ _ O;have C:=g.keep λb xs e=>S _ _ e;have nl:=xx (L z) (L y) s i;rw[<-g.1]at nl;simp![leV];rw[C3];show zF (λw=>?_) λw=>?_
  .rw[Zx w];show(.inl (_,SqL.of J),⋯,λt r=>?_);have np:=Zm J r;show(p,_,_,rfl,rfl,(Zn np).trans J,by rw[jO];lia,mU ((M.trans S).upd r) U,R++[t],_,_,?_,cX.snoc (C.keep λb xs e=>?_) ?_,rfl)
   .rw[Zi,uh];rfl
   .have bp:b≠p:=λw=>by rw[w,J]at e;cases e
    show(Zn bp).trans ((Zn (Zm e r)).trans e)
   show(Zn (Ne.symm np)).trans Zi
  rw[Zo w,vx];show(M.trans S,R,_,_,J,C,rfl)
 intro D I u;show ZI u λM Y=>Z6 Y λR v4 v5 O g Z=>?_;subst Z;simp! only[true_and];show q p I R M U O g
def Jk(K:Qb):Sp:=λv H Q _=>aS (λa=>aS (λb=>a0 (Qa (L a)<=100000/\Qa (L b)<=100000/\Q (.int (com (L a) (L b):Nat)) H))) v
theorem ou(F:Fun K "common_size" "common_size" cQ f fd)(B:Bn mg):Z0 P w K mg base CX0 1 f fd cA (Jk K):=by
 show F.pure Jg (λC A outer s H g Q E hr r=>aS_all r λa _ r=>aS_all r λb _ r=>a0_all r λh=>?_)
 repeat clear r
 show ZL h λha S q=>?_;clear h;show(_,(Ze (Zu 2 Jg.nd (qk (NU rfl) (by rfl) B.min HA (Zk (Z4 K B.len vq0) (Zh (Z4 K B.len vq1))))) (Ze (Zu 3 Jg.nd Zl) (Ze (tP PassesOwn.never (kU (PW.pt (tR (ZV rA vq3 vq2) (mM (ZV bf (ZP K vq0 vq3) (ZP K vq1 vq3)))))) (YM (Zj (rZ (i:=3) C7 Jg.nd rfl (by ac_nf) Zl)))) (Zj (ZC vq3))))),stR ?_);dsimp only[WN,Qa,aR,aS,aI,aB,a0,o0,aV,Fp,Fq,gh,L2.JZ,uo,QaR,jV,uC,uw,Qal,uN,u9,Nat.reduceAdd,Nat.reduceSub,Int.reduceLT,Int.reduceLE,true_and,and_true,decide_eq_true_eq,if_true,if_false,String.reduceEq,Vx,Vf,QX,decide_true,decide_false,Qar,Qas,gS,oG,tC,Gj,xK,we,qW,Gi,xM,xJ,Gf,tOp,tUn,tCB,kj,oU,Gk,Gg,tFn,tB2,Ge,tOr,Gh,trV,tSl,iX,pT,Gu,vOr,LJ,E1,FE,yw,lV,ltV,eqR,neR,sc,isV,Bb,FG,ixV,slV,wI,CO,isS,Bs,yC,pG,tBM,Ln,tyV,tFE,L_T,tWh];have d:=jT
 show(⋯,⋯,λm D J=>J=H/\∃n:Nat,D=[Qr (V.str a),Qr (V.str b),Qr (V.int (min (Qa (L a)) (Qa (L b)))),Qr (V.int n)]/\n<=Qa (L a)/\n<=Qa (L b)/\m=Qa (L a)-n/\∀j,j<n->(L a)[j]?=(L b)[j]?,
  (_,rfl,0,rfl,Qo _,Qo _,rfl,λj v=>ZD v (VF _)),?_)
 intro m D J t;show ZI t λu Y=>JN Y λn Z x O R I=>?_;clear Y t;subst u;subst Z;subst R
 simp_all![aR,aS,aI,aB,a0,o0,aV,Fp,Fq,gh,L2.JZ,uo,QaR,jV,uC,uw,Qal,uN,u9,Nat.reduceAdd,Nat.reduceSub,Int.reduceLT,Int.reduceLE,true_and,and_true,decide_eq_true_eq,if_true,if_false,String.reduceEq,Vx,Vf,QX,decide_true,decide_false,Qar,Qas,gS,oG,tC,Gj,xK,we,qW,Gi,xM,xJ,Gf,tOp,tUn,tCB,kj,oU,Gk,Gg,tFn,tB2,Ge,tOr,Gh,trV,tSl,iX,pT,Gu,vOr,LJ,E1,FE,yw,lV,ltV,eqR,neR,sc,isV,Bb,FG,ixV,slV,wI,CO,isS,Bs,yC,pG,tBM,Ln,tyV,tFE,L_T,BP]
 show zF (λy=>?_) λy=>?_
 .have U:n<Qa (L a):=⋯
  have p:n<Qa (L b):=⋯
  show(⋯,_,atN U,⋯,_,atN p,zF (λe=>?_) λe=>?_)
  .show(Qa (L a)-(n+1),⋯,n+1,rfl,U,p,rfl,λj v=>?_);by_cases M:j<n;show I j M;have:j=n:=⋯
   subst this;rw[lR U,lR p,UM e]
  have:com (L a) (L b)=n:=Cw _ _ n x O I (.inr (.inr λz=>e (by rw[lR U,lR p]at z;rw[Option.some.inj z])));rw[<-this];show(Zw.refl _,q)
 have:com (L a) (L b)=n:=Cw _ _ n x O I ⋯;rw[<-this];show(Zw.refl _,q)
def YD(K:Qb)(c:Cs):Sp:=λv H Q E=>aS (λz=>aI (λi=>aI (λj=>a0 (Qa (L z)<=1000/\((0<=i/\i<=Qa (L z))/\(0<=j/\j<=Qa (L z))->Q (.int (com ((L z).drop i.toNat) ((L z).drop j.toNat):Nat)) H)/\(¬((0<=i/\i<=Qa (L z))/\(0<=j/\j<=Qa (L z)))->E (.ref c.NoPlace) Qs H))))) v
theorem ox(F:Fun K "shared_size" "shared_size" cS f fd)(B:Bn mg)(Z:FnX P w K mg base 1 "check_place" zP (ZX K c))(D:Fn P w K mg base 1 "common_size" cA (Jk K)):Z0 P w K mg base (CX1 P w) 2 f fd JE (YD K c):=by
 show F.okX oT (λC A _ s H v Q E Y m=>aS_all m λz _ m=>aI_all m λi _ m=>aI_all m λj _ m=>a0_all m λh=>ZL h λO q e=>?_)
 repeat clear m
 clear h;show(_,(Ze (qR (Yp ZU.toTk Z Y (Zk vq1 (Zh (Z4 K B.len vq0))))) (Ze (qR (Yp ZU.toTk Z Y (Zk vq2 (Zh (Z4 K B.len vq0))))) (Zj (ZC (Z8 D Y (Zk (YO K vq0 (aE vq1) qd) (Zh (YO K vq0 (aE vq2) qd)))))))),stR ?_);dsimp![ZX,Jk];have d:=jT;show(⋯,λp=>(⋯,λu=>(⋯,⋯,?_),λu=>e λz=>u z.2),λp=>e λz=>p z.1);have q:=q (p,u);have r:cut (L z) (Qr i) Qs=(L z).drop i.toNat:=by rw[show i=((i.toNat:Nat):Int)by lia,af,Qj]
 have x:cut (L z) (Qr j) Qs=(L z).drop j.toNat:=by rw[show j=((j.toNat:Nat):Int)by lia,af,Qj]
 rw[r,x];show(by rw[uf];lia,by rw[uf];lia,q)
structure SE(tb:jP)(H H':Hp):Prop where
 n:zy H H'
 e:YZ tb H H'
 b:Zv tb H'
section
variable{tb:jP}{H H1 H2:Hp}
theorem SE.same(a:SE tb H H1)(s:Zw H1 H2):SE tb H H2:=(a.n.trans s.toN,a.e.trans s.toE,Yc a.b s)
theorem SE.lst{p:jP}{x:ZE}{o:HO}(a:SE tb H H1)(j:H p=Qs)(y:H1 p=Qr (.lst x)):SE tb H (upd H1 p o):=(F4 a.n j,λb u m q=>(Zn (by rintro rfl;rw[j]at q;cases q)).trans (a.e b u m q),OX a.b y)
theorem SE.trans(a:SE tb H H1)(b:SE tb H1 H2):SE tb H H2:=(a.n.trans b.n,a.e.trans b.e,b.b)
end
def YW(K:Qb)(t:jP):Sp:=λv H Q _=>aS (λz=>a0 (Qa (L z)<=300/\Zv t H/\∀p I,SE t H I->H p=Qs->I p=Qr (.lst ((LO.cms (L z)).map λn:Nat=>V.int n))->Q (.ref p) I)) v
theorem rE(F:Fun K "commons_of" "commons_of" dS f fd)(B:Bn mg)(ZZ:Fn P w K mg base 3 "order_of" zX (zd K Zb))(zO:FnX P w K mg base 2 "shared_size" JE (YD K c)):Z0 P w K mg base CX0 4 f fd J7 (YW K Zb):=by
 show F.ok gI (λa2 A _ s H vs Q E hr m=>aS_all m λz _ m=>a0_all m λh=>ZL h λhl bk q=>?_)
 repeat clear m
 clear h;show(_,(Ze (Zu 1 gI.nd (Z8 ZZ hr (Zh vq0))) (Zj (ZC (Zt ZJ (fW (Zh Zl)) (BK K B.zip (own:=["one","other"]) (cp:=[(("text":Str),0)]) rfl (Zk vq1 (Zh (YO K vq1 (aE Zl) qd))) (λ_ _ _ _=>fX) (λ_ _ _ _=>(Z8 zO.quiet hr (Zk vq2 (Zk vq0 (Zh vq1)))))))))),stR ?_);simp! only[zd,YD];have a3:=jT;show(hl,bk,λp I J j C hp M=>?_);have a1:SE Zb H I:=(J,j,C);have ol:=LO.zT (L z);show(⋯,λY D=>?_);have u:upd I Y (HO.lst [V.int 0]) p=_:=(Zn (Zm M D)).trans M;show(_,SqL.of u,λq1 O=>?_);rw[show(Qr (1:Int))=Qr ((1:Nat):Int)from rfl,af];generalize r:upd (upd I Y (HO.lst [V.int 0])) q1 (HO.lst (((LO.ord (L z)).map λi:Nat=>V.int i).drop 1))=HZ;have k1:HZ p=Qr (HO.lst ((LO.ord (L z)).map λi:Nat=>V.int i)):=by rw[<-r];show(Zn (Zm u O)).trans u
 have k2:HZ q1=Qr (HO.lst (((LO.ord (L z)).map λi:Nat=>V.int i).drop 1)):=by rw[<-r];show Zi
 have k3:HZ Y=Qr (HO.lst [V.int 0]):=by rw[<-r];show sh O
 have aZ:SE Zb H HZ:=a1.same (by rw[<-r];show Zw.upd (Zw.updN D) O);clear r O u;show(_,_,SqL.of k1,SqL.of k2,by rw[jO];lia,λi R d=>Zw HZ R/\d=((Qi i).map λk=>com ((L z).drop ((LO.ord (L z)).getD k 0)) ((L z).drop ((LO.ord (L z)).getD (k+1) 0))).map λn:Nat=>V.int n,(Zw.refl _,rfl),?_,?_,?_)
 .intro i R d _ v;obtain⟨S,_⟩:=v;show(S.seq (SqL.of k1),S.seq (SqL.of k2))
 .rintro i x y R d t hx hy ⟨S,rfl⟩ ht;rw[Qm]at hx;rw[Uq,Qm,V1]at hy;show Zf (Qv.mp hx) λj1 e1 Z=>?_;subst Z;show Zf (Qv.mp hy) λj2 e2 Z=>?_;subst Z;have l1:j1<=Qa (L z):=LO.Y2.mp (QD e1);have l2:j2<=Qa (L z):=LO.Y2.mp (QD e2);have d1:(LO.ord (L z)).getD i 0=j1:=by rw[Qc,e1];rfl
  have d2:(LO.ord (L z)).getD (i+1) 0=j2:=by rw[Qc,e2];rfl
  show(⋯,λ_=>(Zw.upd S ht,?_),λz=>ZD ((⋯,⋯),⋯,⋯) z);rw[Q4,uh,uh,uZ,uZ,d1,d2];rfl
 rintro R d ⟨S,rfl⟩ l g;rw[uf,jO,ol,show min (Qa (L z)+1) (Qa (L z)+1-1)=Qa (L z)by lia];show(Y,l,_,_,rfl,rfl,(Zn (Zm (S _ _ k3) g)).trans (S _ _ k3),Zi,by simp;lia,λp2 U=>?_);show q p2 _ (aZ.same (Zw.upd (Zw.upd S g) U)) ((aZ.same (Zw.upd S g)).n.free U) ?_;rw[Zi];rfl
noncomputable def kdS(x:Zg):Int:=1+((Qi (Qa x+1)).map λk=>(Qa x:Int)-((LO.ord x).getD k 0:Int)-(LO.cmx x k:Int)).sum
def bH(K:Qb)(t:jP):Sp:=λv H Q _=>aS (λz=>a0 (Qa (L z)<=300/\Zv t H/\∀I,SE t H I->Q (.int (kdS (L z))) I)) v
theorem wL(F:Fun K "kinds_in" "kinds_in" f7 f fd)(B:Bn mg)(ZZ:Fn P w K mg base 3 "order_of" zX (zd K Zb))(qg:Fn P w K mg base 4 "commons_of" J7 (YW K Zb)):Z0 P w K mg base CX0 5 f fd fJ (bH K Zb):=by
 show F.ok wU (λa1 A _ s H vs Q E D m=>aS_all m λz _ m=>a0_all m λh=>ZL h λR bk q=>?_)
 repeat clear m
 clear h;show(_,(Zj (ZC (Zt ZJ Zl (qk (HK (K:=K) rfl rfl) (by rfl) B.sum Ct (Zh (BK K B.zip (own:=["place","common"]) (cp:=[(("text":Str),0)]) rfl (Zk (Z8 ZZ D (Zh vq0)) (Zh (Z8 qg D (Zh vq0)))) (λ_ _ _ _=>fX) (λ_ _ _ _=>(Zt cV (Zt cV (Z4 K B.len vq2) vq0) vq1)))))))),stR ?_);simp! only[zd,YW];have a3:=jT;show(R,bk,λp H1 I v r hp h1=>(R,r,λp2 O a2 a4 J=>?_));have j:=a2.n.at h1 (by nofun);have ol:=LO.zT (L z);have cl:=LO.yj (L z);have aZ:SE Zb H O:=SE.trans (I,v,r) a2;show(_,_,SqL.of j,SqL.of J,by rw[jO];lia,λi Y d=>Zw O Y/\d=((Qi i).map λk=>(Qa (L z):Int)-((LO.ord (L z)).getD k 0:Int)-(LO.cmx (L z) k:Int)).map V.int,(Zw.refl _,rfl),?_,?_,?_)
 .intro i Y d _ u;obtain⟨S,_⟩:=u;show(S.seq (SqL.of j),S.seq (SqL.of J))
 .rintro i x y Y d t C U ⟨S,rfl⟩ ht;rw[Qm]at C U;show Zf (Qv.mp C) λj1 e1 Z=>?_;subst Z;show Zf (Qv.mp U) λj2 M Z=>?_;subst Z;have hi:i<Qa (LO.cms (L z)):=(Qh.mp M).1;have d1:(LO.ord (L z)).getD i 0=j1:=by rw[Qc,e1];rfl
  have d2:LO.cmx (L z) i=j2:=by unfold LO.cmx;rw[Qc,Qx hi,M];rfl
  simp! only[true_and];show(⋯,Zw.upd S ht,?_);rw[Q4,uh,uh,uZ,uZ,d1,d2]
 rintro Y d ⟨S,rfl⟩ l g;show(_,SqL.of Zi,?_);rw[jO,jO,ol,cl,WF];show q _ (aZ.same (Zw.upd S g))
def JG(K:Qb)(t:jP):Sp:=λv H Q _=>aS (λz=>a0 (Qa (L z)<=300/\Zv t H/\∀p I,SE t H I->H p=Qs->I p=Qr (.lst (LO.lns (L z)))->Q (.ref p) I)) v
theorem rG(F:Fun K "lone_sizes" "lone_sizes" dW f fd)(B:Bn mg)(ZZ:Fn P w K mg base 3 "order_of" zX (zd K Zb))(qg:Fn P w K mg base 4 "commons_of" J7 (YW K Zb)):Z0 P w K mg base CX0 5 f fd dE (JG K Zb):=by
 show F.ok YT (λa8 A _ s H vs Q E hr R=>aS_all R λz _ R=>a0_all R λh=>ZL h λhl bk q=>?_)
 repeat clear R
 clear h;show(_,(Ze (Z5 (ZV bf vq0 Zr) (Zj (ZC (fW (Zh Zl)))) ZG) (Ze (Zu 1 YT.nd (Zt BA (fW (Zh kR)) (Zt ZJ (Z4 K B.len vq0) Zl))) (Ze (Zu 2 YT.nd (Zt ZJ (Z8 qg hr (Zh vq0)) (fW (Zh Zl)))) (Ze (Ez (K:=K) rfl PassesOwn.never rfl B.enumerate (Zh (Z8 ZZ hr (Zh vq0))) (qai 3 YT.nd) (qai 4 YT.nd) (YM (Ze (Zu 5 YT.nd (Zt ZJ Zl (qk (D0 rfl) (by rfl) B.max yc (Zk (ZP K vq2 vq3) (Zh (ZP K vq2 (Zt ZJ vq3 Zl))))))) (Zj (Z5 (ZV MO (Zt ZJ (qv 4) (qv 5)) (Z4 K B.len vq0)) (Zj (tO (qv 5) (Rv vq1 (qv 4) R7))) ZG))))) (Zj (ZC vq1)))))),stR ?_);simp![zd,YW];have a9:=jT;have ee:L (Qe "")=[]:=by rfl'
 rw[ee];show zF (λh0=>?_) λh0=>?_
 .show(⋯,λp C=>q p _ ((Zw.updN C).toN,(Zw.updN C).toE,bk.put C) C ?_);rw[Zi];unfold LO.lns;rw[Zx h0]
 have a7:0<Qa (L z):=vU.mpr h0;show(⋯,λp C=>(⋯,p,_,[V.non],rfl,rfl,Zi,⋯,⋯,by rw[jW];lia,λU D=>?_));rw[Il,show((Qa (L z):Int)+1).toNat=Qa (L z)+1 by lia,<-LO.Ke];have M:=(nj D).1;have s1:SE Zb H (upd (upd H p (HO.lst [V.non])) U (HO.lst (LO.lnk (L z) 0))):=((Zw.upd (Zw.updN C) D).toN,(Zw.upd (Zw.updN C) D).toE,(bk.put C).put D);have h1:upd (upd H p (HO.lst [V.non])) U (HO.lst (LO.lnk (L z) 0)) U=Qr (HO.lst (LO.lnk (L z) 0)):=Zi
 generalize upd (upd H p (HO.lst [V.non])) U (HO.lst (LO.lnk (L z) 0))=H1 at s1 h1 ⊢
 show(hl,s1.b,λp2 H2 s2 ab h2=>(⋯,λr m=>?_));have a2:=s2.n.at h1 (by nofun);show(p2,r,_,_,rfl,rfl,(Zn (Zm h2 m)).trans h2,Zi,by rw[jO,LO.yj];simp;lia,λy J=>?_);have e4:((LO.cms (L z)).map λn:Nat=>V.int n)++[V.int 0]=(LO.cms (L z)++[0]).map λn:Nat=>V.int n:=by rw[uh];rfl
 rw[e4];have s4:SE Zb H (upd (upd H2 r (HO.lst [V.int 0])) y (HO.lst ((LO.cms (L z)++[0]).map λn:Nat=>V.int n))):=(s1.trans s2).same (Zw.upd (Zw.updN m) J);have h4:upd (upd H2 r (HO.lst [V.int 0])) y (HO.lst ((LO.cms (L z)++[0]).map λn:Nat=>V.int n)) y=Qr (HO.lst ((LO.cms (L z)++[0]).map λn:Nat=>V.int n)):=Zi;have d:upd (upd H2 r (HO.lst [V.int 0])) y (HO.lst ((LO.cms (L z)++[0]).map λn:Nat=>V.int n)) U=Qr (HO.lst (LO.lnk (L z) 0)):=Zw.upd (Zw.updN m) J _ _ a2
 generalize upd (upd H2 r (HO.lst [V.int 0])) y (HO.lst ((LO.cms (L z)++[0]).map λn:Nat=>V.int n))=H4 at s4 h4 d ⊢
 show(hl,s4.b,λp5 H5 s5 e5 b5 Z h5=>?_);have a3:=s5.at d (by nofun);have a4:=s5.at h4 (by nofun);have a6:p5≠U:=by rintro rfl;rw[d]at Z;cases Z
 have a5:y≠U:=by rintro rfl;rw[h4]at d;have z:=HO.lst.inj (Option.some.inj d);have z:=congrArg (λl:ZE=>l[0]?) z;simp[LO.cms,LO.lnk]at z
 have hz:SE Zb H H5:=s4.trans (s5,e5,b5);have ol:=LO.zT (L z);show(_,SqL.of h5,λk O I=>(∃v3 v4 v5,O=[Qr (V.str z),Qr (V.ref U),Qr (V.ref y),v3,v4,v5])/\SE Zb H I/\I U=Qr (.lst (LO.lnk (L z) k))/\I y=Qr (HO.lst ((LO.cms (L z)++[0]).map λn:Nat=>V.int n))/\I p5=Qr (HO.lst ((LO.ord (L z)).map λi:Nat=>V.int i)),((_,_,_,rfl),hz,a3,a4,h5),?_,?_,?_)
 .intro k O I _ u;show qN u λ_ _ _ _ g=>?_;clear u;show SqL.of g
 .rintro k x O I t hx ⟨⟨v3,v4,v5,rfl⟩,sm,g1,g4,g⟩ ht;rw[Qm]at hx;show Zf (Qv.mp hx) λY v a1=>?_;subst a1;have ak:Y<=Qa (L z):=LO.Y2.mp (QD v);have hk:k<Qa (L z)+1:=by rw[<-ol];show(Qh.mp v).1
  have rk:=LO.fZ v;have S:SE Zb H (upd I t (HO.tup [V.int k,V.int Y])):=sm.same (Zw.updN ht);have k1:upd I t (HO.tup [V.int k,V.int Y]) U=_:=(Zn (Zm g1 ht)).trans g1;have j:upd I t (HO.tup [V.int k,V.int Y]) y=_:=(Zn (Zm g4 ht)).trans g4;have k5:upd I t (HO.tup [V.int k,V.int Y]) p5=_:=(Zn (Zm g ht)).trans g
  generalize upd I t (HO.tup [V.int k,V.int Y])=H6 at S k1 j k5 ⊢
  simp! only[true_and];show(_,_,.inl (SqL.of j),LO.HP (L z) ⋯ ⋯,_,_,.inl (SqL.of j),LO.HP (L z) ⋯ ⋯,?_);simp![true_and];rw[Qj,show((k:Int)+1).toNat=k+1 by lia];have em:(1+max (LO.cmx (L z) k:Int) (LO.cmx (L z) (k+1):Int))=((1+max (LO.cmx (L z) k) (LO.cmx (L z) (k+1)):Nat):Int):=⋯
  rw[em];show(⋯,zF (λhf=>(_,k1,Y,?_,(_,_,_,rfl),S.lst M k1,?_,(Zn a5).trans j,(Zn a6).trans k5)) λhf=>((_,_,_,rfl),S,?_,j,k5))
  .unfold ixN;rw[Zx ⋯,Zx (by rw[LO.MG];lia),Qj]
  .have:LO.yA (L z) Y=Qr (1+max (LO.cmx (L z) k) (LO.cmx (L z) (k+1))):=by unfold LO.yA;rw[rk,Zx ⋯]
   rw[Zi,<-LO.Kd v,this];rfl
  have:LO.yA (L z) Y=none:=by unfold LO.yA;rw[rk,Zo ⋯]
  rw[k1,LO.Kc v this]
 intro O I u;obtain⟨⟨v3,v4,v5,rfl⟩,sm,g1,g4,g⟩:=u;simp! only[true_and];show q U I sm M ?_;rw[g1,jO,ol,LO.MH h0 (Qg _)]
def zu(K:Qb)(c:Cs)(C:jP):Sp:=λv H Q E=>aS (λz=>aI (λt=>a0 (Qa (L z)<=300/\Zv C H/\(t<1->E (.ref c.NoTimes) Qs H)/\(¬t<1->((Qa (L z):Int)+1<t->∀I,SE C H I->Q .non I)/\(t<=Qa (L z)+1->∀u I,SE C H I->LO.Lng (L z) t.toNat (Qa (L z)+2-t.toNat) u->Q (.str (T u)) I))))) v
theorem JO{f:jP}{fd:uY}{T:jP}(F:xT K "longest_often" "longest_often" Yf f T fd)(B:Bn mg){Zb:jP}{c:Cs}(ER:Er K mg c){Ya zo zE:jP}(TP:Tp K w.params mg Ya zo zE){Zd Zs ZM:jP}(CF:Cf K Zd Zs ZM)(GC:Gc mg)(ZZ:Fn P w K mg base 3 "order_of" zX (zd K Zb))(zO:FnX P w K mg base 2 "shared_size" JE (YD K c)):Z0 P w K mg base (CX1 P w) 4 f fd zb (zu K c Zb):=by
 show F.okX zG (λa5 A _ s H vs Q E hr C=>aS_all C λz _ C=>aI_all C λt _ C=>a0_all C λh=>za h λhl bk e q=>?_)
 repeat clear C
 clear h;show(_,(Ze (ZK (Z5 (ZV rA vq1 Zl) (Zj (YI ZU ER.qaD ER.qaM (Zh Zr))) ZG)) (Ze (Zu 2 zG.nd (Z8 ZZ hr (Zh vq0))) (Ze (ZK (Z5 (ZV nT vq1 (Z4 K B.len vq2)) (Zj (ZC kR)) ZG)) (Ze (Zu 3 zG.nd Zr) (Ze (RK (K:=K) rfl ZU.own rfl B.zip (Zk vq2 (Zh (YO K vq2 (aE (Zt cV vq1 Zl)) qd))) (qai 4 zG.nd) (qai 5 zG.nd) (YM (Ze (ZK (Zu 6 zG.nd (Yp ZU.toTk zO hr (Zk vq0 (Zk (qv 4) (Zh (qv 5))))))) (Zj (Z5 (ZV nT (qv 6) (Z4 K B.len vq3)) (Zj (Zu 3 zG.nd (YO K vq0 (aE (qv 4)) (aE (Zt ZJ (qv 4) (qv 6)))))) ZG))))) (Zj (ZC vq3))))))),stR ?_);have a6:=jT;show zx (λd I=>I=H/\¬t<1/\d=[Qr (V.str z),Qr (V.int t),Qs,Qs,Qs,Qs,Qs]) ?_ ?_
 .simp![true_and];show zF (λw=>(∅,e w)) λw=>w
 intro _ H v;obtain⟨rfl,ht,rfl⟩:=v;obtain⟨q1,R⟩:=q ht;simp! only[zd];show(hl,bk,λp J M D r hp Z=>?_);have ol:=LO.zT (L z);have Y:Qa ((LO.ord (L z)).map λi:Nat=>V.int i)=Qa (L z)+1:=by rw[jO,ol]
 show zx (λd I=>I=J/\t<=Qa (L z)+1/\d=[Qr (V.str z),Qr (V.int t),Qr (V.ref p),Qs,Qs,Qs,Qs]) ?_ ?_
 .simp![gtV];show(_,.inl (SqL.of Z),zF (λw=>?_) λw=>?_)
  .rw[Y]at w;show q1 ⋯ _ (M,D,r)
  rw[Y]at w
  lia
 intro _ J v;obtain⟨rfl,a4,rfl⟩:=v;obtain⟨m,rfl⟩:∃m:Nat,t=(m:Int):=(t.toNat,⋯);rw[Qj]at R;have R:=R a4;simp! only[Sd,T8,wX];have ec:cut ((LO.ord (L z)).map λi:Nat=>V.int i) (Qr ((m:Int)-1)) Qs=((LO.ord (L z)).map λi:Nat=>V.int i).drop (m-1):=by rw[show(m:Int)-1=((m-1:Nat):Int)by lia,af]
 show(_,SqL.of Z,λg U=>?_);rw[ec];have eE:L (Qe "")=[]:=by rfl'
 have eT:Qe ""=L2.T []:=by rw[<-eE,T_L]
 have s2:Zw J (upd J g (HO.lst (((LO.ord (L z)).map λi:Nat=>V.int i).drop (m-1)))):=Zw.updN U;have a2:Zv Zb (upd J g (HO.lst (((LO.ord (L z)).map λi:Nat=>V.int i).drop (m-1)))):=r.put U;have g2:upd J g (HO.lst (((LO.ord (L z)).map λi:Nat=>V.int i).drop (m-1))) g=Qr (HO.lst (((LO.ord (L z)).map λi:Nat=>V.int i).drop (m-1))):=Zi
 generalize upd J g (HO.lst (((LO.ord (L z)).map λi:Nat=>V.int i).drop (m-1)))=H2 at s2 a2 g2 ⊢
 have g1:=s2 _ _ Z;have dl:Qa (((LO.ord (L z)).map λi:Nat=>V.int i).drop (m-1))=Qa (L z)+1-(m-1):=by rw[uf,Y]
 show(_,_,SqL.of g1,SqL.of g2,λk O I=>Zw H2 I/\∃u v4 v5 v6,LO.Lng (L z) m k u/\O=[Qr (V.str z),Qr (V.int (m:Int)),Qr (V.ref p),Qr (V.str (L2.T u)),v4,v5,v6],(Zw.refl _,[],_,_,_,LO.Kb ⋯,by rw[eT]),?_,?_,?_)
 .intro k O I _ v;obtain⟨S,_⟩:=v;show(SqL.of (S _ _ g1),SqL.of (S _ _ g2))
 .rintro k x y O I t hx hy ⟨S,u,v4,v5,v6,lg,rfl⟩ a3;rw[Qm]at hx;obtain⟨i,ei,rfl⟩:=Qv.mp hx;rw[Uq,Qm]at hy;obtain⟨j,ej,rfl⟩:=Qv.mp hy;have oi:Ye (L z) k=i:=by unfold Ye;rw[Qc,ei];rfl
  have oj:Ye (L z) (k+(m-1))=j:=by unfold Ye;rw[V1 k,Qc,ej];rfl
  have hi:=LO.Y2.mp (QD ei);have hj:=LO.Y2.mp (QD ej);have hk:m-1+k<Qa (LO.ord (L z)):=(Qh.mp ej).1;have ul:=LO.Bh (QC ⋯ lg.one);have st:Zw I (upd I t (HO.tup [V.int (i:Int),V.int (j:Int)])):=Zw.updN a3
  generalize upd I t (HO.tup [V.int (i:Int),V.int (j:Int)])=H3 at st ⊢
  show zx (λd a1=>a1=H3/\d=[Qr (V.str z),Qr (V.int (m:Int)),Qr (V.ref p),Qr (V.str (L2.T u)),Qr (V.int (i:Int)),Qr (V.int (j:Int)),Qr (V.int (LO.sz (L z) m k:Nat))]) ?_ ?_
  .simp![YD];show(⋯,λ_=>?_,λw=>ZD ((⋯,⋯),⋯,⋯) w);unfold LO.sz;rw[Qj,Qj,oi,oj]
  intro _ H3 v;obtain⟨rfl,rfl⟩:=v;simp![gtV];have em:cut (L z) (Qr (i:Int)) (Qr ((i:Int)+((LO.sz (L z) m k:Nat):Int)))=LO.pc (L z) m k:=by rw[lJ];unfold LO.pc;rw[oi]
  rw[em];show(⋯,zF (λw=>(⋯,S.trans st,_,_,_,_,lg.take ⋯ ⋯ ⋯,rfl)) λw=>(S.trans st,_,_,_,_,lg.keep ⋯ ⋯,rfl))
 intro O I v;obtain⟨S,u,v4,v5,v6,lg,rfl⟩:=v;rw[Y,dl,show min (Qa (L z)+1) (Qa (L z)+1-(m-1))=Qa (L z)+2-m by lia]at lg;simp! only[true_and];show R u I (SE.same (M,D,r) (s2.trans S)) lg
def qf(K:Qb)(C:jP):Sp:=λv H Q _=>aR (λx=>aS (λy=>aI (λe=>a0 (∃(l:Zg) (n:Nat),e=(n:Int)/\Jq C H x (LO.Z3 l) (LO.qB l)/\Qa l<=300/\n<=Qa (L y)/\Qa (L y)<=1000/\(∀c∈L y,c≠10)/\
 ∀p I,Zw H I->H p=Qs->I p=Qr (.tup [.int (LG.lg l ((L y).take n):Nat),.int (LO.low l (LG.suf ((L y).take n) (LG.lg l ((L y).take n))):Nat),.int (LO.aD l (LG.suf ((L y).take n) (LG.lg l ((L y).take n))):Nat)])->Q (.ref p) I)))) v
theorem i5(F:Fun K "longest_ending" "longest_ending" JT f fd)(CF:Cf K Zd Zs ZM)(a6:Md P w K mg base (CX1 P w) 4 Zd "rows_with" YJ [] (zB K c Zd)):Z0 P w K mg base CX0 5 f fd JJ (qf K Zd):=by
 show F.ok zK (λa7 A _ s H vs Q E hr C=>aR_all C λx _ C=>aS_all C λy _ C=>aI_all C λe _ C=>a0_all C λh=>?_)
 repeat clear C
 show zQ h λl n Z=>ZO Z λa1 il hl hn hy Z=>ZI Z λa5 q=>?_;clear Z h;subst a1;show(_,(Ze (Zu 3 zK.nd Zl) (Ze (Zu 4 zK.nd (zm (Zk Zl (Zh (Zt ZJ (YL CF.qaa CF.qac vq0) Zl))))) (Ze (tP PassesOwn.never (kU (ZV rA vq3 vq2)) (YM (Ze (ZK (Zu 5 zK.nd (mI a6.quiet hr vq0 (Zk (ZP K vq1 (Zt cV (Zt cV vq2 vq3) Zl)) (Zh (qv 4)))))) (Ze (Z5 (ZV bf (ZP K (qv 5) Zl) (ZP K (qv 5) Zl)) (Zj KW) ZG) (Ze (Zu 4 zK.nd (qv 5)) (Zj (rZ (i:=3) C7 zK.nd rfl (by ac_nf) Zl))))))) (Zj (ZC (zm (Zk vq3 (Zk (ZP K (qv 4) Zl) (Zh (ZP K (qv 4) Zl)))))))))),stR ?_);simp! only[tWh];have a8:=jT;have ll:=LO.qy l;have U:=il;show Z6 U λdx a9 fo hx _ hm=>?_;clear U;show(_,_,_,hx,rfl,?_);simp! only[tWh];have ul:Qa ((L y).take n)=n:=by rw[jZ];lia
 have g:∀c∈(L y).take n,c≠10:=λc hc=>a5 c (Uc hc);have ug:∀i,i<n->((L y).take n).getD i 0=(L y).getD i 0:=λi hi=>by rw[Qc,U7 hi,<-Qc]
 generalize(L y).take n=u at q ul g ug;have s0:LG.suf u 0=[]:=by unfold LG.suf;rw[Vg,UE]
 show(⋯,λp0 D=>(λk σ O=>∃(i:Nat) (p:jP) (v:Option V),k=n-i/\i<=n/\σ=[Qr (V.ref x),Qr (V.str y),Qr (V.int (n:Int)),Qr (V.int (i:Int)),Qr (V.ref p),v]/\Zw H O/\H p=Qs/\LO.ai l (LG.suf u i)≠0/\O p=Qr (.tup [.int (LO.low l (LG.suf u i):Nat),.int (LO.aD l (LG.suf u i):Nat)]),(_,0,p0,_,rfl,Qo _,rfl,Zw.updN D,D,?_,?_),?_))
 .rw[s0];show LG.Bp l
 .rw[Zi,s0,LO.rV,LO.sR,ll];rfl
 intro k σ O B;show ZH B λi p v Z=>ZO Z λa2 hi a4 I hp Z=>ZI Z λmi J=>?_;clear Z B;subst a2;subst a4;simp![true_and];have d:i=n\/LO.ai l (LG.suf u (i+1))=0->∀{Y:Hp},Zw O Y->∀r,Y r=Qs->Q (.ref r) (upd Y r (.tup [.int (i:Int),.int (LO.low l (LG.suf u i):Nat),.int (LO.aD l (LG.suf u i):Nat)])):=λw Y S r m=>by have e:=LG.NZ (l:=l) (u:=u) (n:=i) ⋯ mi (w.imp (λz=>by lia) id);rw[e]at q;show q r _ ((I.trans S).upd m) ((I.trans S).free m) Zi
 show zF (λM=>?_) λab=>?_
 .have M:i<n:=⋯
  have j:=LG.Lj (u:=u) (k:=i) ⋯;rw[ul]at j;have R:=g (u.getD (n-i-1) 0) (by rw[Qc,Qd ⋯];show QN _);rw[ug _ ⋯]at j R;have b1:=LO.Kh l (LG.suf u i);have b2:=LO.fR l (LG.suf u i);show zx (λσ' H'=>∃t,Zw O H'/\H t=Qs/\H' t=Qr (HO.tup [.int (LO.low l (LG.suf u (i+1)):Nat),.int (LO.aD l (LG.suf u (i+1)):Nat)])/\σ'=[Qr (V.ref x),Qr (V.str y),Qr (V.int (n:Int)),Qr (V.int (i:Int)),Qr (V.ref p),Qr (V.ref t)]) ?_ ?_
  .simp! only[zB];show(x,_,_,rfl,I _ _ hx,rfl,⋯,_,Y0 0 ⋯ ⋯,_,_,_,_,_,il.same λb o e _=>I _ _ e,⋯,rfl,J,(⋯,⋯),(⋯,⋯),λt ht=>?_);rw[show((n:Int)-(i:Int)-1).toNat=n-i-1 by lia,Qj,Qj,LO.EG _ R,LO.BW _ R,<-j];show(t,Zw.updN ht,I.free ht,Zi,rfl)
  intro _ Y B;show zh B λt S ft h3 a3=>?_;clear B;subst a3;simp! only[BP];show(_,_,.inr (SqT.of h3),rfl,_,_,.inr (SqT.of h3),rfl,?_);have em:LO.aD l (LG.suf u (i+1))=LO.low l (LG.suf u (i+1))+LO.ai l (LG.suf u (i+1)):=rfl;simp![BP];show zF (λe=>?_) λe=>?_
  .show(_,_,.inr (SqT.of (S _ _ J)),rfl,_,_,.inr (SqT.of (S _ _ J)),rfl,?_);simp![true_and];show(⋯,λr m=>d (.inr ⋯) S r m)
  show(n-(i+1),⋯,i+1,t,_,rfl,M,rfl,I.trans S,ft,λz=>e (by rw[em,z];rfl),h3)
 show(_,_,.inr (SqT.of J),rfl,_,_,.inr (SqT.of J),rfl,?_);show(⋯,λr m=>d (.inl ⋯) (Zw.refl _) r m)
def qG(K:Qb)(C:jP)(U D:jP):Sp:=λv H Q _=>aS (λz=>aS (λy=>a0 (Qa (L z)<=300/\Qa (L y)<=1000/\(∀c∈L y,c≠10)/\Zv U H/\Zp D H/\U≠D/\∀p I,zy H I->Zv U I->Zp D I->H p=Qs->I p=Qr (.lst ((LG.fpR (L z) (Qa (L y)) (L y)).reverse.map λt=>V.str (T t)))->Q (.ref p) I))) v
theorem kQ(F:Fun K "fewest_pieces" "fewest_pieces" ar f fd)(B:Bn mg)(YE:Fn P w K mg base 5 "letters_of" J9 (YX K Zd Zb Za))(JH:Fn P w K mg base 5 "longest_ending" JJ (qf K Zd)):Z0 P w K mg base CX0 6 f fd J8 (qG K Zd Zb Za):=by
 show F.ok zU (λa6 A _ s H vs Q E hr u=>aS_all u λz _ u=>aS_all u λy _ u=>a0_all u λh=>?_)
 repeat clear u
 show ZO h λhl hy a2 bo bk Z=>ZI Z λj q=>?_;clear Z h;show(_,(Ze (Zu 2 zU.nd (Z8 YE hr (Zh vq0))) (Ze (Zu 3 zU.nd (fW iu)) (Ze (Zu 4 zU.nd (Z4 K B.len vq1)) (Ze (tP PassesOwn.never (kU (ZV nT (qv 4) Zl)) (YM (Ze (Zu 5 zU.nd (qk (D0 rfl) (by rfl) B.max yc (Zk Zl (Zh (ZP K (Z8 JH hr (Zk vq2 (Zk vq1 (Zh (qv 4))))) Zl))))) (Ze (qR (YH (K:=K) rfl Ut UK UJ fg vq3 (Zh (YO K vq1 (aE (Zt cV (qv 4) (qv 5))) (aE (qv 4)))))) (Zj (rZ (i:=4) P0 zU.nd rfl (by ac_nf) (qv 5))))))) (Zj (ZC (Df (K:=K) rfl rfl B.list B.reversed vq3))))))),stR ?_);simp! only[tWh,YX];have a7:=jT;show(hl,bo,bk,j,λx H1 J a4 R hx a3=>(⋯,λp hp=>(⋯,?_)));show(λm σ O=>∃(f:Nat) (v:Option V) (d:List (Zg)),m<=f/\m<=Qa (L y)/\Qa d+m<=Qa (L y)/\σ=[Qr (V.str z),Qr (V.str y),Qr (V.ref x),Qr (V.ref p),Qr (V.int (m:Int)),v]/\Zw H1 O/\O p=Qr (.lst (d.map λt=>V.str (T t)))/\d++LG.fpR (L z) f ((L y).take m)=LG.fpR (L z) (Qa (L y)) (L y),(Qa (L y),Qa (L y),_,[],Qg _,Qg _,by rw[uC,VC];show Qg _,rfl,Zw.updN hp,Zi,by rw[QE];rfl),?_);intro m σ O C;show ZH C λf v d Z=>ZO Z λhf hm a5 a1 S Z=>ZI Z λh2 I=>?_;clear Z C;subst a1;simp![gtV,BP,qf];show zF (λh0=>?_) λh0=>?_
 .obtain⟨f,rfl⟩:∃g,f=g+1:=(f-1,⋯);have M:Qa ((L y).take m)=m:=by rw[jZ];lia
  have U:(L y).take m≠[]:=λw=>by rw[w]at M;simp at M;lia
  have m1:=LG.PU (L z) ((L y).take m);have m2:=LG.Xq (l:=L z) U;rw[M]at m2;show(L z,m,rfl,a3.same λb o e _=>S _ _ e,hl,hm,hy,a2,λp5 H5 Y a8 h5=>(_,_,.inr (SqT.of h5),rfl,?_));simp! only[BP,wX];have em:max (1:Int) ((LG.lg (L z) ((L y).take m):Nat):Int)=((LG.mx (L z) ((L y).take m):Nat):Int):=by unfold LG.mx;lia
  rw[em];have e1:LG.fpR (L z) (f+1) ((L y).take m)=LG.suf ((L y).take m) (LG.mx (L z) ((L y).take m))::LG.fpR (L z) f ((L y).take (m-LG.mx (L z) ((L y).take m))):=by have:LG.fpR (L z) (f+1) ((L y).take m)=LG.suf ((L y).take m) (LG.mx (L z) ((L y).take m))::LG.fpR (L z) f (((L y).take m).take (Qa ((L y).take m)-LG.mx (L z) ((L y).take m))):=Zo U;rw[this,M,Wg,Q5 ⋯]
  have e2:=LG.Mj (y:=L y) (m:=m) hm m2;rw[e1]at I
  generalize LG.mx (L z) ((L y).take m)=k at m1 m2 e2 I ⊢
  rw[e2]
  generalize LG.suf ((L y).take m) k=t at I ⊢
  have D:=Y _ _ h2;show(.inl (_,SqL.of D),⋯,p,_,_,rfl,rfl,D,by rw[jO];lia,m-k,⋯,f,Qr (V.int (k:Int)),d++[t],⋯,⋯,by rw[jR,jW];lia,?_,mU (S.trans Y) hp,?_,by rw[uq];show I);rw[show((m-k:Nat):Int)=(m:Int)-(k:Int)by lia];rw[Zi,uh];rfl
 have:m=0:=⋯
 subst this;rw[Ue,LG.Ms,vx]at I;subst I;show(_,SqL.of h2,λp3 r=>?_);show q p3 _ (J.trans (Zw.toN (S.upd r))) ((Yc a4 S).put r) ((Yc R S).put r) ((J.trans (Zw.toN S)).free r) ?_;rw[Zi,Qbe]
theorem JA{H:Hp}{t:jP}{o:HO}(h:H t=Qr o):upd H t o=H:=by
 funext b
 by_cases e:b=t
 .subst e;rw[Zi,h]
 show Zn e
structure SD(tb1 tb2:jP)(H H':Hp):Prop where
 same:zy H H'
 b1:Zp tb1 H'
 b2:Zv tb2 H'
section
variable{tb1 tb2:jP}{H H1 H2:Hp}
theorem SD.of(s:Zw H H1)(b1:Zp tb1 H)(b2:Zv tb2 H):SD tb1 tb2 H H1:=(s.toN,Yc b1 s,Yc b2 s)
theorem SD.trans(a:SD tb1 tb2 H H1)(b:SD tb1 tb2 H1 H2):SD tb1 tb2 H H2:=(a.same.trans b.same,b.b1,b.b2)
theorem SD.ofL(s:zy H H1)(e:YZ tb1 H H1)(b:Zp tb1 H)(B:Zp tb1 H1)(b2:Zv tb2 H)(ne:tb2≠tb1):SD tb1 tb2 H H1:=(s,B,b2.keep b ne e)
theorem SD.ofO(s:zy H H1)(e:YZ tb2 H H1)(b:Zv tb2 H)(B:Zv tb2 H1)(b1:Zp tb1 H)(ne:tb2≠tb1):SD tb1 tb2 H H1:=(s,b1.keep b (Ne.symm ne) e,B)
theorem SD.dk{t:jP}{y kvs':List (Key×V)}(a:SD tb1 tb2 H H1)(q:H t=Qr (.dK y)):SD tb1 tb2 (upd H t (.dK kvs')) (upd H1 t (.dK kvs')):=by
 have x:=a.same.at q (by nofun);show(λb u h=>?_,DY a.b1 x,DY a.b2 x);by_cases e:b=t
 .subst e
  rw[Zi]at h ⊢
  show(by simp,λ_=>h)
 rw[Zn e]at h ⊢
 show a.same b u h
end
noncomputable def spw(z:List (Zg)):Zg:=bO [32] z
noncomputable def spn(ns:Zg):Zg:=spw (ns.map λn:Nat=>ZR (n:Int))
theorem Lk{k:Nat}:∀Z:List (Zg),(∀z∈Z,Qa z<=k)->(Z.map Qa).sum<=k * Qa Z
 |[],_=>Qo _
 |z::r,h=>by
  have x:=h z (ub ..);have I:=Lk r λy H=>h y (ua _ H);rw[uo,UT,jV,jG]
  lia
noncomputable def stL:V->Zg
 | .int i=>ZR i
 | .str z=>L z
 |_=>[]
def TF(x:V):Prop:=Qa (stL x)<=10/\((∃n:Nat,x=.int n/\n<2 ^ 200)\/∃z,x=.str z)
def Yr(K:Qb):Sp:=λv H Q _=>aR (λp=>a0 (∃d:ZE,SqL K H p d/\Qa d<=1000/\(∀x∈d,TF x)/\∀I,Zw H I->Q (.str (T (spw (d.map stL)))) I)) v
theorem BD(F:Fun K "spaced" "spaced" kX f fd)(B:Bn mg):Z0 P w K mg base CX0 1 f fd aY (Yr K):=by
 show F.ok BZ (λI A _ s H J Q E M m=>aR_all m λp _ m=>a0_all m λh=>zh h λd Y O j q=>?_)
 repeat clear m
 clear h;show(_,(Zj (ZC (YH (K:=K) rfl Qz UD UC (l6 (K:=K) rfl) Zr (Zh (tL K (own:=["thing"]) (cp:=[]) rfl vq0 (λ_ _ _ _=>(Yt nC (by rfl) B.str kE (Zh vq0)))))))),stR ?_);have u:=jT;have r:L (Qe " ")=[32]:=by rfl'
 have S:=Lk (k:=10) (d.map stL) λz D=>by show Zf (Uf.mp D) λx C Z=>?_;subst Z;show(j x C).1
 rw[jO]at S;simp![Lu,eX,rJ,r];show(d,λv=>.str (T (stL v)),Y,⋯,λx y=>?_,λl g=>(d.map stL,SqL.of ?_,by rw[jO];change _+_ * 1<=_;lia,q _ (Zw.updN g)))
 .rcases(j x y).2 with⟨n,rfl,t⟩|⟨z,rfl⟩;show(dv t,rfl);change V.str z=V.str (T (L z));rw[T_L]
 rw[Zi,u6];rfl
def Yh(K:Qb)(c:Cs):Sp:=λv H Q E=>aR (λt=>aR (λd=>a0 (∃O Z x,H t=Qr (.dK (txK O))/\Qa O<=1000/\H d=Qr (.dK (zR 0 Z))/\qa O (Z.getD 1 [])=Qr x/\Qa (Z.getD 2 [])+Qa x<=5000/\(Qa (Z.getD 2 [])+Qa x<=300->Q (.str (Qe "ok")) (upd H t (.dK (txK (i6 O (Z.getD 1 []) (Z.getD 2 []++x))))))/\(300<Qa (Z.getD 2 [])+Qa x->E (.ref c.TooLong) Qs H)))) v
theorem mr(F:Fun K "answer_ahead" "answer_ahead" br f fd)(J:FnX P w K mg base 1 "keep_text" Js (z6 K c)):Z0 P w K mg base (CX1 P w) 2 f fd aP (Yh K c):=by
 show F.okX mV (λC A _ s H v Q E Y m=>aR_all m λt _ m=>aR_all m λd _ m=>a0_all m λh=>?_)
 repeat clear m
 show ZH h λO Z x z=>ZO z λr I hd g u z=>ZI z λq e=>?_;clear z h;show(_,(Zj (ZC (Yp ZU.toTk J Y (Zk vq0 (Zk (Z7 Y vq1 Zr) (Zh (Zt ZJ (Z7 Y vq1 Zr) (Z7 Y vq0 (Z7 Y vq1 Zr))))))))),stR ?_);have j:=jT;simp! only[true_and];have M:=vtx g;show(d,_,rfl,Y7 0 Z▸DGet.kys hd "name",d,_,rfl,fA Z▸DGet.kys hd "rest",d,_,rfl,Y7 0 Z▸DGet.kys hd "name",t,_,rfl,M▸DGet.k (k:=.inr (T (Z.getD 1 []))) r,?_);simp![z6];show(by omega,O,r,I,by rw[jR];omega,λh=>q (by rw[jR]at h;omega),λh=>e (by rw[jR]at h;omega))
def YV(K:Qb)(c:Cs):Sp:=λv H Q E=>aR (λt=>aR (λd=>a0 (∃O Z x,H t=Qr (.dK (txK O))/\Qa O<=1000/\H d=Qr (.dK (zR 2 Z))/\qa O (Z.getD 1 [])=Qr x/\Qa x<=5000/\(Qa x<digitsVal (Z.getD 2 [])->E (.ref c.Empty) Qs H)/\(digitsVal (Z.getD 2 [])<=Qa x->Q (.str (T (x.take (digitsVal (Z.getD 2 []))))) (upd H t (.dK (txK (i6 O (Z.getD 1 []) (x.drop (digitsVal (Z.getD 2 []))))))))))) v
theorem rD(F:Fun K "answer_off" "answer_off" dR f fd)(B:Bn mg)(R:Er K mg c):Z0 P w K mg base (CX1 P w) 1 f fd dD (YV K c):=by
 show F.okX cT (λC A _ s H v Q E Y m=>aR_all m λt _ m=>aR_all m λd _ m=>a0_all m λh=>?_)
 repeat clear m
 show ZH h λO Z x z=>ZO z λr I hd g u z=>ZI z λe q=>?_;clear z h;show(_,(Ze (Zu 2 cT.nd (Z7 Y vq0 (Z7 Y vq1 Zr))) (Ze (Zu 3 cT.nd (Z7 Y vq1 Zr)) (Ze (Z5 (ZV nT vq3 (Z4 K B.len vq2)) (Zj (YI ZU R.qaY R.qa6 (Zh Zr))) ZG) (Ze (r0 (lU Y) vq0 (Z7 Y vq1 Zr) (YO K vq2 (aE vq3) qd) rfl) (Zj (ZC (YO K vq2 qd (aE vq3)))))))),stR ?_);have j:=jT;simp! only[gtV];have M:=vtx g;show(d,_,rfl,Y7 2 Z▸DGet.kys hd "name",t,_,rfl,M▸DGet.k (k:=.inr (T (Z.getD 1 []))) r,d,_,rfl,EV Z▸DGet.kys hd "number",?_);simp![gtV];show(⋯,zF (λh=>(∅,e ⋯)) λh=>(⋯,d,_,rfl,Y7 2 Z▸DGet.kys hd "name",t,_,rfl,.inl (_,.inr (T (Z.getD 1 [])),r,rfl,by unfold txK;rw[jO];lia,rfl),⋯,?_));rw[EB,af,yl];show q ⋯
theorem Ni{c:Cs}{C t:jP}{H:Hp}{Q:VK}{E:XK}{l:Zg}(O:Qa l<=300)(g:∀c∈l,c≠10)(bk:Zp t H)
 (q:∀I,zy H I->YZ t H I->Zp t I->Q (.str (T l)) I):qZ K c C t [.str (T (LO.Z3 l)),.int (LO.qB l:Nat)] H Q E:=by
 have d:=LO.qy l;have u:=LO.iQ l;have J:(0:Int)<=(LO.qB l:Int)/\(LO.qB l:Int)<=Qa (LO.Z3 l):=(⋯,⋯);simp only[qZ,L_T,aR,aS,aI,aB,a0];have rt:LO.rd (LO.rsL (LO.Z3 l) (LO.qB l)) (Qa l)=Qr (LO.qB l):=by rw[<-LO.fk,LO.yW l _ (Qg _),Ui];rfl
 show(⋯,λc j=>g c (LO.pN j),bk,λw=>ZD J w,λ_ m Y R p M S B=>?_);rw[Qj]at R;have x:=LO.oH R rt;show(λw=>ZD (x.trans d.symm) w,λ_=>?_);have r:LO.sI (LO.rsL (LO.Z3 l) ((LO.qB l:Int)).toNat) (Qa (LO.Z3 l))=l:=by rw[Qj,<-LO.fk,d,LO.xn l _ (Qg _),Ui];rfl
 rw[r];show q p M S B
def Yy(K:Qb)(c:Cs)(C:jP)(D:jP):Sp:=λv H Q E=>aR (λt=>aR (λd=>a0 (∃O Z x r,H t=Qr (.dK (txK O))/\Qa O<=1000/\H d=Qr (.dK (zR 0 Z))/\Qa (Z.getD 2 [])<=5000/\Zp D H/\Pk (Z.getD 2 []) (LO.qB x) r/\flat r=LO.Z3 x/\Qa x<=300/\(∀c∈x,c≠10)/\∀I,zy H I->YZ D H I->Zp D I->Q (.str (Qe "ok")) (upd I t (.dK (txK (i6 O (Z.getD 1 []) x))))))) v
theorem nY(F:Fun K "answer_load" "answer_load" cJ f fd)(fF:FnX P w K mg base 3 "unpacked" fM (bJ K c))(eJ:FnX P w K mg base 6 "read_back" eM (qZ K c Zd Za))(zV:FnX P w K mg base 1 "keep_text" Js (z6 K c)):Z0 P w K mg base (CX1 P w) 7 f fd cn (Yy K c Zd Za):=by
 show F.okX fm (λD A _ s H vs Q E Y m=>aR_all m λt _ m=>aR_all m λd _ m=>a0_all m λh=>?_)
 repeat clear m
 show ZH h λO Z x z=>zI z λrs z=>ZO z λC I hd U bk z=>qN z λj J M g q=>?_;clear z h;show(_,(Ze (Zu 2 fm.nd (Yp ZU.toTk fF Y (Zh (Z7 Y vq1 Zr)))) (Zj (ZC (Yp ZU.toTk zV Y (Zk vq0 (Zk (Z7 Y vq1 Zr) (Zh (Yp ZU.toTk eJ Y (Zk (ZP K vq2 Zl) (Zh (ZP K vq2 Zl))))))))))),stR ?_);simp! only[true_and];show(d,_,rfl,fA Z▸DGet.kys hd "rest",?_);simp only[bJ,L_T,aR,aS,aI,aB,a0];show(⋯,λh a1 u p H1 S hp y=>?_,λn=>ZD j (n _ _));obtain⟨rfl,rfl⟩:=FV u j;show(d,_,rfl,Y7 0 Z▸DGet.kys (S d _ hd) "name",_,_,.inr (SqT.of y),rfl,_,_,.inr (SqT.of y),rfl,?_);rw[J];show Ni M g (Yc bk S) λR r v B=>?_;simp only[z6,L_T,aR,aS,aI,aB,a0];show(O,r.at (S t _ C) (by nofun),I,⋯,λ_=>q R (S.toN.trans r) (S.toE.trans v) B,λw=>ZD w ⋯)
def YB(K:Qb)(c:Cs)(C:jP):Sp:=λv H Q E=>aR (λt=>aR (λd=>a0 (∃O i Z x,H t=Qr (.dK (txK O))/\H d=Qr (.dK (zR i Z))/\qa O (Z.getD 1 [])=Qr x/\Qa x<=300/\Zv C H/\∀r,qH r->flat r=LO.Z3 x->∀I,zy H I->YZ C H I->Zv C I->Q (.str (T (ZR (LO.qB x:Nat)++32::wr r))) I))) v
theorem oh(F:Fun K "answer_pack" "answer_pack" cM f fd)(D:Fn P w K mg base 4 "last_letters" Jc (Yl K Zb))(I:FnX P w K mg base 2 "packed" fK (JY K c)):Z0 P w K mg base (CX1 P w) 5 f fd cw (YB K c Zb):=by
 show F.okX fu (λC A _ s H Z Q E Y m=>aR_all m λt _ m=>aR_all m λd _ m=>a0_all m λh=>?_)
 repeat clear m
 show ZH h λO i ws z=>zI z λx z=>ZO z λv hd r U bk q=>?_;clear z h;show(_,(Ze (Zu 2 fu.nd (Z8 D Y (Zh (Z7 Y vq0 (Z7 Y vq1 Zr))))) (Zj (ZC (Yp ZU.toTk I Y (Zk (ZP K vq2 Zl) (Zh (ZP K vq2 Zl))))))),stR ?_);simp! only[true_and];show nmT hd v r ?_;simp only[Yl,L_T,aR,aS,aI,aB,a0];show(U,bk,λp J u j B hp y=>(_,_,.inr (SqT.of y),rfl,_,_,.inr (SqT.of y),rfl,?_));simp only[JY,L_T,aR,aS,aI,aB,a0];have ll:=LO.qy x;have hh:=LO.iQ x;show(⋯,λw=>ZD (⋯,⋯) w,λ_ M g f R S=>q M g f R (u.trans S.toN) (j.trans S.toE) (Yc B S))
def Yw(K:Qb)(c:Cs)(z C:jP)(U D:jP):Sp:=λv H Q E=>aR (λt=>aR (λd=>a0 (∃O Z x,H t=Qr (.dK (txK O))/\H d=Qr (.dK (zR 0 Z))/\qa O (Z.getD 1 [])=Qr x/\Qa x<=300/\(∀c∈x,c≠10)/\(∀c∈Z.getD 2 [],c≠10)/\Qa (Z.getD 2 [])<=1000/\Zv U H/\Zp D H/\U≠D/\∀I,SD D U H I->Q (.str (T (spn (plc x (Z.getD 2 []))))) I))) v
theorem nW(F:Fun K "answer_find" "answer_find" cH f fd)(Ym:Fn P w K mg base 1 "spaced" aY (Yr K))(a8:Mkr P w K mg base (CX1 P w) 6 "Finder" Zs zw [] (zA K c Zd Zs Zb Za))(R:Mkr P w K mg base (CX1 P w) 6 "Finder" Zs zw [.int 4] (zA K c Zd Zs Zb Za))(a3:Md P w K mg base CX0 6 Zs "places" J5 [] (qE K Zd Zs)):Z0 P w K mg base (CX1 P w) 8 f fd ck (Yw K c Zd Zs Zb Za):=by
 show F.okX oO (λa5 A _ s H vs Q E Y m=>aR_all m λt _ m=>aR_all m λd _ m=>a0_all m λh=>?_)
 repeat clear m
 show ZH h λa4 g x Z=>ZO Z λht hd hx u M Z=>ZO Z λJ wl b2 b1 ne q=>?_;clear Z h;show(_,(Zj (ZC (Z8 Ym Y (Zh (mI a3 Y (yM ZU.toTk R (Y.mono ∅) (Zh (Z7 Y vq0 (Z7 Y vq1 Zr)))) (Zh (Z7 Y vq1 Zr))))))),stR ?_);have a6:=jT;simp! only[true_and];show nmT hd ht hx ?_;simp![zA];intro y S hy B v;have C:upd H S (HO.own y) y=none:=(Zn (Ne.symm v)).trans hy;show(u,(b2.put B).put C,(b1.put B).put C,ne,(S,Zi),λw=>w.elim,λ_ H1 kp nn a2 a1 fi=>?_);have s1:=ff hy B kp nn;have O:=s1.at hd (by nofun);obtain⟨D,a9,ex,ef⟩:∃S fs,H1 y=Qr (HO.ins Zs S fs)/\fs.lookup (Qe "places")=none:=by obtain⟨D,h1,d1,a7,ex,_⟩:=id fi;show(D,_,ex,rfl)
 show(y,_,_,rfl,ex,ef,d,_,rfl,fA g▸DGet.kys O "rest",?_);simp only[qE,L_T,aR,aS,aI,aB,a0];show(x,4,fi,u,M,J,wl,λp H2 r hp h2=>?_);simp only[Yr,aR,aS,aI,aB,a0];have pl:∀n∈plc x (g.getD 2 []),n<301:=λn j=>by have:=LO.M9 j;lia
 have ll:Qa (plc x (g.getD 2 []))<=301:=by
  rw[LO.l8];have:=LO.fR x (g.getD 2 [])
  lia
 show(_,SqL.of h2,by rw[jO];lia,λz hz=>?_,λH3 I=>?_)
 .show Zf (Uf.mp hz) λn j U=>?_;subst U;show((dc n ∅).mpr (Qp (pl n j) ∅),.inl (n,rfl,Qp (pl n j) ∅))
 rw[u6];show q H3 (s1.trans (r.trans I).toN,Yc a1 (r.trans I),Yc a2 (r.trans I))
def Yi(K:Qb)(c:Cs)(z C:jP)(U D:jP):Sp:=λv H Q E=>aR (λt=>aR (λd=>a0 (∃O Z x,H t=Qr (.dK (txK O))/\H d=Qr (.dK (zR 0 Z))/\qa O (Z.getD 1 [])=Qr x/\Qa x<=300/\(∀c∈x,c≠10)/\(∀c∈Z.getD 2 [],c≠10)/\Qa (Z.getD 2 [])<=1000/\Zv U H/\Zp D H/\U≠D/\∀I,SD D U H I->Q (.str (T (ZR (Qa (plc x (Z.getD 2 [])):Nat)))) I))) v
theorem mw(F:Fun K "answer_count" "answer_count" bu f fd)(B:Bn mg)(a6:Mkr P w K mg base (CX1 P w) 6 "Finder" Zs zw [] (zA K c Zd Zs Zb Za))(I:Mkr P w K mg base (CX1 P w) 6 "Finder" Zs zw [.int 4] (zA K c Zd Zs Zb Za))(O:Md P w K mg base CX0 6 Zs "count" aO [] (qS K Zd Zs)):Z0 P w K mg base (CX1 P w) 8 f fd aQ (Yi K c Zd Zs Zb Za):=by
 show F.okX mW (λa2 A _ s H vs Q E Y m=>aR_all m λt _ m=>aR_all m λd _ m=>a0_all m λh=>?_)
 repeat clear m
 show ZH h λa1 g x Z=>ZO Z λht hd hx u a4 Z=>ZO Z λr wl b2 b1 ne q=>?_;clear Z h;show(_,(Zj (ZC (Yt nC (by rfl) B.str kE (Zh (mI O Y (yM ZU.toTk I (Y.mono ∅) (Zh (Z7 Y vq0 (Z7 Y vq1 Zr)))) (Zh (Z7 Y vq1 Zr))))))),stR ?_);have a3:=jT;simp! only[true_and];show nmT hd ht hx ?_;simp![zA];intro y S U z j;have C:upd H S (HO.own y) y=none:=(Zn (Ne.symm j)).trans U;show(u,(b2.put z).put C,(b1.put z).put C,ne,(S,Zi),λw=>w.elim,λ_ H1 kp nn M J fi=>?_);have R:=ff U z kp nn;have v:=R.at hd (by nofun);obtain⟨D,a7,ex,ef⟩:∃S fs,H1 y=Qr (HO.ins Zs S fs)/\fs.lookup (Qe "count")=none:=by obtain⟨D,h1,d1,a5,ex,_⟩:=id fi;show(D,_,ex,rfl)
 show(y,_,_,rfl,ex,ef,d,_,rfl,fA g▸DGet.kys v "rest",?_);simp only[qS,L_T,aR,aS,aI,aB,a0];show(x,4,fi,u,r,wl,λH2 p=>?_)
 have ll:Qa (plc x (g.getD 2 []))<=301:=by
  rw[LO.l8];have:=LO.fR x (g.getD 2 [])
  lia
 show(dv (by change Qa (plc x (g.getD 2 []))<_;lia),q H2 (R.trans p.toN,Yc J p,Yc M p))
noncomputable def nrw(p:Nat×Nat):Zg:=ZR (p.1:Int)++58::ZR (p.2:Int)
noncomputable def nrs(x y:Zg)(s:Int):List (Zg):=(gH x y s ((Qa x:Int)-Qa y+1).toNat).map nrw
theorem FF{l p:Zg}{s:Int}{n:Nat}{x:Nat×Nat}(h:x∈gH l p s n):x.1<n/\x.2<=Qa p:=by
 show Zf (U8.mp h) λi H e=>?_
 have u:unl p ((l.drop i).take (Qa p))<=Qa p:=by
  unfold unl;show QC VI ?_;rw[uF]
  lia
 split at e
 .cases e;show(QA.mp H,u)
 cases e
def YA(K:Qb)(c:Cs):Sp:=λv H Q E=>aR (λt=>aR (λd=>a0 (∃O Z x,H t=Qr (.dK (txK O))/\H d=Qr (.dK (zR 3 Z))/\qa O (Z.getD 1 [])=Qr x/\Qa x<=300/\Qa (Z.getD 3 [])<=1000/\∀I,Zw H I->Q (.str (T (spw (nrs x (Z.getD 3 []) (digitsVal (Z.getD 2 []):Nat))))) I))) v
theorem oa(F:Fun K "answer_near" "answer_near" cL f fd)(cf:Fn P w K mg base 2 "near_places" cB (Jl K))(Ym:Fn P w K mg base 1 "spaced" aY (Yr K)):Z0 P w K mg base (CX1 P w) 3 f fd cu (YA K c):=by
 show F.okX fq (λa4 A _ s H vs Q E Y m=>aR_all m λt _ m=>aR_all m λd _ m=>a0_all m λh=>?_)
 repeat clear m
 show ZH h λa3 Z x zr=>ZO zr λht hd hx a6 wl q=>?_;clear zr h;show(_,(Ze (Zu 2 fq.nd (Z8 cf Y (Zk (Z7 Y vq0 (Z7 Y vq1 Zr)) (Zk (Z7 Y vq1 Zr) (Zh (Z7 Y vq1 Zr)))))) (Zj (ZC (Z8 Ym Y (Zh (mH K (own:=["place","wrong"]) (cp:=[]) rfl vq2 (λ_ _ _ _=>fX) (λ_ _ _ _=>(yL (d9 (tK vq0) (d9 Zr (d9 (tK vq1) Dh))))))))))),stR ?_);have a5:=jT;simp! only[Jl];have hv:=vtx hx;have et:zR 3 Z=[(ky "word",V.str (T (Z.getD 0 []))),(ky "name",V.str (T (Z.getD 1 []))),(ky "number",V.int (digitsVal (Z.getD 2 []):Nat)),(ky "rest",V.str (T (Z.getD 3 [])))]:=rfl;have C:=d8 "word" ∅ "number" ∅ ∅;have h2:=d8 "name" ∅ "number" ∅ ∅;have h3:=d8 "word" ∅ "rest" ∅ ∅;have h4:=d8 "name" ∅ "rest" ∅ ∅;have h5:=d8 "number" ∅ "rest" ∅ ∅;have B:qw (zR 3 Z) (ky "number")=Qr (V.int (digitsVal (Z.getD 2 []):Nat)):=by rw[et,qt (by rw[ah C];show id),qt (by rw[ah h2];show id),JB rfl]
 have R:qw (zR 3 Z) (ky "rest")=Qr (V.str (T (Z.getD 3 []))):=by rw[et,qt (by rw[ah h3];show id),qt (by rw[ah h4];show id),qt (by rw[ah h5];show id),JB rfl]
 show(d,_,rfl,Y7 3 Z▸DGet.kys hd "name",t,_,rfl,hv▸DGet.k (k:=.inr (T (Z.getD 1 []))) ht,d,_,rfl,R▸DGet.kys hd "rest",d,_,rfl,B▸DGet.kys hd "number",?_);simp only[L_T];show(⋯,⋯,λp H1 ts s1 hp C U=>?_);have nl:=xx x (Z.getD 3 []) (digitsVal (Z.getD 2 []):Nat) ((Qa x:Int)-Qa (Z.getD 3 [])+1).toNat;have tl:=U.1;have mm:=λx' (a1:x'∈gH x (Z.getD 3 []) (digitsVal (Z.getD 2 []):Nat) ((Qa x:Int)-Qa (Z.getD 3 [])+1).toNat)=>FF a1;have en:nrs x (Z.getD 3 []) (digitsVal (Z.getD 2 []):Nat)=(gH x (Z.getD 3 []) (digitsVal (Z.getD 2 []):Nat) ((Qa x:Int)-Qa (Z.getD 3 [])+1).toNat).map nrw:=rfl;rw[en]at q;generalize gH x (Z.getD 3 []) (digitsVal (Z.getD 2 []):Nat) ((Qa x:Int)-Qa (Z.getD 3 [])+1).toNat=I at U nl tl mm q;have e1:L (Qe ":")=[58]:=by rfl'
 have d4:∀y∈I,Qa (ZR (y.1:Int))<=4/\Qa (ZR (y.2:Int))<=4:=λy J=>by have:=mm y J;show((dc y.1 ∅).mpr ⋯,(dc y.2 ∅).mpr ⋯)
 show(_,SqL.of C,by rw[jO];lia,λi O g=>O=H1/\g=((I.take i).map nrw).map λz=>V.str (T z),(rfl,rfl),?_,?_,?_)
 .intro i O g _ u;obtain⟨rfl,_⟩:=u;show SqL.of C
 .intro i r O g v u;obtain⟨rfl,rfl⟩:=u;rw[Qm]at v;show Zf (Qv.mp v) λt1 j S=>?_;subst S;have D:i<Qa I:=by rw[<-tl];show(Qh.mp j).1
  have ei:I[i]?=Qr I[i]:=Qd D;have a2:=U.2 i t1 I[i] j ei;obtain⟨b1,b2⟩:=d4 _ (QN D);have b3:=mm _ (QN D);show(t1,_,_,rfl,SqT.of a2,?_);simp only[e1,jR,jW];show(dv (by change I[i].1<_;lia),⋯,⋯,dv (by change I[i].2<_;lia),⋯,⋯,trivial,?_);rw[QZ,ei,uh,uh];simp[nrw]
 rintro O g ⟨rfl,rfl⟩ l M;rw[jO,tl,QE];simp only[Yr,aR,aS,aI,aB,a0];show(_,SqL.of Zi,by rw[jO,jO];lia,λz hz=>?_,λH3 s3=>?_)
 .rw[u6]at hz;show Zf (Uf.mp hz) λy J S=>?_;subst S;have:=d4 y J;show(?_,.inr (_,rfl));change Qa (L (T (nrw y)))<=10;unfold nrw;rw[L_T,jR,jV]
  lia
 rw[u6,u6,show(I.map ((stL∘λz=>V.str (T z))∘nrw))=I.map nrw from uM λy _=>L_T _];show q H3 (s1.trans ((Zw.updN M).trans s3))
theorem EL{f:Nat->Int}{B:Nat}:∀l:Zg,(∀k∈l,(f k).natAbs<=B)->((l.map f).sum).natAbs<=B * Qa l
 |[],_=>by simp
 |k::r,h=>by have x:=h k (ub ..);have I:=EL r λy H=>h y (ua _ H);rw[uo,UT,jV,jG];omega
theorem Ee{l:Zg}{B k:Nat}(h:∀x∈l,x<=B):l.getD k 0<=B:=by
 rw[Qc]
 cases e:l[k]? with
 |none=>show Qo _
 |some x=>show h x (QD e)
theorem O4(x:Zg)(k:Nat):LO.cmx x k<=Qa x:=Ee λc H=>by
 rcases ut.mp H with H|H
 .unfold LO.cms at H;rcases ui.mp H with rfl|H;show Qo _;show Zf (Uf.mp H) λj _ z=>?_;subst z
  show QC (LO.yk _ _) ?_;rw[uf];omega
 rw[j5.mp H];show Qo _
theorem MD{x:Zg}(h:Qa x<=300):(kdS x).natAbs.log2<1920:=by
 show dv ?_;have:=EL (f:=λk=>(Qa x:Int)-((LO.ord x).getD k 0:Int)-(LO.cmx x k:Int)) (B:=600) (Qi (Qa x+1)) λk _=>by have y:(LO.ord x).getD k 0<=Qa x:=Ee λi H=>LO.Y2.mp H;have I:=O4 x k;omega
 rw[uF]at this;unfold kdS;have:(1+((Qi (Qa x+1)).map λk=>(Qa x:Int)-((LO.ord x).getD k 0:Int)-(LO.cmx x k:Int)).sum).natAbs<=180601:=by omega
 show UH this ∅
theorem e45:Qe "-"=T [45]:=by rfl'
def Yj(K:Qb)(c:Cs)(C:jP):Sp:=λv H Q E=>aR (λt=>aR (λd=>a0 (∃O i Z x,H t=Qr (.dK (txK O))/\H d=Qr (.dK (zR i Z))/\qa O (Z.getD 1 [])=Qr x/\Qa x<=300/\Zv C H/\∀I,SE C H I->Q (.str (T (ZR (kdS x)))) I))) v
theorem my(F:Fun K "answer_kinds" "answer_kinds" bw f fd)(B:Bn mg)(Z:Fn P w K mg base 5 "kinds_in" fJ (bH K Zb)):Z0 P w K mg base (CX1 P w) 6 f fd aU (Yj K c Zb):=by
 show F.okX mX (λC A _ s H v Q E Y m=>aR_all m λt _ m=>aR_all m λd _ m=>a0_all m λh=>?_)
 repeat clear m
 show ZH h λO i j z=>zI z λx z=>ZO z λr hd g M bk q=>?_;clear z h;show(_,(Zj (ZC (Yt nC (by rfl) B.str kE (Zh (Z8 Z Y (Zh (Z7 Y vq0 (Z7 Y vq1 Zr)))))))),stR ?_);simp! only[true_and];show nmT hd r g ?_;simp! only[bH,L_T];show(M,bk,λI S=>(MD M,q I S))
def Yk(K:Qb)(c:Cs)(C:jP):Sp:=λv H Q E=>aR (λt=>aR (λd=>a0 (∃O Z x n,H t=Qr (.dK (txK O))/\H d=Qr (.dK (zR 2 Z))/\qa O (Z.getD 1 [])=Qr x/\Qa x<=300/\Zv C H/\n=digitsVal (Z.getD 2 [])/\(n=0->E (.ref c.NoTimes) Qs H)/\(n≠0->(Qa x+1<n->∀I,SE C H I->Q (.str (T [45])) I)/\(n<=Qa x+1->∀u I,SE C H I->LO.Lng x n (Qa x+2-n) u->Q (.str (T (61::u))) I))))) v
theorem mz(F:Fun K "answer_often" "answer_often" bz f fd)(J4:FnX P w K mg base 4 "longest_often" zb (zu K c Zb))(g:FnD P w K mg base 4 "longest_often" zb [.int 2] (λv H Q _=>(zu K c Zb) v H Q E0))(j:FnK P w K mg base 4 "longest_often" zb "times" (λv H Q _=>(zu K c Zb) v H Q E0)):Z0 P w K mg base (CX1 P w) 5 f fd aW (Yk K c Zb):=by
 show F.okX eG (λD A _ s H v Q E Y m=>aR_all m λt _ m=>aR_all m λd _ m=>a0_all m λh=>?_)
 repeat clear m
 obtain⟨O,Z,x,n,y,hd,p,R,bk,en,e,q⟩:=h;show(_,(Ze (Zu 2 eG.nd (Yp ZU.toTk J4 Y (Zk (Z7 Y vq0 (Z7 Y vq1 Zr)) (Zh (Z7 Y vq1 Zr))))) (Ze (Z5 (ZV PZ vq2 kR) (Zj (ZC Zr)) ZG) (Zj (ZC (Zt ZJ Zr vq2))))),stR ?_);have J:=jT;simp! only[true_and];have M:=vtx p;show(d,_,rfl,Y7 2 Z▸DGet.kys hd "name",t,_,rfl,M▸DGet.k (k:=.inr (T (Z.getD 1 []))) y,d,_,rfl,EV Z▸DGet.kys hd "number",?_);simp![zu,L_T];rw[<-en];show(R,bk,λw=>e ⋯,λw=>?_);obtain⟨B,C⟩:=q ⋯;show(λU I S=>?_,λU u I S lg=>?_)
 .rw[e45];show B ⋯ I S
 have ul:=LO.Bh (QC ⋯ lg.one);have r:L (Qe "=")=[61]:=by rfl'
 rw[Qj]at lg;rw[Zo (by intro z;cases z),r];show(by change 1+Qa u<=_;lia,C ⋯ u I S lg)
theorem Em{x:Zg}{v:V}(h:v∈LO.lns x):v=.non\/∃n:Nat,v=.int n/\n<=Qa x:=by unfold LO.lns at h;split at h;show .inr (0,j5.mp h,Qo _);show Zf (Uf.mp h) λp _ z=>?_;subst z;unfold LO.yA;split;show .inr (_,rfl,⋯);show .inl rfl
noncomputable def lnT(x:Zg):ZE:=(LO.lns x).map λv=>if v=.non then .str (T [45])else v
def Yz(K:Qb)(c:Cs)(C:jP):Sp:=λv H Q E=>aR (λt=>aR (λd=>a0 (∃O i Z x,H t=Qr (.dK (txK O))/\H d=Qr (.dK (zR i Z))/\qa O (Z.getD 1 [])=Qr x/\Qa x<=300/\Zv C H/\∀I,SE C H I->Q (.str (T (spw ((lnT x).map stL)))) I))) v
theorem nZ(F:Fun K "answer_lone" "answer_lone" cK f fd)(dB:Fn P w K mg base 5 "lone_sizes" dE (JG K Zb))(Ym:Fn P w K mg base 1 "spaced" aY (Yr K)):Z0 P w K mg base (CX1 P w) 6 f fd cq (Yz K c Zb):=by
 show F.okX oQ (λJ A _ s H vs Q E Y m=>aR_all m λt _ m=>aR_all m λd _ m=>a0_all m λh=>?_)
 repeat clear m
 show ZH h λO i ws Z=>zI Z λx Z=>ZO Z λI hd j R bk q=>?_;clear Z h;show(_,(Zj (ZC (Z8 Ym Y (Zh (tL K (own:=["size"]) (cp:=[]) rfl (Z8 dB Y (Zh (Z7 Y vq0 (Z7 Y vq1 Zr)))) (λ_ _ _ _=>(KL (ZV PZ vq0 kR) Zr vq0))))))),stR ?_);have a1:=jT;simp! only[true_and];show nmT hd I j ?_;simp![JG,Yr,L_T];show(R,bk,λp H1 r hp B=>(_,λv=>if v=.non then .str (T [45])else v,SqL.of B,by rw[LO.El];lia,λv M=>?_,λl g=>(_,SqL.of Zi,by rw[jO,LO.El];lia,λy D=>?_,λU C=>q U (r.same ((Zw.updN g).trans C)))))
 .rcases Em M with rfl|⟨n,rfl,_⟩;simp[tIf,tB2,isV,oG,tC,gS,e45];simp[tIf,tB2,isV,oG,tC,gS]
 show Zf (Uf.mp D) λv M S=>?_;subst S;rcases Em M with rfl|⟨n,rfl,u⟩
 .rw[Zx rfl];show(by change Qa (L (T [45]))<=10;rw[L_T];decide,.inr (_,rfl))
 rw[Zo (by intro z;cases z)];show((dc n ∅).mpr ⋯,.inl (n,rfl,UH u (UH R ∅)))
theorem Eb(l:Zg):∀f u,Qa (LG.fpR l f u)<=f/\∀t∈LG.fpR l f u,Qa t<=Qa u
 |0,_=>(Qg _,λt h=>by cases h)
 |f+1,u=>by
  obtain⟨x,H⟩:=Eb l f (u.take (Qa u-LG.mx l u));unfold LG.fpR;split;show(Qo _,λt h=>by cases h);show(by rw[jV];omega,λt h=>?_);rcases ui.mp h with rfl|h
  .unfold LG.suf;rw[uf];omega
  have:=H t h;rw[jZ]at this;omega
def YU(K:Qb)(c:Cs)(C:jP)(U D:jP):Sp:=λv H Q E=>aR (λt=>aR (λd=>a0 (∃O Z x,H t=Qr (.dK (txK O))/\H d=Qr (.dK (zR 0 Z))/\qa O (Z.getD 1 [])=Qr x/\Qa x<=300/\(∀c∈x,c≠10)/\(∀c∈Z.getD 2 [],c≠10)/\Qa (Z.getD 2 [])<=1000/\Zv U H/\Zp D H/\U≠D/\∀I,SD D U H I->Q (.str (T (spn ((LG.fpR x (Qa (Z.getD 2 [])) (Z.getD 2 [])).reverse.map Qa)))) I))) v
theorem rC(F:Fun K "answer_cut" "answer_cut" dQ f fd)(B:Bn mg)(J3:Fn P w K mg base 6 "fewest_pieces" J8 (qG K Zd Zb Za))(Ym:Fn P w K mg base 1 "spaced" aY (Yr K)):Z0 P w K mg base (CX1 P w) 7 f fd dC (YU K c Zd Zb Za):=by
 show F.okX rH (λa1 A _ s H vs Q E Y m=>aR_all m λt _ m=>aR_all m λd _ m=>a0_all m λh=>?_)
 repeat clear m
 show ZH h λO Z x g=>ZO g λr hd hx xl a3 g=>ZO g λu R b2 b1 ne q=>?_;clear g h;show(_,(Zj (ZC (Z8 Ym Y (Zh (tL K (own:=["piece"]) (cp:=[]) rfl (Z8 J3 Y (Zk (Z7 Y vq0 (Z7 Y vq1 Zr)) (Zh (Z7 Y vq1 Zr)))) (λ_ _ _ _=>(Z4 K B.len vq0))))))),stR ?_);have a2:=jT;simp! only[true_and];have M:=vtx hx;show(d,_,rfl,Y7 0 Z▸DGet.kys hd "name",t,_,rfl,M▸DGet.k (k:=.inr (T (Z.getD 1 []))) r,d,_,rfl,fA Z▸DGet.kys hd "rest",?_);simp![qG,Yr,L_T];obtain⟨f1,C⟩:=Eb x (Qa (Z.getD 2 [])) (Z.getD 2 []);generalize LG.fpR x (Qa (Z.getD 2 [])) (Z.getD 2 [])=ps at f1 C q;show(xl,R,u,b2,b1,ne,λp H1 s1 I D hp U=>(_,λv=>.int (Qa (stL v)),SqL.of U,by rw[jO,uV];lia,λv M=>?_,λl j=>(_,SqL.of Zi,by rw[jO,jO,uV];lia,λy J=>?_,λH2 s2=>?_)))
 .show Zf (Uf.mp M) λt r z=>?_;subst z;have:=C t (V3.mp r);change Qa (L (T t))<=_/\_;rw[L_T];show(⋯,rfl)
 .rw[u6]at J;show Zf (Uf.mp J) λt r z=>?_;subst z;have:=C t (V3.mp r);have e:stL (V.str (T t))=t:=L_T t;change TF (.int (Qa (stL (V.str (T t)))));rw[e];show((dc (Qa t) ∅).mpr ⋯,.inl (_,rfl,UH this (UH R ∅)))
 have S:=(Zw.updN j).trans s2;have e:((ps.reverse.map λt=>V.str (T t)).map λv=>V.int (Qa (stL v))).map stL=(ps.reverse.map Qa).map λn:Nat=>ZR (n:Int):=by rw[u6,u6,u6];show uM λt _=>?_;change ZR (Qa (L (T t)):Int)=_;rw[L_T];rfl
 rw[e];show q H2 (s1.trans S.toN,Yc D S,Yc I S)
abbrev Ga(K:Qb)(c:Cs)(Zd Zs:jP)(Za Zb:jP):Str->Sp->Prop:=λq S=>(q="answer_keep"/\S=(Yx K c))\/(q="answer_load"/\S=(Yy K c Zd Za))\/(q="answer_ahead"/\S=(Yh K c))\/(q="answer_off"/\S=(YV K c))\/(q="answer_text"/\S=(YC K c))\/(q="answer_pack"/\S=(YB K c Zb))\/(q="answer_count"/\S=(Yi K c Zd Zs Zb Za))\/(q="answer_find"/\S=(Yw K c Zd Zs Zb Za))\/(q="answer_near"/\S=(YA K c))\/(q="answer_often"/\S=(Yk K c Zb))\/(q="answer_kinds"/\S=(Yj K c Zb))\/(q="answer_lone"/\S=(Yz K c Zb))\/(q="answer_cut"/\S=(YU K c Zd Zb Za))
def GG(O:YF)(i:Nat)(Z:List (Zg))(x:Zg)(q:YF->Zg->Prop)(Q:Nat->Prop):Prop:=
 (Z.getD 0 []=cd "text"/\q O x)\/
 (Z.getD 0 []=cd "pack"/\∀r,qH r->flat r=LO.Z3 x->q O (ZR (LO.qB x:Nat)++32::wr r))\/
 (Z.getD 0 []=cd "kinds"/\q O (ZR (kdS x)))\/
 (Z.getD 0 []=cd "lone"/\q O (spw ((lnT x).map stL)))\/
 (Z.getD 0 []=cd "off"/\i=2/\(Qa x<digitsVal (Z.getD 2 [])->Q 5)/\(digitsVal (Z.getD 2 [])<=Qa x->q (i6 O (Z.getD 1 []) (x.drop (digitsVal (Z.getD 2 [])))) (x.take (digitsVal (Z.getD 2 [])))))\/
 (Z.getD 0 []=cd "often"/\i=2/\∃n,n=digitsVal (Z.getD 2 [])/\(n=0->Q 4)/\(n≠0->(Qa x+1<n->q O [45])/\(n<=Qa x+1->∀u,LO.Lng x n (Qa x+2-n) u->q O (61::u))))\/
 (Z.getD 0 []=cd "near"/\i=3/\Qa (Z.getD 3 [])<=1000/\q O (spw (nrs x (Z.getD 3 []) (digitsVal (Z.getD 2 []):Nat))))\/
 (i=0/\Qa (Z.getD 2 [])<=1000/\(∀c∈Z.getD 2 [],c≠10)/\(
  (Z.getD 0 []=cd "ahead"/\Qa (Z.getD 2 [])+Qa x<=300/\q (i6 O (Z.getD 1 []) (Z.getD 2 []++x)) (cd "ok"))\/
  (Z.getD 0 []=cd "find"/\q O (spn (plc x (Z.getD 2 []))))\/
  (Z.getD 0 []=cd "count"/\q O (ZR (Qa (plc x (Z.getD 2 [])):Nat)))\/
  (Z.getD 0 []=cd "cut"/\q O (spn ((LG.fpR x (Qa (Z.getD 2 [])) (Z.getD 2 [])).reverse.map Qa)))))
def Ou(O:YF)(i:Nat)(Z:List (Zg))(q:YF->Zg->Prop)(Q:Nat->Prop):Prop:=
 (Z.getD 0 []=cd "keep"/\i=0/\Qa (Z.getD 2 [])<=300/\q (i6 O (Z.getD 1 []) (Z.getD 2 [])) (cd "ok"))\/
 (Z.getD 0 []=cd "load"/\i=0/\∃x r,Pk (Z.getD 2 []) (LO.qB x) r/\flat r=LO.Z3 x/\Qa x<=300/\(∀c∈x,c≠10)/\q (i6 O (Z.getD 1 []) x) (cd "ok"))\/
 ∃x,qa O (Z.getD 1 [])=Qr x/\Qa x<=300/\(∀c∈x,c≠10)/\GG O i Z x q Q
def Ja(O:YF)(r:Zg)(Q:YF->Zg->Prop)(q:Nat->Prop):Prop:=
 ∃i Z,JC r i Z/\(¬xV O i Z->q 7)/\(xV O i Z->Ou O i Z Q q)
theorem GG.mono{O:YF}{i:Nat}{Z:List (Zg)}{x:Zg}{R Q:YF->Zg->Prop}{I q:Nat->Prop}(a:∀k x,R k x->Q k x)(b:∀k,I k->k=4\/k=5\/k=7->q k)(h:GG O i Z x R I):GG O i Z x Q q:=by rcases h with⟨d,E⟩|⟨d,E⟩|⟨d,E⟩|⟨d,E⟩|⟨d,E,y,H⟩|⟨d,E,n,en,y,H⟩|⟨d,E,y,H⟩|⟨d,E,y,H⟩;show .inl (d,a _ _ E);show .inr (.inl (d,λr g f=>a _ _ (E r g f)));show .inr (.inr (.inl (d,a _ _ E)));show .inr (.inr (.inr (.inl (d,a _ _ E))));show .inr (.inr (.inr (.inr (.inl (d,E,λl=>b _ (y l) (.inr (.inl rfl)),λl=>a _ _ (H l))))));show .inr (.inr (.inr (.inr (.inr (.inl (d,E,n,en,λl=>b _ (y l) (.inl rfl),λl=>(λw=>a _ _ ((H l).1 w),λw u g=>a _ _ ((H l).2 w u g))))))));show .inr (.inr (.inr (.inr (.inr (.inr (.inl (d,E,y,a _ _ H)))))));show .inr (.inr (.inr (.inr (.inr (.inr (.inr (d,E,y,?_)))))));show H.imp (λw=>(w.1,w.2.1,a _ _ w.2.2)) λH=>H.imp (λw=>(w.1,a _ _ w.2)) λH=>H.imp (λw=>(w.1,a _ _ w.2)) λw=>(w.1,a _ _ w.2)
theorem Ja.mono{O:YF}{r:Zg}{R Q:YF->Zg->Prop}{I q:Nat->Prop}(a:∀k x,R k x->Q k x)(b:∀k,I k->k=4\/k=5\/k=7->q k)(h:Ja O r R I):Ja O r Q q:=by show Zy h λi Z g z J=>?_;clear h;show(i,Z,g,λn=>b _ (z n) (.inr (.inr rfl)),λn=>?_);rcases J n with⟨d,E,y,H⟩|⟨d,E,x,M,y,H,S,p,t⟩|⟨x,m,U,j,h⟩;show .inl (d,E,y,a _ _ H);show .inr (.inl (d,E,x,M,y,H,S,p,a _ _ t));show .inr (.inr (x,m,U,j,h.mono a b))
def qp(K:Qb)(C:jP):Sp:=λv H Q _=>aR (λo=>a0 ((∃d,H o=Qr (.ins C d []))/\∀I t,(∀b u,b≠o->H b=Qr u->I b=Qr u)->H t=Qs->qh C I o t []->Q .non I)) v
theorem tq(F:Fun K "__init__" "Desk.__init__" qL f fd)(r:Cf K Zd Zs ZM):Z0 P w K mg base CX0 1 f fd Jr (qp K ZM):=by
 show F.ok tX (λB A _ s H v Q E Y m=>aR_all m λo _ m=>a0_all m λh=>?_)
 repeat clear m
 obtain⟨⟨d,t⟩,q⟩:=h;show(_,(Zj (de r.qbs r.qas vq0 BL)),stR ?_);simp! only[true_and];show λp C=>(d,_,(Zn (Zm t C)).trans t,∅,q _ p (λb u S h=>?_) C ((d,Zi),(Zn λz=>?_).trans Zi))
 .rw[Zn S,Zn (Zm h C)];show h
 rw[z,t]at C;cases C
noncomputable def Zaj(c:Cs):Nat->jP
 |4=>c.NoTimes
 |5=>c.Empty
 |_=>c.NoName
def bG(K:Qb)(c:Cs)(B r C:jP)(D U:jP):Sp:=λv H Q E=>aR (λo=>aS (λz=>a0 (∃t O,qh C H o t O/\Qa O<=1000/\Qa (L z)<=5000/\Zp D H/\Zv U H/\U≠D/\Ja O (L z) (λd x=>∀I,SD D U (upd H t (.dK (txK d))) I->Q (.str (T x)) I) (λk=>∀I,SD D U H I->E (.ref (Zaj c k)) Qs I)))) v
theorem wK(F:Fun K "say" "Desk.say" f6 f fd)(TP:Tp K w.params mg Ya zo zE)(CF:Cf K Zd Zs ZM)(fE:FnX P w K mg base 2 "read_row" fL (bI K c))(b9:FnX P w K mg base 2 "check_names" cy (Jj K c))(bV:FnX P w K mg base 2 "answer_keep" cm (Yx K c))(bW:FnX P w K mg base 7 "answer_load" cn (Yy K c Zd Za))(aG:FnX P w K mg base 2 "answer_ahead" aP (Yh K c))(dA:FnX P w K mg base 1 "answer_off" dD (YV K c))(b0:FnX P w K mg base 1 "answer_text" cx (YC K c))(bZ:FnX P w K mg base 5 "answer_pack" cw (YB K c Zb))(aH:FnX P w K mg base 8 "answer_count" aQ (Yi K c Zd Zs Zb Za))(bU:FnX P w K mg base 8 "answer_find" ck (Yw K c Zd Zs Zb Za))(bY:FnX P w K mg base 3 "answer_near" cu (YA K c))(aK:FnX P w K mg base 5 "answer_often" aW (Yk K c Zb))(aJ:FnX P w K mg base 6 "answer_kinds" aU (Yj K c Zb))(bX:FnX P w K mg base 6 "answer_lone" cq (Yz K c Zb))(dz:FnX P w K mg base 7 "answer_cut" dC (YU K c Zd Zb Za)):Z0 P w K mg base (CX1 P w) 9 f fd fI (bG K c Zd Zs ZM Za Zb):=by
 show F.okX ki (λa5 A _ s H vs Q E hr U=>aR_all U λo _ U=>aS_all U λz _ U=>a0_all U λh=>?_)
 repeat clear U
 obtain⟨t,O,⟨⟨D,ho⟩,r⟩,hk,hz,b1,b2,ne,i,ws,g,q1,q⟩:=h;show(_,(Ze (Zu 2 ki.nd (Yp ZU.toTk fE hr (Zh vq1))) (Ze (qR (Yp ZU.toTk b9 hr (Zk (YL CF.qbs CF.qas vq0) (Zh vq2)))) (Zj (ZC (MW (k:=8) (G:=Ga K c Zd Zs Za Zb) ZU.toTk TP.qaU TP.qbF (λnm sp h=>by rcases h with⟨rfl,rfl⟩|⟨rfl,rfl⟩|⟨rfl,rfl⟩|⟨rfl,rfl⟩|⟨rfl,rfl⟩|⟨rfl,rfl⟩|⟨rfl,rfl⟩|⟨rfl,rfl⟩|⟨rfl,rfl⟩|⟨rfl,rfl⟩|⟨rfl,rfl⟩|⟨rfl,rfl⟩|⟨rfl,rfl⟩<;>first|show(_,_,∅,bV)|show(_,_,∅,bW)|show(_,_,∅,aG)|show(_,_,∅,dA)|show(_,_,∅,b0)|show(_,_,∅,bZ)|show(_,_,∅,aH)|show(_,_,∅,bU)|show(_,_,∅,bY)|show(_,_,∅,aK)|show(_,_,∅,aJ)|show(_,_,∅,bX)|show(_,_,∅,dz)) (hr.mono ∅) (Z7 hr vq2 Zr) (Zk (YL CF.qbs CF.qas vq0) (Zh vq2)) (λ_ _=>rfl)))))),stR ?_);simp! only[bI];show(hz,λi' a4 g' H1 d s1 a6 hd=>?_,λn=>ZD (_,_,g) n);obtain⟨rfl,rfl⟩:=g'.uniq g;have hi:=Io g.1;have hw:∀k,Qa (a4.getD k [])<=5000:=λk=>by rw[g.2.1];show QC (EF _ (L z) k) hz
 show(D,_,.ref t,s1 o _ ho,rfl,?_);simp only[Jj,aR,aS,aI,aB,a0];show(O,_,_,s1 t _ r,hi,hd,hw,λn Y s2=>?_,λn Y s2=>q1 n Y (SD.of (s1.trans s2) b1 b2));have s3:=s1.trans s2;have I:=s2 d _ hd;have S:=SD.of s3 b1 b2;have Z:=s3 t _ r;have j:=s3 o _ ho;show(d,_,rfl,Ca _ _▸DGet.kys I "word",?_);rcases q n with⟨m,rfl,B,a⟩|⟨m,rfl,x,rs,pk,fx,M,y,a⟩|⟨x,v,M,y,⟨m,a⟩|⟨m,a⟩|⟨m,a⟩|⟨m,a⟩|⟨m,rfl,B,a2⟩|⟨m,rfl,n,en,B,a2⟩|⟨m,rfl,B,a⟩|⟨rfl,wl,C,⟨m,B,a⟩|⟨m,a⟩|⟨m,a⟩|⟨m,a⟩⟩⟩
 .rw[m];show("answer_keep",Yx K c,by rw[dG];rfl,.inl (rfl,rfl),D,_,.ref t,j,rfl,?_);simp only[Yx,aR,aS,aI,aB,a0];show(O,_,Z,hk,I,hw 2,λl=>a _ (S.dk r),λl=>ZD B ⋯)
 .rw[m];show("answer_load",Yy K c Zd Za,by rw[dG];rfl,.inr (.inl (rfl,rfl)),D,_,.ref t,j,rfl,?_);simp only[Yy,aR,aS,aI,aB,a0];show(O,_,x,rs,Z,hk,I,hw 2,S.b1,pk,fx,M,y,λp J R b4=>a _ ?_);show(S.trans (SD.ofL J R S.b1 b4 S.b2 ne)).dk r
 .rw[m];show("answer_text",YC K c,by rw[dG];rfl,.inr (.inr (.inr (.inr (.inl (rfl,rfl))))),D,_,.ref t,j,rfl,?_);simp only[YC,aR,aS,aI,aB,a0];show(O,_,_,x,Z,I,v,a Y ?_);rw[JA r];show S
 .rw[m];show("answer_pack",YB K c Zb,by rw[dG];rfl,.inr (.inr (.inr (.inr (.inr (.inl (rfl,rfl)))))),D,_,.ref t,j,rfl,?_);simp only[YB,aR,aS,aI,aB,a0];show(O,_,_,x,Z,I,v,M,S.b2,λrs gr fr p J R b4=>a rs gr fr p ?_);rw[JA r];show S.trans (SD.ofO J R S.b2 b4 S.b1 ne)
 .rw[m];show("answer_kinds",Yj K c Zb,by rw[dG];rfl,.inr (.inr (.inr (.inr (.inr (.inr (.inr (.inr (.inr (.inr (.inl (rfl,rfl))))))))))),D,_,.ref t,j,rfl,?_);simp only[Yj,aR,aS,aI,aB,a0];show(O,_,_,x,Z,I,v,M,S.b2,λp J=>a p ?_);rw[JA r];show S.trans (SD.ofO J.n J.e S.b2 J.b S.b1 ne)
 .rw[m];show("answer_lone",Yz K c Zb,by rw[dG];rfl,.inr (.inr (.inr (.inr (.inr (.inr (.inr (.inr (.inr (.inr (.inr (.inl (rfl,rfl)))))))))))),D,_,.ref t,j,rfl,?_);simp only[Yz,aR,aS,aI,aB,a0];show(O,_,_,x,Z,I,v,M,S.b2,λp J=>a p ?_);rw[JA r];show S.trans (SD.ofO J.n J.e S.b2 J.b S.b1 ne)
 .rw[m];show("answer_off",YV K c,by rw[dG];rfl,.inr (.inr (.inr (.inl (rfl,rfl)))),D,_,.ref t,j,rfl,?_);simp only[YV,aR,aS,aI,aB,a0];show(O,_,x,Z,hk,I,v,⋯,λl=>B l Y S,λl=>a2 l _ (S.dk r))
 .rw[m];show("answer_often",Yk K c Zb,by rw[dG];rfl,.inr (.inr (.inr (.inr (.inr (.inr (.inr (.inr (.inr (.inl (rfl,rfl)))))))))),D,_,.ref t,j,rfl,?_);simp only[Yk,aR,aS,aI,aB,a0];have a3:∀p,SE Zb Y p->SD Za Zb (upd H t (.dK (txK O))) p:=λp J=>by rw[JA r];show S.trans (SD.ofO J.n J.e S.b2 J.b S.b1 ne)
  show(O,_,x,n,Z,I,v,M,S.b2,en,λl=>B l Y S,λl=>(λw p J=>(a2 l).1 w p (a3 p J),λw u p J g=>(a2 l).2 w u g p (a3 p J)))
 .rw[m];show("answer_near",YA K c,by rw[dG];rfl,.inr (.inr (.inr (.inr (.inr (.inr (.inr (.inr (.inl (rfl,rfl))))))))),D,_,.ref t,j,rfl,?_);simp only[YA,aR,aS,aI,aB,a0];show(O,_,x,Z,I,v,M,B,λp J=>a p ?_);rw[JA r];show S.trans (SD.of J S.b1 S.b2)
 .rw[m];show("answer_ahead",Yh K c,by rw[dG];rfl,.inr (.inr (.inl (rfl,rfl))),D,_,.ref t,j,rfl,?_);simp only[Yh,aR,aS,aI,aB,a0];show(O,_,x,Z,hk,I,v,⋯,λl=>a _ (S.dk r),λl=>ZD B ⋯)
 .rw[m];show("answer_find",Yw K c Zd Zs Zb Za,by rw[dG];rfl,.inr (.inr (.inr (.inr (.inr (.inr (.inr (.inl (rfl,rfl)))))))),D,_,.ref t,j,rfl,?_);simp only[Yw,aR,aS,aI,aB,a0];show(O,_,x,Z,I,v,M,y,C,wl,S.b2,S.b1,ne,λp J=>a p ?_);rw[JA r];show S.trans J
 .rw[m];show("answer_count",Yi K c Zd Zs Zb Za,by rw[dG];rfl,.inr (.inr (.inr (.inr (.inr (.inr (.inl (rfl,rfl))))))),D,_,.ref t,j,rfl,?_);simp only[Yi,aR,aS,aI,aB,a0];show(O,_,x,Z,I,v,M,y,C,wl,S.b2,S.b1,ne,λp J=>a p ?_);rw[JA r];show S.trans J
 rw[m];show("answer_cut",YU K c Zd Zb Za,by rw[dG];rfl,.inr (.inr (.inr (.inr (.inr (.inr (.inr (.inr (.inr (.inr (.inr (.inr (rfl,rfl)))))))))))),D,_,.ref t,j,rfl,?_);simp only[YU,aR,aS,aI,aB,a0];show(O,_,x,Z,I,v,M,y,C,wl,S.b2,S.b1,ne,λp J=>a p ?_);rw[JA r];show S.trans J
def Y6(K:Qb):Sp:=λv H Q _=>aR (λa=>aI (λk=>a0 (∃ns:List Int,SqL K H a (ns.map V.int)/\0<=k/\Q (.int (yi ns k)) H))) v
theorem yH(F:Fun K "_law_cell_at" "_law_cell_at" iE f fd)(B:Bn mg):Z0 P w K mg base CX0 1 f fd d0 (Y6 K):=by
 show F.pure Ac (λC A outer s H v Q E Z m=>aR_all m λa _ m=>aI_all m λk _ m=>a0_all m λh=>?_)
 repeat clear m
 show Zz h λns Y I q=>?_;show(_,(Ze (Z5 (ZV rA vq1 (Z4 K B.len vq0)) (Zj (ZC (ZP K vq0 vq1))) ZG) (Zj (ZC Zl))),stR ?_)
 simp_all![aR,aS,aI,aB,a0,o0,aV,Fp,Fq,gh,L2.JZ,uo,QaR,jV,uC,uw,Qal,uN,u9,Nat.reduceAdd,Nat.reduceSub,Int.reduceLT,Int.reduceLE,true_and,and_true,decide_eq_true_eq,if_true,if_false,String.reduceEq,Vx,Vf,QX,decide_true,decide_false,Qar,Qas,gS,oG,tC,Gj,xK,we,qW,Gi,xM,xJ,Gf,tOp,tUn,tCB,kj,oU,Gk,Gg,tFn,tB2,Ge,tOr,Gh,trV,tSl,iX,pT,Gu,vOr,LJ,E1,FE,yw,lV,ltV,eqR,neR,sc,isV,Bb,FG,ixV,slV,wI,CO,isS,Bs,yC,pG,tBM,Ln,tyV,tFE,L_T]
 show(_,.inl Y,?_);unfold yi at q;rw[jO];show zF (λx=>?_) (λx=>?_)
 .rw[Zx x]at q;show(_,_,.inl Y,Y0 (.int 0) I (by simpa using x),Zw.refl _,by rw[A7];show q)
 rw[Zo x]at q;show(Zw.refl _,q)
def fz(K:Qb):Sp:=λv H Q _=>aR (λa=>aI (λk=>a0 (∃ns:List Int,SqL K H a (ns.map V.int)/\0<=k/\∀n:Int,Q (.int n) H))) v
theorem Kw(F:Fun K "_law_big" "_law_big" y9 f fd)(B:Bn mg)(J:Fn P w K mg base 1 "_law_cell_at" d0 (Y6 K)):Z0 P w K mg base CX0 2 f fd xW (fz K):=by
 show F.pure bS (λO A outer s H y Q E Z m=>aR_all m λa _ m=>aI_all m λk _ m=>a0_all m λh=>?_)
 repeat clear m
 obtain⟨ns,d,M,q⟩:=h;show(_,(Ze (Zu 2 bS.nd (zm (Zk Zl (Zk Zl (Zk Zl (Zk Zl (Zk Zl (Zk Zl (Zk Zl (Zh Zl)))))))))) (Ze (Zu 3 bS.nd (zm (Zk Zl (Zk Zl (Zk Zl (Zk Zl (Zk Zl (Zk Zl (Zk Zl (Zh Zl)))))))))) (Ze (Zu 4 bS.nd (Z8 J Z (Zk vq0 (Zh vq1)))) (Ze (Z5 (ZV bf (Zt qb (qv 4) Zl) Zl) (Zj (ZC (Zt JM (qv 4) Zl))) ZG) (Ze (Zu 5 bS.nd Zl) (Ze (mL PassesOwn.never rfl B.range (Zh Zl) (qai 6 bS.nd) (YM (Ze (Zu 7 bS.nd (Zt ZJ (Zt ZJ (Zt qb (Z8 J Z (Zk vq0 (Zh (Zt ZJ vq1 (Zt qb (qv 6) Zl))))) (Zt Xu Zl Zl)) Zl) (Zt BA (qv 6) (qv 6)))) (Zj (Zu 5 bS.nd (Zt ZJ (Zt BA (qv 5) Zl) (Zt qb (Zt qb (Zt BA (qv 7) (ZP K vq2 (Zt qb (qv 6) Zl))) (ZP K vq3 (Zt qb (qv 6) Zl))) Zl))))))) (Zj (ZC (qv 5))))))))),stR ?_);dsimp![Dt,Y6];have u:=jT;show(⋯,λp C=>(⋯,λj r=>?_));have S:=Zw.upd (o:=HO.tup (tN.map V.int)) (Zw.updN (o:=HO.tup (byL.map V.int)) C) r;show(ns,S.seq d,M,zF (λ_=>((∅,∅),S,q _)) λ_=>?_);show((∅,∅),λi D I=>I=upd (upd H p (HO.tup (byL.map V.int))) j (HO.tup (tN.map V.int))/\∃c b v w,D=[Qr (V.ref a),Qr (V.int k),Qr (V.ref p),Qr (V.ref j),Qr (V.int c),Qr (V.int b),v,w],(rfl,_,_,_,_,rfl),?_,?_)
 .intro i D I z t;obtain⟨rfl,c,b,v,w,rfl⟩:=t;dsimp![Y6];have Y:0<=(0+(i:Int))%8:=QR _ ∅;have g:(0+(i:Int))%8<8:=QM _ ∅;have R:0<=(0+(i:Int))%9:=QR _ ∅;have bs:∀n:Nat,n<8-> -(2 ^ 64)<byL.getD n 0/\byL.getD n 0<2 ^ 64:=by decide
  have x:(i:Int)<60:=⋯
  show(ns,S.seq d,⋯,(∅,∅,∅),∅,.inl (⋯,⋯),.inr (∅,∅),_,_,.inr (SqT.of (sh r)),DX (l:=byL) Y g,?_);dsimp! only[true_and];show(.inr (bs _ ⋯),_,_,.inr (SqT.of Zi),DX (l:=tN) Y g,?_);dsimp![true_and];show(FX Y g,_,_,_,_,rfl)
 intro D I t;obtain⟨rfl,c,b,v,w,rfl⟩:=t;dsimp! only[true_and];show(S,q _)
def bE(K:Qb):Sp:=λv H Q _=>a0 (Q (.str (T zg)) H) v
theorem C9(F:Fun K "_law_stock" "_law_stock" oN f fd):Z0 P w K mg base CX0 1 f fd iL (bE K):=by
 show F.pure t6 (λC A outer s H v Q E Y m=>a0_all m λh=>?_)
 repeat clear m
 show(_,(Ze (Zu 0 t6.nd Zr) (Zj (ZC (Zt ZJ vq0 Zr)))),stR ?_);dsimp! only[true_and];have e:L (Qe " !\"#$&'()*+,-./0123456789:;<=>?@ABCDEFGHIJKLMNOPQRSTUVWXYZ[\\]^_`")++L (Qe "abcdefghijklmnopqrstuvwxyz{|}~")=zg:=by rfl'
 rw[e];show(by rfl',Zw.refl _,h)
def dj(K:Qb):Sp:=λv H Q _=>aI (λ_=>aI (λm=>a0 (0<=m/\m<=1000/\∀(l:Zg) (n:Int) (t:jP),(Qa l:Int)<=m->(∀c∈l,c∈zg)->H t=Qs->Q (.ref t) (upd H t (.tup [.str (T l),.int n]))))) v
theorem yJ(F:Fun K "_law_text_of" "_law_text_of" iG f fd)(B:Bn mg)(dm:Fn P w K mg base 1 "_law_stock" iL (bE K)):Z0 P w K mg base CX0 2 f fd gZ (dj K):=by
 show F.ok zk (λa3 A _ s H vs Q E hr p=>aI_all p λC _ p=>aI_all p λm _ p=>a0_all p λh=>ZL h λm0 m1 q=>?_)
 repeat clear p
 clear h;show(_,(Ze (Zu 2 zk.nd (KI dm (hr.mono ∅))) (Ze (Zu 3 zk.nd (Zt qb vq0 (Zt ZJ vq1 Zl))) (Ze (Zu 0 zk.nd (Zt JM vq0 (Zt ZJ vq1 Zl))) (Ze (Zu 4 zk.nd (Zt qb vq0 Zl)) (Ze (Zu 0 zk.nd (Zt JM vq0 Zl)) (Ze (ZK (Z5 (ZV nT (qv 4) Zl) (Ze (ZK (Zu 5 zk.nd (Zt ZJ (ZP K vq2 (Zt qb vq0 Zl)) (ZP K vq2 (Zt qb (Zt JM vq0 Zl) Zl))))) (Ze (ZK (Zu 5 zk.nd (Zt ZJ (qv 5) (ZP K vq2 (Zt qb (Zt JM vq0 Zl) Zl))))) (Ze (Zu 2 zk.nd (YO K (qv 5) qd (aE (qv 4)))) (Zj (Zu 0 zk.nd (Zt JM vq0 Zl)))))) ZG)) (Ze (Zu 6 zk.nd Zr) (Ze (mL PassesOwn.never rfl B.range (Zh vq3) (qai 7 zk.nd) (YM (Ze (Zu 6 zk.nd (Zt ZJ (qv 6) (ZP K vq2 (Zt qb vq0 (Z4 K B.len vq2))))) (Zj (Zu 0 zk.nd (Zt JM vq0 (Z4 K B.len vq2))))))) (Zj (ZC (zm (Zk (qv 6) (Zh vq0))))))))))))),stR ?_);dsimp![Dt,bE];have r:=jT;have k0:0<=C/(m+1)%4:=QR _ ∅;have k1:C/(m+1)%4<4:=QM _ ∅;have z0:0<=C%(m+1):=QR _ ⋯;have z1:C%(m+1)<m+1:=QM _ ⋯
 generalize C/(m+1)%4=kd at k0 k1 ⊢
 generalize C%(m+1)=sz at z0 z1 ⊢
 show(⋯,(⋯,⋯),(∅,∅),?_);generalize C/(m+1)/4=bg;show zx (λd I=>I=H/\∃(st:Zg) (b:Int) (v:Option V),0<Qa st/\Qa st<=94/\(∀c∈st,c∈zg)/\d=[Qr (V.int b),Qr (V.int m),Qr (V.str (T st)),Qr (V.int sz),Qr (V.int kd),v,Qs,Qs]) ?_ ?_
 .dsimp![true_and];show zF (λe=>?_) λe=>(zg,_,_,by rw[JX];decide,by rw[JX];show Qg _,λc g=>g,rfl);have M:∀x:Int,0<=x%94/\x%94<94:=λx=>(QR _ ∅,QM _ ∅);have D:∀x:Int,atI zg (x%94)=Qr (zg.getD (x%94).toNat 0):=λx=>Y0 0 (M x).1 (by rw[JX];show(M x).2);have S:∀x:Int,zg.getD (x%94).toNat 0∈zg:=λx=>Lg (by have:=M x;lia);have Y:Qa zg<=sizeLine:=by rw[JX,r];decide
  have kk:kd=1\/kd=2\/kd=3:=⋯
  have cc:∀x y w:Nat,0<Qa (cut [x,y,w] Qs (Qr kd)):=by intro x y w;rcases kk with rfl|rfl|rfl;change 0<1;decide;change 0<2;decide;change 0<3;decide
  show zx (λd I=>I=H/\d=[Qr (V.int bg),Qr (V.int m),Qr (V.str (T zg)),Qr (V.int sz),Qr (V.int kd),Qr (V.str (T [zg.getD (bg%94).toNat 0,zg.getD (bg/94%94).toNat 0])),Qs,Qs]) ?_ ?_
  .dsimp![true_and];show(Y,_,D bg,(∅,∅),Y,_,D _,⋯,rfl)
  intro _ H u;obtain⟨rfl,rfl⟩:=u;show zx (λd I=>I=H/\d=[Qr (V.int bg),Qr (V.int m),Qr (V.str (T zg)),Qr (V.int sz),Qr (V.int kd),Qr (V.str (T [zg.getD (bg%94).toNat 0,zg.getD (bg/94%94).toNat 0,zg.getD (bg/8836%94).toNat 0])),Qs,Qs]) ?_ ?_
  .dsimp![true_and];show((∅,∅),Y,_,D _,⋯,rfl)
  intro _ H u;obtain⟨rfl,rfl⟩:=u;dsimp![true_and];show(⋯,(∅,∅),_,_,_,cc _ _ _,?_,λc g=>?_,rfl)
  .have:=cY [zg.getD (bg%94).toNat 0,zg.getD (bg/94%94).toNat 0,zg.getD (bg/8836%94).toNat 0] Qs (Qr kd);simp only[jV,uC]at this
   lia
  have:=LW.l9 g;simp only[ui,QF,or_false]at this;rcases this with rfl|rfl|rfl<;>show S _
 intro d I u;show ZI u λz Z=>cD Z λst b v h0 h9 hs a2=>?_;clear Z u;subst z;subst a2;dsimp! only[Dt];show((⋯,⋯),λi R J=>J=I/\∃(b:Int) (O:Str) (v':Option V),Qa (L O)=i/\(∀c∈L O,c∈zg)/\R=[Qr (V.int b),Qr (V.int m),Qr (V.str (T st)),Qr (V.int sz),Qr (V.int kd),v,Qr (V.str O),v'],(rfl,_,_,_,by rw[lL];rfl,by rw[lL];simp,rfl),?_,?_)
 .intro i R J hi u;show ZI u λz Z=>Z6 Z λb O v' ht U j=>?_;clear Z u;subst z;subst j;dsimp![true_and];have n0:0<=b%(Qa st:Int):=QR _ ⋯;have n1:b%(Qa st:Int)<Qa st:=QM _ ⋯;show(⋯,⋯,⋯,_,Y0 0 n0 n1,⋯,⋯,(⋯,⋯),_,_,_,?_,λc g=>?_,rfl);rw[L_T,jR,jW,ht];rw[L_T]at g;rcases ut.mp g with g|g;show U c g;have e:c=st.getD (b%(Qa st:Int)).toNat 0:=by simpa using g
  rw[e];have lt:(b%(Qa st:Int)).toNat<Qa st:=⋯
  show hs _ ?_;rw[Qc,Qd lt];show QN lt
 intro R J u;show ZI u λz Z=>Z6 Z λb O v' ht U j=>?_;clear Z u;subst z;subst j;dsimp! only[true_and];show(⋯,λt a1=>?_);have:=q (L O) b t ⋯ U a1;rw[T_L]at this;show this
theorem zj{l:Zg}{r:Int}(m:0<=r)(H:r<Qa l):l.getD r.toNat 0∈l:=by
 have:r.toNat<Qa l:=⋯
 rw[Qc,Qd this];show QN this
noncomputable def abc:Zg:=(Qi 26).map (97+·)
theorem ON:∀j:Nat,j<26->97<=abc.getD j 0/\abc.getD j 0<=122:=by decide
def aC(K:Qb):Sp:=λv H Q _=>aI (λ_=>a0 (∀(l:Zg) (n:Int) (t:jP),qz l->H t=Qs->Q (.ref t) (upd H t (.tup [.str (T l),.int n])))) v
theorem yI(F:Fun K "_law_name_of" "_law_name_of" iF f fd)(B:Bn mg):Z0 P w K mg base CX0 1 f fd gY (aC K):=by
 show F.ok qD (λM A _ s H vs Q E hr m=>aI_all m λC _ m=>a0_all m λh=>?_)
 repeat clear m
 have q:=h;show(_,(Ze (Zu 1 qD.nd (Zt ZJ Zl (Zt qb vq0 Zl))) (Ze (Zu 0 qD.nd (Zt JM vq0 Zl)) (Ze (Zu 2 qD.nd Zr) (Ze (mL PassesOwn.never rfl B.range (Zh vq1) (qai 3 qD.nd) (YM (Ze (Zu 2 qD.nd (Zt ZJ vq2 (ZP K Zr (Zt qb vq0 Zl)))) (Zj (Zu 0 qD.nd (Zt JM vq0 Zl)))))) (Zj (ZC (zm (Zk vq2 (Zh vq0))))))))),stR ?_);have y:=jT;have u:L (Qe "abcdefghijklmnopqrstuvwxyz")=abc:=by rfl'
 have J:Qa abc=26:=rfl;have x:Qe ""=T []:=by rfl'
 simp![Dt,Mp];have U:0<=C%8:=QR _ ∅;have O:C%8<8:=QM _ ∅
 generalize C%8=sz at U O ⊢
 show((∅,∅),(⋯,⋯),λi g I=>I=H/\∃(b:Int) (l:Zg) (v:Option V),Qa l=i/\(∀c∈l,97<=c/\c<=122)/\g=[Qr (V.int b),Qr (V.int (1+sz)),Qr (V.str (T l)),v],(rfl,_,[],Qs,rfl,(λc d=>by cases d),by rw[x]),?_,?_)
 .intro i g I hi t;show ZI t λz Y=>Z6 Y λb l v j r Z=>?_;clear Y t;subst z;subst Z;simp![u];have S:=QR b (show(26:Int)≠0 by decide);have R:=QM b (show(0:Int)<26 by decide);show(by rw[J];lia,_,Y0 0 S (by rw[J];show R),⋯,(∅,∅),_,l++[abc.getD (b%26).toNat 0],_,by rw[jR,j];rfl,λc d=>?_,rfl);rcases ut.mp d with d|d;show r c d;rw[j5.mp d];show ON _ ⋯
 intro g I t;show ZI t λz Y=>Z6 Y λb l v j r Z=>?_;clear Y t;subst z;subst Z;simp! only[true_and];show(⋯,λp D=>q l b p (⋯,⋯,r) D)
noncomputable def pc1(b:Int)(p:Zg)(c:Nat):Zg:=if b%6=1 then p++[c]else p
noncomputable def pc2(b:Int)(p:Zg)(c:Nat):Zg:=if b%6=2 then cut p Qs (Qr (-1))++[c]else p
noncomputable def pcG(x:Zg)(p sz b:Int):Zg:=pc2 b (pc1 b (cut x (Qr p) (Qr (p+sz))) (zg.getD (b/6%94).toNat 0)) (zg.getD (b/6%94).toNat 0)
noncomputable def pcL(x:Zg)(b:Int):Zg:=pcG x (b%(Qa x+1)) (b/(Qa x+1)%(Qa x-b%(Qa x+1)+1)) (b/(Qa x+1)/(Qa x-b%(Qa x+1)+1))
noncomputable def pcN(x:Zg)(b:Int):Int:=b/(Qa x+1)/(Qa x-b%(Qa x+1)+1)/564
theorem KC{x:Zg}(b:Int)(g:∀c∈x,c∈zg):Qa (pcL x b)<=Qa x+2/\∀c∈pcL x b,c∈zg:=by
 unfold pcL pcG;generalize b%((Qa x:Int)+1)=m;generalize b/((Qa x:Int)+1)%((Qa x:Int)-m+1)=sz;generalize b/((Qa x:Int)+1)/((Qa x:Int)-m+1)=b2;have H:zg.getD (b2/6%94).toNat 0∈zg:=zj (QR _ ∅) (by rw[JX];show QM _ ∅);have B:=cY x (Qr m) (Qr (m+sz));have C:∀c∈cut x (Qr m) (Qr (m+sz)),c∈zg:=λc H=>g c (LW.l9 H)
 generalize cut x (Qr m) (Qr (m+sz))=p at B C ⊢
 generalize zg.getD (b2/6%94).toNat 0=c at H ⊢
 have z:Qa (pc1 b2 p c)<=Qa x+1/\∀y∈pc1 b2 p c,y∈zg:=by unfold pc1;split;show(by rw[jR,jW];lia,λy q=>(ut.mp q).elim (C y) λh=>by rw[j5.mp h];show H);show(⋯,C)
 generalize pc1 b2 p c=p1 at z;unfold pc2;split
 .have:=cY p1 Qs (Qr (-1));show(by rw[jR,jW];lia,λy q=>(ut.mp q).elim (λh=>z.2 y (LW.l9 h)) λh=>by rw[j5.mp h];show H)
 show(⋯,z.2)
def bK(K:Qb):Sp:=λv H Q _=>aS (λz=>aI (λb=>a0 (Qa (L z)<=1000/\∀t:jP,H t=Qs->Q (.ref t) (upd H t (.tup [.str (T (pcL (L z) b)),.int (pcN (L z) b)]))))) v
theorem wQ(F:Fun K "_law_piece_of" "_law_piece_of" gc f fd)(B:Bn mg)(r:Fn P w K mg base 1 "_law_stock" iL (bE K)):Z0 P w K mg base CX0 2 f fd fN (bK K):=by
 show F.ok zZ (λM A _ s H v Q E Y m=>aS_all m λz _ m=>aI_all m λC _ m=>a0_all m λh=>?_)
 repeat clear m
 obtain⟨y,q⟩:=h;show(_,(Ze (Zu 2 zZ.nd (Zt qb vq1 (Zt ZJ (Z4 K B.len vq0) Zl))) (Ze (Zu 1 zZ.nd (Zt JM vq1 (Zt ZJ (Z4 K B.len vq0) Zl))) (Ze (Zu 3 zZ.nd (Zt qb vq1 (Zt ZJ (Zt cV (Z4 K B.len vq0) vq2) Zl))) (Ze (Zu 1 zZ.nd (Zt JM vq1 (Zt ZJ (Zt cV (Z4 K B.len vq0) vq2) Zl))) (Ze (Zu 4 zZ.nd (YO K vq0 (aE vq2) (aE (Zt ZJ vq2 vq3)))) (Ze (Zu 5 zZ.nd (ZP K (KI r (Y.mono ∅)) (Zt qb (Zt JM vq1 Zl) Zl))) (Ze (ZK (Z5 (ZV bf (Zt qb vq1 Zl) Zl) (Zj (Zu 4 zZ.nd (Zt ZJ (qv 4) (qv 5)))) ZG)) (Ze (ZK (Z5 (ZV bf (Zt qb vq1 Zl) Zl) (Zj (Zu 4 zZ.nd (Zt ZJ (YO K (qv 4) qd (aE (N7 Om Zl))) (qv 5)))) ZG)) (Zj (ZC (zm (Zk (qv 4) (Zh (Zt JM vq1 Zl)))))))))))))),stR ?_);have g:=jT;have S:Qa zg<=sizeLine:=by rw[JX,g];decide
 simp![bE];unfold pcL pcN at q;have R:=QR C (show(Qa (L z):Int)+1≠0 by lia);have U:=QM C (show 0<(Qa (L z):Int)+1 by lia)
 generalize C%((Qa (L z):Int)+1)=pl at R U q ⊢
 generalize C/((Qa (L z):Int)+1)%((Qa (L z):Int)-pl+1)=sz at q ⊢
 show(⋯,⋯,⋯,(⋯,⋯),⋯,⋯,⋯,(⋯,⋯),⋯,(∅,∅),S,?_)
 generalize C/((Qa (L z):Int)+1)/((Qa (L z):Int)-pl+1)=b2 at q ⊢
 have j:=QR (b2/6) (show(94:Int)≠0 by decide);have Z:=QM (b2/6) (show(0:Int)<94 by decide);show(_,Y0 0 j (by rw[JX];show Z),?_);unfold pcG at q;have J:=cY (L z) (Qr pl) (Qr (pl+sz))
 generalize cut (L z) (Qr pl) (Qr (pl+sz))=pc at J q ⊢
 generalize zg.getD (b2/6%94).toNat 0=c at q ⊢
 show zx (λd I=>I=H/\d=[Qr (V.str z),Qr (V.int b2),Qr (V.int pl),Qr (V.int sz),Qr (V.str (T (pc1 b2 pc c))),Qr (V.str (T [c]))]) ?_ ?_
 .simp![true_and];unfold pc1;show zF (λe=>(⋯,by rw[Zx e])) λe=>by rw[Zo e]
 intro _ H t;obtain⟨rfl,rfl⟩:=t
 have O:Qa (pc1 b2 pc c)<=Qa (L z)+1:=by
  unfold pc1;split;rw[jR,jW];lia
  lia
 generalize pc1 b2 pc c=l at O q ⊢
 have u:=cY l Qs (Qr (-1));show zx (λd I=>I=H/\d=[Qr (V.str z),Qr (V.int b2),Qr (V.int pl),Qr (V.int sz),Qr (V.str (T (pc2 b2 l c))),Qr (V.str (T [c]))]) ?_ ?_
 .simp![true_and];unfold pc2;show zF (λe=>(⋯,⋯,by rw[Zx e])) λe=>by rw[Zo e]
 intro _ H t;obtain⟨rfl,rfl⟩:=t;simp! only[true_and];show((∅,∅),⋯,λp D=>q p D)
noncomputable def nmK:Nat->Str
 |4=>Qe "NoTimes"
 |5=>Qe "Empty"
 |_=>Qe "other"
theorem e00:Qe ""=T []:=by rfl'
def zM(K:Qb)(B r C:jP)(D U:jP):Sp:=λv H Q _=>aR (λo=>aS (λz=>a0 (∃t O,qh C H o t O/\Qa O<=1000/\Qa (L z)<=5000/\Zp D H/\Zv U H/\U≠D/\Ja O (L z) (λd x=>∀I p,SD D U (upd H t (.dK (txK d))) I->H p=Qs->I p=Qr (.tup [.str (T []),.str (T x)])->Q (.ref p) I)
 (λk=>∀I p,SD D U H I->H p=Qs->I p=Qr (.tup [.str (nmK k),.str (T [])])->Q (.ref p) I)))) v
theorem FL(F:Fun K "_law_said" "_law_said" tW f fd)(B:Bn mg)(O:Er K mg c)(y:Md P w K mg base (CX1 P w) 9 ZM "say" fI [] (bG K c Zd Zs ZM Za Zb)):Z0 P w K mg base CX0 10 f fd lG (zM K Zd Zs ZM Za Zb):=by
 show F.ok xI (λa1 A _ s H vs Q E Y m=>aR_all m λo _ m=>aS_all m λz _ m=>a0_all m λh=>?_)
 repeat clear m
 show zQ h λt R Z=>ZO Z λj J hz b1 b2 Z=>ZI Z λne q=>?_;clear Z h;show(_,(Ze (RJ rfl rfl (λpn E F T=>(Zj (Zu 2 xI.nd (iw T y Y vq0 (Zh vq1))))) (tM O.qaY rfl O.qa6 (λa=>(Zj (ZC (zm (Zk Zr (Zh Zr)))))) (tM O.qaD rfl O.qaM (λa=>(Zj (ZC (zm (Zk Zr (Zh Zr)))))) (tM O.qaI rfl O.qaH (λa=>(Zj (ZC (zm (Zk Zr (Zh Zr)))))) Rw))) ZG) (Ze (Z5 (yQ (tQ (K:=K) rfl (qk (O1 (K:=K) rfl) (by rfl) B.isinstance wy (Zk vq2 (Zh (MX (v:=.ty "str") rfl B.str kE rfl)))))) (Zj (ZC (zm (Zk Zr (Zh Zr))))) ZG) (Zj (ZC (zm (Zk Zr (Zh vq2))))))),stR ?_);have a2:=jT;simp! only[bG,e00];obtain⟨⟨U,M⟩,ht⟩:=id j;show(o,U,_,rfl,M,rfl,t,R,j,J,hz,b1,b2,ne,Ja.mono ?_ ?_ q)
 .show λg x r I S=>(⋯,λp C=>r _ p (S.trans (SD.of (Zw.updN C) S.b1 S.b2)) (nj (S.same.free C)).1 Zi)
 rintro k r J I S;have d:∀{k:Nat},(∀I p,SD Za Zb H I->H p=Qs->I p=Qr (.tup [.str (nmK k),.str (T [])])->Q (.ref p) I)->2<=sizeLine/\∀p,I p=Qs->Q (.ref p) (upd I p (.tup [.str (nmK k),.str (T [])])):=λr=>(⋯,λp C=>r _ p (S.trans (SD.of (Zw.updN C) S.b1 S.b2)) (S.same.free C) Zi);rcases J with rfl|rfl|rfl
 .have u:¬((Jn K c.NoTimes).contains (Qw c.Empty)=true):=by rw[O.qau];decide
  show(O.qaD,(Zo u).symm▸(O.qaD,(Zx O.qan).symm▸d r))
 show(O.qaY,(Zx O.qax).symm▸d r);have u:¬((Jn K c.NoName).contains (Qw c.Empty)=true):=by rw[O.qaw];decide
 have D:¬((Jn K c.NoName).contains (Qw c.NoTimes)=true):=by rw[O.qat];decide
 show(O.qaF,(Zo u).symm▸(O.qaF,(Zo D).symm▸(O.qaF,(Zx O.qal).symm▸d r)))
noncomputable def p8(x:Zg)(b:Int):Zg:=cut (pcL x (b/12)) Qs (Qr 8)
noncomputable def nB(x:Zg)(b:Int):Int:=pcN x (b/12)
noncomputable def wrd(s:String)(t:Zg)(n:Zg):Zg:=cd s++32::(n++t)
noncomputable def iz(x:Zg)(b:Int)(n:Zg):Zg:=
 if b%12<3 then wrd "ahead" (32::p8 x b) n else if b%12<5 then wrd "off" (32::ZR (nB x b%6)) n else if b%12=5 then wrd "off" (32::ZR (nB x b%(Qa x+4))) n else
 if b%12=6 then wrd "near" (32::(ZR (nB x b%4)++32::p8 x b)) n else if b%12=7 then wrd "often" (32::ZR (nB x b%(Qa x+4))) n else
 if b%12=8 then wrd "cut" (32::(p8 x b++cut x Qs (Qr 9))) n else
 if b%12=9 then(if nB x b%3=0 then wrd "kinds" [] n else if nB x b%3=1 then wrd "lone" [] n else wrd "pack" [] n)else
 if b%12=10 then wrd "find" (32::p8 x b) n else wrd "count" (32::p8 x b) n
theorem N6{x:Zg}(b:Int)(g:∀c∈x,c∈zg):Qa (p8 x b)<=8/\∀c∈p8 x b,c∈zg:=by
 show(?_,λc H=>(KC _ g).2 c (LW.l9 H));unfold p8;rw[show(Qr (8:Int))=Qr ((8:Nat):Int)from rfl,yl,jZ]
 lia
def bT(K:Qb):Sp:=λv H Q _=>aS (λn=>aS (λz=>aI (λb=>a0 (Qa (L n)<=8/\Qa (L z)<=900/\(∀c∈L z,c∈zg)/\∀I,Zw H I->Q (.str (T (iz (L z) b (L n)))) I)))) v
theorem BF(F:Fun K "_law_row_of" "_law_row_of" kZ f fd)(B:Bn mg)(fG:Fn P w K mg base 2 "_law_piece_of" fN (bK K)):Z0 P w K mg base CX0 3 f fd kA (bT K):=by
 show F.ok JW (λab A _ s H vs Q E hr D=>aS_all D λn _ D=>aS_all D λz _ D=>aI_all D λb _ D=>a0_all D λh=>za h λhn hz hs q=>?_)
 repeat clear D
 clear h;show(_,(Ze (Zu 3 JW.nd (Zt qb vq2 Zl)) (Ze (ZK (tO (Z8 fG hr (Zk vq1 (Zh (Zt JM vq2 Zl)))) (rY (K:=K) (n:=2) rfl rfl (Y4 (qai 4 JW.nd) (Y4 (qai 2 JW.nd) fY))))) (Ze (Zu 4 JW.nd (YO K (qv 4) qd (aE Zl))) (Ze (ZK (Zu 5 JW.nd (Yt nC (by rfl) B.str kE (Zh (Zt qb vq2 (Zt ZJ (Z4 K B.len vq1) Zl)))))) (Ze (ZK (Z5 (ZV rA vq3 Zl) (Zj (ZC (Zt ZJ (Zt ZJ (Zt ZJ Zr vq0) Zr) (qv 4)))) ZG)) (Ze (ZK (Z5 (ZV rA vq3 Zl) (Zj (ZC (Zt ZJ (Zt ZJ (Zt ZJ Zr vq0) Zr) (Yt nC (by rfl) B.str kE (Zh (Zt qb vq2 Zl)))))) ZG)) (Ze (ZK (Z5 (ZV bf vq3 Zl) (Zj (ZC (Zt ZJ (Zt ZJ (Zt ZJ Zr vq0) Zr) (qv 5)))) ZG)) (Ze (ZK (Z5 (ZV bf vq3 Zl) (Zj (ZC (Zt ZJ (Zt ZJ (Zt ZJ (Zt ZJ (Zt ZJ Zr vq0) Zr) (Yt nC (by rfl) B.str kE (Zh (Zt qb vq2 Zl)))) Zr) (qv 4)))) ZG)) (Ze (ZK (Z5 (ZV bf vq3 Zl) (Zj (ZC (Zt ZJ (Zt ZJ (Zt ZJ Zr vq0) Zr) (qv 5)))) ZG)) (Ze (ZK (Z5 (ZV bf vq3 Zl) (Zj (ZC (Zt ZJ (Zt ZJ (Zt ZJ (Zt ZJ Zr vq0) Zr) (qv 4)) (YO K vq1 qd (aE Zl))))) ZG)) (Ze (ZK (Z5 (ZV bf vq3 Zl) (Zj (ZC (Zt ZJ (ZP K (zm (Zk Zr (Zk Zr (Zh Zr)))) (Zt qb vq2 Zl)) vq0))) ZG)) (Zj (ZC (Zt ZJ (Zt ZJ (Zt ZJ (ZP K (zm (Zk Zr (Zh Zr))) (Zt cV vq3 Zl)) vq0) Zr) (qv 4))))))))))))))),stR ?_);have ak:=jT;have e1:L (Qe " ")=[32]:=by rfl'
 simp![true_and];show zx (λd I=>Zw H I/\d=[Qr (V.str n),Qr (V.str z),Qr (V.int (nB (L z) b)),Qr (V.int (b%12)),Qr (V.str (T (pcL (L z) (b/12)))),Qs]) ?_ ?_
 .simp! only[bK,A6,pF,CJ];show((∅,∅),⋯,λt ht=>(t,_,rfl,SqT.of Zi,rfl,_,_,rfl,_,_,rfl,rfl,Zw.updN ht,rfl))
 intro _ J u;obtain⟨s1,rfl⟩:=u;obtain⟨pl,ps⟩:=N6 b hs;have am:=(KC (b/12) hs).1;have v:∀l,l=iz (L z) b (L n)->∀I,Zw J I->Q (.str (T l)) I:=λl e I s=>e▸q I (s1.trans s);clear q;have k0:=QR b (show(12:Int)≠0 by decide);have k1:=QM b (show(0:Int)<12 by decide);have mg:∀m:Int,0<m->m<=1000->0<=nB (L z) b%m/\nB (L z) b%m<m:=λm h0 _=>(QR _ ⋯,QM _ h0);have ml:∀m:Int,0<m->m<=1000->(nB (L z) b%m).natAbs.log2<1920:=λm h0 h1=>dv (by have:=mg m h0 h1;show Qp (show(nB (L z) b%m).natAbs<1000 by lia) ∅);have mn:∀m:Int,0<m->m<=1000->Qa (ZR (nB (L z) b%m))<=4:=λm h0 h1=>by have:=mg m h0 h1;obtain⟨j,hj⟩:∃j:Nat,nB (L z) b%m=(j:Int):=(_,(W5 this.1).symm);rw[hj];show(dc j ∅).mpr ⋯
 simp![true_and];show(⋯,zx (λd I=>I=J/\d=[Qr (V.str n),Qr (V.str z),Qr (V.int (nB (L z) b)),Qr (V.int (b%12)),Qr (V.str (T (p8 (L z) b))),Qr (V.str (T (ZR (nB (L z) b%(Qa (L z)+4)))))]) ?_ ?_)
 .simp![rJ];show(⋯,⋯,ml _ ⋯ ⋯,rfl)
 intro _ J u;obtain⟨rfl,rfl⟩:=u;have m4:=mn (Qa (L z)+4) ⋯ ⋯;have m6:=mn 6 ⋯ ⋯;have al:=mn 4 ⋯ ⋯;have c9:=cY (L z) Qs (Qr 9);have C:L (Qe "ahead ")=cd "ahead"++[32]:=by rfl'
 have x:L (Qe "off ")=cd "off"++[32]:=by rfl'
 have Y:L (Qe "near ")=cd "near"++[32]:=by rfl'
 have M:L (Qe "often ")=cd "often"++[32]:=by rfl'
 have a1:L (Qe "cut ")=cd "cut"++[32]:=by rfl'
 have w_find:L (Qe "find ")=cd "find"++[32]:=by rfl'
 have w_count:L (Qe "count ")=cd "count"++[32]:=by rfl'
 have O:L (Qe "kinds ")=cd "kinds"++[32]:=by rfl'
 have g:L (Qe "lone ")=cd "lone"++[32]:=by rfl'
 have y:L (Qe "pack ")=cd "pack"++[32]:=by rfl'
 have a2:Qa (cd "ahead")<=5:=by rfl'
 have a9:Qa (cd "off")<=5:=by rfl'
 have a7:Qa (cd "near")<=5:=by rfl'
 have a4:Qa (cd "often")<=5:=by rfl'
 have v_cut:Qa (cd "cut")<=5:=by rfl'
 have a5:Qa (cd "find")<=5:=by rfl'
 have v_count:Qa (cd "count")<=5:=by rfl'
 have a3:Qa (cd "kinds")<=5:=by rfl'
 have a6:Qa (cd "lone")<=5:=by rfl'
 have a8:Qa (cd "pack")<=5:=by rfl'
 show zx (λd I=>I=J/\¬b%12<3/\d=[Qr (V.str n),Qr (V.str z),Qr (V.int (nB (L z) b)),Qr (V.int (b%12)),Qr (V.str (T (p8 (L z) b))),Qr (V.str (T (ZR (nB (L z) b%(Qa (L z)+4)))))]) ?_ ?_
 .simp![rJ,e1,C,jR,jW];show zF (λh=>(⋯,⋯,⋯,v _ (by unfold iz;rw[Zx h];simp[wrd]) _ (Zw.refl _))) λh=>h
 intro _ J u;show ZL u λr S Z=>?_;clear u;subst r;subst Z;show zx (λd I=>I=J/\¬b%12<5/\d=[Qr (V.str n),Qr (V.str z),Qr (V.int (nB (L z) b)),Qr (V.int (b%12)),Qr (V.str (T (p8 (L z) b))),Qr (V.str (T (ZR (nB (L z) b%(Qa (L z)+4)))))]) ?_ ?_
 .simp![rJ,e1,x,jR,jW];show zF (λh=>(⋯,⋯,ml 6 ⋯ ⋯,⋯,v _ (by unfold iz;rw[Zo S,Zx h];simp[wrd]) _ (Zw.refl _))) λh=>h
 intro _ J u;show ZL u λr U Z=>?_;clear u;subst r;subst Z;show zx (λd I=>I=J/\¬b%12=5/\d=[Qr (V.str n),Qr (V.str z),Qr (V.int (nB (L z) b)),Qr (V.int (b%12)),Qr (V.str (T (p8 (L z) b))),Qr (V.str (T (ZR (nB (L z) b%(Qa (L z)+4)))))]) ?_ ?_
 .simp![rJ,e1,x,jR,jW];show zF (λh=>(⋯,⋯,⋯,v _ (by unfold iz;rw[Zo S,Zo U,Zx h];simp[wrd]) _ (Zw.refl _))) λh=>h
 intro _ J u;show ZL u λr n2 Z=>?_;clear u;subst r;subst Z;show zx (λd I=>I=J/\¬b%12=6/\d=[Qr (V.str n),Qr (V.str z),Qr (V.int (nB (L z) b)),Qr (V.int (b%12)),Qr (V.str (T (p8 (L z) b))),Qr (V.str (T (ZR (nB (L z) b%(Qa (L z)+4)))))]) ?_ ?_
 .simp![rJ,e1,Y,jR,jW];show zF (λh=>(⋯,⋯,ml 4 ⋯ ⋯,⋯,⋯,⋯,v _ (by unfold iz;rw[Zo S,Zo U,Zo n2,Zx h];simp[wrd]) _ (Zw.refl _))) λh=>h
 intro _ J u;show ZL u λr n3 Z=>?_;clear u;subst r;subst Z;show zx (λd I=>I=J/\¬b%12=7/\d=[Qr (V.str n),Qr (V.str z),Qr (V.int (nB (L z) b)),Qr (V.int (b%12)),Qr (V.str (T (p8 (L z) b))),Qr (V.str (T (ZR (nB (L z) b%(Qa (L z)+4)))))]) ?_ ?_
 .simp![rJ,e1,M,jR,jW];show zF (λh=>(⋯,⋯,⋯,v _ (by unfold iz;rw[Zo S,Zo U,Zo n2,Zo n3,Zx h];simp[wrd]) _ (Zw.refl _))) λh=>h
 intro _ J u;show ZL u λr n4 Z=>?_;clear u;subst r;subst Z;show zx (λd I=>I=J/\¬b%12=8/\d=[Qr (V.str n),Qr (V.str z),Qr (V.int (nB (L z) b)),Qr (V.int (b%12)),Qr (V.str (T (p8 (L z) b))),Qr (V.str (T (ZR (nB (L z) b%(Qa (L z)+4)))))]) ?_ ?_
 .simp![rJ,e1,a1,jR,jW];show zF (λh=>(⋯,⋯,⋯,⋯,⋯,v _ (by unfold iz;rw[Zo S,Zo U,Zo n2,Zo n3,Zo n4,Zx h];simp[wrd]) _ (Zw.refl _))) λh=>h
 intro _ J u;show ZL u λr n5 Z=>?_;clear u;subst r;subst Z;show zx (λd I=>I=J/\¬b%12=9/\d=[Qr (V.str n),Qr (V.str z),Qr (V.int (nB (L z) b)),Qr (V.int (b%12)),Qr (V.str (T (p8 (L z) b))),Qr (V.str (T (ZR (nB (L z) b%(Qa (L z)+4)))))]) ?_ ?_
 .simp![rJ,e1];show zF (λh=>(⋯,λp hp=>?_)) λh=>h;have m3:=mg 3 ⋯ ⋯;have R:nB (L z) b%3=0\/nB (L z) b%3=1\/nB (L z) b%3=2:=⋯
  rcases R with R|R|R
  .show(_,V.str (Qe "kinds "),.inr (SqT.of Zi),by rw[R];rfl,?_);change Qa (L (Qe "kinds "))+Qa (L n)<=sizeLine/\Q (V.str (T (L (Qe "kinds ")++L n))) _;rw[O,jR];show(by rw[jW];lia,v _ (by unfold iz;rw[Zo S,Zo U,Zo n2,Zo n3,Zo n4,Zo n5,Zx h,Zx R];simp[wrd]) _ (Zw.updN hp))
  .show(_,V.str (Qe "lone "),.inr (SqT.of Zi),by rw[R];rfl,?_);change Qa (L (Qe "lone "))+Qa (L n)<=sizeLine/\Q (V.str (T (L (Qe "lone ")++L n))) _;rw[g,jR];show(by rw[jW];lia,v _ (by unfold iz;rw[Zo S,Zo U,Zo n2,Zo n3,Zo n4,Zo n5,Zx h,Zo ⋯,Zx R];simp[wrd]) _ (Zw.updN hp))
  show(_,V.str (Qe "pack "),.inr (SqT.of Zi),by rw[R];rfl,?_);change Qa (L (Qe "pack "))+Qa (L n)<=sizeLine/\Q (V.str (T (L (Qe "pack ")++L n))) _;rw[y,jR];show(by rw[jW];lia,v _ (by unfold iz;rw[Zo S,Zo U,Zo n2,Zo n3,Zo n4,Zo n5,Zx h,Zo ⋯,Zo ⋯];simp[wrd]) _ (Zw.updN hp))
 intro _ J u;show ZL u λr n6 Z=>?_;clear u;subst r;subst Z;simp! only[rJ,e1];show(⋯,λp hp=>?_);have R:b%12=10\/b%12=11:=⋯
 rcases R with R|R
 .show(_,V.str (Qe "find "),.inr (SqT.of Zi),by rw[R];rfl,?_);change Qa (L (Qe "find "))+Qa (L n)<=sizeLine/\Qa (L (Qe "find ")++L n)+1<=sizeLine/\Qa (L (Qe "find ")++L n++[32])+Qa (p8 (L z) b)<=sizeLine/\Q (V.str (T (L (Qe "find ")++L n++[32]++p8 (L z) b))) _;rw[w_find];simp only[jR,jW];show(⋯,⋯,⋯,v _ (by unfold iz;rw[Zo S,Zo U,Zo n2,Zo n3,Zo n4,Zo n5,Zo n6,Zx R];simp[wrd]) _ (Zw.updN hp))
 show(_,V.str (Qe "count "),.inr (SqT.of Zi),by rw[R];rfl,?_);change Qa (L (Qe "count "))+Qa (L n)<=sizeLine/\Qa (L (Qe "count ")++L n)+1<=sizeLine/\Qa (L (Qe "count ")++L n++[32])+Qa (p8 (L z) b)<=sizeLine/\Q (V.str (T (L (Qe "count ")++L n++[32]++p8 (L z) b))) _;rw[w_count];simp only[jR,jW];show(⋯,⋯,⋯,v _ (by unfold iz;rw[Zo S,Zo U,Zo n2,Zo n3,Zo n4,Zo n5,Zo n6,Zo ⋯];simp[wrd]) _ (Zw.updN hp))
theorem m9(c:Nat):∀n l,bO [c] (spl c n l)=l/\((spl c n l).map Qa).sum+Qa (spl c n l)=Qa l+1
 |n,[]=>(by simp[spl,bO],by simp[spl])
 |0,x::r=>(by simp[spl,bO],by simp[spl])
 |n+1,x::r=>by
  unfold spl;split
  .rename_i e;obtain⟨H,I⟩:=m9 c n r;have Q:=lr c n r;generalize spl c n r=ws at H I Q
   cases ws with
   |nil=>show ZD rfl Q
   |cons w q=>
    show(?_,by simp only[uo,UT,jV,uC]at I ⊢;lia);change[]++[c]++bO [c] (w::q)=_;rw[H,e];rfl
  obtain⟨H,I⟩:=m9 c (n+1) r;have Q:=lr c (n+1) r;generalize spl c (n+1) r=ws at H I Q
  cases ws with
  |nil=>show ZD rfl Q
  |cons w q=>
   show(?_,by simp only[ahd,uo,UT,jV,jR,uC]at I ⊢;lia);rw[<-H]
   cases q with
   |nil=>rfl
   |cons v q=>simp[ahd,bO]
theorem E3{x:V}{l:ZE}:atI (x::l) 0=Qr x:=by unfold atI ixN;rw[Zx ∅,Zx (by simp)];rfl
theorem L4{x y v:V}{l:ZE}:atI (x::y::v::l) 2=Qr v:=by unfold atI ixN;rw[Zx ∅,Zx (by simp;lia)];rfl
theorem oM{w n t:Zg}(hw:32∉w)(H:32∉n):∃Q,spl 32 (Qa (w++32::(n++t))+1) (w++32::(n++t))=w::Q:=(_,qJ _ _ hw)
theorem oK{w n u:Zg}(hw:32∉w)(j:32∉n):∃t,spl 32 (Qa (w++32::(n++32::u))+1) (w++32::(n++32::u))=w::n::t/\bO [32] t=u/\(t.map Qa).sum+Qa t=Qa u+1/\(32∉u->t=[u]):=by obtain⟨k,H⟩:∃k,Qa (w++32::(n++32::u))=k+1:=(Qa w+Qa n+Qa u+1,by simp;lia);rw[H,qJ _ _ hw,qJ _ _ j];show(_,rfl,(m9 32 k u).1,(m9 32 k u).2,λh=>ng k h)
def Tl(w t:Zg):Prop:=(∃u,t=32::u/\Qa u<=3000/\(w=cd "off"\/w=cd "often"->∃m:Nat,m<1000/\u=ZR (m:Int)))\/(t=[]/\w≠cd "ahead"/\w≠cd "off"/\w≠cd "often")
noncomputable def nS(t:Zg):Nat:=digitsVal (t.drop 1)
noncomputable def pW(w t:Zg)(S:Str)(x:Zg):Zg:=if S≠T []then x else if w=cd "ahead"then t.drop 1++x else if w=cd "off"then x.drop (nS t)else x
def eI(K:Qb):Sp:=λv H Q _=>aS (λz=>aS (λr=>aR (λp=>a0 (∃w n t S y,L r=w++32::(n++t)/\32∉w/\32∉n/\Qa w<=10/\Qa n<=10/\Qa (L z)<=1000/\Tl w t/\H p=Qr (.tup [.str S,.str y])/\∀I,Zw H I->Q (.str (T (pW w t S (L z)))) I)))) v
theorem BE(F:Fun K "_law_behind" "_law_behind" kY f fd)(B:Bn mg):Z0 P w K mg base CX0 1 f fd kr (eI K):=by
 show F.ok pS (λa4 A _ s H vs Q E hr D=>aS_all D λz _ D=>aS_all D λr _ D=>aR_all D λp _ D=>a0_all D λh=>?_)
 repeat clear D
 show ZH h λw n t Y=>zQ Y λss y Y=>ZO Y λer U j wl nl Y=>za Y λzl tl hp q=>?_;clear Y h;show(_,(Ze (ZK (Zu 3 pS.nd (YH (K:=K) rfl Qz UQ UP l7 vq1 (Zh Zr)))) (Ze (ZK (Z5 (ZV rB (ZP K vq2 Zl) Zr) (Zj (ZC vq0)) ZG)) (Ze (ZK (Z5 (ZV bf (ZP K vq3 Zl) Zr) (Zj (ZC (Zt ZJ (YH (K:=K) rfl Qz UD UC (l6 (K:=K) rfl) Zr (Zh (YO K vq3 (aE Zl) qd))) vq0))) ZG)) (Ze (ZK (Z5 (ZV bf (ZP K vq3 Zl) Zr) (Zj (ZC (YO K vq0 (aE (Yt yd (by rfl) B.int yb (Zh (ZP K vq3 Zl)))) qd))) ZG)) (Zj (ZC vq0)))))),stR ?_);have a5:=jT;have R:L (Qe " ")=[32]:=by rfl'
 have rl:Qa (L r)<=4000:=by rw[er];rcases tl with⟨u,rfl,ul,_⟩|⟨rfl,_⟩<;>simp<;>lia
 show zx (λd I=>Zw H I/\∃a,I a=Qr (.lst ((spl 32 (Qa (L r)+1) (L r)).map λw=>V.str (T w)))/\d=[Qr (V.str z),Qr (V.str r),Qr (V.ref p),Qr (V.ref a)]) ?_ ?_
 .simp![Nz,R];show(32,rfl,∅,⋯,λa J=>(Zw.updN J,a,Zi,rfl))
 intro _ O v;show ZI v λs1 Y=>Zf Y λa J a1=>?_;clear Y v;subst a1;have a2:=s1 p _ hp;rw[er]at J;have S:∀l,l=pW w t ss (L z)->∀I,Zw O I->Q (.str (T l)) I:=λl e I s=>e▸q I (s1.trans s);clear q;show zx (λd I=>I=O/\ss=T []/\d=[Qr (V.str z),Qr (V.str r),Qr (V.ref p),Qr (V.ref a)]) ?_ ?_
 .simp![e00];show(_,_,.inr (SqT.of a2),rfl,?_);simp![true_and];by_cases e:L ss=[]
  .rw[decide_eq_true e];show Bc (by rw[<-T_L ss,e])
  rw[decide_eq_false e];show(Zx rfl).symm▸?_;rw[<-T_L z];show S _ (by unfold pW;rw[Zx λh=>e (by rw[h,L_T])]) _ (Zw.refl _)
 intro _ O v;show ZL v λx e0 Z=>?_;clear v;subst x;subst Z;show zx (λd I=>I=O/\w≠cd "ahead"/\d=[Qr (V.str z),Qr (V.str r),Qr (V.ref p),Qr (V.ref a)]) ?_ ?_
 .simp! only[true_and];obtain⟨ts,M⟩:=oM (t:=t) U j;rw[M]at J;show(_,_,.inl (SqL.of J),E3,?_);simp![true_and];show zF (λh=>?_) λh=>h;rcases tl with⟨u,rfl,ul,um⟩|⟨_,h2,_⟩
  .show zh (oK (u:=u) U j) λC e3 j3 a6 _=>?_;have ew:ts=n::C:=(List.cons.inj (M.symm.trans e3)).2;subst ew;show(_,SqL.of J,λq1 a3=>(C,SqL.of ?_,?_,?_,?_))
   .rw[Zi,show(Qr (2:Int))=Qr ((2:Nat):Int)from rfl,af];rfl
   .rw[R];change _+_ * 1<=_
    lia
   .rw[R,j3]
    lia
   rw[R,j3];show S _ (by unfold pW;rw[Zo λh=>h e0,Zx (show w=cd "ahead"from h)];rfl) _ (Zw.updN a3)
  show ZD h h2
 intro _ O v;show ZL v λx n1 Z=>?_;clear v;subst x;subst Z;show zx (λd I=>I=O/\w≠cd "off"/\d=[Qr (V.str z),Qr (V.str r),Qr (V.ref p),Qr (V.ref a)]) ?_ ?_
 .simp! only[IC];obtain⟨ts,M⟩:=oM (t:=t) U j;rw[M]at J;show(_,_,.inl (SqL.of J),E3,?_);simp![true_and];show zF (λh=>?_) λh=>h;rcases tl with⟨u,rfl,ul,um⟩|⟨_,_,h2,_⟩
  .show Zf (um (.inl h)) λm hm Z=>?_;subst Z;have g:=fh (show m<10 ^ 9 by lia);show zh (oK (u:=ZR (m:Int)) U j) λC e3 _ _ n3=>?_;have ew:ts=n::C:=(List.cons.inj (M.symm.trans e3)).2;rw[n3 (LD.Jm.noB g)]at ew;subst ew;show(_,V.str (T (ZR (m:Int))),.inl (SqL.of J),L4,?_);change Qa (L (T (ZR (m:Int))))<=640/\L (T (ZR (m:Int)))≠[]/\(∀c∈L (T (ZR (m:Int))),48<=c/\c<=57)/\Qa (L z)<=sizeLine/\Q (V.str (T (cut (L z) (Qr ((digitsVal (L (T (ZR (m:Int)))):Nat):Int)) Qs))) _;rw[L_T,af];have g1:=g.1;show(QC g.2.1 ∅,(λe=>by rw[e]at g1;cases g1),g.2.2.1,⋯,S _ (by unfold pW nS;rw[Zo λh=>h e0,Zo n1,Zx (show w=cd "off"from h)];rfl) _ (Zw.refl _))
  show ZD h h2
 intro _ O v;show ZL v λx n2 Z=>?_;subst x;subst Z;simp! only[true_and];rw[<-T_L z];show S _ (by unfold pW;rw[Zo λh=>h e0,Zo n1,Zo n2]) _ (Zw.refl _)
structure NN(w t x:Zg)(ss y:Str):Prop where
 ahd:w=cd "ahead"->ss=T []/\y=Qe "ok"
 few:w=cd "off"->Qa x<nS t->ss=Qe "Empty"/\y=T []
 off:w=cd "off"->nS t<=Qa x->ss=T []/\y=T (x.take (nS t))
 non:w=cd "often"->nS t=0->ss=Qe "NoTimes"/\y=T []
 oft:w=cd "often"->nS t≠0->ss=T []
 els:w≠cd "ahead"->w≠cd "off"->w≠cd "often"->ss=T []
def m8(K:Qb):Sp:=λv H Q _=>aS (λz=>aS (λr=>aR (λp=>a0 (∃w n t S y,L r=w++32::(n++t)/\32∉w/\32∉n/\Qa w<=10/\Qa n<=10/\Qa (L z)<=1000/\Tl w t/\H p=Qr (.tup [.str S,.str y])/\NN w t (L z) S y/\∀I,Zw H I->Q (.bl true) I)))) v
theorem Kx(F:Fun K "_law_due" "_law_due" Aa f fd)(B:Bn mg):Z0 P w K mg base CX0 1 f fd xX (m8 K):=by
 show F.ok B0 (λa3 A _ s H vs Q E hr D=>aS_all D λz _ D=>aS_all D λr _ D=>aR_all D λp _ D=>a0_all D λh=>?_)
 repeat clear D
 show ZH h λw n t C=>zQ C λss y C=>ZO C λer hw hn wl nl C=>qN C λzl tl hp du q=>?_;clear C h;show(_,(Ze (ZK (Zu 3 B0.nd (YH (K:=K) rfl Qz UQ UP l7 vq1 (Zh Zr)))) (Ze (ZK (Z5 (ZV bf (ZP K vq3 Zl) Zr) (Zj (ZC (mG (xy (K:=K) rfl hr) vq2 (zm (Zk Zr (Zh Zr)))))) ZG)) (Ze (ZK (Z5 (PW.pt (tR (ZV bf (ZP K vq3 Zl) Zr) (mM (ZV nT (Yt yd (by rfl) B.int yb (Zh (ZP K vq3 Zl))) (Z4 K B.len vq0))))) (Zj (ZC (mG (xy (K:=K) rfl hr) vq2 (zm (Zk Zr (Zh Zr)))))) ZG)) (Ze (ZK (Z5 (ZV bf (ZP K vq3 Zl) Zr) (Zj (ZC (mG (xy (K:=K) rfl hr) vq2 (zm (Zk Zr (Zh (YO K vq0 qd (aE (Yt yd (by rfl) B.int yb (Zh (ZP K vq3 Zl))))))))))) ZG)) (Ze (ZK (Z5 (PW.pt (tR (ZV bf (ZP K vq3 Zl) Zr) (mM (ZV bf (ZP K vq3 Zl) Zr)))) (Zj (ZC (mG (xy (K:=K) rfl hr) vq2 (zm (Zk Zr (Zh Zr)))))) ZG)) (Zj (ZC (mG bf (ZP K vq2 Zl) Zr)))))))),stR ?_);have a4:=jT;have e1:L (Qe " ")=[32]:=by rfl'
 have rl:Qa (L r)<=4000:=by rw[er];rcases tl with⟨u,rfl,ul,_⟩|⟨rfl,_⟩<;>simp<;>lia
 show zx (λd I=>Zw H I/\∃a,I a=Qr (.lst ((spl 32 (Qa (L r)+1) (L r)).map λw=>V.str (T w)))/\d=[Qr (V.str z),Qr (V.str r),Qr (V.ref p),Qr (V.ref a)]) ?_ ?_
 .simp![Nz,e1];show(32,rfl,∅,⋯,λa O=>(Zw.updN O,a,Zi,rfl))
 intro _ J v;show ZI v λs1 C=>Zf C λa O a1=>?_;clear C v;subst a1;have R:=s1 p _ hp;rw[er]at O;have q2:∀I,Zw J I->Q (.bl true) I:=λI s=>q I (s1.trans s);clear q;obtain⟨ts,S⟩:=oM (t:=t) hw hn;rw[S]at O;have al:∀s1 s2,ss=s1->y=s2->∀Y,J Y=Qs->GF K (upd J Y (.tup [.str s1,.str s2])) p Y:=λs1 s2 e1 e2 Y U=>by subst e1 e2;show YG (ik rfl rfl) ((Zn (Zm R U)).trans R) Zi
 have nm:w=cd "off"\/w=cd "often"->∃m:Nat,m<1000/\Jm (ZR (m:Int))/\nS t=m/\J a=Qr (.lst ([w,n,ZR (m:Int)].map λw=>V.str (T w))):=λh=>by
  rcases tl with⟨u,rfl,ul,um⟩|⟨_,h1,M,h3⟩
  .show Zf (um h) λm hm Z=>?_;subst Z;have g:=fh (show m<10 ^ 9 by lia);show zh (oK (u:=ZR (m:Int)) hw hn) λa2 e3 _ _ n3=>?_;have ew:ts=n::a2:=(List.cons.inj (S.symm.trans e3)).2;rw[n3 (LD.Jm.noB g)]at ew;subst ew;show(m,hm,g,Y3 m,O)
  show(h.elim M h3).elim
 clear tl S;simp only[e00];show zx (λd I=>I=J/\w≠cd "ahead"/\d=[Qr (V.str z),Qr (V.str r),Qr (V.ref p),Qr (V.ref a)]) ?_ ?_
 .simp! only[true_and];show(_,_,.inl (SqL.of O),E3,?_);simp![true_and];show zF (λh=>?_) λh=>h;obtain⟨d1,d2⟩:=du.ahd h;show(⋯,λY U=>(al _ _ d1 d2 Y U,q2 _ (Zw.updN U)))
 intro _ J v;show ZL v λx n1 Z=>?_;clear v;subst x;subst Z;show zx (λd I=>I=J/\(w=cd "off"->nS t<=Qa (L z))/\d=[Qr (V.str z),Qr (V.str r),Qr (V.ref p),Qr (V.ref a)]) ?_ ?_
 .simp! only[IC];show(_,_,.inl (SqL.of O),E3,?_);simp![true_and];show zF (λh=>?_) λh M=>ZD M h;show zh (nm (.inl h)) λm hm g nt j=>?_;show(_,V.str (T (ZR (m:Int))),.inl (SqL.of j),L4,?_);have g1:=g.1;simp only[L_T,Y3];show(QC g.2.1 ∅,(λe=>by rw[e]at g1;cases g1),g.2.2.1,⋯,zF (λM=>?_) λM _=>by lia);obtain⟨d1,d2⟩:=du.few h ⋯;show(⋯,λY U=>(al _ _ d1 d2 Y U,q2 _ (Zw.updN U)))
 intro _ J v;show ZL v λx n2 Z=>?_;clear v;subst x;subst Z;show zx (λd I=>I=J/\w≠cd "off"/\d=[Qr (V.str z),Qr (V.str r),Qr (V.ref p),Qr (V.ref a)]) ?_ ?_
 .simp! only[IC];show(_,_,.inl (SqL.of O),E3,?_);simp![true_and];show zF (λh=>?_) λh=>h;show zh (nm (.inl h)) λm hm g nt j=>?_;show(_,V.str (T (ZR (m:Int))),.inl (SqL.of j),L4,?_);have g1:=g.1;simp only[L_T,Y3];obtain⟨d1,d2⟩:=du.off h (n2 h);rw[nt]at d2;rw[yl];show(QC g.2.1 ∅,(λe=>by rw[e]at g1;cases g1),g.2.2.1,⋯,⋯,λY U=>(al _ _ d1 d2 Y U,q2 _ (Zw.updN U)))
 intro _ J v;show ZL v λx n3 Z=>?_;clear v;subst x;subst Z;show zx (λd I=>I=J/\(w=cd "often"->nS t≠0)/\d=[Qr (V.str z),Qr (V.str r),Qr (V.ref p),Qr (V.ref a)]) ?_ ?_
 .simp! only[true_and];show(_,_,.inl (SqL.of O),E3,?_);simp![true_and];show zF (λh=>?_) λh M=>ZD M h;show zh (nm (.inr h)) λm hm g nt j=>?_;show(_,V.str (T (ZR (m:Int))),.inl (SqL.of j),L4,?_);simp![L_T];have z0:L (Qe "0")=ZR ((0:Nat):Int):=by rfl'
  rw[z0];show zF (λM=>?_) λM _ h3=>M (by rw[<-nt,h3]);have h0:=congrArg digitsVal M;rw[Y3,Y3]at h0;obtain⟨d1,d2⟩:=du.non h ⋯;show(⋯,λY U=>(al _ _ d1 d2 Y U,q2 _ (Zw.updN U)))
 intro _ J v;show ZL v λx n4 Z=>?_;clear v;subst x;subst Z;simp! only[true_and];show(_,_,.inr (SqT.of R),rfl,?_);simp! only[true_and];have es:ss=T []:=by by_cases e:w=cd "often";show du.oft e (n4 e);show du.els n1 n3 e
 rw[es,L_T,decide_eq_true rfl];show q2 _ (Zw.refl _)
theorem lj:∀c∈zg,c≠10:=by decide
noncomputable def one(n x:Zg):YF:=[(n,x)]
theorem lY{n x:Zg}:qa (one n x) n=Qr x:=by simp[qa,one]
theorem EA{n x y:Zg}:i6 (one n x) n y=one n y:=by simp[i6,qa,one]
def Due(O:YF)(r:Zg)(d:YF)(S y:Str):Prop:=Ja O r (λk z=>k=d/\S=T []/\y=T z) (λk=>d=O/\S=nmK k/\y=T [])
def DQ(d:YF)(S y:Str):YF->Zg->Prop:=λk z=>k=d/\S=T []/\y=T z
def DR(O d:YF)(S y:Str):Nat->Prop:=λk=>d=O/\S=nmK k/\y=T []
theorem JF{n x w r:Zg}{i:Nat}{v:List (Zg)}{d:YF}{S y:Str}(H:Qa x<=300)(m:∀c∈x,c∈zg)(g:JC r i (w::n::v))(hw:w≠cd "keep"/\w≠cd "load")(p:i≠4)(a:GG (one n x) i (w::n::v) x (DQ d S y) (DR (one n x) d S y)):Due (one n x) r d S y:=
 (i,_,g,λY=>ZD (λz=>ZD z λz=>z.elim hw.1 hw.2,λ_=>(by change(qa (one n x) n).isSome=true;rw[lY];rfl,λz=>ZD z p)) Y,λ_=>.inr (.inr (x,lY,H,λc j=>lj c (m c j),a)))
structure nv(x:Zg)(f:Zg->Zg)(s:String)(t x':Zg)(ss y:Str):Prop where
 row:∀n,f n=wrd s t n
 no:32∉cd s
 len:Qa (cd s)<=10
 tl:Tl (cd s) t
 due:NN (cd s) t x ss y
 beh:pW (cd s) t ss x=x'
 sz:Qa x'<=Qa x+8
 sg:∀c∈x',c∈zg
 ans:∀n,qz n->Due (one n x) (wrd s t n) (one n x') ss y
theorem Ag{s:String}{n:Zg}:wrd s [] n=cd s++32::n:=by simp[wrd]
theorem yD(x:Zg)(b m:Int)(H:0<m)(y:m<=1000):∃j:Nat,j<1000/\nB x b%m=(j:Int):=by have I:=QR (nB x b) (show m≠0 by lia);have Q:=QM (nB x b) H;show((nB x b%m).toNat,⋯,⋯)
section
variable{x:Zg}(hx:x.length<=200)(hs:∀c∈x,c∈zg)
include hx hs
theorem BS{p:Zg}(m:Qa p<=8)(E:∀c∈p,c∈zg):nv x (wrd "ahead" (32::p)) "ahead" (32::p) (p++x) (T []) (Qe "ok") where
 row _:=rfl
 no:=by rfl'
 len:=by rfl'
 tl:=.inl (p,rfl,⋯,λh=>ZD h (by rfl'))
 due:=(λ_=>(rfl,rfl),λh=>ZD h (by rfl'),λh=>ZD h (by rfl'),λh=>ZD h (by rfl'),λh=>ZD h (by rfl'),λh=>ZD rfl h)
 beh:=by unfold pW;rw[Zo λh=>h rfl,Zx rfl];rfl
 sz:=by rw[jR];lia
 sg c H:=(ut.mp H).elim (E c) (hs c)
 ans n hn:=JF ⋯ hs (dn (by rfl') (by rfl') hn.noB) (by rfl') ∅ (.inr (.inr (.inr (.inr (.inr (.inr (.inr (rfl,by change Qa p<=1000;lia,λc H=>lj c (E c H),.inl (rfl,by change Qa p+Qa x<=300;lia,EA,rfl,(dG _).symm)))))))))
theorem K7{m:Nat}(Y:m<1000):∃S y z,nv x (wrd "off" (32::ZR (m:Int))) "off" (32::ZR (m:Int)) z S y:=by
 have g:=fh (show m<10 ^ 9 by lia);have I:nS (32::ZR (m:Int))=m:=Y3 m;have tl:Tl (cd "off") (32::ZR (m:Int)):=.inl (_,rfl,QC g.2.1 ∅,λ_=>(m,Y,rfl))
 have ans:∀{z S y},(∀n,Qa x<m->DR (one n x) (one n z) S y 5)->(∀n,m<=Qa x->DQ (one n z) S y (one n (x.drop m)) (x.take m))->∀n,qz n->Due (one n x) (wrd "off" (32::ZR (m:Int)) n) (one n z) S y:=λB H n j=>by
  show JF ⋯ hs (sQ (.inl rfl) (by rfl') (by rfl') j.noB (LD.Jm.noB g) λ_=>g) (by rfl') ∅ (.inr (.inr (.inr (.inr (.inl (rfl,rfl,λl=>B n ?_,λl=>?_))))))
  .have l:Qa x<digitsVal (ZR (m:Int)):=l;rwa[Y3]at l
  have l:digitsVal (ZR (m:Int))<=Qa x:=l;change DQ _ _ _ (i6 (one n x) n (x.drop (digitsVal (ZR (m:Int))))) (x.take (digitsVal (ZR (m:Int))))
  rw[Y3]at l ⊢
  rw[EA];show H n l
 by_cases h:m<=Qa x;show(T [],T (x.take m),x.drop m,λ_=>rfl,by rfl',by rfl',tl,(λh=>ZD h (by rfl'),λ_ H=>ZD H (by rw[I];lia),λ_ _=>(rfl,by rw[I]),λh=>ZD h (by rfl'),λh=>ZD h (by rfl'),λ_ h=>ZD rfl h),by unfold pW;rw[Zo λh=>h rfl,Zo (by rfl'),Zx rfl,I],by rw[uf];lia,λc d=>hs c (Uu d),ans (λn l=>ZD h ⋯) λn _=>(rfl,rfl,rfl));have E:¬(Qe "Empty"=T []):=by rfl'
 show(Qe "Empty",T [],x,λ_=>rfl,by rfl',by rfl',tl,(λh=>ZD h (by rfl'),λ_ _=>(rfl,rfl),λ_ H=>ZD H (by rw[I];show h),λh=>ZD h (by rfl'),λh=>ZD h (by rfl'),λ_ h=>ZD rfl h),by unfold pW;rw[Zx E],⋯,hs,ans (λn l=>(rfl,rfl,rfl)) λn l=>ZD l h)
theorem yT{s:String}{t:Zg}{y:Str}(no:32∉cd s)(len:Qa (cd s)<=10)(tl:Tl (cd s) t)(h:cd s≠cd "ahead"/\cd s≠cd "off"/\(cd s=cd "often"->nS t≠0))(a:∀n,qz n->Due (one n x) (wrd s t n) (one n x) (T []) y):nv x (wrd s t) s t x (T []) y where
 row _:=rfl
 no:=no
 len:=len
 tl:=tl
 due:=(λe=>ZD e h.1,λe=>ZD e h.2.1,λe=>ZD e h.2.1,λe z=>ZD z (h.2.2 e),λ_ _=>rfl,λ_ _ _=>rfl)
 beh:=by unfold pW;rw[Zo λh=>h rfl,Zo h.1,Zo h.2.1]
 sz:=⋯
 sg:=hs
 ans:=a
theorem Nj{m:Nat}{p:Zg}(Y:m<1000)(q:Qa p<=8):∃y,nv x (wrd "near" (32::(ZR (m:Int)++32::p))) "near" (32::(ZR (m:Int)++32::p)) x (T []) y:=by have g:=fh (show m<10 ^ 9 by lia);show(T (spw (nrs x p (digitsVal (ZR (m:Int)):Nat))),yT hx hs (by rfl') (by rfl') (.inl (_,rfl,by have:=g.2.1;rw[jR,jV];lia,λh=>ZD h (by rfl'))) (by rfl',by rfl',λh=>ZD h (by rfl')) λn H=>?_);show JF ⋯ hs (Fi (by rfl') (by rfl') H.noB (LD.Jm.noB g) g) (by rfl') ∅ (.inr (.inr (.inr (.inr (.inr (.inr (.inl (rfl,rfl,by change Qa p<=1000;lia,rfl,rfl,rfl))))))))
theorem K8{m:Nat}(Y:m<1000):∃S y,nv x (wrd "often" (32::ZR (m:Int))) "often" (32::ZR (m:Int)) x S y:=by
 have g:=fh (show m<10 ^ 9 by lia);have J:nS (32::ZR (m:Int))=m:=Y3 m;have tl:Tl (cd "often") (32::ZR (m:Int)):=.inl (_,rfl,QC g.2.1 ∅,λ_=>(m,Y,rfl))
 have ans:∀{S y},(∀n,m=0->DR (one n x) (one n x) S y 4)->(m≠0->Qa x+1<m->S=T []/\y=T [45])->(m≠0->m<=Qa x+1->∀u,LO.Lng x m (Qa x+2-m) u->S=T []/\y=T (61::u))->∀n,qz n->Due (one n x) (wrd "often" (32::ZR (m:Int)) n) (one n x) S y:=λz I Q n j=>
  JF ⋯ hs (sQ (.inl rfl) (by rfl') (by rfl') j.noB (LD.Jm.noB g) λ_=>g) (by rfl') ∅ (.inr (.inr (.inr (.inr (.inr (.inl (rfl,rfl,m,(Y3 m).symm,z n,λH=>(λw=>(rfl,I H w),λw u l=>(rfl,Q H w u l)))))))))
 by_cases H:m=0
 .have E:¬(Qe "NoTimes"=T []):=by rfl'
  show(Qe "NoTimes",T [],λ_=>rfl,by rfl',by rfl',tl,(λh=>ZD h (by rfl'),λh=>ZD h (by rfl'),λh=>ZD h (by rfl'),λ_ _=>(rfl,rfl),λ_ h=>ZD (J.trans H) h,λ_ _ h=>ZD rfl h),by unfold pW;rw[Zx E],⋯,hs,ans (λn _=>(rfl,rfl,rfl)) (λh=>ZD H h) λh=>ZD H h)
 have ask:∀{y},(∀n,qz n->Due (one n x) (wrd "often" (32::ZR (m:Int)) n) (one n x) (T []) y)->nv x (wrd "often" (32::ZR (m:Int))) "often" (32::ZR (m:Int)) x (T []) y:=λa=>yT hx hs (by rfl') (by rfl') tl (by rfl',by rfl',λ_=>by rw[J];show H) a;by_cases z:Qa x+1<m;show(T [],T [45],ask (ans (λ_ h=>ZD h H) (λ_ _=>(rfl,rfl)) λ_ h=>ZD z ⋯));by_cases I:∃u,LO.Lng x m (Qa x+2-m) u
 .obtain⟨u,B⟩:=I;show(T [],T (61::u),ask (ans (λ_ h=>ZD h H) (λ_ h=>ZD h z) λ_ _ v M=>(rfl,by rw[B.only M ⋯ ⋯])))
 show(T [],T [],ask (ans (λ_ h=>ZD h H) (λ_ h=>ZD h z) λ_ _ v M=>ZD (v,M) I))
theorem yU{s:String}{p:Zg}(h:s="find"\/s="count"\/s="cut")(q:Qa p<=1000)(E:∀c∈p,c∈zg):∃y,nv x (wrd s (32::p)) s (32::p) x (T []) y:=by have j:∀{y},(cd s≠cd "often"/\cd s≠cd "ahead"/\cd s≠cd "off")->32∉cd s->Qa (cd s)<=10->(∀n,qz n->Due (one n x) (wrd s (32::p) n) (one n x) (T []) y)->nv x (wrd s (32::p)) s (32::p) x (T []) y:=λU no len a=>yT hx hs no len (.inl (p,rfl,⋯,λh=>ZD h λz=>z.elim U.2.2 U.1)) (U.2.1,U.2.2,λe=>ZD e U.1) a;rcases h with rfl|rfl|rfl;show(T (spn (plc x p)),j (by rfl') (by rfl') (by rfl') λn m=>JF ⋯ hs (dn (by rfl') (by rfl') m.noB) (by rfl') ∅ (.inr (.inr (.inr (.inr (.inr (.inr (.inr (rfl,q,λc H=>lj c (E c H),.inr (.inl (rfl,rfl,rfl,rfl)))))))))));show(T (ZR (Qa (plc x p):Nat)),j (by rfl') (by rfl') (by rfl') λn m=>JF ⋯ hs (dn (by rfl') (by rfl') m.noB) (by rfl') ∅ (.inr (.inr (.inr (.inr (.inr (.inr (.inr (rfl,q,λc H=>lj c (E c H),.inr (.inr (.inl (rfl,rfl,rfl,rfl))))))))))));show(T (spn ((LG.fpR x (Qa p) p).reverse.map Qa)),j (by rfl') (by rfl') (by rfl') λn m=>JF ⋯ hs (dn (by rfl') (by rfl') m.noB) (by rfl') ∅ (.inr (.inr (.inr (.inr (.inr (.inr (.inr (rfl,q,λc H=>lj c (E c H),.inr (.inr (.inr (rfl,rfl,rfl,rfl))))))))))))
theorem yX{s:String}(h:s="kinds"\/s="lone"\/s="pack"):∃y,nv x (wrd s []) s [] x (T []) y:=by
 have j:∀{y},(cd s≠cd "often"/\cd s≠cd "ahead"/\cd s≠cd "off")->32∉cd s->Qa (cd s)<=10->(∀n,qz n->Due (one n x) (cd s++32::n) (one n x) (T []) y)->nv x (wrd s []) s [] x (T []) y:=λU no len a=>yT hx hs no len (.inr (rfl,U.2.1,U.2.2,U.1)) (U.2.1,U.2.2,λe=>ZD e U.1) λn H=>by rw[Ag];show a n H
 rcases h with rfl|rfl|rfl;show(_,j (by rfl') (by rfl') (by rfl') λn H=>JF ⋯ hs (dq (by rfl') (by rfl') H.noB) (by rfl') ∅ (.inr (.inr (.inl (rfl,rfl,rfl,rfl)))));show(_,j (by rfl') (by rfl') (by rfl') λn H=>JF ⋯ hs (dq (by rfl') (by rfl') H.noB) (by rfl') ∅ (.inr (.inr (.inr (.inl (rfl,rfl,rfl,rfl))))));by_cases I:∃r,qH r/\flat r=LO.Z3 x;show Zf I λr g Q=>(T (ZR (LO.qB x:Nat)++32::wr r),j (by rfl') (by rfl') (by rfl') λn H=>JF ⋯ hs (dq (by rfl') (by rfl') H.noB) (by rfl') ∅ (.inr (.inl (rfl,λR g2 f2=>(rfl,rfl,by rw[LP.d7 g2 g (f2.trans Q.symm)])))))
 show(T [],j (by rfl') (by rfl') (by rfl') λn H=>JF ⋯ hs (dq (by rfl') (by rfl') H.noB) (by rfl') ∅ (.inr (.inl (rfl,λR g2 f2=>ZD (R,g2,f2) I))))
theorem Nn(b:Int):∃s t z S y,nv x (iz x b) s t z S y:=by
 obtain⟨q,p⟩:=N6 b hs;have u:∀{f:Zg->Zg} {s t z S y},(∀n,iz x b n=f n)->nv x f s t z S y->∃s t z S y,nv x (iz x b) s t z S y:=λe r=>(_,_,_,_,_, {r with row:=λn=>(e n).trans (r.row n)});have R:=yD x b (Qa x+4) ⋯ ⋯;show Zf R λj I Q=>?_;clear R;show Zf (yD x b 6 ⋯ ⋯) λj6 d U=>?_;show Zf (yD x b 4 ⋯ ⋯) λj4 H D=>?_
 have c9:Qa (p8 x b++cut x Qs (Qr 9))<=1000:=by
  have:=cY x Qs (Qr 9);rw[jR]
  lia
 have s9:∀c∈p8 x b++cut x Qs (Qr 9),c∈zg:=λc g=>(ut.mp g).elim (p c) λh=>hs c (LW.l9 h)
 unfold iz at u ⊢
 by_cases E:b%12<3
 .show u (λn=>by rw[Zx E]) (BS hx hs q p)
 by_cases O:b%12<5
 .show ZH (K7 hx hs d) λ_ _ _ r=>u (λn=>by rw[Zo E,Zx O,U]) r
 by_cases Y:b%12=5
 .show ZH (K7 hx hs I) λ_ _ _ r=>u (λn=>by rw[Zo E,Zo O,Zx Y,Q]) r
 by_cases m:b%12=6
 .obtain⟨_,r⟩:=Nj hx hs H q;show u (λn=>by rw[Zo E,Zo O,Zo Y,Zx m,D]) r
 by_cases v:b%12=7
 .show zQ (K8 hx hs I) λ_ _ r=>u (λn=>by rw[Zo E,Zo O,Zo Y,Zo m,Zx v,Q]) r
 by_cases C:b%12=8
 .obtain⟨_,r⟩:=yU hx hs (.inr (.inr rfl)) c9 s9;show u (λn=>by rw[Zo E,Zo O,Zo Y,Zo m,Zo v,Zx C]) r
 by_cases M:b%12=9
 .by_cases B:nB x b%3=0
  .obtain⟨_,r⟩:=yX hx hs (.inl rfl);show u (λn=>by rw[Zo E,Zo O,Zo Y,Zo m,Zo v,Zo C,Zx M,Zx B]) r
  by_cases J:nB x b%3=1
  .obtain⟨_,r⟩:=yX hx hs (.inr (.inl rfl));show u (λn=>by rw[Zo E,Zo O,Zo Y,Zo m,Zo v,Zo C,Zx M,Zo B,Zx J]) r
  obtain⟨_,r⟩:=yX hx hs (.inr (.inr rfl));show u (λn=>by rw[Zo E,Zo O,Zo Y,Zo m,Zo v,Zo C,Zx M,Zo B,Zo J]) r
 by_cases Z:b%12=10
 .obtain⟨_,r⟩:=yU hx hs (.inl rfl) (QC q ∅) p;show u (λn=>by rw[Zo E,Zo O,Zo Y,Zo m,Zo v,Zo C,Zo M,Zx Z]) r
 obtain⟨_,r⟩:=yU hx hs (.inr (.inl rfl)) (QC q ∅) p;show u (λn=>by rw[Zo E,Zo O,Zo Y,Zo m,Zo v,Zo C,Zo M,Zo Z]) r
end
section
variable{tb1 tb2 C o t:jP}{H H1 H2:Hp}{kept k1 k2:YF}
def G(tb1 tb2 t:jP)(k1:YF)(H H1:Hp):Prop:=SD tb1 tb2 (upd H t (.dK (txK k1))) H1
theorem G.desk(d:qh C H o t kept)(g:G tb1 tb2 t k1 H H1):qh C H1 o t k1:=by
 obtain⟨⟨D,u⟩,q⟩:=d;have ne:o≠t:=by rintro rfl;rw[q]at u;cases u
 show((D,g.same.at ((Zn ne).trans u) (by nofun)),g.same.at Zi (by nofun))
theorem G.trans(d:qh C H o t kept)(a:G tb1 tb2 t k1 H H1)(b:G tb1 tb2 t k2 H1 H2):G tb1 tb2 t k2 H H2:=by have h:=SD.dk (kvs':=txK k2) a (Zi (H:=H) (a:=t) (o:=.dK (txK k1)));rw[nq]at h;show h.trans b
theorem G.more(a:G tb1 tb2 t k1 H H1)(s:Zw H1 H2):G tb1 tb2 t k1 H H2:=SD.trans a (SD.of s a.b1 a.b2)
theorem G.at{b:jP}{u:HO}(a:G tb1 tb2 t k1 H H1)(h:H b=Qr u)(ne:b≠t)(I:∀p,u≠ .tbl p):H1 b=Qr u:=a.same.at ((Zn ne).trans h) I
theorem Ju{r:Zg}{S y:Str}{R:jP->Hp->Prop}(u:H t=Qr (.dK (txK kept)))(v:Due kept r k1 S y)(q:∀I p,G tb1 tb2 t k1 H I->H p=Qs->I p=Qr (.tup [.str S,.str y])->R p I):
 Ja kept r (λd x=>∀I p,SD tb1 tb2 (upd H t (.dK (txK d))) I->H p=Qs->I p=Qr (.tup [.str (T []),.str (T x)])->R p I) (λk=>∀I p,SD tb1 tb2 H I->H p=Qs->I p=Qr (.tup [.str (nmK k),.str (T [])])->R p I):=by
 show Ja.mono ?_ ?_ v
 .rintro k x ⟨rfl,rfl,rfl⟩ I p s D h;show q I p s D h
 rintro k ⟨rfl,rfl,rfl⟩ _ I p s D h;show q I p (by unfold G;rw[JA u];show s) D h
theorem AR{n x:Zg}(j:qz n)(g:Qa x<=300):Due kept (wrd "keep" (32::x) n) (i6 kept n x) (T []) (Qe "ok"):=
 (_,_,dn (by rfl') (by rfl') j.noB,λY=>ZD (λ_=>j,λz=>ZD (.inl rfl) z) Y,λ_=>.inl (rfl,rfl,g,rfl,rfl,(dG _).symm))
end
def iW(K:Qb)(B r C:jP)(D U:jP):Sp:=λv H Q _=>aR (λo=>aS (λn=>aS (λz=>aI (λp=>a0 (∃t,qh C H o t []/\qz (L n)/\Qa (L z)<=200/\(∀c∈L z,c∈zg)/\0<=p/\p<=6/\Zp D H/\Zv U H/\U≠D/\∀I,G D U t (one (L n) (L z)) H I->Q (.bl true) I))))) v
theorem FK(F:Fun K "_law_kept" "_law_kept" tV f fd)(B:Bn mg)(z5:Fn P w K mg base 10 "_law_said" lG (zM K Zd Zs ZM Za Zb)):Z0 P w K mg base CX0 11 f fd sr (iW K Zd Zs ZM Za Zb):=by
 show F.ok iV (λa3 A _ s H vs Q E Y m=>aR_all m λo _ m=>aS_all m λn _ m=>aS_all m λz _ m=>aI_all m λp _ m=>a0_all m λh=>?_)
 repeat clear m
 show zI h λt C=>ZO C λj M zl hs p0 C=>qN C λp6 b1 b2 ne q=>?_;clear C h;show(_,(Ze (ZK (Z5 (ZV bf vq3 Zl) (Zj (ZC (mG (xy (K:=K) rfl Y) (Z8 z5 Y (Zk vq0 (Zh (Zt ZJ (Zt ZJ (Zt ZJ Zr vq1) Zr) vq2)))) (zm (Zk Zr (Zh Zr)))))) ZG)) (Ze (ZK (Z5 (ZV (pO (K:=K) rfl Y) (Z8 z5 Y (Zk vq0 (Zh (Zt ZJ (Zt ZJ Zr vq1) Zr)))) (zm (Zk Zr (Zh Zr)))) (Zj (ZC mF)) ZG)) (Ze (ZK (Zu 4 iV.nd (Z4 K B.len vq2))) (Ze (tP PassesOwn.never (kU (ZV nT (qv 4) Zl)) (YM (Ze (Zu 5 iV.nd (qk (D0 rfl) (by rfl) B.max yc (Zk Zl (Zh (Zt cV (qv 4) vq3))))) (Ze (Z5 (ZV (pO (K:=K) rfl Y) (Z8 z5 Y (Zk vq0 (Zh (Zt ZJ (Zt ZJ (Zt ZJ Zr vq1) Zr) (YO K vq2 (aE (qv 5)) (aE (qv 4))))))) (zm (Zk Zr (Zh Zr)))) (Zj (ZC mF)) ZG) (Zj (Zu 4 iV.nd (qv 5))))))) (Zj (ZC mF)))))),stR ?_);have a4:=jT;have S:L (Qe " ")=[32]:=by rfl'
 have wk:L (Qe "keep ")=cd "keep"++[32]:=by rfl'
 have vk:Qa (cd "keep")<=5:=by rfl'
 have n8:=M.2.1;show zx (λd I=>I=H/\p≠0/\d=[Qr (V.ref o),Qr (V.str n),Qr (V.str z),Qr (V.int p),Qs,Qs]) ?_ ?_
 .simp![zM,S,e00,wk,L_T];have O:cd "keep"++[32]++L n++[32]++L z=wrd "keep" (32::L z) (L n):=by simp[wrd]
  rw[O];show zF (λh=>(by and_intros,by and_intros,by and_intros,t,[],j,∅,by rw[<-O];and_intros,b1,b2,ne,Ju j.2 (AR M ⋯) λJ p1 g1 D y=>(⋯,λp2 U=>(YG (ik rfl rfl) ((Zn (Zm y U)).trans y) Zi,q _ (g1.more (Zw.updN U)))))) λh=>h
 intro _ H u;show ZL u λa1 pn Z=>?_;clear u;subst a1;subst Z;show zx (λd I=>G Za Zb t (one (L n) []) H I/\d=[Qr (V.ref o),Qr (V.str n),Qr (V.str z),Qr (V.int p),Qs,Qs]) ?_ ?_
 .simp![zM,S,e00,wk,L_T];have O:cd "keep"++[32]++L n++[32]=wrd "keep" [32] (L n):=by simp[wrd]
  rw[O];show(by and_intros,by and_intros,t,[],j,∅,by rw[<-O];and_intros,b1,b2,ne,Ju j.2 (AR M ∅) λJ p1 g1 D y=>(⋯,λp2 U=>(YG (ik rfl rfl) ((Zn (Zm y U)).trans y) Zi,g1.more (Zw.updN U))))
 intro _ J u;obtain⟨g1,rfl⟩:=u;have wa:L (Qe "ahead ")=cd "ahead"++[32]:=by rfl'
 have va:Qa (cd "ahead")<=5:=by rfl'
 show zx (λd I=>I=J/\d=[Qr (V.ref o),Qr (V.str n),Qr (V.str z),Qr (V.int p),Qr (V.int (Qa (L z))),Qs]) ?_ ?_
 .simp![true_and]
  lia
 intro _ J u;obtain⟨rfl,rfl⟩:=u;simp! only[tWh];show(λk σ I=>∃(e:Nat) (v:Option V),k=e/\e<=Qa (L z)/\G Za Zb t (one (L n) ((L z).drop e)) H I/\σ=[Qr (V.ref o),Qr (V.str n),Qr (V.str z),Qr (V.int p),Qr (V.int (e:Int)),v],(_,_,Qs,rfl,Qg _,by rw[UE];show g1,rfl),?_);intro k σ I u;show ze u λe v Z el g a2=>?_;clear u;subst Z;subst a2;simp![zM,S,e00,wa,gtV,wX,yC,L_T];show zF (λhk=>?_) λhk=>?_
 .obtain⟨st,es⟩:∃st:Nat,max 0 ((k:Int)-p)=(st:Int):=((max 0 ((k:Int)-p)).toNat,⋯);have ec:cut (L z) (Qr (st:Int)) (Qr (k:Int))=((L z).drop st).take (k-st):=by rw[show(k:Int)=(st:Int)+((k-st:Nat):Int)by lia,lJ]
  have r:=g.desk j
  have ej:((L z).drop st).take (k-st)++(L z).drop k=(L z).drop st:=by
   rw[show(L z).drop k=((L z).drop st).drop (k-st)by rw[UO];congr 1;lia]
   show QK ..
  have pl:Qa (((L z).drop st).take (k-st))<=8:=by rw[jZ];lia
  have du:=(BS (x:=(L z).drop k) (by rw[uf];lia) (λc R=>hs c (Uu R)) pl λc R=>hs c (Uu (Uc R))).ans (L n) M;rw[ej]at du;rw[es,ec]
  generalize((L z).drop st).take (k-st)=pc at pl du ⊢
  have O:cd "ahead"++[32]++L n++[32]++pc=wrd "ahead" (32::pc) (L n):=by simp[wrd]
  show(by and_intros,by and_intros,⋯,by and_intros,t,_,r,(show 1<=1000 by decide),by and_intros,g.b1,g.b2,ne,?_);rw[O];show Ju r.2 du λH2 p1 g2 D h2=>(⋯,λp2 U=>(YG (ik rfl rfl) ((Zn (Zm h2 U)).trans h2) Zi,st,⋯,st,_,rfl,⋯,(g.trans j g2).more (Zw.updN U),rfl))
 have e0:k=0:=⋯
 subst e0;show q I g
theorem SqL.ups{K:Qb}{H I:Hp}{a:jP}{x:ZE}(h:SqL K H a x)(k:∀u,H a=Qr u->(∀y,u≠ .dK y)->(∀p,u≠ .tbl p)->I a=Qr u):SqL K I a x:=by rcases h with(h|⟨o,h⟩)|h;show .inl (.inl (k _ h (by nofun) (by nofun)));show .inl (.inr (o,k _ h (by nofun) (by nofun)));show .inr h
noncomputable def sg(a:jP)(m:Int)(x:Zg)(b:Int)(n o:Zg)(O d:jP)(r:St):St:=Qr (V.ref a)::Qr (V.int m)::Qr (V.str (T x))::Qr (V.int b)::Qr (V.str (T n))::Qr (V.str (T o))::Qr (V.ref O)::Qr (V.ref d)::r
structure T2(K:Qb)(C tb1 tb2 a o1 t1 o2 t2:jP)(xs:ZE)(H:Hp)(k1 k2:YF):Prop where
 s:SqL K H a xs
 d1:qh C H o1 t1 k1
 d2:qh C H o2 t2 k2
 b1:Zp tb1 H
 b2:Zv tb2 H
section
variable{C tb1 tb2 a o1 t1 o2 t2:jP}{xs:ZE}{H H':Hp}{k1 k2 k:YF}
theorem ym{o t m:jP}{O j:YF}(p:H m=Qr (.dK (txK j)))(d:qh C H o t O)(r:t≠m)(g:G tb1 tb2 m k H H'):qh C H' o t O:=by
 obtain⟨⟨D,u⟩,q⟩:=d;have ne:o≠m:=by rintro rfl;rw[p]at u;cases u
 show((D,g.at u ne (by nofun)),g.at q r (by nofun))
theorem T2.go1(t:t1≠t2)(w:T2 K C tb1 tb2 a o1 t1 o2 t2 xs H k1 k2)(g:G tb1 tb2 t1 k H H'):T2 K C tb1 tb2 a o1 t1 o2 t2 xs H' k k2:=
 (SqL.ups w.s λu h O Y=>g.at h (by rintro rfl;rw[w.d1.2]at h;show O _ (Option.some.inj h).symm) Y,g.desk w.d1,ym w.d1.2 w.d2 (Ne.symm t) g,g.b1,g.b2)
theorem T2.go2(t:t1≠t2)(w:T2 K C tb1 tb2 a o1 t1 o2 t2 xs H k1 k2)(g:G tb1 tb2 t2 k H H'):T2 K C tb1 tb2 a o1 t1 o2 t2 xs H' k1 k:=
 (SqL.ups w.s λu h O Y=>g.at h (by rintro rfl;rw[w.d2.2]at h;show O _ (Option.some.inj h).symm) Y,ym w.d2.2 w.d1 t g,g.desk w.d2,g.b1,g.b2)
theorem T2.same(w:T2 K C tb1 tb2 a o1 t1 o2 t2 xs H k1 k2)(s:Zw H H'):T2 K C tb1 tb2 a o1 t1 o2 t2 xs H' k1 k2:=(s.seq w.s,w.d1.same s.toN,w.d2.same s.toN,Yc w.b1 s,Yc w.b2 s)
end
theorem TM{x y:V}{l:ZE}:atI (x::y::l) 1=Qr y:=by unfold atI ixN;rw[Zx ∅,Zx (by simp;lia)];rfl
theorem BH{x:Zg}{R:J2}(j:Qa x<=300)(g:qH R)(f:flat R=LO.Z3 x):Qa (ZR (LO.qB x:Nat)++32::wr R)<=2000:=by
 have m:=LO.qy x;have d:=LO.iQ x;have H:=RP g;have I:=Dz (rs:=R) λr Y=>bN Y (by rw[f];lia);have Q:=(dc (LO.qB x) (k:=4) ∅).mpr ⋯;rw[f]at H;rw[jR,jV]
 lia
theorem tI{n x:Zg}(j:qz n)(H:Qa x<=300)(m:∀c∈x,c∈zg):Ja (one n x) (wrd "pack" [] n) (λk z=>k=one n x/\∃r,qH r/\flat r=LO.Z3 x/\z=ZR (LO.qB x:Nat)++32::wr r) (λ_=>False):=by rw[Ag];show(1,[cd "pack",n],dq (by rfl') (by rfl') j.noB,λY=>ZD (λz=>ZD z (by change ¬(cd "pack"=cd "keep"\/cd "pack"=cd "load");rfl'),λ_=>(by change(qa (one n x) n).isSome=true;rw[lY];rfl,λz=>ZD z ∅)) Y,λ_=>.inr (.inr (x,lY,H,λc d=>lj c (m c d),.inr (.inl (rfl,λr g f=>(rfl,r,g,f,rfl))))))
theorem AS{kept:YF}{n x:Zg}{r:J2}(H:qz n)(j:Qa x<=300)(m:∀c∈x,c∈zg)(g:qH r)(f:flat r=LO.Z3 x):Due kept (wrd "load" (32::(ZR (LO.qB x:Nat)++32::wr r)) n) (i6 kept n x) (T []) (Qe "ok"):=by have q:=LO.qy x;have p:=LO.iQ x;show(_,_,dn (by rfl') (by rfl') H.noB,λY=>ZD (λ_=>H,λz=>ZD (.inr rfl) z) Y,λ_=>.inr (.inl (rfl,rfl,x,r,(g,by rw[f];lia,by rw[f];lia,rfl),f,j,λc d=>lj c (m c d),rfl,rfl,(dG _).symm)))
theorem sH{n x:Zg}(j:qz n)(H:Qa x<=300)(g:∀c∈x,c∈zg):Due (one n x) (wrd "text" [] n) (one n x) (T []) (T x):=by rw[Ag];show JF H g (dq (by rfl') (by rfl') j.noB) (by rfl') ∅ (.inl (rfl,rfl,rfl,rfl))
def Af(K:Qb)(D t:jP):Sp:=λv H Q _=>∃(a:jP) (ns:List Int),v=[.ref a]/\SqL K H a (ns.map V.int)/\Qa ns<=63/\Zp D H/\Zv t H/\D≠t/\∀I,Q (.bl true) I
theorem Rg(F:Fun K "law" "law" mT f fd)(B:Bn mg)(qx:Fn P w K mg base 1 "_law_cell_at" d0 (Y6 K))(lE:Fn P w K mg base 2 "_law_big" xW (fz K))(gR:Fn P w K mg base 2 "_law_text_of" gZ (dj K))(dY:Fn P w K mg base 1 "_law_name_of" gY (aC K))(z5:Fn P w K mg base 10 "_law_said" lG (zM K Zd Zs ZM Za Zb))(fH:Fn P w K mg base 3 "_law_row_of" kA (bT K))(ko:Fn P w K mg base 1 "_law_behind" kr (eI K))(xU:Fn P w K mg base 1 "_law_due" xX (m8 K))(so:Fn P w K mg base 11 "_law_kept" sr (iW K Zd Zs ZM Za Zb))(an:Mkr P w K mg base CX0 1 "Desk" ZM Jr [] (qp K ZM)):Z0 P w K mg base CX0 12 f fd DS (Af K Za Zb):=by
 show F.ok qC (len:=λ_ _ _ _ h=>by show ZS h λa ns a1 _=>?_;clear h;subst a1;rfl) (λb0 A _ s H vs Q E Y h=>?_);show zQ h λa ns Z=>ZO Z λa1 hS aZ b1 b2 Z=>ZI Z λne q=>?_;clear Z h;subst a1;show(_,(Ze (ZK (Zu 1 qC.nd Zl)) (Ze (ZK (Z5 (ZV bf (Zt qb (Z8 qx Y (Zk vq0 (Zh Zl))) Zl) Zl) (Zj (Zu 1 qC.nd Zl)) ZG)) (Ze (ZK (tO (Z8 gR Y (Zk (Z8 lE Y (Zk vq0 (Zh Zl))) (Zh vq1))) (rY (K:=K) (n:=2) rfl rfl (Y4 (qai 2 qC.nd) (Y4 (qai 3 qC.nd) fY))))) (Ze (ZK (tO (Z8 dY Y (Zh (Z8 lE Y (Zk vq0 (Zh Zl))))) (rY (K:=K) (n:=2) rfl rfl (Y4 (qai 4 qC.nd) (Y4 (qai 3 qC.nd) fY))))) (Ze (ZK (tO (Z8 dY Y (Zh vq3)) (rY (K:=K) (n:=2) rfl rfl (Y4 (qai 5 qC.nd) (Y4 (qai 3 qC.nd) fY))))) (Ze (ZK (Zu 6 qC.nd (Dg an (Y.mono ∅)))) (Ze (ZK (Zu 7 qC.nd (Dg an (Y.mono ∅)))) (Ze (ZK (Z5 (yQ (tQ (K:=K) rfl (Z8 so Y (Zk (qv 6) (Zk (qv 4) (Zk vq2 (Zh (Zt qb (Zt JM (Z8 qx Y (Zk vq0 (Zh Zl))) Zl) Zl)))))))) (Zj (ZC mF)) ZG)) (Ze (ZK (Zu 8 qC.nd (Z8 z5 Y (Zk (qv 6) (Zh (Zt ZJ Zr (qv 4))))))) (Ze (ZK (Z5 (PW.pt (mO (ZV rB (ZP K (qv 8) Zl) Zr) (iy (ZV (pO (K:=K) rfl Y) (Z8 z5 Y (Zk (qv 7) (Zh (Zt ZJ (Zt ZJ (Zt ZJ Zr (qv 5)) Zr) (ZP K (qv 8) Zl))))) (zm (Zk Zr (Zh Zr))))))) (Zj (ZC mF)) ZG)) (Ze (ZK (mL PassesOwn.never rfl B.range (Zh (qk (D0 rfl) (by rfl) B.max yc (Zk Zl (Zh (qk (NU rfl) (by rfl) B.min HA (Zk Zl (Zh (Zt cV (Z4 K B.len vq0) Zl)))))))) (qai 9 qC.nd) (YM (Ze (ZK (Zu 3 qC.nd (Z8 lE Y (Zk vq0 (Zh (Zt ZJ Zl (qv 9))))))) (Ze (ZK (Zu 10 qC.nd (Z8 fH Y (Zk (qv 4) (Zk vq2 (Zh vq3)))))) (Ze (ZK (Zu 8 qC.nd (Z8 z5 Y (Zk (qv 6) (Zh (qv 10)))))) (Ze (ZK (Z5 (PW.pt (mO (ZV (pO (K:=K) rfl Y) (qv 8) (Z8 z5 Y (Zk (qv 7) (Zh (Z8 fH Y (Zk (qv 5) (Zk vq2 (Zh vq3)))))))) (iy (yQ (tQ (K:=K) rfl (Z8 xU Y (Zk vq2 (Zk (qv 10) (Zh (qv 8)))))))))) (Zj (ZC mF)) ZG)) (Ze (ZK (Zu 2 qC.nd (Z8 ko Y (Zk vq2 (Zk (qv 10) (Zh (qv 8))))))) (Zj (Z5 (PW.pt (mO (ZV (pO (K:=K) rfl Y) (Z8 z5 Y (Zk (qv 6) (Zh (Zt ZJ Zr (qv 4))))) (zm (Zk Zr (Zh vq2)))) (iy (ZV (pO (K:=K) rfl Y) (Z8 z5 Y (Zk (qv 7) (Zh (Zt ZJ Zr (qv 5))))) (zm (Zk Zr (Zh vq2))))))) (Zj (ZC mF)) ZG)))))))))) (Ze (ZK (Zu 11 qC.nd (Z8 z5 Y (Zk (qv 6) (Zh (Zt ZJ Zr (qv 4))))))) (Ze (ZK (Zu 12 qC.nd (Dg an (Y.mono ∅)))) (Ze (ZK (Z5 (PW.pt (mO (ZV rB (ZP K (qv 11) Zl) Zr) (iy (ZV (pO (K:=K) rfl Y) (Z8 z5 Y (Zk (qv 7) (Zh (Zt ZJ Zr (qv 5))))) (qv 11))))) (Zj (ZC mF)) ZG)) (Ze (ZK (Z5 (ZV (pO (K:=K) rfl Y) (Z8 z5 Y (Zk (qv 12) (Zh (Zt ZJ (Zt ZJ (Zt ZJ Zr (qv 4)) Zr) (ZP K (qv 11) Zl))))) (zm (Zk Zr (Zh Zr)))) (Zj (ZC mF)) ZG)) (Zj (ZC (mG (xy (K:=K) rfl Y) (Z8 z5 Y (Zk (qv 12) (Zh (Zt ZJ Zr (qv 4))))) (zm (Zk Zr (Zh vq2))))))))))))))))))))),stR ?_);have b3:=jT;show zx (λd I=>I=H/\d=[Qr (V.ref a),Qr (V.int 20),Qs,Qs,Qs,Qs,Qs,Qs,Qs,Qs,Qs,Qs,Qs]) ?_ ?_
 .simp![true_and]
 intro _ H v;obtain⟨rfl,rfl⟩:=v;show zx (λd I=>I=H/\∃m:Int,0<=m/\m<=40/\d=[Qr (V.ref a),Qr (V.int m),Qs,Qs,Qs,Qs,Qs,Qs,Qs,Qs,Qs,Qs,Qs]) ?_ ?_
 .simp![Y6,ML];show(ns,hS,zF (λ_=>(_,∅,∅,rfl)) λ_=>(_,∅,∅,rfl))
 intro _ H v;show ZI v λab Z=>Zz Z λm m0 m1 M=>?_;clear Z v;subst ab;subst M;show zx (λd I=>Zw H I/\∃(x:Zg) (b:Int),Qa x<=40/\(∀c∈x,c∈zg)/\d=[Qr (V.ref a),Qr (V.int m),Qr (V.str (T x)),Qr (V.int b),Qs,Qs,Qs,Qs,Qs,Qs,Qs,Qs,Qs]) ?_ ?_
 .simp![fz,dj,A6,pF,CJ];show(ns,hS,λ_=>(m0,⋯,λl b p ll ls C=>(p,_,rfl,SqT.of Zi,rfl,_,_,rfl,_,_,rfl,rfl,Zw.updN C,l,b,⋯,ls,rfl)))
 intro _ H1 v;show ZI v λs1 Z=>Zy Z λx b xl xs aK=>?_;clear Z v;subst aK;show zx (λd I=>Zw H I/\∃(n:Zg) (b:Int),qz n/\d=[Qr (V.ref a),Qr (V.int m),Qr (V.str (T x)),Qr (V.int b),Qr (V.str (T n)),Qs,Qs,Qs,Qs,Qs,Qs,Qs,Qs]) ?_ ?_
 .simp![fz,aC,A6,pF,CJ];show(ns,s1.seq hS,λ_ l b p hl C=>(p,_,rfl,SqT.of Zi,rfl,_,_,rfl,_,_,rfl,rfl,s1.upd C,l,b,hl,rfl))
 intro _ H2 v;show ZI v λs2 Z=>ZS Z λn b hn M=>?_;clear Z v;subst M;show zx (λd I=>Zw H I/\∃(o:Zg) (b:Int),qz o/\d=[Qr (V.ref a),Qr (V.int m),Qr (V.str (T x)),Qr (V.int b),Qr (V.str (T n)),Qr (V.str (T o)),Qs,Qs,Qs,Qs,Qs,Qs,Qs]) ?_ ?_
 .simp! only[aC,A6,pF,CJ];show λl b p hl C=>(p,_,rfl,SqT.of Zi,rfl,_,_,rfl,_,_,rfl,rfl,s2.upd C,l,b,hl,rfl)
 intro _ H3 v;show ZI v λs3 Z=>ZS Z λo b ho M=>?_;clear Z v;subst M;show zx (λd I=>Zw H I/\∃O J,qh ZM I O J []/\d=[Qr (V.ref a),Qr (V.int m),Qr (V.str (T x)),Qr (V.int b),Qr (V.str (T n)),Qr (V.str (T o)),Qr (V.ref O),Qs,Qs,Qs,Qs,Qs,Qs]) ?_ ?_
 .simp![qp];intro x' dx hx a2 ap;show((dx,Zi),λH2 t kp ht hD=>?_);have s4:Zw H3 H2:=λb u h=>kp b u (Zm h hx) ((Zn (Zm h hx)).trans ((Zn (Zm h a2)).trans h));show(s3.trans s4,x',t,hD,rfl)
 intro _ H4 v;show ZI v λs4 Z=>ZS Z λO J a6 M=>?_;clear Z v;subst M;show zx (λd I=>Zw H I/\qh ZM I O J []/\∃j r,qh ZM I j r []/\J≠r/\d=sg a m x b n o O j [Qs,Qs,Qs,Qs,Qs]) ?_ ?_
 .simp![qp];intro x' dx hx a2 ap;show((dx,Zi),λH2 t kp ht hD=>?_);have s5:Zw H4 H2:=λb u h=>kp b u (Zm h hx) ((Zn (Zm h hx)).trans ((Zn (Zm h a2)).trans h));show(s4.trans s5,a6.same s5.toN,x',t,hD,λe=>?_,rfl);have h1:=a6.2;rw[e]at h1;rw[Zn (Zm h1 hx),Zn (Zm h1 a2),h1]at ht;cases ht
 intro _ H5 v;show ZL v λs5 a6 Z=>Zy Z λj r aH tt a4=>?_;clear Z v;subst a4;have w5:T2 K ZM Za Zb a O J j r (ns.map V.int) H5 [] []:=(s5.seq hS,a6,aH,Yc b1 s5,Yc b2 s5);clear s1 s2 s3 s4 s5 a6 aH hS b1 b2;show zx (λd I=>T2 K ZM Za Zb a O J j r (ns.map V.int) I (one n x) []/\d=sg a m x b n o O j [Qs,Qs,Qs,Qs,Qs]) ?_ ?_
 .simp![sg,Y6,iW,NX,ML,L_T];have k0:=QR (yi ns 2/6) (show(7:Int)≠0 by decide);have k1:=QM (yi ns 2/6) (show(0:Int)<7 by decide);show(ns,w5.s,(∅,∅),J,w5.d1,hn,⋯,xs,k0,⋯,w5.b1,w5.b2,Ne.symm ne,λI g=>w5.go1 tt g)
 intro _ H6 v;obtain⟨w6,rfl⟩:=v;have wp:L (Qe "pack ")=cd "pack"++[32]:=by rfl'
 show zx (λd I=>T2 K ZM Za Zb a O J j r (ns.map V.int) I (one n x) []/\∃p R,qH R/\flat R=LO.Z3 x/\I p=Qr (.tup [.str (T []),.str (T (ZR (LO.qB x:Nat)++32::wr R))])/\d=sg a m x b n o O j [Qr (V.ref p),Qs,Qs,Qs,Qs]) ?_ ?_
 .simp![sg,zM,wp,L_T];have er:cd "pack"++[32]++n=wrd "pack" [] n:=by simp[wrd]
  rw[er];have vp:Qa (cd "pack")<=5:=by rfl'
  have n8:=hn.2.1;show(by and_intros,J,_,w6.d1,(show 1<=1000 by decide),by rw[<-er];and_intros,w6.b1,w6.b2,Ne.symm ne,Ja.mono ?_ (λk h=>h.elim) (tI hn ⋯ xs));rintro k z ⟨rfl,R,gr,fr,rfl⟩ I p g C h;show(w6.go1 tt g,p,R,gr,fr,h,rfl)
 intro _ H7 v;show ZI v λw7 Z=>ze Z λp R gr fr C a4=>?_;clear Z v;subst a4;have wl:L (Qe "load ")=cd "load"++[32]:=by rfl'
 have e1:L (Qe " ")=[32]:=by rfl'
 show zx (λd I=>T2 K ZM Za Zb a O J j r (ns.map V.int) I (one n x) (one o x)/\d=sg a m x b n o O j [Qr (V.ref p),Qs,Qs,Qs,Qs]) ?_ ?_
 .simp! only[sg,e00];show(_,_,.inr (SqT.of C),rfl,?_);simp![sg,zM,wl,e1,e00,L_T];have vl:Qa (cd "load")<=5:=by rfl'
  have o8:=ho.2.1;have pl:=BH ⋯ gr fr;show(by and_intros,by and_intros,_,_,.inr (SqT.of C),TM,?_);simp only[L_T];have er:cd "load"++[32]++o++[32]++(ZR (LO.qB x:Nat)++32::wr R)=wrd "load" (32::(ZR (LO.qB x:Nat)++32::wr R)) o:=by simp[wrd]
  have du:=AS (kept:=[]) ho (show Qa x<=300 by lia) xs gr fr;rw[<-er]at du
  generalize ZR (LO.qB x:Nat)++32::wr R=y at pl du ⊢
  show(by and_intros,r,[],w7.d2,∅,by and_intros,w7.b1,w7.b2,Ne.symm ne,Ju w7.d2.2 du λI p1 g as h1=>(⋯,λp2 U=>(YG (ik rfl rfl) ((Zn (Zm h1 U)).trans h1) Zi,(w7.go2 tt g).same (Zw.updN U))))
 intro _ H8 v;obtain⟨w8,rfl⟩:=v;show zx (λd I=>∃(x:Zg) (b:Int) (u1 u2 u3:Option V),Qa x<=200/\(∀c∈x,c∈zg)/\T2 K ZM Za Zb a O J j r (ns.map V.int) I (one n x) (one o x)/\d=sg a m x b n o O j [u1,u2,u3,Qs,Qs]) ?_ ?_
 .simp! only[sg,Dt,Mp,Bs,yC,wX];show(_,.inl w8.s,by rw[jO];show(⋯,⋯),λk d I=>∃(x:Zg) (b:Int) (u1 u2 u3:Option V),Qa x<=40+8 * k/\(∀c∈x,c∈zg)/\T2 K ZM Za Zb a O J j r (ns.map V.int) I (one n x) (one o x)/\d=sg a m x b n o O j [u1,u2,u3,Qs,Qs],(x,b,_,Qs,Qs,⋯,xs,w8,rfl),?_,?_)
  .clear xl xs w8 w7 C gr fr;intro k d I hk v;show ZH v λx b u1 Z=>ze Z λu2 u3 xl xs w a7=>?_;clear Z v;subst a7;rw[jO]at hk;have hk:k<=9:=⋯
   simp! only[sg];show zx (λd D=>D=I/\∃b:Int,d=sg a m x b n o O j [u1,Qr (V.int (0+(k:Int))),u3,Qs,Qs]) ?_ ?_
   .simp![sg,fz];show(ns,w.s,⋯,λb=>(b,rfl))
   intro _ I v;show ZI v λab Z=>zI Z λb a1=>?_;clear Z v;subst ab;subst a1;show ZH (Nn (x:=x) ⋯ xs b) λs t x' Z=>zQ Z λss y rd=>?_;clear Z;have n8:=hn.2.1;have o8:=ho.2.1;have wl:∀n:Zg,Qa n<=8->Qa (wrd s t n)<=4000:=λn hn=>by have:=rd.len;unfold wrd;rcases rd.tl with⟨u,e,ul,_⟩|⟨e,_⟩<;>rw[e]<;>simp<;>lia
   show zx (λd D=>T2 K ZM Za Zb a O J j r (ns.map V.int) D (one n x) (one o x)/\d=sg a m x b n o O j [u1,Qr (V.int (0+(k:Int))),Qr (V.str (T (wrd s t n))),Qs,Qs]) ?_ ?_
   .simp![sg,bT,L_T];show(n8,⋯,xs,λH1 s1=>(w.same s1,by rw[rd.row]))
   clear w;intro _ H1 v;obtain⟨w,rfl⟩:=v;show zx (λd D=>T2 K ZM Za Zb a O J j r (ns.map V.int) D (one n x') (one o x)/\∃p,D p=Qr (.tup [.str ss,.str y])/\d=sg a m x b n o O j [Qr (V.ref p),Qr (V.int (0+(k:Int))),Qr (V.str (T (wrd s t n))),Qs,Qs]) ?_ ?_
   .simp! only[sg,zM,L_T];show(J,_,w.d1,(show 1<=1000 by decide),QC (wl n n8) ∅,w.b1,w.b2,Ne.symm ne,Ju w.d1.2 (rd.ans n hn) λH2 p g as h=>(w.go1 tt g,p,h,rfl))
   clear w;intro _ H2 v;show ZI v λw Z=>Zf Z λp C ak=>?_;clear Z v;subst ak;show zx (λd D=>T2 K ZM Za Zb a O J j r (ns.map V.int) D (one n x') (one o x')/\D p=Qr (.tup [.str ss,.str y])/\d=sg a m x b n o O j [Qr (V.ref p),Qr (V.int (0+(k:Int))),Qr (V.str (T (wrd s t n))),Qs,Qs]) ?_ ?_
   .simp![sg,bT,zM,m8,L_T];show(o8,⋯,xs,λH3 s3=>?_);rw[rd.row];have w3:=w.same s3;have al:=s3 _ _ C;show(r,_,w3.d2,(show 1<=1000 by decide),QC (wl o o8) ∅,w3.b1,w3.b2,Ne.symm ne,?_);show Ju w3.d2.2 (rd.ans o ho) λH4 p4 g b4 h4=>?_;have pt:p≠r:=by rintro rfl;rw[w3.d2.2]at al;cases al
    have a5:=g.at al pt (by nofun);have w4:=w3.go2 tt g;show(YG (ik rfl rfl) a5 h4,cd s,n,t,ss,y,rfl,rd.no,hn.noB,rd.len,⋯,⋯,rd.tl,a5,rd.due,λH5 s5=>(w4.same s5,s5 _ _ a5))
   clear w;intro _ H3 v;show ZL v λw C a1=>?_;clear v;subst a1;show zx (λd D=>T2 K ZM Za Zb a O J j r (ns.map V.int) D (one n x') (one o x')/\d=sg a m x' b n o O j [Qr (V.ref p),Qr (V.int (0+(k:Int))),Qr (V.str (T (wrd s t n))),Qs,Qs]) ?_ ?_
   .simp![sg,eI,L_T];show(cd s,n,t,ss,y,rfl,rd.no,hn.noB,rd.len,⋯,⋯,rd.tl,C,λH4 s4=>(w.same s4,by rw[rd.beh]))
   clear w C;intro _ H4 v;obtain⟨w,rfl⟩:=v;have wt:L (Qe "text ")=cd "text"++[32]:=by rfl'
   have vt:Qa (cd "text")<=5:=by rfl'
   simp![sg,zM,wt,e00,L_T];have er:∀n,cd "text"++[32]++n=wrd "text" [] n:=λn=>by simp[wrd]
   have x3:Qa x'<=300:=by have:=rd.sz;lia
   have d1:=sH hn x3 rd.sg;have d2:=sH ho x3 rd.sg;rw[<-er]at d1 d2;show(by and_intros,J,_,w.d1,(show 1<=1000 by decide),by and_intros,w.b1,w.b2,Ne.symm ne,Ju w.d1.2 d1 λH5 p5 g5 a5 h5=>(⋯,λp6 a8=>(YG (ik rfl rfl) ((Zn (Zm h5 a8)).trans h5) Zi,?_)));have w5:=(w.go1 tt g5).same (Zw.updN (o:=HO.tup [V.str (T []),V.str (T x')]) a8);show(by and_intros,r,_,w5.d2,(show 1<=1000 by decide),by and_intros,w5.b1,w5.b2,Ne.symm ne,Ju w5.d2.2 d2 λH7 p7 g7 b7 h7=>(⋯,λp8 aJ=>(YG (ik rfl rfl) ((Zn (Zm h7 aJ)).trans h7) Zi,?_)));show(x',b,_,_,_,by have:=rd.sz;lia,rd.sg,(w5.go2 tt g7).same (Zw.updN aJ),rfl)
  intro d I v;show ZH v λx b u1 Z=>ze Z λu2 u3 xl xs w a7=>?_;clear Z v;subst a7;rw[jO]at xl;show(x,b,u1,u2,u3,⋯,xs,w,rfl)
 intro _ H9 v;show ZH v λx b u1 Z=>ze Z λu2 u3 xl xs w9 a7=>?_;clear Z v;subst a7;have vp:Qa (cd "pack")<=5:=by rfl'
 have a9:∀n,cd "pack"++[32]++n=wrd "pack" [] n:=λn=>by simp[wrd]
 have n8:=hn.2.1;have o8:=ho.2.1;show zx (λd I=>T2 K ZM Za Zb a O J j r (ns.map V.int) I (one n x) (one o x)/\∃p R,qH R/\flat R=LO.Z3 x/\I p=Qr (.tup [.str (T []),.str (T (ZR (LO.qB x:Nat)++32::wr R))])/\d=sg a m x b n o O j [u1,u2,u3,Qr (V.ref p),Qs]) ?_ ?_
 .simp![sg,zM,wp,L_T];rw[a9];show(by and_intros,J,_,w9.d1,(show 1<=1000 by decide),by rw[<-a9];and_intros,w9.b1,w9.b2,Ne.symm ne,Ja.mono ?_ (λk h=>h.elim) (tI hn ⋯ xs));rintro k z ⟨rfl,R,gr,fr,rfl⟩ I p g C h;show(w9.go1 tt g,p,R,gr,fr,h,rfl)
 clear w9;intro _ aG v;show ZI v λam Z=>ze Z λp R gr fr C a4=>?_;clear Z v;subst a4;show zx (λd I=>T2 K ZM Za Zb a O J j r (ns.map V.int) I (one n x) (one o x)/\I p=Qr (.tup [.str (T []),.str (T (ZR (LO.qB x:Nat)++32::wr R))])/\∃o3 t3,qh ZM I o3 t3 []/\p≠t3/\r≠t3/\d=sg a m x b n o O j [u1,u2,u3,Qr (V.ref p),Qr (V.ref o3)]) ?_ ?_
 .simp![sg,qp];intro x' dx hx a2 ap;show((dx,Zi),λH2 t kp ht hD=>?_);have s4:Zw aG H2:=λb u h=>kp b u (Zm h hx) ((Zn (Zm h hx)).trans ((Zn (Zm h a2)).trans h));have fr:∀b u,aG b=Qr u->b≠t:=λb u h e=>by subst e;rw[Zn (Zm h hx),Zn (Zm h a2),h]at ht;cases ht
  show(am.same s4,s4 _ _ C,x',t,hD,fr _ _ C,fr _ _ am.d2.2,rfl)
 clear am;intro _ aM v;show ZL v λa3 C Z=>ze Z λo3 t3 S pt aT aL=>?_;clear Z v;subst aL;show zx (λd I=>Zp Za I/\Zv Zb I/\I p=Qr (.tup [.str (T []),.str (T (ZR (LO.qB x:Nat)++32::wr R))])/\qh ZM I o3 t3 []/\d=sg a m x b n o O j [u1,u2,u3,Qr (V.ref p),Qr (V.ref o3)]) ?_ ?_
 .simp! only[sg,e00];show(_,_,.inr (SqT.of C),rfl,?_);simp![sg,zM,wp,L_T];rw[a9];show(by and_intros,r,_,a3.d2,(show 1<=1000 by decide),by rw[<-a9];and_intros,a3.b1,a3.b2,Ne.symm ne,Ja.mono ?_ (λk h=>h.elim) (tI ho ⋯ xs));rintro k z ⟨rfl,r2,g2,f2,rfl⟩ I p2 g U h2;have g:G Za Zb r (one o x) aM I:=g;have aN:p≠r:=by rintro rfl;rw[a3.d2.2]at C;cases C
  have aw:=g.at C aN (by nofun);rw[d7 g2 gr (f2.trans fr.symm)]at h2;show(YG (ik rfl rfl) h2 aw,g.b1,g.b2,aw,ym a3.d2.2 S (Ne.symm aT) g)
 clear a3;intro _ b5 v;show qN v λb1 b2 C S M=>?_;clear v;subst M;have vl:Qa (cd "load")<=5:=by rfl'
 have pl:=BH ⋯ gr fr;show zx (λd I=>Zp Za I/\Zv Zb I/\qh ZM I o3 t3 (one n x)/\d=sg a m x b n o O j [u1,u2,u3,Qr (V.ref p),Qr (V.ref o3)]) ?_ ?_
 .simp![sg,zM,wl,e1,e00,L_T];show(by and_intros,by and_intros,_,_,.inr (SqT.of C),TM,?_);simp only[L_T];have er:cd "load"++[32]++n++[32]++(ZR (LO.qB x:Nat)++32::wr R)=wrd "load" (32::(ZR (LO.qB x:Nat)++32::wr R)) n:=by simp[wrd]
  have du:=AS (kept:=[]) hn (show Qa x<=300 by lia) xs gr fr;rw[<-er]at du
  generalize ZR (LO.qB x:Nat)++32::wr R=y at pl du ⊢
  show(by and_intros,t3,[],S,∅,by and_intros,b1,b2,Ne.symm ne,Ju S.2 du λI p1 g as h1=>(⋯,λp2 U=>(YG (ik rfl rfl) ((Zn (Zm h1 U)).trans h1) Zi,Yc g.b1 (Zw.updN U),Yc g.b2 (Zw.updN U),(g.desk S).same (Zw.updN U).toN)))
 intro _ b6 v;show za v λb1 b2 S ak=>?_;clear v;subst ak;have wt:L (Qe "text ")=cd "text"++[32]:=by rfl'
 have vt:Qa (cd "text")<=5:=by rfl'
 simp![sg,zM,wt,e00,L_T];have er:cd "text"++[32]++n=wrd "text" [] n:=by simp[wrd]
 have d1:=sH hn (show Qa x<=300 by lia) xs;rw[<-er]at d1;show(by and_intros,t3,_,S,(show 1<=1000 by decide),by and_intros,b1,b2,Ne.symm ne,Ju S.2 d1 λH5 p5 g5 a5 h5=>(⋯,λp6 a8=>(YG (ik rfl rfl) ((Zn (Zm h5 a8)).trans h5) Zi,q _)))
end
theorem us0{u:ZY}(h:u.length=0):u=[]:=V8 h
theorem us1{u:ZY}(h:u.length=1):∃j,u=[j]:=by
 cases u with
 |nil=>cases h
 |cons x r=>
  obtain rfl:=us0 (Nat.succ.inj h);show(x,rfl)
theorem us2{u:ZY}(h:u.length=2):∃j t,u=[j,t]:=by
 cases u with
 |nil=>cases h
 |cons x r=>
  obtain⟨y,rfl⟩:=us1 (Nat.succ.inj h);show(x,y,rfl)
theorem us3{u:ZY}(h:u.length=3):∃j t C,u=[j,t,C]:=by
 cases u with
 |nil=>cases h
 |cons x r=>
  obtain⟨y,Y,rfl⟩:=us2 (Nat.succ.inj h);show(x,y,Y,rfl)
theorem us4{u:ZY}(h:u.length=4):∃j t C M,u=[j,t,C,M]:=by
 cases u with
 |nil=>cases h
 |cons x r=>
  obtain⟨y,Y,H,rfl⟩:=us3 (Nat.succ.inj h);show(x,y,Y,H,rfl)
local macro_rules| `(tactic|walk_at "2")=> `(tactic|(intro _ _ _ _ _ _ us hl;obtain⟨_,_,h⟩:=us2 hl;subst h;show rfl))| `(tactic|walk_at "0")=> `(tactic|(intro _ _ _ _ _ _ us hl;obtain h:=us0 hl;subst h;show rfl))| `(tactic|walk_at "1")=> `(tactic|(intro _ _ _ _ _ _ us hl;obtain⟨_,h⟩:=us1 hl;subst h;show rfl))| `(tactic|walk_at "3")=> `(tactic|(intro _ _ _ _ _ _ us hl;obtain⟨_,_,_,h⟩:=us3 hl;subst h;show rfl))| `(tactic|walk_at "4")=> `(tactic|(intro _ _ _ _ _ _ us hl;obtain⟨_,_,_,_,h⟩:=us4 hl;subst h;show rfl))
theorem OO{l:VY}{w:uj}{K:Qb}{h:Heap}{mg:z9}{fa rg wA wC cZ rh nH nJ sM kJ lO nK rj AW CC wF yr AV wD rm sL Yd sN yp yq AU rf wB CD gB gC eZ ig gG gF e9 gA gE fc fb gD ie AX Mn Fe AZ yt AY Ii CH CG Mo Ig f_law qj kI lN kH ic gK nG YR p9 rb nE lM Jv yo bM iN rN lK S M iO dI rO Zd Zs ZM:jP}(X:K.In h)(G:h.Ns jX mg)(aZ:mg "law"=Qr (.ref fa))
 {Xw TK P9 OP Ra Hx Rb OQ Rc OR Rf OS:Option jP} {XM RW RX RY RZ R0:Array (Option Value)} {Xv Xk T4 XE T3 P4 Pq O9 Rz O5 HL P5 IF HW KS HU Cv P6 Pr Pa RA O6 P7 Pt Pb RB O7 HM P8 Pu Pc RC O8 HN:Value}
 (Ov:DfT K "check_place" cP rg)
 (Ow:DfT K "check_gap" eO wA)
 (Ox:DfT K "number_in" eQ wC)
 {AA Zb:jP} {NV:ZY}
 (OM:vG K jX "order_of"=Qr (Qr (.ref cZ))) (PH:K.lookup cZ=Qr (Xv,Xw,.func (Qat "order_of" "order_of" (zY Jd) (zz Jd) (Zq Jd) .none Xk T4 XE TK (.ref AA) T3),XM)) (O0:Qan K (.ref AA) "order_of"=true) (MC:vB K (.ref cZ)=true)
 (qbf:recIn K AA "code"=Qr NV) (X1:NV[11]?=Qr (.ref Zb)) (Mw:Qbv K AA Zb=true) (PV:K.lookup Zb=Qs)
 (Oy:DfT K "common_size" cQ rh)
 (Oz:DfT K "comes_before" bA nH)
 (OA:DfT K "last_letters" bB nJ)
 (OB:DfT K "letters_of" dU sM)
 (OC:DfT K "longest_ending" JT kJ)
 (OD:DfT K "fewest_pieces" ar lO)
 (GI:DfT K "unlike_signs" bC nK)
 (GJ:DfT K "near_places" cR rj)
 (GK:DfT K "runs_of" iD AW)
 (GL:DfT K "packed" kW CC)
 (GN:DfT K "read_runs" eS wF)
 (GO:DfT K "unpacked" gb yr)
 (GP:DfT K "road_of" iC AV)
 (GQ:DfT K "read_back" eR wD)
 (GR:DfT K "shared_size" cS rm)
 (GS:DfT K "commons_of" dS sL)
 {D:jP} {Y:Value} {t:Option jP} {b3:Nat} {u:Array (Option Value)} {q:Tok}
 (Ap:vG K jX "longest_often"=Qr (Qr (.ref Yd))) (IP:K.lookup Yd=Qr (P4,P9,.func (Qat "longest_often" "longest_often" (zY Yf) (zz Yf) (Zq Yf) (.ref D) Pq O9 Rz OP HL O5),RW)) (HC:Qan K HL "longest_often"=true) (xu:vB K (.ref Yd)=true)
 (qar:K.lookup D=Qr (Y,t,.seq #[.int 2 q] b3,u))
 (GU:DfT K "lone_sizes" dW sN)
 (GV:DfT K "kinds_in" f7 yp)
 (GW:DfT K "read_row" f9 yq)
 (GX:DfT K "is_name" iB AU)
 (GY:DfT K "check_names" cO rf)
 (GZ:DfT K "keep_text" eP wB)
 (G0:DfT K "spaced" kX CD)
 (DB:DfT K "answer_keep" cI gB)
 (DC:DfT K "answer_load" cJ gC)
 (DD:DfT K "answer_ahead" br eZ)
 (DE:DfT K "answer_off" dR ig)
 (DF:DfT K "answer_text" cN gG)
 (DG:DfT K "answer_pack" cM gF)
 (DH:DfT K "answer_count" bu e9)
 (DI:DfT K "answer_find" cH gA)
 (DJ:DfT K "answer_near" cL gE)
 (DK:DfT K "answer_often" bz fc)
 (DL:DfT K "answer_kinds" bw fb)
 (DM:DfT K "answer_lone" cK gD)
 (DN:DfT K "answer_cut" dQ ie)
 (G6:DfT K "_law_cell_at" iE AX)
 (G7:DfT K "_law_big" y9 Mn)
 (G8:DfT K "_law_stock" oN Fe)
 (G9:DfT K "_law_text_of" iG AZ)
 (Ha:DfT K "_law_piece_of" gc yt)
 (Hb:DfT K "_law_name_of" iF AY)
 (Hc:DfT K "_law_said" tW Ii)
 (Hd:DfT K "_law_row_of" kZ CH)
 (He:DfT K "_law_behind" kY CG)
 (Hf:DfT K "_law_due" Aa Mo)
 (Hg:DfT K "_law_kept" tV Ig)
 (Ht:vG K jX "law"=Qr (Qr (.ref f_law))) (IQ:K.lookup f_law=Qr (P5,Ra,.func (Qat "law" "law" (zY mT) (zz mT) (Zq mT) .none IF HW KS Hx Cv HU),RX)) (HD:Qan K Cv "law"=true) (IG:vB K (.ref f_law)=true)
 {sE Za:jP} {HV:ZY}
 (Hu:vi K (.ref Zd) "__init__"=Qr (Qr (.ref qj))) (Iy:isFn K (.ref qj)=true) (IS:K.lookup qj=Qr (P6,Rb,.func (Qat "__init__" "Letters.__init__" (zY Yu) (zz Yu) (Zq Yu) .none Pr Pa RA OQ (.ref sE) O6),RY)) (HE:Qan K (.ref sE) "Letters.__init__"=true) (IH:vB K (.ref qj)=true)
 (qaO:recIn K sE "code"=Qr HV) (Ol:HV[11]?=Qr (.ref Za)) (Eg:Qbv K sE Za=true) (Kq:K.lookup Za=Qs)
 (Hh:DfM K Zd "letter" "Letters.letter" JS kI)
 (Hi:DfM K Zd "first" "Letters.first" aq lN)
 (Hj:DfM K Zd "before" "Letters.before" JR kH)
 (Hk:DfM K Zd "row_with" "Letters.row_with" qX ic)
 (Hl:DfM K Zd "rows_with" "Letters.rows_with" qO gK)
 (Hm:DfM K Zd "back" "Letters.back" bq nG)
 {j:jP} {R:Value} {y:Option jP} {b4:Nat} {U:Array (Option Value)} {f:Tok}
 (DU:vi K (.ref Zs) "__init__"=Qr (Qr (.ref YR))) (Ei:isFn K (.ref YR)=true) (IT:K.lookup YR=Qr (P7,Rc,.func (Qat "__init__" "Finder.__init__" (zY YS) (zz YS) (Zq YS) (.ref j) Pt Pb RB OR HM O7),RZ)) (HF:Qan K HM "Finder.__init__"=true) (II:vB K (.ref YR)=true)
 (qaA:K.lookup j=Qr (R,y,.seq #[.int 4 f] b4,U))
 (Hn:DfM K Zs "rows" "Finder.rows" cF p9)
 (Ho:DfM K Zs "walk" "Finder.walk" cG rb)
 (Hq:DfM K Zs "count" "Finder.count" bj nE)
 (Hr:DfM K Zs "places" "Finder.places" ao lM)
 (Hv:vi K (.ref ZM) "__init__"=Qr (Qr (.ref Jv))) (Iz:isFn K (.ref Jv)=true) (IU:K.lookup Jv=Qr (P8,Rf,.func (Qat "__init__" "Desk.__init__" (zY qL) (zz qL) (Zq qL) .none Pu Pc RC OS HN O8),R0)) (HG:Qan K HN "Desk.__init__"=true) (IJ:vB K (.ref Jv)=true)
 (Hs:DfM K ZM "say" "Desk.say" f6 yo)
 (qaH:vG K jX "BackError"=Qr (Qr (.ref bM)))
 (qaI:Qa4 K bM VE "ValueError.__new__"=true)
 (qaP:vG K jX "NoPlace"=Qr (Qr (.ref iN)))
 (qaQ:Qa4 K iN VE "ValueError.__new__"=true)
 (qbh:vG K jX "NoGap"=Qr (Qr (.ref rN)))
 (qbi:Qa4 K rN VE "ValueError.__new__"=true)
 (qaZ:vG K jX "NoText"=Qr (Qr (.ref lK)))
 (qa0:Qa4 K lK VE "ValueError.__new__"=true)
 (qaM:vG K jX "NoTimes"=Qr (Qr (.ref S)))
 (qaD:Qa4 K S VE "ValueError.__new__"=true)
 (qa6:vG K jX "Empty"=Qr (Qr (.ref M)))
 (qaY:Qa4 K M VE "ValueError.__new__"=true)
 (qaR:vG K jX "TooLong"=Qr (Qr (.ref iO)))
 (qaS:Qa4 K iO VE "ValueError.__new__"=true)
 (qaX:vG K jX "NoName"=Qr (Qr (.ref dI)))
 (qaF:Qa4 K dI VE "ValueError.__new__"=true)
 (qaJ:vG K jX "NoRow"=Qr (Qr (.ref rO)))
 (qaK:Qa4 K rO VE "ValueError.__new__"=true)
 (qan:Qbr K S (.ref S)=Qr true)
 (qau:Qbr K S (.ref M)=Qr false)
 (qax:Qbr K M (.ref M)=Qr true)
 (qal:Qbr K dI (.ref bM)=Qr true)
 (qat:Qbr K dI (.ref S)=Qr false)
 (qaw:Qbr K dI (.ref M)=Qr false)
 (qa8:vG K jX "Letters"=Qr (Qr (.ref Zd))) (qa9:QaI K Zd VO=true) (qba:QaU K Zd=true) (qbb:Qa7 K Zd=true) (qbc:vi K (.ref Zd) "__setattr__"=Qr (Qr (.builtin "object.__setattr__"))) (qbd:makesIn K Zd=true) (qbe:vB K (.ref Zd)=true)
 (qae:vi K (.ref Zd) "column"=Qr Qs)
 (qao:vi K (.ref Zd) "forths"=Qr Qs)
 (qap:vi K (.ref Zd) "home"=Qr Qs)
 (qac:vi K (.ref Zd) "last"=Qr Qs)
 (qaj:vi K (.ref Zd) "totals"=Qr Qs)
 (qa3:vG K jX "Finder"=Qr (Qr (.ref Zs))) (qbk:QaI K Zs VO=true) (qbl:QaU K Zs=true) (qbm:Qa7 K Zs=true) (qbn:vi K (.ref Zs) "__setattr__"=Qr (Qr (.builtin "object.__setattr__"))) (qa4:makesIn K Zs=true) (qa5:vB K (.ref Zs)=true)
 (qay:vi K (.ref Zs) "gap"=Qr Qs)
 (qaf:vi K (.ref Zs) "held"=Qr Qs)
 (qag:vi K (.ref Zs) "known"=Qr Qs)
 (qbv:vG K jX "Desk"=Qr (Qr (.ref ZM))) (qbw:QaI K ZM VO=true) (qbx:QaU K ZM=true) (qby:Qa7 K ZM=true) (qbz:vi K (.ref ZM) "__setattr__"=Qr (Qr (.builtin "object.__setattr__"))) (qbA:makesIn K ZM=true) (qbB:vB K (.ref ZM)=true)
 (qas:vi K (.ref ZM) "texts"=Qr Qs)
 {b7:Tok} (qaN:vG K jX "MOST_SIGNS"=Qr (Qr (.int 300 b7)))
 {b8:Tok} (qaW:vG K jX "NO_LETTER"=Qr (Qr (.str "\n" b8)))
 {Ya:jP} (qbC:vG K jX "FORMS"=Qr (Qr (.ref Ya)))
 (qa7:sv K w.params Ya ip)
 {zo:jP} (qbo:vG K jX "KEEPING"=Qr (Qr (.ref zo)))
 (qaT:LY K zo gq)
 {zE:jP} (qbp:vG K jX "ANSWERS"=Qr (Qr (.ref zE)))
 {b5 b6:jP}
 (qaU:sv K w.params zE [("keep",.ref gB),("load",.ref gC),("ahead",.ref eZ),("drop",.ref b5),("off",.ref ig),("text",.ref gG),("pack",.ref gF),("count",.ref e9),("find",.ref gA),("near",.ref gE),("often",.ref fc),("kinds",.ref fb),("lone",.ref gD),("cut",.ref ie),("both",.ref b6)])
 (z_dict:vG K jX "dict"=Qr Qs)
 (z_enumerate:vG K jX "enumerate"=Qr Qs)
 (z_int:vG K jX "int"=Qr Qs)
 (z_isinstance:vG K jX "isinstance"=Qr Qs)
 (z_len:vG K jX "len"=Qr Qs)
 (z_list:vG K jX "list"=Qr Qs)
 (z_max:vG K jX "max"=Qr Qs)
 (z_min:vG K jX "min"=Qr Qs)
 (z_range:vG K jX "range"=Qr Qs)
 (z_reversed:vG K jX "reversed"=Qr Qs)
 (z_set:vG K jX "set"=Qr Qs)
 (z_sorted:vG K jX "sorted"=Qr Qs)
 (z_str:vG K jX "str"=Qr Qs)
 (z_sum:vG K jX "sum"=Qr Qs)
 (z_zip:vG K jX "zip"=Qr Qs)
 {ts:List jP} (hts:∀p∈ts,p=Za\/p=Zb)
 :(∀p∈ts,K.lookup p=Qs/\∃c,Qbv K c p=true)/\∃fd:uY,(∀(s:jQ) (v:Value),QaW s fd ([v],[]) [("_law_script",v)])/\∀base:Heap,K.In base->base.Ns jX mg->Sk mg base->Z0 l.prog w K mg base CX0 12 fa fd DS (Af K Za Zb):=by
 have e:=aZ.symm.trans (vc X G Ht);cases e;have B:Bn mg:=(vb X G z_dict,vb X G z_enumerate,vb X G z_int,vb X G z_isinstance,vb X G z_len,vb X G z_list,vb X G z_max,vb X G z_min,vb X G z_range,vb X G z_reversed,vb X G z_set,vb X G z_sorted,vb X G z_str,vb X G z_sum,vb X G z_zip);have E:Er K mg (bM,iN,rN,lK,S,M,iO,dI,rO):=(vc X G qaH,qaI,vc X G qaP,qaQ,vc X G qbh,qbi,vc X G qaZ,qa0,vc X G qaM,qaD,nR qan,nR qau,vc X G qa6,qaY,nR qax,vc X G qaR,qaS,vc X G qaX,qaF,nR qal,nR qat,nR qaw,vc X G qaJ,qaK);have C:Cf K Zd Zs ZM:=((qa9,qba,qbb,qbc),qae,qao,qap,qac,qaj,(qbk,qbl,qbm,qbn),qay,qaf,qag,(qbw,qbx,qby,qbz),qas);have J:Gc mg:=((_,vc X G qaN),(_,vc X G qaW));have TP:Tp K w.params mg Ya zo zE:=(vc X G qbC,qa7,vc X G qbo,qaT,vc X G qbp,ND qaU (by intro p hp;simp only[sW,ui,QF,or_false]at hp;rcases hp with rfl|rfl|rfl|rfl|rfl|rfl|rfl|rfl|rfl|rfl|rfl|rfl|rfl;show(_,vc X G DB.a,by kernel_rfl);show(_,vc X G DC.a,by kernel_rfl);show(_,vc X G DD.a,by kernel_rfl);show(_,vc X G DE.a,by kernel_rfl);show(_,vc X G DF.a,by kernel_rfl);show(_,vc X G DG.a,by kernel_rfl);show(_,vc X G DH.a,by kernel_rfl);show(_,vc X G DI.a,by kernel_rfl);show(_,vc X G DJ.a,by kernel_rfl);show(_,vc X G DK.a,by kernel_rfl);show(_,vc X G DL.a,by kernel_rfl);show(_,vc X G DM.a,by kernel_rfl);show(_,vc X G DN.a,by kernel_rfl)));have SN:=nM (st:=Jd) PH O0 MC;have wZ:=Ec (st:=Yf) IP HC xu;have Th:=nM (st:=mT) IQ HD IG;have NO:=nM (st:=Yu) IS HE IH;have DO:=Ec (st:=YS) IT HF II;have NP:=nM (st:=qL) IU HG IJ;show(λp hp=>?_,?_)
 .rcases hts p hp with rfl|rfl;show(Kq,_,Eg);show(PV,_,Mw)
 show(Qat "law" "law" (zY mT) (zz mT) (Zq mT) .none IF HW KS Hx Cv HU,λs v=>.of_eq rfl,λbase kb nb bm=>?_);have d:Pw K l.prog w mg base h:=(X,G);generalize((bM,iN,rN,lK,S,M,iO,dI,rO):Cs)=c at E;have Z:Lm mg base sE Za:=(codeHd_of_K kb Eg,bm);have z:Lm mg base AA Zb:=(codeHd_of_K kb Mw,bm);have qx:=G6.fn d (Y6 K) (λS6=>yH S6 B) (by walk_at "2");have lE:=G7.fn d (fz K) (λS7=>Kw S7 B qx) (by walk_at "2");have dm:=G8.fn d (bE K) (λS8=>C9 S8) (by walk_at "0");have gR:=G9.fn d (dj K) (λS9=>yJ S9 B dm) (by walk_at "2");have dY:=Hb.fn d (aC K) (λTb=>yI Tb B) (by walk_at "1");have zW:=Ox.fnX d (z7 K c) (λX6=>tD X6 B E) (by walk_at "1");have fE:=GW.fnX d (bI K c) (λSF=>wN SF B E TP zW) (by walk_at "1");have gO:=GX.fn d (df K) (λSG=>yE SG B) (by walk_at "1");have b9:=GY.fnX d (Jj K c) (λSH=>oq SH E TP gO) (by walk_at "2");have zV:=GZ.fnX d (z6 K c) (λSI=>tw SI B E J) (by walk_at "3");have bV:=DB.fnX d (Yx K c) (λSK=>nX SK zV) (by walk_at "2");have ZN:=Ov.fnX d (ZX K c) (λX4=>ot X4 E) (by walk_at "2");have gQ:=GK.fn d (di K) (λSq=>yG Sq B) (by walk_at "1");have aM:=GL.fnX d (JY K c) (λSr=>BC Sr B ZN gQ) (by walk_at "2");have eK:=GN.fnX d (aA K c) (λSs=>tF Ss B E zW) (by walk_at "1");have fF:=GO.fnX d (bJ K c) (λSu=>wO Su B E J zW aM eK) (by walk_at "1");have TQ:=NO.binds (ps:=zS) (by walk_at "3");have P:Mkr l.prog w K mg base (CX1 l.prog w) 3 "Letters" Zd zS [] (zD K c Zd Za):=((qj,_,[],mq NO B Z rfl E TP C J ZN,(qbd,Hu,Iy,qbe),TQ,.nil),vc X G qa8);have a4:=Hh.md d C.qaa (zL K c Zd) (λTi=>i4 Ti C ZN) (by walk_at "2");have aL:=Oz.fn d (Y5 K) (λX8=>mB X8) (by walk_at "2");have a9:=Hi.md d C.qaa (qF K Zd) (λTj=>kP Tj B C aL) (by walk_at "2");have an:=Hj.md d C.qaa (qe K c Zd) (λTo=>i0 To C ZN) (by walk_at "3");have a1:=Hk.md d C.qaa (Z9 K c Zd) (λTq=>gL Tq a9 an) (by walk_at "3");have a5:=Hm.md d C.qaa (Yg K c Zd) (λTs=>mj Ts a4 a1) (by walk_at "2");have gP:=GP.fnX d (dh K c Zd Za) (λSv=>yF Sv P a5) (by walk_at "2");have eJ:=GQ.fnX d (qZ K c Zd Za) (λSw=>tE Sw B E gP P a4) (by walk_at "2");have bW:=DC.fnX d (Yy K c Zd Za) (λSM=>nY SM fF eJ zV) (by walk_at "2");have aG:=DD.fnX d (Yh K c) (λSO=>mr SO zV) (by walk_at "2");have dA:=DE.fnX d (YV K c) (λSQ=>rD SQ B E) (by walk_at "2");have b0:=DF.fnX d (YC K c) (λSR=>om SR) (by walk_at "2");have aT:=SN.binds (ps:=zX) (by walk_at "1");have I:Fn l.prog w K mg base 3 "order_of" zX (zd K Zb):=⟨(cZ,_,wM SN B z rfl E TP C J,vc X G OM,MC,aT)⟩;have Ys:=OA.fn d (Yl K Zb) (λX9=>mC X9 I) (by walk_at "1");have bZ:=DG.fnX d (YB K c Zb) (λSS=>oh SS Ys aM) (by walk_at "2");have bF:=Ow.fnX d (az K c) (λX5=>tu X5 E) (by walk_at "1");have YE:=OB.fn d (YX K Zd Zb Za) (λap=>rF ap Ys P) (by walk_at "1");have TR:=DO.binds (ps:=zw) (ds:=[]) qaA λ_ _ _ _ _ _ us O=>by obtain⟨_,_,_,rfl⟩:=us3 O;show(_,rfl,rfl)
 have x:=DO.binds (ps:=zw) (ds:=[.int 4 f]) qaA λ_ _ _ _ _ _ us O=>by obtain⟨_,_,rfl⟩:=us2 (Nat.succ.inj O);show(_,rfl,rfl)
 have a7:Mkr l.prog w K mg base (CX1 l.prog w) 6 "Finder" Zs zw [] (zA K c Zd Zs Zb Za):=((YR,_,[],fj DO B E TP C J bF I YE,(qa4,DU,Ei,qa5),TR,.nil),vc X G qa3);have a2:Mkr l.prog w K mg base (CX1 l.prog w) 6 "Finder" Zs zw [.int 4] (zA K c Zd Zs Zb Za):=((YR,_,[.int 4 f],fj DO B E TP C J bF I YE,(qa4,DU,Ei,qa5),x,.cons (_,rfl) .nil),vc X G qa3);have a3:=Hl.md d C.qaa (zB K c Zd) (λTr=>fU Tr a1) (by walk_at "3");have a6:=Hn.md d C.qam (Yv K Zd Zs) (λTt=>nU Tt B C a3) (by walk_at "2");have ak:=Hq.md d C.qam (qS K Zd Zs) (λTv=>mh Tv a6) (by walk_at "2");have aH:=DH.fnX d (Yi K c Zd Zs Zb Za) (λSU=>mw SU B a7 a2 ak) (by walk_at "2");have Ym:=G0.fn d (Yr K) (λSJ=>BD SJ B) (by walk_at "1");have al:=Ho.md d C.qam (Ji K c Zd Zs) (λTu=>nV Tu C ZN a5) (by walk_at "2");have ab:=Hr.md d C.qam (qE K Zd Zs) (λTw=>kO Tw B a6 al) (by walk_at "2");have bU:=DI.fnX d (Yw K c Zd Zs Zb Za) (λSV=>nW SV Ym a7 a2 ab) (by walk_at "2");have aN:=GI.fn d (qT K) (λSn=>mD Sn B) (by walk_at "2");have cf:=GJ.fn d (Jl K) (λSo=>ow So B aN) (by walk_at "3");have bY:=DJ.fnX d (YA K c) (λSW=>oa SW cf Ym) (by walk_at "2");have cb:=Oy.fn d (Jk K) (λX7=>ou X7 B) (by walk_at "2");have zO:=GR.fnX d (YD K c) (λSx=>ox Sx B ZN cb) (by walk_at "3");have TN:=wZ.binds (ps:=zb) (ds:=[]) qar λ_ _ _ _ _ _ us O=>by obtain⟨_,_,rfl⟩:=us2 O;show(_,rfl,rfl)
 have r:=wZ.binds (ps:=zb) (ds:=[.int 2 q]) qar λ_ _ _ _ _ _ us O=>by obtain⟨_,rfl⟩:=us1 (Nat.succ.inj O);show(_,rfl,rfl)
 have J4:FnX l.prog w K mg base 4 "longest_often" zb (zu K c Zb):=⟨(Yd,_,JO wZ B E TP C J I zO,vc X G Ap,xu,TN)⟩;have g:FnD l.prog w K mg base 4 "longest_often" zb [.int 2] (λvs H Q _=>(zu K c Zb) vs H Q E0):=⟨(Yd,_,[.int 2 q],yR (JO wZ B E TP C J I zO),vc X G Ap,xu,r,.cons (_,rfl) .nil)⟩;have m:FnK l.prog w K mg base 4 "longest_often" zb "times" (λvs H Q _=>(zu K c Zb) vs H Q E0):=⟨(Yd,_,yR (JO wZ B E TP C J I zO),vc X G Ap,xu,wZ.bindsK1 qar λ_ _ _ _ _ _ _ _=>(_,rfl,rfl))⟩;have aK:=DK.fnX d (Yk K c Zb) (λSX=>mz SX J4 g m) (by walk_at "2");have qg:=GS.fn d (YW K Zb) (λSy=>rE Sy B I zO) (by walk_at "1");have fD:=GV.fn d (bH K Zb) (λSA=>wL SA B I qg) (by walk_at "1");have aJ:=DL.fnX d (Yj K c Zb) (λSY=>my SY B fD) (by walk_at "2");have dB:=GU.fn d (JG K Zb) (λSz=>rG Sz B I qg) (by walk_at "1");have bX:=DM.fnX d (Yz K c Zb) (λS0=>nZ S0 dB Ym) (by walk_at "2");have JH:=OC.fn d (qf K Zd) (λas=>i5 as C a3) (by walk_at "3");have J3:=OD.fn d (qG K Zd Zb Za) (λaw=>kQ aw B YE JH) (by walk_at "2");have dz:=DN.fnX d (YU K c Zd Zb Za) (λS5=>rC S5 B J3 Ym) (by walk_at "2");have am:=Hs.md d C.qbs (bG K c Zd Zs ZM Za Zb) (λTx=>wK Tx TP C fE b9 bV bW aG dA b0 bZ aH bU bY aK aJ bX dz) (by walk_at "2");have z5:=Hc.fn d (zM K Zd Zs ZM Za Zb) (λTc=>FL Tc B E am) (by walk_at "2");have fG:=Ha.fn d (bK K) (λTa=>wQ Ta B dm) (by walk_at "2");have fH:=Hd.fn d (bT K) (λTd=>BF Td B fG) (by walk_at "3");have ko:=He.fn d (eI K) (λTe=>BE Te B) (by walk_at "3");have xU:=Hf.fn d (m8 K) (λTf=>Kx Tf B) (by walk_at "3");have so:=Hg.fn d (iW K Zd Zs ZM Za Zb) (λTg=>FK Tg B z5) (by walk_at "4");have TU:=NP.binds (ps:=Jr) (by walk_at "1");have a8:Mkr l.prog w K mg base CX0 1 "Desk" ZM Jr [] (qp K ZM):=((Jv,_,[],tq NP C,(qbA,Hv,Iz,qbB),TU,.nil),vc X G qbv);show Rg Th B qx lE gR dY z5 fH ko xU so a8
theorem ZaC{l:VY}{q:j8}{j:ZT}{B:(z9)->Heap->Prop}{y:uj->Heap->Prop}{d:DefRec}{K:Qa0->Qb}{t:List jP}(Za Zb:jP)(r:l.most=Qr 63)(E:d.params.defaults=[])
 (D:∀(w:uj) (h:Heap),y w h->(K w.params).In h/\∀p∈t,h.get? p=Qr (Qbp #[]))
 (F:∀(w:uj) (mg:z9) (C:jP) (h:Heap),(K w.params).In h->h.Ns jX mg->mg d.name=Qr (.ref C)->
  (∀p∈t,(K w.params).lookup p=Qs/\∃c,Qbv (K w.params) c p=true)/\∃g:uY,(∀(s:jQ) (u:Value),QaW s g ([u],[]) [("_law_script",u)])/\∀base:Heap,(K w.params).In base->base.Ns jX mg->Sk mg base->Z0 l.prog w (K w.params) mg base CX0 12 C g DS (Af (K w.params) Za Zb))
 (m_m_Letters_init:Za∈t) (m_p_order_of:Zb∈t) (ne_m_Letters_init_p_order_of:Za≠Zb):
 W9 q j B y l.row.toRowW d [] (λf v=>PySem.call f v):=
 L2.LL (n:=63) (k:=12) (x:="_law_script") (ts:=t) (CX:=λ_=>CX0) (sp:=λw=>Af (K w.params) Za Zb) r ∅ E (rfl,∅,∅) D F (λ_ H a ns O Y m=>(a,ns,rfl,Y,O,.inl (m _ m_m_Letters_init),.inl (m _ m_p_order_of),ne_m_Letters_init_p_order_of,λ_=>rfl)) λ_ _ _ _ _ z=>z
end My
end
open PySem PySem.W PyProof.Rows
set_option maxRecDepth 100000 in
set_option maxHeartbeats 0 in
theorem PySem.Challenge.cw_backindex_k96_whole_two_desks_holds : PySem.Challenge.rw_backindex_k96_whole_two_desks.Holds := by
 w_on;o_law;k_head;(case hw=>w_witness2)
 k_fill
 refine' My.ZaC (l:=PySem.Challenge.rw_backindex_k96_whole_two_desks) ?Za ?Zb rfl rfl (λw h Y=>⟨PySem.W.km_in_of Y,PySem.W.km_tabs_of Y⟩) ?F ?m_m_Letters_init ?m_p_order_of ?ne_m_Letters_init_p_order_of
 case F=>
  intro w mg fa h KX G hmg;refine' My.OO KX G hmg ?Ov ?Ow ?Ox ?OM ?PH ?O0 ?MC ?qbf ?X1 ?Mw ?PV ?Oy ?Oz ?OA ?OB ?OC ?OD ?GI ?GJ ?GK ?GL ?GN ?GO ?GP ?GQ ?GR ?GS ?Ap ?IP ?HC ?xu ?qar ?GU ?GV ?GW ?GX ?GY ?GZ ?G0 ?DB ?DC ?DD ?DE ?DF ?DG ?DH ?DI ?DJ ?DK ?DL ?DM ?DN ?G6 ?G7 ?G8 ?G9 ?Ha ?Hb ?Hc ?Hd ?He ?Hf ?Hg ?Ht ?IQ ?HD ?IG ?Hu ?Iy ?IS ?HE ?IH ?qaO ?Ol ?Eg ?Kq ?Hh ?Hi ?Hj ?Hk ?Hl ?Hm ?DU ?Ei ?IT ?HF ?II ?qaA ?Hn ?Ho ?Hq ?Hr ?Hv ?Iz ?IU ?HG ?IJ ?Hs ?qaH ?qaI ?qaP ?qaQ ?qbh ?qbi ?qaZ ?qa0 ?qaM ?qaD ?qa6 ?qaY ?qaR ?qaS ?qaX ?qaF ?qaJ ?qaK ?qan ?qau ?qax ?qal ?qat ?qaw ?qa8 ?qa9 ?qba ?qbb ?qbc ?qbd ?qbe ?qae ?qao ?qap ?qac ?qaj ?qa3 ?qbk ?qbl ?qbm ?qbn ?qa4 ?qa5 ?qay ?qaf ?qag ?qbv ?qbw ?qbx ?qby ?qbz ?qbA ?qbB ?qas ?qaN ?qaW ?qbC ?qa7 ?qbo ?qaT ?qbp ?qaU ?z_dict ?z_enumerate ?z_int ?z_isinstance ?z_len ?z_list ?z_max ?z_min ?z_range ?z_reversed ?z_set ?z_sorted ?z_str ?z_sum ?z_zip ?hts
  (case qa8|qa3|qbv=>k_is)
  (case Ov|Ow|Ox|Oy|Oz|OA|OB|OC|OD|GI|GJ|GK|GL|GN|GO|GP|GQ|GR|GS|GU|GV|GW|GX|GY|GZ|G0|DB|DC|DD|DE|DF|DG|DH|DI|DJ|DK|DL|DM|DN|G6|G7|G8|G9|Ha|Hb|Hc|Hd|He|Hf|Hg=>(refine' L2.DfT.mk2 ?a ?l ?c ?k;(case a=>k_is);(case l=>k_is);(case c=>k_is);(case k=>k_is)))
  (case Hh|Hi|Hj|Hk|Hl|Hm|Hn|Ho|Hq|Hr|Hs=>(refine' L2.DfM.mk2 ?a ?i ?l ?c ?k;(case a=>k_is);(case i=>k_is);(case l=>k_is);(case c=>k_is);(case k=>k_is)))
  (case OM|PH|O0|MC|qbf=>k_is)
  (case X1=>rfl)
  (case Mw=>kernel_rfl)
  (case PV=>rfl)
  (case Ap|IP|HC|xu|qar|Ht|IQ|HD|IG|Hu|Iy|IS|HE|IH|qaO=>k_is)
  (case Ol=>rfl)
  (case Eg=>kernel_rfl)
  (case Kq=>rfl)
  (case DU|Ei|IT|HF|II|qaA|Hv|Iz|IU|HG|IJ|qaH=>k_is)
  (case qaI=>k_exc)
  (case qaP=>k_is)
  (case qaQ=>k_exc)
  (case qbh=>k_is)
  (case qbi=>k_exc)
  (case qaZ=>k_is)
  (case qa0=>k_exc)
  (case qaM=>k_is)
  (case qaD=>k_exc)
  (case qa6=>k_is)
  (case qaY=>k_exc)
  (case qaR=>k_is)
  (case qaS=>k_exc)
  (case qaX=>k_is)
  (case qaF=>k_exc)
  (case qaJ=>k_is)
  (case qaK=>k_exc)
  (case qan|qau|qax|qal|qat|qaw|qa9|qba|qbb|qbc|qbd|qbe|qae|qao|qap|qac|qaj|qbk|qbl|qbm|qbn|qa4|qa5|qay|qaf|qag|qbw|qbx|qby|qbz|qbA|qbB|qas|qaN|qaW|qbC=>k_is)
  (case qa7=>exact⟨⟨_,_,by k_is,by k_keys,by repeat(first|exact True.intro|refine⟨⟨_,rfl⟩,?_,?_⟩|exact⟨_,rfl⟩|rfl)⟩,by decide⟩)
  (case qbo=>k_is)
  (case qaT=>exact⟨_,_,_,by k_is,rfl,rfl,by decide,.cons ⟨_,rfl⟩ (.cons ⟨_,rfl⟩ (.nil))⟩)
  (case qbp=>k_is)
  (case qaU=>exact⟨⟨_,_,by k_is,by k_keys,by repeat(first|exact True.intro|refine⟨⟨_,rfl⟩,?_,?_⟩|exact⟨_,rfl⟩|rfl)⟩,by decide⟩)
  (case z_dict|z_enumerate|z_int|z_isinstance|z_len|z_list|z_max|z_min|z_range|z_reversed|z_set|z_sorted|z_str|z_sum|z_zip=>k_is)
  (case hts=>decide)
 (case m_m_Letters_init|m_p_order_of|ne_m_Letters_init_p_order_of=>decide)
