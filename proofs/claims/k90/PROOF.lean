import PyProof.Rows.All
import Wide.All
import OpenK.AllK
import Wide.FinOn
import Lean
import PyProof.EqAt
import PyProof.EqKinds
import PyProof.TupleCall
import PySem.Challenge.RW_backindex_k90_texts_kept
import KE.KRevIter
import KE.KSortAsk
import KE.KSortTup
import PyProof.Rows.SortKeyStr
import KE.KLam
import KE.KSortKey
import OpenK.KOwn
import KE.RegKIsAll
import PyProof.EnumMake
import PyProof.EnumFor
import PyProof.EnumStmt
import KE.KNestM
import PyProof.Rows.CallKwBuiltin
import PyProof.StrWalks
import KE.KDictOf
import PyProof.CompUse
import PyProof.NeKinds
import PyProof.ZipIter
import PyProof.Rows.SumAny
import PyProof.Rows.SetFrom
import PyProof.ListRange
import PyProof.StrLawsIn
import PyProof.CollectIter
import PyProof.JoinWalk
import PyProof.Conv_int_bool
import KE.IntBitsLaws
import PyProof.FactsAll.str
import PyProof.ListStr
import PyProof.Draws
import PyProof.CallStr
import PyProof.StrLawsFrom
import PyProof.Rows.StrNews2
import PyProof.StrCalls
import KE.KIntText
import PyProof.Rows.RegStrFacts
import PyProof.DictWalks
import PyProof.AttrMissHeap
import PyProof.LongRange
import PyProof.Rows.Range3
import PyProof.Rows.StrSplitMax
import OpenK.KTop
import PyProof.Rows.Chain
import KE.KDictList
open PySem.W renaming Frag → Qa, kas_item → VF, OpenLaw → VG, kas_range → Ww, WalkO → WQ, kitOne → jE, findIn → j0, kas_item → ul, mg_none_of → uv, mg_of → uL, keepIn → uR, nsIn → uY, emptyDict → vi, callWith_K → vj, mroIn → vw, kia_one → vy, codeIn → vF, fnOf → vI, plainGet → vW, specialIn → Qab, kas_ask → Qac, instObj → Qad, hasDictIn → Qaf, looks_findIn → Qan, kla_obj → Qao, plainOver → Qas, takesIn → Qay, hideAll → Qaz, tabObj → QaE, excIn → QaI, codeHdIn → QaJ, cellsFrom_some → QaK
open List renaming getD_eq_getElem?_getD → Qb, getElem?_eq_getElem → Qd, getElem?_map → Qh, range → Qj, getElem?_eq_some_iff → Qn, getElem?_append_right → Qt, replicate → Qv, countP_cons → Qw, toArray → Qz, getElem?_append_left → QA, mem_range → QB, take_of_length_le → QD, mem_of_getElem? → QF, take_length → QG, lookup_cons → QH, pairwise_cons → QI, cons_lt_cons_iff → QK, not_mem_nil → QL, find?_cons → QN, take_succ_cons → QO, take_append_drop → QP, getElem_mem → QU, countP_eq_zero → QY, drop_eq_getElem_cons → Q1, take_zero → Q6, mem_of_mem_take → Q7, drop_eq_nil_of_le → Ua, take_succ → Ub, drop_zero → Uc, pairwise_iff_getElem → Ue, length → Ui, getElem?_set_ne → Uj, flatten_cons → Uk, getElem?_range → Um, filterMap_cons → Uo, not_lt → Uq, getElem?_drop → Ur, countP_append → Us, range_succ → Ut, nodup_cons → Uu, forIn_cons → Uv, countP_map → Uw, take_sublist → Uz, range' → UB, pairwise_append → UC, mem_of_mem_drop → UD, mem_map → UF, filter_cons → UG, filter_append → UI, Nodup → UJ, drop_sublist → UO, drop_drop → UP, perm_append_comm → UT, getElem?_toArray → UU, mem_iff_getElem → UW, lookup → UX, mem_filter → UY, mem_filterMap → UZ, isPrefixOf_iff_prefix → U0, getElem?_take → U5, pairwise_map → U7, getElem_take → U8, getElem_drop → U9, any_cons → Vb, head_eq_of_cons_eq → Vf, getElem?_replicate → Vg, getElem?_cons_succ → Vh, drop_length → Vi, getElem?_set_self → Vk, of_mem_zip → Vn, getElem?_reverse → Vo, getElem?_eq_none → Vp, filterMap_append → Vq, eq_nil_or_concat → Vr, concat_eq_append → Vs, lt_irrefl → Vt, getElem?_of_mem → Vu, filter_sublist → Vy, sum_cons → Vz, mem_replicate → VC, getElem_map → VN, ext_getElem → VO, any_eq_true → VP, take_append_of_le_length → VS, eq_nil_of_length_eq_zero → VT, idxOf_lt_length_of_mem → VX, takeWhile_cons_of_pos → VZ, nodup_iff_pairwise_ne → V0, length_eraseIdx_of_lt → V1, foldl → V2, mem_of_find?_eq_some → V9, getElem?_zip_eq_some → Wb, length_erase_of_mem → Wd, getElem?_take_of_lt → We, pairwise_singleton → Wh, countP_cons_of_pos → Wi, countP_cons_of_neg → Wj, set_nil → Wm, range_succ_eq_map → Wn, length_filter_le → Wr, isPrefixOf_cons₂ → Ws, countP_le_length → Wt, reverse_reverse → Wx, mem_erase_of_ne → Wy, takeWhile_cons → WB, replicate_zero → WC, lt_of_le_of_lt → WD, drop_succ_cons → WE, set_cons_zero → WI, set_cons_succ → WJ, getElem_range → WK, mem_range'_1 → WN, ext_getElem? → WO, range'_succ → WR, getElem_inj → WS, length_zip → WU, foldl_cons → WV, count_cons → WW, take_take → WX, take_add → W4, lt_trans → W5, all_cons → W6, map_id' → je, filter → jh, length_map → jr, length_append → jv, mem_append_right → jB, mem_singleton → jC, length_cons → jD, length_take → jF, size_toArray → jI, length_singleton → jJ, mem_cons_of_mem → jM, mem_append → jN, length_drop → jO, mem_cons → jQ, map_cons → jV, mem_cons_self → jY, append_assoc → j6, length_nil → ua, mem_append_left → uw, map_append → ux, replicate_succ → uE, map_congr_left → uF, nil_append → uJ, map_map → uM, cons_append → uN, length_range → uP, length_eq_zero_iff → uQ, length_replicate → uZ, length_reverse → vc, append_nil → vk, length_pos_iff → vY, map_take → QaG
open PySem.Str renaming ofString → Qc, empty → Vw, length → VD, join → WZ, append → ji
open PySem.Heap renaming get?_push_of_some → Qe, get?_push_size → Qi, lt_size → Qk, get?_update_other → QX, get?_update_self → Q3, size_push → UE, FlyingW → Vl, ExtBut → Wz, HeldW → WL, MadeExcOf → WY
open Nat renaming le_refl → Qf, lt_of_lt_of_le → Ql, ne_of_lt → Qo, zero_le → Qu, le_trans → QE, le_of_lt → QT, lt_irrefl → QW, ne_of_gt → Q5, min_eq_left → Uh, add_zero → Ul, add_sub_cancel_left → UL, sub_self → UQ, lt_succ_of_lt → UR, lt_succ_self → UV, le_succ → Va, min_eq_right → Vj, zero_add → VH, sub_zero → VI, le_succ_of_le → VJ, le_of_eq → VL, le_of_not_lt → VQ, le_add_right → VR, add_assoc → Wg, lt_trans → Wp, lt_or_ge → Wq, lt_of_le_of_lt → WM, add_comm → jg, not_lt → jj, not_le → jk, mod_lt → jl
open Bool renaming false_ne_true → Qg, and_eq_true → QM, not_eq_true' → QR, or_eq_true → QS, false_eq_true → Q4, eq_iff_iff → Ug, and_false → Vv, not_false → V3, or_false → Wf, or_eq_false_iff → WA, not_eq_false → WP, true_and → W7, not_true → W8, or_true → jf
open Int renaming toNat_natCast → Qm, emod_lt_of_pos → Ud, emod_nonneg → UK, toNat_of_nonneg → VA, zero_add → VM, toNat → VU
open Array renaming length_toList → Qp, getD_eq_getD_getElem? → QJ, getElem?_eq_getElem → QZ, getElem?_eq_none → Q9, getElem?_toList → Uy, size_push → Vm, forIn_toList → VB, getElem?_setIfInBounds → VV, toList → Wl, mem_toList_iff → Wu, ext_getElem? → WF, append_assoc → WG
open PySem.Value renaming none → Qq, isStrOf → QV, type → UA, str → US, int → Vc, bool → VW, builtin → V4, float → Wo, isStrOf_shape → Wv, isStr → W9, isInt → jc, bytes → jd
open PyProof.Rows.KeyOrd renaming kle_trans → Qx, kle_refl → Q8, kle_of_klt → Uf
open Option renaming map_eq_some_iff → Qy, isSome_map → Ux, map_some → UH, isSome_iff_exists → U6, map → Vx, getD_none → WH, toList → WT, none → W3
open PySem.F renaming plainAttrs_str → QC, type_str_join → UM, slot_str_join → UN, type_str_split → Vd, slot_str_split → Ve, plainAttrs_list → VY, type_str_strip → V5, type_str_count → V6, slot_str_strip → V7, slot_str_count → V8, slot_dict_pop → Wc
open PySem renaming wpAny_bind → jm, Shared → jn, Addr → jo, wpAny_pure → jq, wpAny → js, model → ju, sizeLine_eq → jw, Program → jx, mainGlobals → jy, starEach → jA, World → jG, foldedSetIterable → jK, Expr → jL, wpAny_callSpecial?_slot → jP, assignEach → jR, wpAny_call_entry → jS, bootBuiltins → jT, wpAny_holding → jU, wpAny_mono → jW, wpAny_attempt → jX, compareOp → jZ, wpAny_Call_Name_kw → j4, builtinsNs → j5, wpAny_newObj_type → j8, FuncData → j9, codeAny_builtin → ub, rawInt → uc, codeAny_mono → ud, wpAny_askSetting → ue, pyNext → uf, wpAny_setState_of → uh, typeIs_str → ui, wpAny_field → uj, compEnvC → um, builtinLookup_eq_fast → uo, wpAny_setField_rec → uq, backTo → ut, wpAny_setEntries_of → uz, wpAny_rule → uD, isSubtype_type → uG, binaryOp → uH, Model → uI, call_meets → uK, wpAny_call → uO, wpAny_passesOwn → uS, typeLookup_type → uT, wpAny_truthy_bool → uU, wpAny_of_eq → uV, sysModules → uW, SetTable → uX, plainId_quiet → u0, behindInMarks → u5, codeAny → u6, swapsWith → u7, pickOrder → u8, PassesOwn → u9, wpAny_seqItems → va, wpAny_fieldsOf → vb, firstArgMember → vd, wpAny_isInstance → vg, scanBound → vh, attributeBase → vo, sliceBounds → vp, keywordEach → vq, wpAny_setField → vB, setsByText → vC, bindArgs → vE, ExceptHandler → vG, entryFor_of_tree → vJ, entryFor → vK, NameKind → vL, typeLookup → vM, holding → vN, wpAny_specialOf → vO, wpAny_execs_nil → vP, letOwnedTupleGo → vQ, wpAny_runValue → vS, wpAny_newTuple → vT, slotArgs → vU, relayAll → vV, isSubtype_stop → vZ, entryFor_alias → v4, codeAny_call_builtin → v5, backToKw → v6, assign → v7, ZipApart → v8, Params → v9, IsPair → Qaa, inplaceOp → Qae, wpAny_newList → Qag, tupleKind_room_in1 → Qah, pyIter → Qai, argsOk → Qaj, wpAny_typeOf → Qak, wpAny_pyIter_slot → Qal, relabel → Qam, callerA → Qap, GenState → Qaq, BindsTo → Qar, getMethod → Qat, checkBuiltinCall → Qau, Result → Qav, subscripted → Qaw, getItem → QaA, Keyword → QaB, ItemsOf → QaC, wpAny_newFunctionEnv_cells → QaD, setField → QaF
open PyProof.Rows renaming wpS_bind → jt, wpS_pure → jz, SortSt → jH, wpS_forRange → j7, wpS_mono → ug, envOfC → uk, seqObj → ur, SortKind → uA, Keyed → uB, pendingOf → uC, KeyOrd → ve, wpS_modify → vf, listUpdate_at → vm, get?_update_seq → vt, wpS_get → vx, AllBare → vA, failedOf → vD, wpS_lift → vH, arrOf → vR, oneType' → vX, seqEpoch_at → Qax, keyKind' → QaH
set_option Elab.async false
set_option linter.all false
set_option maxRecDepth 100000
set_option maxHeartbeats 4000000
noncomputable section
open List (append_assoc append_nil cons_append length_append length_cons length_drop length_eq_zero_iff length_map length_nil length_pos_iff length_range length_replicate length_reverse length_singleton length_take map_append map_congr_left map_cons map_drop map_map map_nil map_take mem_append mem_append_left mem_append_right mem_cons mem_cons_of_mem mem_cons_self mem_singleton nil_append replicate_succ size_toArray)
open PySem.W (CodeHd InstAt KitX callWith_K callWith_K0 cellsFrom_some clsIn codeHdIn codeHd_of_K codeIn codeRec_of emptyDict excIn findIn fnOf handedIn hasDictIn hideAll hideAll_get instObj isFn kas_ask kas_kind kat_snds keepIn kia_one kitAny kitOne kitx_list kla_fn kla_obj lookIn looks_findIn looks_mroIn makesIn methodCall_KW methodObj mg_none_of mg_of mroIn nsIn of_hideAll plainGet plainGet_of plainOver recIn specialIn tabObj takerIn takesIn typeIn)
structure PySem.W.Fast:Prop where
 (tw10022770233233906940 tw10049729270043596418 tw10066773309856401053 tw1008926629831722865 tw10111074871782787973 tw10121843595958576236 tw10172482805996187372 tw10190363911815245300 tw10212944097525837519 tw10282934949046247519 tw10309144673433940362 tw10336896545657107604 tw10352341952997982932 tw10385975503262463086 tw1043702748045444883 tw10495379065456878460 tw10644981075251204878 tw10695332645741044474 tw10743252616952598467 tw10748645670474410136 tw10767882377166074986 tw10832563290639515651 tw10857381401787863783 tw10861522783787539608 tw10863983198334184139 tw10874130880881465563 tw10897945043908575234 tw10919168990951423060 tw10977584524719330765 tw10982103714437915354 tw11002178004752560482 tw1100632108686469499 tw1102628000644435908 tw11064028855374513624 tw1112678603023784334 tw11164752319769322165 tw1125258645841611896 tw11273258631975063798 tw11385447003717092188 tw11443388668627820813 tw11449706009697305404 tw11450324088369000860 tw11477293947093296975 tw11484513852027461032 tw11502079178663033826 tw11523948712427503982 tw11615918216265069290 tw11638736619356351745 tw11659858894242397761 tw11748716512661718158 tw11769435640933256509 tw11774685960101533240 tw11865490067586007935 tw11880037569479318146 tw11986614966523462409 tw11993430568660210119 tw12040328915583083800 tw12055213182950491095 tw12095328730767724785 tw12096787279558654055:True)
 (tw12125860383542612879 tw12128734560990195379 tw12149153016837113856 tw12157639582063266447 tw12157953496312221007 tw12206277351946552173 tw12212129318598403308 tw12215685785946709794 tw12289469038513302661 tw12304515239529212844 tw1240590318861558919 tw12432073668708047156 tw12480498914899012114 tw12491664543541064463 tw12541118547522420916 tw12649375103064732136 tw12660296853461538031 tw1269741361842652460 tw12734496531616507444 tw12745618239326755249 tw12844820075531605589 tw12909828839480217809 tw13096168734338764801 tw13099348988846334877 tw13116030337228229818 tw13165069324799564237 tw13254178769853891008 tw13312584143014187498 tw13441637696614881289 tw13581652510486074909 tw13587603588624689588 tw13594900250201673591 tw13630083219502724029 tw13669231479678202361 tw13671649266275995635 tw13726064055602879311 tw13782619558804000039 tw13827348958803969436 tw13871657334700619604 tw13878739210028739842 tw13907638499468910426 tw13980575408589676577 tw13998813098972512995 tw14040948658111498779 tw1406446204261612941 tw14074970391644511548 tw14075417697798590336 tw14150281033900830779 tw1415732149846285746 tw14161932843838809216 tw14191853559407210518 tw14205714451276601561 tw1427393640153094308 tw14279466352584055848 tw14460626285558962995 tw14522604940886200128 tw14542037885943178204 tw14546759793033442231 tw1454878072693533958 tw14666469978546895006:True)
 (tw14729575967094612040 tw14741357297907419035 tw14786163937429034480 tw14800685847752435875 tw14874198703150465073 tw14888665535468384854 tw14920377447219579018 tw14935275186950123243 tw14944835963348397311 tw14986518762638890512 tw15005424439154826267 tw15013941453268384305 tw15105947980551559691 tw15122147462726951155 tw15152656281630195030 tw15158239479116665344 tw15174923733124089611 tw15193342541337399959 tw152157141392834628 tw15250034704724144522 tw15267336046836627620 tw15310004255039223609 tw15569990896149515688 tw15570352908538963981 tw15619846230654838797 tw15722660497206748720 tw15784882721381779762 tw1579363858538563421 tw15794461336963814578 tw15795670122866673770 tw15832789321941807798 tw15849786834502712069 tw15882482502140014792 tw15888436007760473848 tw15903171834712909754 tw15945767787931108263 tw15982117357730646941 tw16014522483374599528 tw16030952539484372271 tw16037736189642719749 tw16048219792683150173 tw16057718915305438215 tw16141845973773529800 tw16182051232219644145 tw16233356789091773790 tw16329413183133273735 tw16332304466755086438 tw16377455675624544477 tw16408341203769865796 tw16584239216099738864 tw16604150615702741784 tw16637361931897797119 tw16647190391516754257 tw16661276573970797085 tw16695229107831408136 tw16725055576938277203 tw16734510117110991058 tw16840070631850863182 tw16843852649902395470 tw1692338671148391512:True)
 (tw16983724867978612204 tw17001340412968984981 tw17028387818723278920 tw17038332910279053295 tw17074354193926710718 tw1709594133360510848 tw17124302599664995214 tw17135178641561913263 tw17142358191369881907 tw17168895266979591432 tw1722813945404449407 tw17303310621991867728 tw17307476063880903890 tw17312323702197453964 tw17441233633822498400 tw17442394102324802511 tw17447590134928528761 tw17505428040121201119 tw17525695125493078647 tw17592565255514912270 tw17595060847514443911 tw17624915501472805405 tw17640447149831504269 tw1765517628756908520 tw1770057723791208686 tw17727482442115473250 tw17752413736576613373 tw17861300836212644840 tw17949297115106184925 tw17998152922656299295 tw1801280773836714863 tw18030952563150095385 tw18049899266925309546 tw18065714835499537096 tw18108445221880311904 tw18147439971391077800 tw18281418059628921366 tw18323409080679523924 tw18360797754950285829 tw18393886890547930165 tw198584326506359299 tw2081921025512310983 tw2087059209639527539 tw2088745055124503861 tw2089976195856068982 tw2182800270559943319 tw2189482205546431688 tw2208703917249617163 tw2217003646567038083 tw2274975920929454301 tw2341654857848387957 tw2390820740457538292 tw251232324025951075 tw2543647482598251384 tw256754767792430021 tw2610743224359233897 tw2634855997144292080 tw2641868591757358718 tw2659317308752454180 tw2667629228309344871:True)
 (tw2950145417024654661 tw2978024337696064291 tw2989003207661719548 tw3045114717881270449 tw3082265529257245096 tw3089739112276862381 tw3090021189282411896 tw3099212947447149009 tw3164635058390543347 tw318058645328281179 tw3209592773921510382 tw3232453673879301512 tw3322979452561736100 tw3346386081832719632 tw3412863466190689923 tw3422570021972592216 tw3470705287593143549 tw3489019294427505591 tw3514100563671928960 tw3521052416286811501 tw3538630158657222660 tw3582821509427086000 tw3614582148878384735 tw3627851962969786326 tw3690313321666843530 tw3708869053292320982 tw3782796346803380791 tw3841121064697873918 tw3850026678522989220 tw3868060932424393045 tw387330254066158196 tw3952794575116638166 tw3960413220965395899 tw4011334428094789085 tw4104228848098048665 tw4140614665695736359 tw4163851254998846970 tw4189494885831323023 tw4189891802903333400 tw4208344868082012324 tw4222734779725597836 tw4321798619667983756 tw4364895833642430804 tw4378380391824520988 tw4437674984217122557 tw4456775579456046301 tw462231996230705254 tw4631061350902792131 tw4636187121357705381 tw4642292811715162991 tw4680504081550638268 tw473169661814536158 tw4761841982714295128 tw4792062593426116419 tw4877537310304133583 tw4888830773377558531 tw5011117907943816494 tw5016335672191345073 tw5056405757360912706 tw5062280087248339932:True)
 (tw5131606321353507176 tw5133947893223054649 tw5235031614726874146 tw5287778883771857867 tw528912774291702907 tw5309569704676812170 tw5322002445565573350 tw5371825679816824770 tw5420624713233163194 tw542150237990354597 tw545007689231579065 tw545107255490309504 tw5453932012850746362 tw5490921551941561139 tw5542818274593830395 tw5561902202293888440 tw5570597726570724412 tw5623882868143923516 tw5626094666968489587 tw5627731698263996086 tw5671020406832361354 tw57061204655075853 tw5719341458752102534 tw5779684697866808525 tw5782920480690585158 tw5841476869366389536 tw5896794580084474109 tw5944305909172470785 tw5959440414886236484 tw5991287999763398873 tw6013377676745966774 tw6177001905413182077 tw6301902753261872371 tw6349965787776783396 tw6373814367063455961 tw638313341204669242 tw6427179354596576234 tw6470449297607432988 tw6548262119994515102 tw6567192728449801894 tw6612377007405990582 tw6641950526008166395 tw6666572953316553019 tw670770506063057757 tw6714997409905393250 tw6874068656461799928 tw6925219269480657622 tw7095745917203204997 tw7117830609869014781 tw7129303098433771529 tw7173243543092435191 tw7219489884561982477 tw7247287059309372354 tw7289756472414947790 tw7330003332916443434 tw7376534657700832089 tw738801847883387356 tw7405601626043532010 tw7408979081324057274 tw7435162170437531703:True)
 (tw7506767882523738613 tw753706982140256383 tw7625044728675875081 tw7632131622439205600 tw7678740577611946136 tw7734790639232032450 tw7798446217140132081 tw7811685560947922050 tw78337806374582342 tw783949968873365214 tw7860968777608480363 tw7933543443681195365 tw802097565494517519 tw8053370513723803739 tw8088221908097503527 tw812088824505514482 tw8149204593754877573 tw8155823126116844533 tw8241738212080414553 tw8261926382255174006 tw828913563221021589 tw8313499169272333644 tw8379841780972022993 tw839693561095149648 tw8482630231219730420 tw8499176143346092860 tw8531169295012282894 tw8579724144122313427 tw8602343082316006281 tw8647230341432635330 tw8664114546322823979 tw867876664737663045 tw8775534557944387875 tw8834880948204541577 tw8881852808140218188 tw889857793017443581 tw8906963436694820220 tw8948360143288162 tw8971564395607699811 tw9011766210537711300 tw9048631663962289304 tw9061224425425580552 tw909738982825990100 tw910260922632016829 tw9140461996072195115 tw9261542189463312007 tw9488301803204719918 tw9531702113720298774 tw9553499873322121641 tw9556198285300648604 tw9687378816252921073 tw969285430957632615 tw9702736780351525489 tw9791192360842676190 tw982913476598635520 tw9831561334059223526 tw9858232847932323549 tw9921512394145730633 tw9948545383213719990:True)
noncomputable section
set_option compiler.extract_closed false
set_option hygiene false
section
local macro_rules| `(tactic|rfl')=> `(tactic|decide +kernel)| `(tactic|ac_nf)=> `(tactic|(first|exact Or.inl rfl|exact Or.inr rfl))| `(tactic|omega)=> `(tactic|first|lia|omega (config:= {}))
namespace L2
open PySem PySem.Spec PyProof.Rows
noncomputable abbrev Key:=Sum Int Str
noncomputable def ZcP:Key->Value->Bool
 | .inl k,v=>jc k v
 | .inr x,v=>QV x v
noncomputable def Zu4 (w:jG):Key->Int
 | .inl k=>hashInt k
 | .inr x=>hashStr w x
theorem zq:∀{k:Key} {v:Value},ZcP k v=true->(∃i t,k=Sum.inl i/\v=Vc i t)\/(∃x t,k=Sum.inr x/\v=US x t)
 | .inl i,v,h=>by obtain ⟨t,e⟩:=Value.isInt_shape (k:=i) (v:=v) h;exact .inl ⟨i,t,rfl,e⟩
 | .inr x,v,h=>by obtain ⟨t,e⟩:=Wv (x:=x) (v:=v) h;exact .inr ⟨x,t,rfl,e⟩
theorem Zli (i:Int) (t:Tok):ZcP (.inl i) (.int i t)=true:=by simp [ZcP,jc]
theorem Zlk (x:Str) (t:Tok):ZcP (.inr x) (.str x t)=true:=by simp [ZcP,QV]
theorem ZrL (a b:Int):decide ((Sum.inl a:Key)=Sum.inl b)=(a==b):=by
 by_cases e:a=b
 ·subst e;simp
 ·have h:¬(Sum.inl a:Key)=Sum.inl b:=λq=>e (Sum.inl.inj q);rw [decide_eq_false h];exact (beq_eq_false_iff_ne.mpr e).symm
theorem ZrO (a b:Str):decide ((Sum.inr a:Key)=Sum.inr b)=decide (a=b):=by
 by_cases e:a=b
 ·subst e;simp
 ·have h:¬(Sum.inr a:Key)=Sum.inr b:=λq=>e (Sum.inr.inj q);rw [decide_eq_false h,decide_eq_false e]
theorem ZrM (a:Int) (b:Str):decide ((Sum.inl a:Key)=Sum.inr b)=false:=decide_eq_false (λq=>nomatch q)
theorem ZrN (a:Str) (b:Int):decide ((Sum.inr a:Key)=Sum.inl b)=false:=decide_eq_false (λq=>nomatch q)
noncomputable def zl (prog:jx) (w:jG):PySem.KeyKind prog w Key where
 is:=ZcP
 hash:=Zu4 w
 inj:=λv a b ha hb=>by
  rcases zq ha with ⟨i,t,rfl,rfl⟩|⟨x,t,rfl,rfl⟩
  ·rcases zq hb with ⟨j,u,rfl,e⟩|⟨y,u,rfl,e⟩
   ·injection e with e1 _;rw [e1]
   ·exact nomatch e
  ·rcases zq hb with ⟨j,u,rfl,e⟩|⟨y,u,rfl,e⟩
   ·exact nomatch e
   ·injection e with e1 _;rw [e1]
 byValue:=λk v h=>by rcases zq h with ⟨i,t,rfl,rfl⟩|⟨x,t,rfl,rfl⟩<;>rfl
 pyHash:=λhv h=>by
  rcases zq hv with ⟨i,t,rfl,rfl⟩|⟨x,t,rfl,rfl⟩
  ·exact wpAny_pyHash_int h
  ·exact wpAny_pyHash_str h
 eqBool:=λhu hv h=>by
  rcases zq hu with ⟨i,t,rfl,rfl⟩|⟨x,t,rfl,rfl⟩
  ·rcases zq hv with ⟨j,u,rfl,rfl⟩|⟨y,u,rfl,rfl⟩
   ·rw [ZrL] at h;exact wpAny_eqBool_int h
   ·rw [ZrM] at h;exact SeqAt.EqAt.int_str i t y u _ _ _ _ h
  ·rcases zq hv with ⟨j,u,rfl,rfl⟩|⟨y,u,rfl,rfl⟩
   ·rw [ZrN] at h;exact SeqAt.EqAt.str_int x t j u _ _ _ _ h
   ·rw [ZrO] at h;exact wpAny_eqBool_str h
 «strs»:=λk x t v h=>by
  rcases zq h with ⟨i,u,rfl,e⟩|⟨y,u,rfl,e⟩
  ·exact nomatch e
  ·injection e with e1 _;subst e1;cases v<;>rfl
theorem Zir (prog:jx) (w:jG) (i:Int) (t:Tok):(zl prog w).is (.inl i) (.int i t)=true:=Zli i t
theorem Zis (prog:jx) (w:jG) (x:Str) (t:Tok):(zl prog w).is (.inr x) (.str x t)=true:=Zlk x t
inductive V where
 |non|bl (b:Bool)|int (i:Int)|str (x:Str)|byt (b:Array UInt8)|flt (b:UInt64)|ref (a:jo)|ty (n:String)
 deriving DecidableEq
noncomputable def ZP:V->Value->Prop
 | .non,u=>u=Qq
 | .bl b,u=>u=VW b
 | .int i,u=>∃t,u=Vc i t
 | .str x,u=>∃t,u=US x t
 | .byt b,u=>∃t,u=jd b t
 | .flt b,u=>∃t,u=Wo b t
 | .ref a,u=>u=Value.ref a
 | .ty n,u=>u=UA n
noncomputable abbrev ZA:List V->List Value->Prop:=Paired ZP
theorem ZA.length {xs:List V} {us:List Value} (r:ZA xs us):xs.length=us.length:=Paired.length r
theorem ZA.get:∀{xs:List V} {us:List Value} {i:Nat} {x:V},ZA xs us->xs[i]?=some x->∃u,us[i]?=some u/\ZP x u
 |_,_,_,_,.nil,e=>by simp at e
 |_,_,0,_,.cons r _,e=>by simp at e;subst e;exact ⟨_,rfl,r⟩
 |_,_,i+1,x,.cons _ t,e=>by obtain ⟨u,h1,h2⟩:=ZA.get (i:=i) (x:=x) t (by simpa using e);exact ⟨u,by simpa using h1,h2⟩
theorem ZA.append:∀{xs ys:List V} {us ws:List Value},ZA xs us->ZA ys ws->ZA (xs++ys) (us++ws)
 |_,_,_,_,.nil,s=>s
 |_,_,_,_,.cons r t,s=>.cons r (ZA.append t s)
theorem ZA.take:∀{xs:List V} {us:List Value} (n:Nat),ZA xs us->ZA (xs.take n) (us.take n)
 |_,_,0,_=>.nil
 |_,_,_+1,.nil=>.nil
 |_,_,n+1,.cons r t=>.cons r (ZA.take n t)
theorem ZA.drop:∀{xs:List V} {us:List Value} (n:Nat),ZA xs us->ZA (xs.drop n) (us.drop n)
 |_,_,0,r=>r
 |_,_,_+1,.nil=>.nil
 |_,_,n+1,.cons _ t=>ZA.drop n t
noncomputable def Zbu:Option V->Option Value->Prop
 |some v,some u=>ZP v u
 |none,none=>True
 |_,_=>False
noncomputable def KV {κ:Type}:List (κ×V)->List (κ×Value)->Prop:=Paired λ(p:κ×V) (q:κ×Value)=>p.1=q.1/\ZP p.2 q.2
noncomputable def kV:Key->V
 | .inl i=>.int i
 | .inr x=>.str x
inductive HO where
 |lst (xs:List V)
 |tup (xs:List V)
 |dK (kvs:List (Key×V))|dT (kvs:List (List Key×V))
 |set (S:Int->Bool) (n:Nat)
 |ins (C dx:jo) (fs:List (Str×V))
 |own (x:jo)
 |xd (fs:List (Str×V))
 |met (f x:jo)
 |rng (lo hi:Int)
 |frz (o:Obj) (u:HO)
 |tbl (ps:Array Value)
 |ext (φ:Heap->Prop)
noncomputable abbrev Hp:=jo->Option HO
noncomputable def upd (H:Hp) (a:jo) (o:HO):Hp:=λb=>if b=a then some o else H b
theorem Zg {H:Hp} {a:jo} {o:HO}:upd H a o a=some o:=by unfold upd;rw [if_pos rfl]
theorem Zi {H:Hp} {a b:jo} {o:HO} (h:b≠a):upd H a o b=H b:=by unfold upd;rw [if_neg h]
theorem ZhE {H:Hp} {a:jo} {o u:HO}:upd (upd H a o) a u=upd H a u:=by
 funext b;unfold upd;split<;>rfl
theorem ZcU {H:Hp} {a b:jo} {o u:HO} (h:H a=some o) (h':H b=some u) (d:o≠u):a≠b:=by intro e;subst e;rw [h] at h';exact d (Option.some.inj h')
theorem Zj {H:Hp} {a b:jo} {o:HO} (h:H a=some o) (h':H b=none):a≠b:=by intro e;subst e;rw [h] at h';cases h'
section
variable (P:jx) (w:jG)
noncomputable def za (H:Hp) (h:Heap) (a:jo):HO->Prop
 | .lst xs=>xs.length<=sizeLine/\∃(its:List Value) (n:Nat),ZA xs its/\h.get? a=some {cls:=.type "list",data:=.seq its.toArray n}
 | .tup xs=>xs.length<=sizeLine/\∃its:List Value,ZA xs its/\IsTup h a its.toArray
 | .dK kvs=>kvs.length<=sizeLine/\(a==uW)=false/\∃vs,KV kvs vs/\h.DictOf (zl P w) a vs
 | .dT _=>False
 | .set S n=>h.SetOf (intKind P w) a S n
 | .ins C dx fs=>H dx=some (.own a)/\fs.length<=1000/\dx≠a/\h.get? a=some (Qad C dx)/\
  ∃mA,h.Ns1 dx mA/\(∀f,Zbu (fs.lookup f) (mA f))/\PySem.Within mA (fs.map (·.1))
 | .own _=>∃o,h.get? a=some o
 | .xd fs=>∃mA,h.Ns1 a mA/\∀f,Zbu (fs.lookup f) (mA f)
 | .rng lo hi=>∃t u v,h.get? a=some {cls:=.type "range",data:=.fields #[.int lo t,.int hi u,.int 1 v]}
 | .frz o u=>h.get? a=some o/\za H h a u
 | .tbl ps=>h.get? a=some {cls:=.none,data:=.fields ps}
 | .met f x=>h.get? a=some (methodObj (.ref f) (.ref x))
 | .ext φ=>φ h/\(∃o,h.get? a=some o)/\∀h1 h2:Heap,φ h1->(∀o,h1.get? a=some o->h2.get? a=some o)->φ h2
noncomputable def HOk (H:Hp) (h:Heap):Prop:=∀a o,H a=some o->za P w H h a o
end
section
variable {P:jx} {w:jG} {H H':Hp} {h h':Heap} {a:jo} {o:HO}
theorem za.lt (x:za P w H h a o):a<h.objs.size:=by
 cases o with
 |lst xs=>obtain ⟨_,_,_,_,e⟩:=x;exact Qk e
 |tup xs=>obtain ⟨_,_,_,p⟩:=x;exact p.lt
 |dK kvs=>obtain ⟨_,_,_,_,o,_,_,e,_⟩:=x;exact Qk e
 |dT kvs=>exact False.elim x
 |set S n=>obtain ⟨o,_,_,_,e,_⟩:=x;exact Qk e
 |ins C dx fs=>obtain ⟨_,_,_,e,_⟩:=x;exact Qk e
 |own y=>obtain ⟨_,e⟩:=x;exact Qk e
 |xd fs=>obtain ⟨_,⟨_,_,_,e,_⟩,_⟩:=x;exact Qk e
 |rng lo hi=>obtain ⟨_,_,_,e⟩:=x;exact Qk e
 |frz ob u=>obtain ⟨e,_⟩:=x;exact Qk e
 |tbl ps=>exact Qk (show h.get? a=some _ from x)
 |met f y=>exact Qk (show h.get? a=some _ from x)
 |ext φ=>obtain ⟨_,⟨_,e⟩,_⟩:=x;exact Qk e
theorem za.stay (x:za P w H h a o) (k:∀b u,(b=a\/H b=some (.own a))->h.get? b=some u->h'.get? b=some u)
 (ho:∀b,H b=some (.own a)->H' b=some (.own a)) (ht:∀b xs,H b=some (.tup xs)->H' b=some (.tup xs)):za P w H' h' a o:=by
 induction o with
 |lst xs=>obtain ⟨z,its,n,r,e⟩:=x;exact ⟨z,its,n,r,k _ _ (.inl rfl) e⟩
 |tup xs=>obtain ⟨z,its,r,ob,e,c⟩:=x;exact ⟨z,its,r,ob,k _ _ (.inl rfl) e,c⟩
 |dK kvs=>obtain ⟨z,y,vs,r,ob,es,ep,e,c⟩:=x;exact ⟨z,y,vs,r,ob,es,ep,k _ _ (.inl rfl) e,c⟩
 |dT kvs=>exact False.elim x
 |set S n=>obtain ⟨ob,es,ep,t,e,c⟩:=x;exact ⟨ob,es,ep,t,k _ _ (.inl rfl) e,c⟩
 |ins C dx fs=>
  obtain ⟨d,z,ne,e,mA,⟨od,es,ep,e2,c⟩,r⟩:=x;exact ⟨ho _ d,z,ne,k _ _ (.inl rfl) e,mA,⟨od,es,ep,k _ _ (.inr d) e2,c⟩,r⟩
 |own y=>obtain ⟨ob,e⟩:=x;exact ⟨ob,k _ _ (.inl rfl) e⟩
 |xd fs=>obtain ⟨mA,⟨od,es,ep,e,c⟩,r⟩:=x;exact ⟨mA,⟨od,es,ep,k _ _ (.inl rfl) e,c⟩,r⟩
 |rng lo hi=>obtain ⟨t,u,v,e⟩:=x;exact ⟨t,u,v,k _ _ (.inl rfl) e⟩
 |frz ob u ih=>obtain ⟨e,q⟩:=x;exact ⟨k _ _ (.inl rfl) e,ih q⟩
 |tbl ps=>
  have e:h.get? a=some {cls:=.none,data:=.fields ps}:=x;show h'.get? a=some {cls:=.none,data:=.fields ps};exact k a _ (.inl rfl) e
 |met f y=>
  have e:h.get? a=some (methodObj (.ref f) (.ref y)):=x;show h'.get? a=some (methodObj (.ref f) (.ref y));exact k a _ (.inl rfl) e
 |ext φ=>obtain ⟨p,⟨o,e⟩,st⟩:=x;exact ⟨st _ _ p λo q=>k _ _ (.inl rfl) q,⟨o,k _ _ (.inl rfl) e⟩,st⟩
theorem HOk.lt (x:HOk P w H h) (e:H a=some o):a<h.objs.size:=(x a o e).lt
theorem HOk.fresh (x:HOk P w H h) (e:h.objs.size<=a):H a=none:=by
 cases q:H a with
 |none=>rfl
 |some u=>exact absurd (Ql (x.lt q) e) (QW _)
theorem HOk.kept (x:HOk P w H h) (k:∀b u,h.get? b=some u->h'.get? b=some u):HOk P w H h':=λa o e=>
 (x a o e).stay (λb u _ q=>k b u q) (λ_ q=>q) λ_ _ q=>q
theorem HOk.laid (x:HOk P w H h) (k:∀b u,h.get? b=some u->h'.get? b=some u) (hp:h.objs.size<=a) (new:za P w (upd H a o) h' a o):HOk P w (upd H a o) h':=λb u e=>by
 have hn:=x.fresh hp;by_cases hb:b=a
 ·subst hb;rw [Zg] at e;cases e;exact new
 ·rw [Zi hb] at e;exact (x b u e).stay (λc v _ q=>k c v q) (λc q=>by rw [Zi (Zj q hn)];exact q) λc xs q=>by rw [Zi (Zj q hn)];exact q
end
noncomputable def Rd (H:Hp) (a:jo) (u:HO):Prop:=H a=some u\/∃o,H a=some (.frz o u)
theorem Rd.of {H:Hp} {a:jo} {u:HO} (h:H a=some u):Rd H a u:=.inl h
theorem Rd.ok {P:jx} {w:jG} {H:Hp} {h:Heap} {a:jo} {u:HO} (r:Rd H a u) (x:HOk P w H h):za P w H h a u:=by
 rcases r with r|⟨o,r⟩
 ·exact x a u r
 ·obtain ⟨_,q⟩:=x a _ r;exact q
noncomputable def Mut:Option HO->Prop
 |some (.lst _)=>True
 |some (.dK _)=>True
 |some (.dT _)=>True
 |some (.set _ _)=>True
 |some (.ins _ _ _)=>True
 |some (.ext _)=>True
 |_=>False
section
variable {P:jx} {w:jG} {H:Hp} {h h':Heap} {x e:jo} {o':HO}
theorem HOk.write (ok:HOk P w H h) (mu:Mut (H x)) (he:e=x\/H e=some (.own x)) (k:∀b u,b≠e->h.get? b=some u->h'.get? b=some u) (heo:∃u,h'.get? e=some u)
 (new:za P w (upd H x o') h' x o'):HOk P w (upd H x o') h':=λb u q=>by
 have nown:∀c y,H c=some (.own y)->c≠x:=λc y r z=>by subst z;rw [r] at mu;exact mu
 have ntup:∀c xs,H c=some (.tup xs)->c≠x:=λc xs r z=>by subst z;rw [r] at mu;exact mu
 by_cases hb:b=x
 ·subst hb;rw [Zg] at q;cases q;exact new
 ·rw [Zi hb] at q;by_cases hbe:b=e
  ·have q':H b=some (.own x):=by
    rcases he with z|z
    ·exact absurd (hbe.trans z) hb
    ·rw [hbe];exact z
   rw [q] at q';cases q';obtain ⟨v,hv⟩:=heo;exact ⟨v,by rw [hbe];exact hv⟩
  ·refine (ok b u q).stay (λc v hc r=>k c v ?_ r) (λc r=>by rw [Zi (nown c b r)];exact r) λc xs r=>by rw [Zi (ntup c xs r)];exact r
   rcases hc with rfl|hc
   ·exact hbe
   ·rintro rfl;rcases he with z|z
    ·exact nown c b hc z
    ·rw [hc] at z;cases z;exact hb rfl
end
structure Un (fs ex:List jo) (H H':Hp) (h h':Heap):Prop where
 keep:∀b o,h.get? b=some o->H b=none->b∉fs->b∉ex->h'.get? b=some o
 slot:∀b o,h.get? b=some o->H b=none->b∈fs->b∉ex->∃sl,h'.get? b=some {o with slots:=sl}
 free:∀b o,h.get? b=some o->H b=none->b∉ex->H' b=none
 there:∀b o,h.get? b=some o->b∉ex->∃o',h'.get? b=some o'
 tups:∀b xs,H b=some (.tup xs)->H' b=some (.tup xs)
 frzs:∀b o u,H b=some (.frz o u)->H' b=some (.frz o u)
 tbls:∀b ps,H b=some (.tbl ps)->∃more,H' b=some (.tbl (ps++more))
section
variable {fs fs' ex ex':List jo} {H H1 H2:Hp} {h h1 h2 h':Heap} {a x e:jo} {o:HO}
theorem Un.any (u:Un fs ex H H1 h h1) {b:jo} {ob:Obj} (q:h.get? b=some ob) (n:H b=none) (hx:b∉ex):∃sl,h1.get? b=some {ob with slots:=sl}:=by
 by_cases hb:b∈fs
 ·exact u.slot b ob q n hb hx
 ·exact ⟨ob.slots,u.keep b ob q n hb hx⟩
theorem Un.kept (k:∀b u,h.get? b=some u->h'.get? b=some u):Un fs ex H H h h':=
 ⟨λb ob q _ _ _=>k b ob q,λb ob q _ _ _=>⟨ob.slots,k b ob q⟩,λ_ _ _ n _=>n,λb ob q _=>⟨ob,k b ob q⟩,λ_ _ q=>q,λ_ _ _ q=>q,λ_ ps q=>⟨#[],by rw [q];simp⟩⟩
theorem Un.refl:Un fs ex H H h h:=Un.kept λ_ _ q=>q
theorem Un.laid (k:∀b u,h.get? b=some u->h'.get? b=some u) (hp:h.objs.size<=a) (hn:H a=none):Un fs ex H (upd H a o) h h' where
 keep:=λb u q _ _ _=>k b u q
 slot:=λb u q _ _ _=>⟨u.slots,k b u q⟩
 free:=λb u q n _=>by rw [Zi (Qo (Ql (Qk q) hp))];exact n
 there:=λb u q _=>⟨u,k b u q⟩
 tups:=λb xs q=>by rw [Zi (Zj q hn)];exact q
 frzs:=λb u xs q=>by rw [Zi (Zj q hn)];exact q
 tbls:=λb ps q=>⟨#[],by rw [Zi (Zj q hn),q];simp⟩
theorem Un.write (mu:Mut (H x)) (he:e=x\/H e=some (.own x)) (k:∀b u,b≠e->h.get? b=some u->h'.get? b=some u) (heo:∃u,h'.get? e=some u):Un fs ex H (upd H x o) h h':=by
 have hx:∀b,H b=none->b≠x:=λb n z=>by subst z;rw [n] at mu;exact mu
 have hb:∀b,H b=none->b≠e:=λb n z=>by
  subst z;rcases he with r|r
  ·exact hx b n r
  ·rw [n] at r;cases r
 have hm:∀b u,H b=some u->¬Mut (some u)->b≠x:=λb u q nm z=>by subst z;rw [q] at mu;exact nm mu
 refine ⟨λb u q n _ _=>k b u (hb b n) q,λb u q n _ _=>⟨u.slots,k b u (hb b n) q⟩,λb u q n _=>by rw [Zi (hx b n)];exact n,λb u q _=>?_,
  λb xs q=>by rw [Zi (hm b _ q λz=>z)];exact q,λb u xs q=>by rw [Zi (hm b _ q λz=>z)];exact q,λb ps q=>⟨#[],by rw [Zi (hm b _ q λz=>z),q];simp⟩⟩
 by_cases hbe:b=e
 ·subst hbe;exact heo
 ·exact ⟨u,k b u hbe q⟩
end
noncomputable def trk (h:Heap) (H:Hp):List jo:=(Qj h.objs.size).filter λa=>(H a).isSome
noncomputable def ZfU (h:Heap) (H:Hp):Heap:=Qaz h (trk h H)
theorem Zle (h:Heap) (H:Hp):(ZfU h H).objs.size=h.objs.size:=PySem.W.hideAll_size _ _
theorem Znn {h:Heap} {H:Hp} {b:jo} {o:Obj} (e:h.get? b=some o) (n:H b=none):(ZfU h H).get? b=some o:=
 hideAll_get _ e λhm=>by have q:(H b).isSome=true:=(UY.mp hm).2;rw [n] at q;simp at q
theorem ZpE {h:Heap} {H:Hp} {b:jo} {o:Obj} (e:(ZfU h H).get? b=some o):h.get? b=some o/\H b=none:=by
 have e':h.get? b=some o:=of_hideAll (trk h H) e;refine ⟨e',?_⟩
 cases q:H b with
 |none=>rfl
 |some x=>
  have hm:b∈trk h H:=UY.mpr ⟨QB.mpr (Qk e'),by simp [q]⟩;have z:(ZfU h H).get? b=none:=PySem.W.hideAll_none (trk h H) hm;rw [z] at e;cases e
noncomputable def ZoZ (g h:Heap) (L:jo):List (jo×Obj):=(Qj h.objs.size).filterMap λa=>if a=L\/(g.get? a).isSome=true then none else (h.get? a).map λo=>(a,o)
noncomputable def qB (g h:Heap) (L d:jo):List (jo×Obj):=(ZoZ g h L).filter λp=>decide (p.1≠d)
structure Mod (K:Qa) (mg:Str->Option Value) (base:Heap):Prop where
 kin:K.In base
 glob:base.Ns jy mg
 blt:∃mb,base.Ns j5 mb/\∀x:Str,x≠"__name__"->mb x=jT x
 nolimit:base.NoLimit
structure Cx where
 prog:jx
 w:jG
 K:Qa
 mg:Str->Option Value
 base:Heap
 A:Around
 N:List Str
 s₀:jn
 H₀:Hp
 env:Env
 outer:List Env
 stack:List Env
 ex:List jo
 fn:Str->Bool
 calm:Bool
 pn:List (jo×Obj)
 xe:Value->jn->Prop
noncomputable def frs (l:List Env):List jo:=l.filterMap (·.frame)
noncomputable abbrev Cx.fs (X:Cx):List jo:=frs X.outer
noncomputable def Vis (sc:Scope) (x:Str):Prop:=sc.names.lookup x=some .local\/sc.names.lookup x=some .cell\/sc.names.lookup x=some .free
noncomputable def Loc (sc:Scope) (x:Str):Prop:=sc.names.lookup x=some .local\/sc.names.lookup x=some .cell
noncomputable def ZuU (env:Env) (h:Heap) (m:Str->Option Value) (x:Str) (u:Value):Prop:=
 (env.kindOf x=some .local/\m x=some u)\/((env.kindOf x=some .cell\/env.kindOf x=some .free)/\∃c,env.cells.lookup x=some c/\h.IsCell c (some u))
structure Cx.Ok (X:Cx):Prop where
 mod:Mod X.K X.mg X.base
 kind:X.env.scope.kind=.function
 glob:X.env.globals=jy
 blt:X.env.builtins=j5
 above:X.s₀.heap.objs.size<=X.env.locals
 inj:∀x y c,X.env.cells.lookup x=some c->X.env.cells.lookup y=some c->x=y
 has:∀x,(X.env.kindOf x=some .cell\/X.env.kindOf x=some .free)->∃c,X.env.cells.lookup x=some c
 cab:∀x c,X.fn x=true->X.env.cells.lookup x=some c->X.s₀.heap.objs.size<=c
 hd:X.calm=true->X.A.handled=none
 frames:X.A.frames=some X.stack
 stk:X.stack=X.outer\/(X.stack=X.env::X.outer/\X.env.frame=some X.env.locals)
 exf:∀b∈X.ex,b≠X.env.locals/\∀x c,X.env.cells.lookup x=some c->c≠b
 bs:∀b o,X.base.get? b=some o->X.s₀.heap.get? b=some o/\X.H₀ b=none
 bsz:X.base.objs.size<=X.s₀.heap.objs.size
 noex:∀b o,X.base.get? b=some o->b∉X.ex
 exfs:∀b∈X.ex,b∉X.fs
 funs:X.s₀.heap.FunFrames X.base X.outer
 frf:∀b∈X.fs,X.H₀ b=none
structure Inv (X:Cx) (Zb:List (jo×Obj)) (σ:List (Option V)) (H:Hp) (s:jn):Prop where
 ok:X.Ok
 os:s.os=X.s₀.os
 bare:vA s.gens
 base:Un X.fs X.ex X.H₀ H X.s₀.heap s.heap
 loc:∃m,s.heap.Ns X.env.locals m/\∀(i:Nat) (x:Str) (v:V),X.N[i]?=some x->σ[i]?=some (some v)->Vis X.env.scope x->∃u,ZP v u/\ZuU X.env s.heap m x u
 cell:∀x c,X.env.cells.lookup x=some c->∃v,s.heap.IsCell c v
 free:H X.env.locals=none
 freeC:∀x c,X.env.cells.lookup x=some c->H c=none
 pin:∀p∈X.pn++Zb,s.heap.get? p.1=some p.2/\H p.1=none/\p.1≠X.env.locals/\p.1∉X.fs/\∀v,p.2.data≠ .cell v
 hok:HOk X.prog X.w H s.heap
 len:σ.length=X.N.length
section
variable {X:Cx} {Zb:List (jo×Obj)} {σ:List (Option V)} {H H':Hp} {s:jn} {h':Heap}
theorem Cx.Ok.nofr (ok:X.Ok) {b:jo} {o:Obj} (e:X.base.get? b=some o):b∉X.fs:=λhb=>by have:=(ok.funs.mem hb).1;rw [e] at this;cases this
theorem Inv.bs (I:Inv X Zb σ H s):∀b o,X.base.get? b=some o->s.heap.get? b=some o/\H b=none:=λb o e=>
 ⟨I.base.keep b o (I.ok.bs b o e).1 (I.ok.bs b o e).2 (I.ok.nofr e) (I.ok.noex b o e),I.base.free b o (I.ok.bs b o e).1 (I.ok.bs b o e).2 (I.ok.noex b o e)⟩
theorem Inv.bk (I:Inv X Zb σ H s):∀b o,X.base.get? b=some o->s.heap.get? b=some o:=λb o e=>(I.bs b o e).1
theorem Inv.mod (I:Inv X Zb σ H s):Mod X.K X.mg X.base:=I.ok.mod
theorem Inv.kIn (I:Inv X Zb σ H s):X.K.In s.heap:=I.ok.mod.kin.keeps I.bk
theorem Inv.nolimit (I:Inv X Zb σ H s):s.heap.NoLimit:=I.ok.mod.nolimit.keeps I.bk
theorem Inv.lt (I:Inv X Zb σ H s):X.env.locals<s.heap.objs.size:=let ⟨_,hn,_⟩:=I.loc;hn.lt
theorem Inv.sz (I:Inv X Zb σ H s):X.s₀.heap.objs.size<=s.heap.objs.size:=QE I.ok.above (QT I.lt)
theorem Inv.nofs (I:Inv X Zb σ H s) {a:jo} (h:s.heap.objs.size<=a):a∉X.fs:=λhb=>by obtain ⟨_,o,ho,_⟩:=I.ok.funs.mem hb;exact absurd (Ql (Qk ho) (QE I.sz h)) (QW _)
theorem Inv.cne (I:Inv X Zb σ H s):∀x c,X.env.cells.lookup x=some c->c≠X.env.locals:=λx c e z=>by obtain ⟨v,o,ho,hd⟩:=I.cell x c e;obtain ⟨m,⟨o',es,ep,ho',hd',_⟩,_⟩:=I.loc;rw [z,ho'] at ho;cases ho;rw [hd'] at hd;cases hd
theorem Inv.funs (I:Inv X Zb σ H s):s.heap.FunFrames X.base X.outer:=by
 have all:∀(l:List Env),(∀b∈frs l,b∈X.fs)->X.s₀.heap.FunFrames X.base l->s.heap.FunFrames X.base l:=by
  intro l
  induction l with
  |nil=>intro _ _;trivial
  |cons env r ih=>
   intro hs hl;obtain ⟨hk,⟨L,o,hf,hn,ho,hd⟩,hr⟩:=hl;have hL:L∈X.fs:=hs L (by unfold frs;rw [Uo,hf];exact jY);obtain ⟨sl,e⟩:=I.base.slot L o ho (I.ok.frf L hL) hL λz=>I.ok.exfs L z hL;exact ⟨hk,⟨L,_,hf,hn,e,hd⟩,ih (λb hb=>hs b (by unfold frs;rw [Uo,hf];exact jM _ hb)) hr⟩
 exact all X.outer (λ_ hb=>hb) I.ok.funs
theorem Inv.stack (I:Inv X Zb σ H s):s.heap.FunFrames X.base X.stack:=by
 rcases I.ok.stk with e|⟨e,hf⟩
 ·rw [e];exact I.funs
 ·rw [e];obtain ⟨m,hn,_⟩:=I.loc;refine .cons (by rw [I.ok.kind];decide) hf hn ?_ I.funs;exact Heap.get?_none_of_le (QE I.ok.bsz I.ok.above)
theorem Inv.stkSub (I:Inv X Zb σ H s):∀b∈frs X.stack,b∈X.env.locals::X.fs:=λb hb=>by
 rcases I.ok.stk with e|⟨e,hf⟩
 ·rw [e] at hb;exact jM _ hb
 ·rw [e] at hb;unfold frs at hb;rw [Uo,hf] at hb;exact hb
theorem Inv.stkFree (I:Inv X Zb σ H s):∀b∈frs X.stack,H b=none:=λb hb=>by
 rcases jQ.mp (I.stkSub b hb) with e|hb
 ·rw [e];exact I.free
 ·obtain ⟨_,o,ho,_⟩:=I.ok.funs.mem hb;exact I.base.free b o ho (I.ok.frf b hb) λz=>I.ok.exfs b z hb
theorem Inv.step {g':Array Qaq} {t':Nat} {d':Drawn} {ch:List jo} (I:Inv X Zb σ H s)
 (hch:∀b∈ch,(b∈X.ex\/X.s₀.heap.objs.size<=b)/\b≠X.env.locals/\(∀x c,X.env.cells.lookup x=some c->c≠b)/\∀p∈X.pn++Zb,p.1≠b)
 (keep:∀b o,b≠X.env.locals->b∉X.fs->b∉ch->s.heap.get? b=some o->H b=none->h'.get? b=some o)
 (slot:∀b o,b≠X.env.locals->b∈X.fs->b∉ch->s.heap.get? b=some o->H b=none->∃sl,h'.get? b=some {o with slots:=sl}) (free:∀b o,b∉ch->s.heap.get? b=some o->H b=none->H' b=none)
 (there:∀b o,b∉ch->s.heap.get? b=some o->∃o',h'.get? b=some o')
 (tups:∀b xs,H b=some (.tup xs)->H' b=some (.tup xs)) (frzs:∀b o u,H b=some (.frz o u)->H' b=some (.frz o u)) (tbls:∀b ps,H b=some (.tbl ps)->∃more,H' b=some (.tbl (ps++more)))
 (ns:∀m,s.heap.Ns X.env.locals m->h'.Ns X.env.locals m) (hok:HOk X.prog X.w H' h') (hg:vA g'):
 Inv X Zb σ H' {s with heap:=h',gens:=g',drawn:=d',toks:=t'}:=by
 have neL:∀b o,X.s₀.heap.get? b=some o->b≠X.env.locals:=λb o e=>Qo (Ql (Qk e) I.ok.above)
 have neC:∀b o,X.s₀.heap.get? b=some o->b∉X.ex->b∉ch:=λb o e hx hb=>by
  rcases (hch b hb).1 with z|z
  ·exact hx z
  ·exact absurd (Ql (Qk e) z) (QW _)
 have cellK:∀x c,X.env.cells.lookup x=some c->∀v,s.heap.IsCell c v->h'.IsCell c v:=λx c e v ⟨o,ho,hd⟩=>by
  have nch:c∉ch:=λz=>(hch c z).2.2.1 x c e rfl;by_cases hc:c∈X.fs
  ·obtain ⟨sl,q⟩:=slot c o (I.cne x c e) hc nch ho (I.freeC x c e);exact ⟨_,q,hd⟩
  ·exact ⟨o,keep c o (I.cne x c e) hc nch ho (I.freeC x c e),hd⟩
 refine ⟨I.ok,I.os,hg,⟨λb o e n hb hx=>?_,λb o e n hb hx=>?_,λb o e n hx=>?_,λb o e hx=>?_,λb xs e=>tups b xs (I.base.tups b xs e),λb o xs e=>frzs b o xs (I.base.frzs b o xs e),λb ps e=>?_⟩,?_,λx c e=>?_,?_,λx c e=>?_,λp hp=>?_,hok,I.len⟩
 ·exact keep b o (neL b o e) hb (neC b o e hx) (I.base.keep b o e n hb hx) (I.base.free b o e n hx)
 ·obtain ⟨sl,e1⟩:=I.base.slot b o e n hb hx;obtain ⟨sl',e2⟩:=slot b _ (neL b o e) hb (neC b o e hx) e1 (I.base.free b o e n hx);exact ⟨sl',e2⟩
 ·obtain ⟨o',e1⟩:=I.base.there b o e hx;exact free b o' (neC b o e hx) e1 (I.base.free b o e n hx)
 ·obtain ⟨o',e1⟩:=I.base.there b o e hx;exact there b o' (neC b o e hx) e1
 ·obtain ⟨m1,e1⟩:=I.base.tbls b ps e;obtain ⟨m2,e2⟩:=tbls b _ e1;exact ⟨m1++m2,by rw [e2,WG]⟩
 ·obtain ⟨m,hn,hl⟩:=I.loc;refine ⟨m,ns m hn,λi x v e1 e2 e3=>?_⟩;obtain ⟨u,r,l⟩:=hl i x v e1 e2 e3;refine ⟨u,r,?_⟩;rcases l with l|⟨k,c,e,z⟩
  ·exact .inl l
  ·exact .inr ⟨k,c,e,cellK x c e _ z⟩
 ·obtain ⟨v,z⟩:=I.cell x c e;exact ⟨v,cellK x c e v z⟩
 ·obtain ⟨m,⟨o,_,_,ho,_⟩,_⟩:=I.loc;exact free _ o (λz=>(hch _ z).2.1 rfl) ho I.free
 ·obtain ⟨v,o,ho,hd⟩:=I.cell x c e;exact free c o (λz=>(hch c z).2.2.1 x c e rfl) ho (I.freeC x c e)
 ·obtain ⟨e,n,ne,nf,d⟩:=I.pin p hp;have nch:p.1∉ch:=λz=>(hch p.1 z).2.2.2 p hp rfl;exact ⟨keep p.1 p.2 ne nf nch e n,free p.1 p.2 nch e n,ne,nf,d⟩
theorem Inv.un {t':Nat} (I:Inv X Zb σ H s) (u:Un X.fs [] H H' s.heap h') (hok:HOk X.prog X.w H' h'):Inv X Zb σ H' {s with heap:=h',toks:=t'}:=by
 obtain ⟨m,⟨o,es,ep,ho,r⟩,_⟩:=id I.loc;obtain ⟨sl,hL⟩:=u.any ho I.free (by simp)
 exact I.step (g':=s.gens) (d':=s.drawn) (ch:=[]) (λ_ z=>nomatch z) (λb o _ hb _ e n=>u.keep b o e n hb (by simp)) (λb o _ hb _ e n=>u.slot b o e n hb (by simp)) (λb o _ e n=>u.free b o e n (by simp)) (λb o _ e=>u.there b o e (by simp)) u.tups u.frzs u.tbls (λm' hm=>by
  obtain ⟨o',es',ep',ho',r'⟩:=hm;rw [ho] at ho';cases ho';exact ⟨_,es',ep',hL,r'⟩) hok I.bare
theorem Inv.call {g':Array Qaq} {t':Nat} {d':Drawn} {ch:List jo} (I:Inv X Zb σ H s) (u:Un (frs X.stack) ch H H' s.heap h') (hok:HOk X.prog X.w H' h') (hg:vA g')
 (hch:∀b∈ch,(b∈X.ex\/X.s₀.heap.objs.size<=b)/\b≠X.env.locals/\(∀x c,X.env.cells.lookup x=some c->c≠b)/\∀p∈X.pn++Zb,p.1≠b):
 Inv X Zb σ H' {s with heap:=h',gens:=g',drawn:=d',toks:=t'}:=by
 obtain ⟨m,⟨o,es,ep,ho,r⟩,_⟩:=id I.loc;obtain ⟨sl,hL⟩:=u.any ho I.free λz=>(hch _ z).2.1 rfl
 exact I.step (ch:=ch) hch (λb o hL hb hc e n=>u.keep b o e n (λz=>(jQ.mp (I.stkSub b z)).elim hL hb) hc) (λb o _ _ hc e n=>u.any e n hc) (λb o hc e n=>u.free b o e n hc) (λb o hc e=>u.there b o e hc) u.tups u.frzs u.tbls (λm' hm=>by
  obtain ⟨o',es',ep',ho',r'⟩:=hm;rw [ho] at ho';cases ho';exact ⟨_,es',ep',hL,r'⟩) hok hg
theorem Inv.turned {t':Nat} {it:jo} (I:Inv X Zb σ H s) (k:∀b o,b≠it->s.heap.get? b=some o->h'.get? b=some o) (hn:H it=none) (hL:it≠X.env.locals)
 (h1:it∈X.ex\/X.s₀.heap.objs.size<=it) (h2:∀x c,X.env.cells.lookup x=some c->c≠it) (h3:∀p∈X.pn++Zb,p.1≠it):Inv X Zb σ H {s with heap:=h',toks:=t'}:=by
 have nit:∀b u,H b=some u->b≠it:=λb u e z=>by rw [z,hn] at e;cases e
 refine I.step (g':=s.gens) (d':=s.drawn) (ch:=[it]) (λb hb=>?_) (λb o _ _ hc e _=>k b o (λz=>hc (by simp [z])) e) (λb o _ _ hc e _=>⟨o.slots,k b o (λz=>hc (by simp [z])) e⟩) (λ_ _ _ _ n=>n)
  (λb o hc e=>⟨o,k b o (λz=>hc (by simp [z])) e⟩) (λ_ _ e=>e) (λ_ _ _ e=>e) (λb ps e=>⟨#[],by rw [e];simp⟩) (λm hm=>?_) (λb u e=>?_) I.bare
 ·have e:b=it:=by simpa using hb
  subst e;exact ⟨h1,hL,h2,h3⟩
 ·obtain ⟨o,es,ep,ho,r⟩:=hm;exact ⟨o,es,ep,k _ o (Ne.symm hL) ho,r⟩
 ·refine (I.hok b u e).stay (λc v hc q=>k c v ?_ q) (λ_ q=>q) λ_ _ q=>q;rcases hc with z|z
  ·rw [z];exact nit b u e
  ·exact nit c _ z
theorem Inv.tok (I:Inv X Zb σ H s) (t:Nat):Inv X Zb σ H {s with toks:=t}:=I.un (h':=s.heap) (t':=t) Un.refl I.hok
theorem Inv.kept {t':Nat} (I:Inv X Zb σ H s) (k:∀b u,s.heap.get? b=some u->h'.get? b=some u):Inv X Zb σ H {s with heap:=h',toks:=t'}:=I.un (Un.kept k) (I.hok.kept k)
theorem Inv.laid {a:jo} {o:HO} {t':Nat} (I:Inv X Zb σ H s) (k:∀b u,s.heap.get? b=some u->h'.get? b=some u) (hp:s.heap.objs.size<=a) (new:za X.prog X.w (upd H a o) h' a o):
 Inv X Zb σ (upd H a o) {s with heap:=h',toks:=t'}:=I.un (Un.laid k hp (I.hok.fresh hp)) (I.hok.laid k hp new)
theorem Inv.write {x e:jo} {o:HO} {t':Nat} (I:Inv X Zb σ H s) (mu:Mut (H x)) (he:e=x\/H e=some (.own x)) (k:∀b u,b≠e->s.heap.get? b=some u->h'.get? b=some u) (heo:∃u,h'.get? e=some u)
 (new:za X.prog X.w (upd H x o) h' x o):Inv X Zb σ (upd H x o) {s with heap:=h',toks:=t'}:=I.un (Un.write mu he k heo) (I.hok.write mu he k heo new)
theorem Inv.weak {σ':List (Option V)} (I:Inv X Zb σ H s) (hl:σ'.length=σ.length) (w:∀(i:Nat) v,σ'[i]?=some (some v)->σ[i]?=some (some v)):Inv X Zb σ' H s:=
 ⟨I.ok,I.os,I.bare,I.base,let ⟨m,hn,hl'⟩:=I.loc;⟨m,hn,λi x v e1 e2 e3=>hl' i x v e1 (w i v e2) e3⟩,I.cell,I.free,I.freeC,I.pin,I.hok,hl.trans I.len⟩
theorem Inv.pins_of {pins':List (jo×Obj)} (I:Inv X Zb σ H s) (h:∀p∈pins',s.heap.get? p.1=some p.2/\H p.1=none/\p.1≠X.env.locals/\p.1∉X.fs/\∀v,p.2.data≠ .cell v):Inv X pins' σ H s:=
 ⟨I.ok,I.os,I.bare,I.base,I.loc,I.cell,I.free,I.freeC,λp hp=>(jN.mp hp).elim (λz=>I.pin p (uw _ z)) (h p),I.hok,I.len⟩
theorem Zff {N:List Str} (hN:N.Nodup) {i j:Nat} {x:Str} (a:N[i]?=some x) (b:N[j]?=some x):i=j:=by obtain ⟨h1,e1⟩:=Qn.mp a;obtain ⟨h2,e2⟩:=Qn.mp b;exact (WS hN).mp (e1.trans e2.symm)
theorem ZlR {M:uI} {A:Around} {E:Value->jn->Prop} {i:Nat} {x:Str} {v:V} {u:Value} {Q:Unit->jn->Prop} (I:Inv X Zb σ H s) (hN:X.N.Nodup) (hi:X.N[i]?=some x) (hx:Loc X.env.scope x) (r:ZP v u)
 (h:∀s',Inv X Zb (σ.set i (some v)) H s'->(∃a,Heap.SameBut a s.heap s'.heap/\(a=X.env.locals\/X.env.cells.lookup x=some a))->Q () s') (hf:X.fn x=true\/X.env.scope.names.lookup x=some .local:=by first|exact .inl rfl|exact .inr rfl|assumption):js M A (storeName X.env x u) Q E s:=by
 obtain ⟨m,hn,hl⟩:=id I.loc;have hcls:(X.env.scope.kind==.class || (X.env.scope.kind==.module && X.env.locals !=X.env.globals))=false:=by rw [I.ok.kind];rfl
 have hiσ:i<σ.length:=by rw [I.len];exact (Qn.mp hi).1
 have cne:=I.cne
 have tracked:∀{a:jo} {h':Heap},(∃o,s.heap.get? a=some o/\H a=none)->Heap.SameBut a s.heap h'->HOk X.prog X.w H h':=λ{a h'} ha hs b ob e=>by
  obtain ⟨_,_,hfree⟩:=ha;refine (I.hok b ob e).stay (λc w' hc q=>(hs.2 c ?_).trans q) (λ_ q=>q) λ_ _ q=>q;rintro rfl;rcases hc with rfl|hc
  ·rw [hfree] at e;cases e
  ·rw [hfree] at hc;cases hc
 rcases hx with hk|hk
 ·refine wpAny_storeName_local hk hn (λh' hn' hs=>?_) hcls;obtain ⟨oL,_,_,hoL,_⟩:=id hn;refine h _ ⟨I.ok,I.os,I.bare,⟨λb o e n hb hx=>?_,λb o e n hb hx=>?_,I.base.free,λb o e hx=>?_,I.base.tups,I.base.frzs,I.base.tbls⟩,⟨_,hn',λj y v' e1 e2 e3=>?_⟩,λy c e=>?_,I.free,I.freeC,λp hp=>?_,tracked ⟨oL,hoL,I.free⟩ hs,by simpa using I.len⟩ ⟨_,hs,.inl rfl⟩
  ·exact (hs.2 b (Qo (Ql (Qk e) I.ok.above))).trans (I.base.keep b o e n hb hx)
  ·obtain ⟨sl,e1⟩:=I.base.slot b o e n hb hx;exact ⟨sl,(hs.2 b (Qo (Ql (Qk e) I.ok.above))).trans e1⟩
  ·obtain ⟨o',e1⟩:=I.base.there b o e hx;exact ⟨o',(hs.2 b (Qo (Ql (Qk e) I.ok.above))).trans e1⟩
  ·by_cases hj:j=i
   ·subst hj;rw [hi] at e1;cases e1;rw [Vk hiσ] at e2;cases e2;exact ⟨u,r,.inl ⟨hk,by simp⟩⟩
   ·rw [Uj (Ne.symm hj)] at e2;obtain ⟨u',r',q⟩:=hl j y v' e1 e2 e3;refine ⟨u',r',?_⟩;rcases q with ⟨k,e⟩|⟨k,c,e,z⟩
    ·refine .inl ⟨k,?_⟩;have:y≠x:=λe=>hj (Zff hN e1 (e▸hi));simp [this,e]
    ·exact .inr ⟨k,c,e,z.sameBut hs (cne y c e)⟩
  ·obtain ⟨w',z⟩:=I.cell y c e;exact ⟨w',z.sameBut hs (cne y c e)⟩
  ·obtain ⟨e,n,ne,nf,d⟩:=I.pin p hp;exact ⟨(hs.2 p.1 ne).trans e,n,ne,nf,d⟩
 ·have hfn:X.fn x=true:=by
   rcases hf with z|z
   ·exact z
   ·rw [z] at hk;cases hk
  obtain ⟨c,hc⟩:=I.ok.has x (.inl hk);obtain ⟨w',z⟩:=I.cell x c hc;refine wpAny_storeName_cell I.ok.kind hk hc z (λh' hc' hs=>?_);obtain ⟨oc,hoc,hocd⟩:=id z;refine h {s with heap:=h'} ⟨I.ok,I.os,I.bare,⟨λb o e n hb hx=>?_,λb o e n hb hx=>?_,I.base.free,λb o e hx=>?_,I.base.tups,I.base.frzs,I.base.tbls⟩,⟨m,hn.sameBut hs (Ne.symm (cne x c hc)),λj y v' e1 e2 e3=>?_⟩,λy c' e=>?_,I.free,I.freeC,λp hp=>?_,tracked ⟨oc,hoc,I.freeC x c hc⟩ hs,by simpa using I.len⟩ ⟨c,hs,.inr hc⟩
  ·exact (hs.2 b (Qo (Ql (Qk e) (I.ok.cab x c hfn hc)))).trans (I.base.keep b o e n hb hx)
  ·obtain ⟨sl,e1⟩:=I.base.slot b o e n hb hx;exact ⟨sl,(hs.2 b (Qo (Ql (Qk e) (I.ok.cab x c hfn hc)))).trans e1⟩
  ·obtain ⟨o',e1⟩:=I.base.there b o e hx;exact ⟨o',(hs.2 b (Qo (Ql (Qk e) (I.ok.cab x c hfn hc)))).trans e1⟩
  ·by_cases hj:j=i
   ·subst hj;rw [hi] at e1;cases e1;rw [Vk hiσ] at e2;cases e2;exact ⟨u,r,.inr ⟨.inl hk,c,hc,hc'⟩⟩
   ·rw [Uj (Ne.symm hj)] at e2;obtain ⟨u',r',q⟩:=hl j y v' e1 e2 e3;refine ⟨u',r',?_⟩;rcases q with q|⟨k,c',e,z'⟩
    ·exact .inl q
    ·refine .inr ⟨k,c',e,z'.sameBut hs ?_⟩;rintro rfl;exact hj (Zff hN e1 (I.ok.inj _ _ _ e hc▸hi))
  ·by_cases hcc:c'=c
   ·subst hcc;exact ⟨_,hc'⟩
   ·obtain ⟨w2,z2⟩:=I.cell y c' e;exact ⟨w2,z2.sameBut hs hcc⟩
  ·obtain ⟨e,n,ne,nf,d⟩:=I.pin p hp;refine ⟨(hs.2 p.1 ?_).trans e,n,ne,nf,d⟩;intro q;rw [q,hoc] at e;have q':oc=p.2:=Option.some.inj e;exact d w' (by rw [<-q'];exact hocd)
theorem ZbJ {M:uI} {A:Around} {E:Value->jn->Prop} {i:Nat} {x:Str} {v:V} {u:Value} {Q:Unit->jn->Prop} (I:Inv X Zb σ H s) (hN:X.N.Nodup) (hi:X.N[i]?=some x) (hx:Loc X.env.scope x) (r:ZP v u)
 (h:∀s',Inv X Zb (σ.set i (some v)) H s'->Q () s') (hf:X.fn x=true\/X.env.scope.names.lookup x=some .local:=by first|exact .inl rfl|exact .inr rfl|assumption):js M A (storeName X.env x u) Q E s:=
 ZlR I hN hi hx r (λs' I' _=>h s' I') hf
theorem Inv.call' {s':jn} {ch:List jo} (I:Inv X Zb σ H s) (ho:s'.os=s.os) (u:Un (frs X.stack) ch H H' s.heap s'.heap) (hok:HOk X.prog X.w H' s'.heap) (hg:vA s'.gens)
 (hch:∀b∈ch,(b∈X.ex\/X.s₀.heap.objs.size<=b)/\b≠X.env.locals/\(∀x c,X.env.cells.lookup x=some c->c≠b)/\∀p∈X.pn++Zb,p.1≠b):Inv X Zb σ H' s':=by
 obtain ⟨h',g',d',t',o'⟩:=s';have e:o'=s.os:=ho;subst e;exact I.call (g':=g') (t':=t') (d':=d') u hok hg hch
end
noncomputable abbrev XK:=Value->Option jo->Hp->Prop
noncomputable abbrev St:=List (Option V)
noncomputable abbrev VK:=V->Hp->Prop
noncomputable abbrev TE:=St->Hp->VK->Prop
noncomputable abbrev TT:=St->Hp->(Bool->Hp->Prop)->Prop
noncomputable abbrev TA:=St->Hp->(List V->Hp->Prop)->Prop
structure Zap where
 nx:St->Hp->Prop
 rt:VK
 bk:St->Hp->Prop:=λ_ _=>False
 ct:St->Hp->Prop:=λ_ _=>False
noncomputable abbrev TS:=Zap->St->Hp->Prop
noncomputable def EP (X:Cx) (Zb:List (jo×Obj)) (σ:St) (Q:VK) (u:Value) (s':jn):Prop:=∃v H',Inv X Zb σ H' s'/\ZP v u/\Q v H'
noncomputable def TP (X:Cx) (Zb:List (jo×Obj)) (σ:St) (Q:Bool->Hp->Prop) (b:Bool) (s':jn):Prop:=∃H',Inv X Zb σ H' s'/\Q b H'
noncomputable def AP (X:Cx) (Zb:List (jo×Obj)) (σ:St) (Q:List V->Hp->Prop) (us:List Value) (s':jn):Prop:=∃vs H',Inv X Zb σ H' s'/\ZA vs us/\Q vs H'
noncomputable def SP (X:Cx) (Zb:List (jo×Obj)) (D:Zap) (f:Flow) (s':jn):Prop:=
 match f with
 | .next=>∃σ' H',Inv X Zb σ' H' s'/\D.nx σ' H'
 | .brk=>∃σ' H',Inv X Zb σ' H' s'/\D.bk σ' H'
 | .cont=>∃σ' H',Inv X Zb σ' H' s'/\D.ct σ' H'
 | .ret u=>∃v σ' H',Inv X Zb σ' H' s'/\ZP v u/\D.rt v H'
noncomputable def PE (X:Cx) (e:jL) (t:TE):Prop:=
 ∀(Zb:List (jo×Obj)) (s:jn) (σ:St) (H:Hp) (Q:VK),Inv X Zb σ H s->t σ H Q->js (ju X.prog X.w) X.A (eval e X.env) (EP X Zb σ Q) X.xe s
noncomputable def PT (X:Cx) (e:jL) (t:TT):Prop:=
 ∀(Zb:List (jo×Obj)) (s:jn) (σ:St) (H:Hp) (Q:Bool->Hp->Prop),Inv X Zb σ H s->t σ H Q->js (ju X.prog X.w) X.A (isTrue e X.env (eval e X.env)) (TP X Zb σ Q) X.xe s
noncomputable def PW (X:Cx) (e:jL) (t:TT):Prop:=
 ∀(whole:Sem Value) (Zb:List (jo×Obj)) (s:jn) (σ:St) (H:Hp) (Q:Bool->Hp->Prop),Inv X Zb σ H s->t σ H Q->js (ju X.prog X.w) X.A (isTrue e X.env whole) (TP X Zb σ Q) X.xe s
theorem PW.pt {X:Cx} {e:jL} {t:TT} (h:PW X e t):PT X e t:=h _
noncomputable def PA (X:Cx) (es:List jL) (t:TA):Prop:=
 ∀(pos:Pos) (Zb:List (jo×Obj)) (s:jn) (σ:St) (H:Hp) (Q:List V->Hp->Prop),Inv X Zb σ H s->t σ H Q->js (ju X.prog X.w) X.A (spliced (ut pos (jA es X.env))) (AP X Zb σ Q) X.xe s
noncomputable def PS (X:Cx) (st:Stmt) (t:TS):Prop:=
 ∀(Zb:List (jo×Obj)) (s:jn) (σ:St) (H:Hp) (D:Zap),Inv X Zb σ H s->t D σ H->js (ju X.prog X.w) X.A (exec st X.env) (SP X Zb D) X.xe s
noncomputable def PSs (X:Cx) (st:List Stmt) (t:TS):Prop:=
 ∀(Zb:List (jo×Obj)) (s:jn) (σ:St) (H:Hp) (D:Zap),Inv X Zb σ H s->t D σ H->js (ju X.prog X.w) X.A (execs st X.env) (SP X Zb D) X.xe s
theorem thn {α:Type} {t:Sem α} {Q Q':α->jn->Prop} {M:uI} {A:Around} {E:Value->jn->Prop} {s:jn} (h:js M A t Q E s) (hQ:∀a s,Q a s->Q' a s):js M A t Q' E s:=jW h hQ λ_ _ x=>x
section
variable {X:Cx}
noncomputable def ZuH (i:Nat):TE:=λσ H Q=>∃v,σ[i]?=some (some v)/\Q v H
noncomputable def tC (v:V):TE:=λ_ H Q=>Q v H
theorem Zst {i:Nat} {x:Str} {pos:Pos} (hN:X.N[i]?=some x) (hv:Vis X.env.scope x) (hd:(x==("__debug__":Str))=false:=by decide) (hcd:(x==("__classdict__":Str))=false:=by decide):PE X (.Name x pos) (ZuH i):=by
 intro Zb s σ H Q I h;obtain ⟨v,e,h⟩:=h;obtain ⟨m,hn,hl⟩:=I.loc;obtain ⟨u,r,l⟩:=hl i x v hN e hv;have fin:EP X Zb σ Q u s:=⟨v,H,I,r,h⟩;rcases l with ⟨hk,hm⟩|⟨hk,c,hc,hcell⟩
 ·exact wpAny_Name (wpAny_loadName_local I.ok.kind hk hn hm fin) hd
 ·rcases hk with hk|hk
  ·exact wpAny_Name (wpAny_loadName_cell I.ok.kind hk hc hcell fin) hd
  ·exact wpAny_Name (wpAny_loadName_free I.ok.kind hk hc hcell fin hcd) hd
theorem Zl {i j pos}:PE X (.Constant (.int i) j pos) (tC (.int i)):=λ_ _ _ H _ I h=>wpAny_Constant_int ⟨.int i,H,I.tok _,⟨_,rfl⟩,h⟩
theorem ZiA {b j pos}:PE X (.Constant (.bool b) j pos) (tC (.bl b)):=λ_ _ _ H _ I h=>Constant_bool ⟨.bl b,H,I,rfl,h⟩
theorem ZjB {j pos}:PE X (.Constant .none j pos) (tC .non):=λ_ _ _ H _ I h=>Constant_none ⟨.non,H,I,rfl,h⟩
theorem Zn {x j pos}:PE X (.Constant (.str x) j pos) (tC (.str x)):=λ_ _ _ H _ I h=>Calls.Constant_str ⟨.str x,H,I.tok _,⟨_,rfl⟩,h⟩
noncomputable def Gl (X:Cx) (x:Str):Prop:=X.env.kindOf x=some .globalImplicit
theorem Jf {E:Value->jn->Prop} {Zb:List (jo×Obj)} {s:jn} {σ:St} {H:Hp} {x:Str} {u:Value} {pos:Pos} {Q:Value->jn->Prop} (I:Inv X Zb σ H s) (hg:Gl X x) (hm:X.mg x=some u) (h:Q u s)
 (hd:(x==("__debug__":Str))=false:=by decide):js (ju X.prog X.w) X.A (eval (.Name x pos) X.env) Q E s:=
 Calls.Name_function_global I.ok.kind hg (Calls.loadGlobal_global (by rw [I.ok.glob];exact I.mod.glob.keeps I.bk) hm h) hd
theorem Zav {E:Value->jn->Prop} {Zb:List (jo×Obj)} {s:jn} {σ:St} {H:Hp} {x:Str} {u:Value} {pos:Pos} {Q:Value->jn->Prop} (I:Inv X Zb σ H s) (hg:Gl X x) (hm:X.mg x=none) (hv:jT x=some u) (h:Q u s)
 (hn:x≠"__name__":=by decide) (hd:(x==("__debug__":Str))=false:=by decide):js (ju X.prog X.w) X.A (eval (.Name x pos) X.env) Q E s:=by
 obtain ⟨mb,h1,h2⟩:=I.mod.blt;exact Calls.Name_function_global I.ok.kind hg (Calls.loadGlobal_builtin (by rw [I.ok.glob];exact I.mod.glob.keeps I.bk) hm (by rw [I.ok.blt];exact h1.keeps I.bk) ((h2 x hn).trans hv) h) hd
theorem zZ {x:Str} {v:V} {u:Value} {pos:Pos} (hg:Gl X x) (hm:X.mg x=some u) (r:ZP v u) (hd:(x==("__debug__":Str))=false:=by decide):PE X (.Name x pos) (tC v):=
 λ_ _ _ H _ I h=>Jf I hg hm ⟨v,H,I,r,h⟩ hd
theorem Zkz {x:Str} {v:V} {u:Value} {pos:Pos} (hg:Gl X x) (hm:X.mg x=none) (hv:jT x=some u) (r:ZP v u) (hn:x≠"__name__":=by decide) (hd:(x==("__debug__":Str))=false:=by decide):PE X (.Name x pos) (tC v):=
 λ_ _ _ H _ I h=>Zav I hg hm hv ⟨v,H,I,r,h⟩ hn hd
variable {a b:jL} {ta tb:TE} {pos:Pos}
noncomputable def PC (X:Cx) (op:CmpOp) (a b:jL) (t:TE):Prop:=
 ∀(Zb:List (jo×Obj)) (s:jn) (σ:St) (H:Hp) (Q:VK),Inv X Zb σ H s->t σ H Q->
  js (ju X.prog X.w) X.A (eval a X.env) (λv s₁=>js (ju X.prog X.w) X.A (eval b X.env) (λu s₂=>js (ju X.prog X.w) X.A (jZ op v u) (EP X Zb σ Q) X.xe s₂) X.xe s₁) X.xe s
noncomputable def tB (t:TE):TT:=λσ H Q=>t σ H λx H1=>∃c,x=.bl c/\Q c H1
theorem Zsm {op:CmpOp} {t:TE} (h:PC X op a b t) (h1:u5 op b=false:=by first|exact nobehind _ (by decide) (by decide)|rfl):PE X (.Compare a [op] [b] pos) t:=λZb s σ H Q I hw=>wpAny_Compare1 (h Zb s σ H Q I hw) h1
theorem ZbE {op:CmpOp} {t:TE} (h:PC X op a b t) (h1:u5 op b=false:=by first|exact nobehind _ (by decide) (by decide)|rfl):PT X (.Compare a [op] [b] pos) (tB t):=by intro Zb s σ H Q I hw;refine wpAny_isTrue_Compare1 (thn (h Zb s σ H _ I hw) λv s1 h1=>thn h1 λu s2 h2=>thn h2 λc s3 ⟨x,H1,I1,r1,q1⟩=>?_) h1;obtain ⟨d,rfl,q⟩:=q1;cases r1;exact uU ⟨H1,I1,q⟩
variable {tA tB':TT} {qB:List jL}
noncomputable def ZsX (t u:TT):TT:=λσ H Q=>t σ H λc H1=>if c=true then u σ H1 Q else Q false H1
noncomputable def tOr (t u:TT):TT:=λσ H Q=>t σ H λc H1=>if c=true then Q true H1 else u σ H1 Q
noncomputable def Zs0 (t:TT):TT:=λσ H Q=>t σ H λc H1=>Q (!c) H1
theorem Zez (ha:PT X a tA):PW X (.BoolOp .And [a] pos) tA:=by
 intro wh Zb s σ H Q I h;refine isTrue_and (thn (ha Zb s σ H Q I h) λc s1 e=>?_)
 cases c with
 |true=>exact isTrue_and_nil e
 |false=>exact e
theorem ZjF (ha:PT X a tA):PW X (.BoolOp .Or [a] pos) tA:=by
 intro wh Zb s σ H Q I h;refine isTrue_or (thn (ha Zb s σ H Q I h) λc s1 e=>?_)
 cases c with
 |false=>exact isTrue_or_nil e
 |true=>exact e
theorem Zfq (ha:PT X a tA) (hb:PW X (.BoolOp .And (b::qB) pos) tB'):PW X (.BoolOp .And (a::b::qB) pos) (ZsX tA tB'):=by
 intro wh Zb s σ H Q I h;refine isTrue_and (thn (ha Zb s σ H _ I h) λc s1 ⟨H1,I1,q1⟩=>?_)
 cases c with
 |true=>exact hb wh Zb s1 σ H1 Q I1 q1
 |false=>exact ⟨H1,I1,q1⟩
theorem ZkF (ha:PT X a tA) (hb:PW X (.BoolOp .Or (b::qB) pos) tB'):PW X (.BoolOp .Or (a::b::qB) pos) (tOr tA tB'):=by
 intro wh Zb s σ H Q I h;refine isTrue_or (thn (ha Zb s σ H _ I h) λc s1 ⟨H1,I1,q1⟩=>?_)
 cases c with
 |true=>exact ⟨H1,I1,q1⟩
 |false=>exact hb wh Zb s1 σ H1 Q I1 q1
theorem ZdN (ha:PT X a tA):PT X (.UnaryOp .Not a pos) (Zs0 tA):=by intro Zb s σ H Q I h;exact isTrue_not (ha Zb s σ H (λc H1=>Q (!c) H1) I h)
noncomputable def Zuz (ta tb:TE):TE:=λσ H Q=>ta σ H λx H1=>∃c,x=.bl c/\if c=true then tb σ H1 Q else Q (.bl false) H1
noncomputable def Zvj (ta tb:TE):TE:=λσ H Q=>ta σ H λx H1=>∃c,x=.bl c/\if c=true then Q (.bl true) H1 else tb σ H1 Q
theorem Zhg {op} {t:TE} (h:PE X a t):PE X (.BoolOp op [a] pos) t:=λZb s σ H Q I hw=>BoolOp_one (h Zb s σ H Q I hw)
theorem Zsl (ha:PE X a ta) (hb:PE X (.BoolOp .And (b::qB) pos) tb):PE X (.BoolOp .And (a::b::qB) pos) (Zuz ta tb):=by
 intro Zb s σ H Q I h;refine BoolOp_and (thn (ha Zb s σ H _ I h) λv s1 ⟨x,H1,I1,r1,q1⟩=>?_);obtain ⟨c,rfl,q1⟩:=q1;cases r1;refine uU ?_
 cases c with
 |true=>exact hb Zb s1 σ H1 Q I1 q1
 |false=>exact ⟨.bl false,H1,I1,rfl,q1⟩
theorem Zus (ha:PE X a ta) (hb:PE X (.BoolOp .Or (b::qB) pos) tb):PE X (.BoolOp .Or (a::b::qB) pos) (Zvj ta tb):=by
 intro Zb s σ H Q I h;refine BoolOp_or (thn (ha Zb s σ H _ I h) λv s1 ⟨x,H1,I1,r1,q1⟩=>?_);obtain ⟨c,rfl,q1⟩:=q1;cases r1;refine uU ?_
 cases c with
 |false=>exact hb Zb s1 σ H1 Q I1 q1
 |true=>exact ⟨.bl true,H1,I1,rfl,q1⟩
end
noncomputable def SqL (K:Qa) (H:Hp) (a:jo) (xs:List V):Prop:=
 Rd H a (.lst xs)\/
  ∃(o:Obj) (its:Array Value) (n:Nat),K.lookup a=some o/\o.cls=.type "list"/\o.dict=none/\o.data=.seq its n/\its.size<=sizeLine/\ZA xs its.toList
noncomputable def SqT (K:Qa) (H:Hp) (a:jo) (xs:List V):Prop:=
 Rd H a (.tup xs)\/
  ∃(o:Obj) (its:Array Value) (n:Nat),K.lookup a=some o/\o.cls=.type "tuple"/\o.data=.seq its n/\its.size<=sizeLine/\ZA xs its.toList
noncomputable def ZuX:Value->Option V
 | .none=>some .non
 | .bool b=>some (.bl b)
 | .int i _=>some (.int i)
 | .str x _=>some (.str x)
 | .bytes b _=>some (.byt b)
 | .float b _=>some (.flt b)
 | .ref a=>some (.ref a)
 | .type n=>some (.ty n)
 |_=>none
theorem ZP.abs {x:V} {u:Value} (r:ZP x u):ZuX u=some x:=by
 cases x with
 |non=>cases r;rfl
 |bl _=>cases r;rfl
 |int _=>obtain ⟨t,rfl⟩:=r;rfl
 |str _=>obtain ⟨t,rfl⟩:=r;rfl
 |byt _=>obtain ⟨t,rfl⟩:=r;rfl
 |flt _=>obtain ⟨t,rfl⟩:=r;rfl
 |ref _=>cases r;rfl
 |ty _=>cases r;rfl
theorem ZP.inj {x y:V} {u:Value} (r:ZP x u) (q:ZP y u):x=y:=Option.some.inj (r.abs.symm.trans q.abs)
theorem ZA.inj:∀{xs ys:List V} {us:List Value},ZA xs us->ZA ys us->xs=ys
 |_,_,_,.nil,.nil=>rfl
 |_,_,_,.cons r t,.cons r' t'=>by rw [r.inj r',ZA.inj t t']
section
variable {X:Cx} {Zb:List (jo×Obj)} {σ:St} {H:Hp} {s:jn} {a:jo} {xs ys:List V}
theorem SqL.of {K:Qa} (h:H a=some (.lst xs)):SqL K H a xs:=.inl (.inl h)
theorem SqT.of {K:Qa} (h:H a=some (.tup xs)):SqT K H a xs:=.inl (.inl h)
theorem Inv.list (I:Inv X Zb σ H s) (h:SqL X.K H a xs):∃its:List Value,ZA xs its/\PlainL s.heap a its.toArray/\xs.length<=sizeLine:=by
 rcases h with h|⟨o,its,n,hk,hc,hd,hs,hz,r⟩
 ·obtain ⟨z,its,n,r,e⟩:=h.ok I.hok;exact ⟨its,r,⟨_,n,e,rfl,rfl,rfl⟩,z⟩
 ·refine ⟨its.toList,r,⟨o,n,I.kIn a o hk,hc,hd,by simpa using hs⟩,?_⟩;have e:=r.length;simp only [Qp] at e;omega
theorem Inv.tuple (I:Inv X Zb σ H s) (h:SqT X.K H a xs):∃its:List Value,ZA xs its/\IsTup s.heap a its.toArray/\xs.length<=sizeLine:=by
 rcases h with h|⟨o,its,n,hk,hc,hs,hz,r⟩
 ·obtain ⟨z,its,r,p⟩:=h.ok I.hok;exact ⟨its,r,p,z⟩
 ·refine ⟨its.toList,r,⟨o,I.kIn a o hk,hc,n,by simpa using hs⟩,?_⟩;have e:=r.length;simp only [Qp] at e;omega
theorem Inv.list_inj (I:Inv X Zb σ H s) (h:SqL X.K H a xs) (h':SqL X.K H a ys):xs=ys:=by
 obtain ⟨its,r,⟨o,n,e,_,_,d⟩,_⟩:=I.list h;obtain ⟨its',r',⟨o',n',e',_,_,d'⟩,_⟩:=I.list h';rw [e] at e';cases e';rw [d] at d';injection d' with d1 _;have:its=its':=by simpa using congrArg Wl d1
 subst this;exact r.inj r'
theorem Inv.tuple_inj (I:Inv X Zb σ H s) (h:SqT X.K H a xs) (h':SqT X.K H a ys):xs=ys:=by
 obtain ⟨its,r,⟨o,e,_,n,d⟩,_⟩:=I.tuple h;obtain ⟨its',r',⟨o',e',_,n',d'⟩,_⟩:=I.tuple h';rw [e] at e';cases e';rw [d] at d';injection d' with d1 _;have:its=its':=by simpa using congrArg Wl d1
 subst this;exact r.inj r'
end
noncomputable abbrev Cx.wish (X:Cx) (E:Value->jn->Prop):Cx:= {X with xe:=E}
noncomputable abbrev Cx.nox (X:Cx):Cx:=X.wish λ_ _=>False
theorem Cx.Ok.wish {X:Cx} (ok:X.Ok) (E:Value->jn->Prop):(X.wish E).Ok:=
 ⟨ok.mod,ok.kind,ok.glob,ok.blt,ok.above,ok.inj,ok.has,ok.cab,ok.hd,ok.frames,ok.stk,ok.exf,ok.bs,ok.bsz,ok.noex,ok.exfs,ok.funs,ok.frf⟩
theorem Cx.Ok.unwish {X:Cx} {E:Value->jn->Prop} (ok:(X.wish E).Ok):X.Ok:=
 ⟨ok.mod,ok.kind,ok.glob,ok.blt,ok.above,ok.inj,ok.has,ok.cab,ok.hd,ok.frames,ok.stk,ok.exf,ok.bs,ok.bsz,ok.noex,ok.exfs,ok.funs,ok.frf⟩
section
variable {X:Cx} {Zb:List (jo×Obj)} {σ:St} {H:Hp} {s:jn} {E:Value->jn->Prop}
theorem Inv.wish (I:Inv X Zb σ H s) (E:Value->jn->Prop):Inv (X.wish E) Zb σ H s:=⟨I.ok.wish E,I.os,I.bare,I.base,I.loc,I.cell,I.free,I.freeC,I.pin,I.hok,I.len⟩
theorem Inv.unwish (I:Inv (X.wish E) Zb σ H s):Inv X Zb σ H s:=⟨I.ok.unwish,I.os,I.bare,I.base,I.loc,I.cell,I.free,I.freeC,I.pin,I.hok,I.len⟩
theorem SP.unwish {D:Zap} {f:Flow} {s':jn} (h:SP (X.wish E) Zb D f s'):SP X Zb D f s':=by
 cases f with
 |next=>obtain ⟨σ',H',I,q⟩:=h;exact ⟨σ',H',I.unwish,q⟩
 |brk=>obtain ⟨σ',H',I,q⟩:=h;exact ⟨σ',H',I.unwish,q⟩
 |cont=>obtain ⟨σ',H',I,q⟩:=h;exact ⟨σ',H',I.unwish,q⟩
 |ret u=>obtain ⟨v,σ',H',I,r,q⟩:=h;exact ⟨v,σ',H',I.unwish,r,q⟩
theorem PSs.nox {st:List Stmt} {t:TS} (h:PSs X.nox st t):PSs X st t:=λZb s σ H D I hw=>
 jW (h Zb s σ H D (I.wish _) hw) (λ_ _ q=>q.unwish) λ_ _ z=>False.elim z
end
section
variable {X:Cx} {st:Stmt} {qB:List Stmt} {t u:TS} {e:jL} {te:TE} {pos:Pos}
noncomputable def ZoL:TS:=λD σ H=>D.nx σ H
noncomputable def Zs2 (t u:TS):TS:=λD σ H=>t {D with nx:=u D} σ H
theorem ZH:PSs X [] ZoL:=λ_ _ σ H _ I h=>vP ⟨σ,H,I,h⟩
theorem Zh (h1:PS X st t) (h2:PSs X qB u):PSs X (st::qB) (Zs2 t u):=by
 intro Zb s σ H D I h;refine wpAny_execs_cons (thn (h1 Zb s σ H {D with nx:=u D} I h) λf s1 q=>?_)
 cases f with
 |next=>
  obtain ⟨σ',H',I',q⟩:=q;exact h2 Zb s1 σ' H' D I' q
 |ret v=>exact q
 |brk=>exact q
 |cont=>exact q
theorem Zo (h1:PS X st t):PSs X [st] t:=by
 intro Zb s σ H D I h;refine wpAny_execs_cons (thn (h1 Zb s σ H D I h) λf s1 q=>?_)
 cases f with
 |next=>exact vP q
 |ret v=>exact q
 |brk=>exact q
 |cont=>exact q
theorem Inv.quiet {Zb:List (jo×Obj)} {σ:St} {H:Hp} {s:jn} (I:Inv X Zb σ H s):interactive X.env=false:=by simp [interactive,I.ok.kind]
noncomputable def ZoG (te:TE):TS:=λD σ H=>te σ H λ_ H1=>D.nx σ H1
theorem JT (he:PE X e te) (hs:u7 e none pos.line X.env=pure false:=by rfl):PS X (.Expr e pos) (ZoG te):=by intro Zb s σ H D I h;exact wpAny_Expr_any (thn (he Zb s σ H _ I h) λv s1 ⟨x,H1,I1,r1,q1⟩=>⟨σ,H1,I1,q1⟩) I.quiet hs
noncomputable def Zs1 (te:TE):TS:=λD σ H=>te σ H D.rt
theorem Zx (he:PE X e te):PS X (.Return (some e) pos) (Zs1 te):=by intro Zb s σ H D I h;exact wpAny_Return_some (thn (he Zb s σ H _ I h) λv s1 ⟨x,H1,I1,r1,q1⟩=>⟨x,σ,H1,I1,r1,q1⟩)
noncomputable def ZoM:TS:=λD _ H=>D.rt .non H
theorem ZpT:PS X (.Return none pos) ZoM:=λ_ _ σ H _ I h=>wpAny_Return_none ⟨.non,σ,H,I,rfl,h⟩
noncomputable def ZsY (c:TT) (t u:TS):TS:=λD σ H=>c σ H λb H1=>if b=true then t D σ H1 else u D σ H1
theorem zb {c:jL} {a b:List Stmt} {tc:TT} (hc:PT X c tc) (ha:PSs X a t) (hb:PSs X b u):PS X (.If c a b pos) (ZsY tc t u):=by
 intro Zb s σ H D I h;refine wpAny_If (thn (hc Zb s σ H _ I h) λd s1 ⟨H1,I1,q1⟩=>?_)
 cases d with
 |true=>exact ha Zb s1 σ H1 D I1 q1
 |false=>exact hb Zb s1 σ H1 D I1 q1
end
noncomputable abbrev TG:=V->St->Hp->(St->Hp->Prop)->Prop
noncomputable abbrev TGs:=List V->St->Hp->(St->Hp->Prop)->Prop
noncomputable def PG (X:Cx) (target:jL) (t:TG):Prop:=
 ∀(Zb:List (jo×Obj)) (s:jn) (σ:St) (H:Hp) (v:V) (u:Value) (Q:St->Hp->Prop),Inv X Zb σ H s->ZP v u->t v σ H Q->
  js (ju X.prog X.w) X.A (v7 target X.env u) (λ_ s'=>∃σ' H',Inv X Zb σ' H' s'/\Q σ' H') X.xe s
noncomputable def PGs (X:Cx) (ts:List jL) (t:TGs):Prop:=
 ∀(Zb:List (jo×Obj)) (s:jn) (σ:St) (H:Hp) (vs:List V) (us:List Value) (Q:St->Hp->Prop),Inv X Zb σ H s->ZA vs us->t vs σ H Q->
  js (ju X.prog X.w) X.A (assignInOrder ((jR ts X.env).map (·.2)) us) (λ_ s'=>∃σ' H',Inv X Zb σ' H' s'/\Q σ' H') X.xe s
noncomputable abbrev TIp:=V->V->Hp->VK->Prop
noncomputable def PIp (X:Cx) (op:Operator) (t:TIp):Prop:=
 ∀(Zb:List (jo×Obj)) (s:jn) (σ:St) (H:Hp) (x y:V) (v u:Value) (Q:VK),Inv X Zb σ H s->ZP x v->ZP y u->t x y H Q->
  js (ju X.prog X.w) X.A (Qae op v u) (EP X Zb σ Q) X.xe s
section
variable {X:Cx} {pos:Pos}
noncomputable def Yg (i:Nat):TG:=λv σ H Q=>Q (σ.set i (some v)) H
theorem zf {i:Nat} {x:Str} (hN:X.N.Nodup) (hi:X.N[i]?=some x) (hx:Loc X.env.scope x) (hf:X.fn x=true\/X.env.scope.names.lookup x=some .local:=by first|exact .inl rfl|exact .inr rfl|assumption):PG X (.Name x pos) (Yg i):=by intro Zb s σ H v u Q I r h;exact wpAny_assign_Name (ZbJ I hN hi hx r (λs' I'=>⟨_,H,I',h⟩) hf)
noncomputable def Znk:TGs:=λvs σ H Q=>vs=[]/\Q σ H
noncomputable def Zgn (t:TG) (u:TGs):TGs:=λvs σ H Q=>∃v r,vs=v::r/\t v σ H λσ' H'=>u r σ' H' Q
theorem Zhj:PGs X [] Znk:=by intro Zb s σ H vs us Q I r h;obtain ⟨e,h⟩:=h;subst e;cases r;exact assignInOrder_nil ⟨σ,H,I,h⟩
theorem ZaH {e:jL} {es:List jL} {t:TG} {u:TGs} (h1:PG X e t) (h2:PGs X es u)
 (hs:(jR (e::es) X.env).map (·.2)=v7 e X.env::(jR es X.env).map (·.2):=by rfl):PGs X (e::es) (Zgn t u):=by
 intro Zb s σ H vs us Q I r h;obtain ⟨v,vr,e1,h⟩:=h;subst e1
 cases r with
 |cons r rr=>
  rw [hs];refine assignInOrder_cons (thn (h1 Zb s σ H _ _ _ I r h) λ_ s1 ⟨σ1,H1,I1,q1⟩=>?_);exact h2 Zb s1 σ1 H1 _ _ Q I1 rr q1
noncomputable def Zlb (K:Qa) (n:Nat) (t:TGs):TG:=λv σ H Q=>∃a xs,v=.ref a/\SqT K H a xs/\xs.length=n/\t xs σ H Q
theorem ZjC {es:List jL} {k:Nat} {t:TGs} {n:Nat} (hc:X.calm=true) (h:PGs X es t)
 (hn:(jR es X.env).length=n:=by rfl) (hst:(jR es X.env).findIdx? (·.1)=none:=by rfl):PG X (.Tuple es k pos) (Zlb X.K n t):=by
 intro Zb s σ H v u Q I r hw;obtain ⟨a,xs,e1,hq,hl,hw⟩:=hw;subst e1;cases r;obtain ⟨its,rv,ht,hz⟩:=I.tuple hq;refine assign_Tuple_tuple (I.ok.hd hc) ht (by simp [hn,<-hl,rv.length]) hst λh' hx=>?_;have I1:Inv X Zb σ H {s with heap:=h'}:=I.kept (t':=s.toks) λb o e=>hx b o (Qo (Qk e)) e;exact h Zb _ σ H xs _ Q I1 (by simpa using rv) hw
noncomputable def Zhz (te:TE) (g:TG):TS:=λD σ H=>te σ H λx H1=>g x σ H1 D.nx
theorem ZsC {tg e:jL} {te:TE} {g:TG} (he:PE X e te) (hg:PG X tg g) (hs:swapsWithSole [tg] e pos.line X.env=pure false:=by rfl) (hw:swappedStores [tg] e X.env=pure none:=by rfl)
 (h1:(jR [tg] X.env).map (·.2)=[v7 tg X.env]:=by rfl):PS X (.Assign [tg] e pos) (Zhz te g):=by
 intro Zb s σ H D I h;refine wpAny_Assign_stores (thn (he Zb s σ H _ I h) λv s1 ⟨x,H1,I1,r1,q1⟩=>?_) hs hw;rw [h1];exact thn (hg Zb s1 σ H1 x v _ I1 r1 q1) λ_ s2 q=>q
theorem ZD {i:Nat} {x:Str} {e:jL} {te:TE} {pos':Pos} (hN:X.N.Nodup) (hi:X.N[i]?=some x) (hx:Loc X.env.scope x) (he:PE X e te) (hs:u7 e (some (.Name x pos')) pos.line X.env=pure false:=by rfl) (hf:X.fn x=true\/X.env.scope.names.lookup x=some .local:=by first|exact .inl rfl|exact .inr rfl|assumption):
 PS X (.Assign [.Name x pos'] e pos) (Zhz te (Yg i)):=by
 intro Zb s σ H D I h;refine wpAny_Assign_Name (thn (he Zb s σ H _ I h) λv s1 ⟨y,H1,I1,r1,q1⟩=>?_) hs;exact ZbJ I1 hN hi hx r1 (λs2 I2=>⟨_,H1,I2,q1⟩) hf
noncomputable def Zvg (i:Nat) (te:TE) (ti:TIp):TS:=λD σ H=>∃x,σ[i]?=some (some x)/\te σ H λy H1=>ti x y H1 λz H2=>D.nx (σ.set i (some z)) H2
theorem ZsD {i:Nat} {x:Str} {e:jL} {te:TE} {op:Operator} {ti:TIp} {pos':Pos} (hN:X.N.Nodup) (hi:X.N[i]?=some x) (hx:Loc X.env.scope x) (he:PE X e te) (ho:PIp X op ti) (hf:X.fn x=true\/X.env.scope.names.lookup x=some .local:=by first|exact .inl rfl|exact .inr rfl|assumption):
 PS X (.AugAssign (.Name x pos') op e pos) (Zvg i te ti):=by
 intro Zb s σ H D I h;obtain ⟨v,e1,h⟩:=h;obtain ⟨m,hn,hl⟩:=I.loc;have vis:Vis X.env.scope x:=by rcases hx with k|k;exact .inl k;exact .inr (.inl k)
 obtain ⟨u,r,l⟩:=hl i x v hi e1 vis;refine wpAny_AugAssign_Name ?_;have go:js (ju X.prog X.w) X.A (eval e X.env) (λw s₂=>js (ju X.prog X.w) X.A (Qae op u w) (λr s₃=>js (ju X.prog X.w) X.A (storeName X.env x r) (λ_=>SP X Zb D .next) X.xe s₃) X.xe s₂) X.xe s:=by refine thn (he Zb s σ H _ I h) λw s1 ⟨y,H1,I1,r1,q1⟩=>?_;refine thn (ho Zb s1 σ H1 v y u w _ I1 r r1 q1) λz s2 ⟨zv,H2,I2,r2,q2⟩=>?_;exact ZbJ I2 hN hi hx r2 (λs3 I3=>⟨_,H2,I3,q2⟩) hf
 rcases l with ⟨hk,hm⟩|⟨hk,c,hc,hcell⟩
 ·exact wpAny_loadName_local I.ok.kind hk hn hm go
 ·rcases hk with hk|hk
  ·exact wpAny_loadName_cell I.ok.kind hk hc hcell go
  ·rcases hx with k|k
   ·have:X.env.scope.names.lookup x=some .free:=hk;rw [k] at this;cases this
   ·have:X.env.scope.names.lookup x=some .free:=hk;rw [k] at this;cases this
end
section
variable {X:Cx} {pos:Pos}
noncomputable def Zs4 (c:TT) (tb:TS):TS:=λD σ H=>∃W:Nat->St->Hp->Prop,(∃m,W m σ H)/\∀m σ H,W m σ H->
 c σ H λb H1=>if b=true then ∃N:St->Hp->Prop,(∀σ' H',N σ' H'->∃m',m'<m/\W m' σ' H')/\tb {D with nx:=N,ct:=N,bk:=D.nx} σ H1 else D.nx σ H1
theorem Zol {c:jL} {body:List Stmt} {tc:TT} {tb:TS} (hp:u9 (ju X.prog X.w) X.A X.env X.xe) (hc:PT X c tc) (hb:PSs X body tb):PS X (.While c body [] pos) (Zs4 tc tb):=by
 intro Zb s σ H D I h;obtain ⟨W,⟨m0,w0⟩,turn⟩:=h;refine wpAny_While (codeAny_whileLoop (λn s'=>∃σ' H',Inv X Zb σ' H' s'/\W n σ' H') ?_ m0 ⟨σ,H,I,w0⟩);rintro n s1 ⟨σ1,H1,I1,w1⟩;refine uS hp (thn (hc Zb s1 σ1 H1 _ I1 (turn n σ1 H1 w1)) λb s2 ⟨H2,I2,q2⟩=>?_)
 cases b with
 |true=>
  obtain ⟨N,hN,q2⟩:=q2;rw [if_pos rfl];refine uS hp (thn (hb Zb s2 σ1 H2 _ I2 q2) λf s3 q3=>?_)
  cases f with
  |next=>
   obtain ⟨σ3,H3,I3,n3⟩:=q3;obtain ⟨m',hm,w3⟩:=hN σ3 H3 n3;exact ⟨m',hm,σ3,H3,I3,w3⟩
  |cont=>
   obtain ⟨σ3,H3,I3,n3⟩:=q3;obtain ⟨m',hm,w3⟩:=hN σ3 H3 n3;exact ⟨m',hm,σ3,H3,I3,w3⟩
  |brk=>exact q3
  |ret v=>exact q3
 |false=>
  rw [if_neg Qg];exact vP ⟨σ1,H2,I2,q2⟩
end
structure It where
 go:Nat->Hp->Prop
 yld:Nat->Hp->V->Hp->Prop
 stop:Nat->Hp->Prop
noncomputable def ZbX (X:Cx) (Zb:List (jo×Obj)) (H:Hp) (b:jo):Prop:=
 H b=none/\b≠X.env.locals/\b∉X.fs/\(b∈X.ex\/X.s₀.heap.objs.size<=b)/\(∀x c,X.env.cells.lookup x=some c->c≠b)/\∀p∈X.pn++Zb,p.1≠b
theorem Inv.fpOk {X:Cx} {Zb:List (jo×Obj)} {σ:St} {H H':Hp} {s:jn} {b:jo} (I:Inv X Zb σ H s) (hb:s.heap.objs.size<=b) (hn:H' b=none):ZbX X Zb H' b:=by
 refine ⟨hn,Q5 (Ql I.lt hb),I.nofs hb,.inr (QE I.sz hb),λx c e z=>?_,λp hp z=>?_⟩
 ·obtain ⟨v,q⟩:=I.cell x c e;exact absurd (Ql q.lt (by rw [z];exact hb)) (QW _)
 ·exact absurd (Ql (Qk (I.pin p hp).1) (by rw [z];exact hb)) (QW _)
structure ZkV (P:jx) (w:jG) (K:Qa) (tg:jL) (J:It) (fp:List jo) (it:jo) (tn:Nat->Heap->Prop):Prop where
 mem:it∈fp
 obj:∀i h,tn i h->∀b∈fp,∃o,h.get? b=some o/\∀v,o.data≠ .cell v
 keep:∀i h h',tn i h->(∀b∈fp,∀o,h.get? b=some o->h'.get? b=some o)->tn i h'
 item:∀(X:Cx),X.prog=P->X.w=w->X.K=K->X.calm=true->∀(i:Nat) (Zb:List (jo×Obj)) (s:jn) (σ:St) (H:Hp) (E:Value->jn->Prop),Inv X Zb σ H s->(∀b∈fp,ZbX X Zb H b)->tn i s.heap->J.go i H->
  js (ju P w) X.A (uf (.ref it)) (λr s1=>∃u,r=some u/\
   js (ju P w) X.A (vQ tg (.ref it) u) (λ_ s2=>∃x H',Inv X Zb σ H' s2/\ZP x u/\J.yld i H x H'/\tn (i+1) s2.heap/\∀b∈fp,H' b=none) E s1) E s
 done:∀(X:Cx),X.prog=P->X.w=w->X.K=K->X.calm=true->∀(i:Nat) (Zb:List (jo×Obj)) (s:jn) (σ:St) (H:Hp) (E:Value->jn->Prop),Inv X Zb σ H s->(∀b∈fp,ZbX X Zb H b)->tn i s.heap->J.stop i H->
  js (ju P w) X.A (uf (.ref it)) (λr s1=>r=none/\Inv X Zb σ H s1) E s
 self:∀(A:Around) (i:Nat) (s:jn) (Q:Value->jn->Prop) (E:Value->jn->Prop),tn i s.heap->Q (.ref it) s->js (ju P w) A (Qai (.ref it)) Q E s
noncomputable abbrev TI:=St->Hp->(It->Hp->Prop)->Prop
noncomputable def PIE (X:Cx) (Zb:List (jo×Obj)) (σ:St) (tg:jL) (R:It->Hp->Prop) (itv:Value) (s2:jn):Prop:=
 ∃(it:jo) (fp:List jo) (tn:Nat->Heap->Prop) (J:It) (H':Hp),itv=.ref it/\Inv X Zb σ H' s2/\ZkV X.prog X.w X.K tg J fp it tn/\tn 0 s2.heap/\(∀b∈fp,ZbX X Zb H' b)/\R J H'
noncomputable def PI (X:Cx) (tg iter:jL) (wi:TI):Prop:=
 ∀(Zb:List (jo×Obj)) (s:jn) (σ:St) (H:Hp) (R:It->Hp->Prop),Inv X Zb σ H s->wi σ H R->
  js (ju X.prog X.w) X.A (eval iter X.env) (λv s1=>js (ju X.prog X.w) X.A (Qai v) (PIE X Zb σ tg R) X.xe s1) X.xe s
theorem Zh8 {M:uI} {A:Around} {E:Value->jn->Prop} {s:jn} {tg:jL} {it:jo} {u:Value} {o:Obj} {n:String} {vs:Array Value} {Q:Unit->jn->Prop} (ho:s.heap.get? it=some o) (hc:o.cls=.type n) (hd:o.data=.fields vs)
 (hn:["enumerate","zip","dict_itemiterator","dict_reverseitemiterator","odict_iterator","itertools.zip_longest","itertools.pairwise"].contains n=false) (hQ:Q () s):js M A (vQ tg (.ref it) u) Q E s:=by
 unfold vQ
 cases tg<;>first
  |exact jq hQ
  |(cases u<;>first
   |exact jq hQ
   |(refine jm (wpAny_load ho ?_)
     rw [hc,hd];show js M A (if (["enumerate","zip","dict_itemiterator","dict_reverseitemiterator","odict_iterator","itertools.zip_longest","itertools.pairwise"].contains n && vs[0]?==some (uc _))=true then _ else _) Q E s;rw [if_neg (by intro h;rw [hn,Bool.false_and] at h;cases h)];exact jq hQ))
noncomputable def Itl (K:Qa) (a:jo):It:=
 ⟨λi H=>∃xs x,SqL K H a xs/\xs[i]?=some x,λi H x H'=>H'=H/\∀xs,SqL K H a xs->xs[i]?=some x,λi H=>∃xs,SqL K H a xs/\xs.length<=i⟩
noncomputable def Itt (K:Qa) (a:jo):It:=
 ⟨λi H=>∃xs x,SqT K H a xs/\xs[i]?=some x,λi H x H'=>H'=H/\∀xs,SqT K H a xs->xs[i]?=some x,λi H=>∃xs,SqT K H a xs/\xs.length<=i⟩
noncomputable def Itr (lo:Int) (n:Nat):It:=⟨λi _=>i<n,λi H x H'=>H'=H/\x=.int (lo+i),λi _=>n<=i⟩
theorem ZaK {P:jx} {w:jG} {K:Qa} {tg:jL} (a it:jo):ZkV P w K tg (Itl K a) [it] it (λi h=>h.IsListIter it a i) where
 mem:=by simp
 obj:=λi h st b hb=>by
  have e:b=it:=by simpa using hb
  subst e;obtain ⟨o,e,c,d⟩:=st;exact ⟨o,e,λv z=>by rw [d] at z;cases z⟩
 keep:=λi h h' st k=>st.at λo e=>k it (by simp) o e
 item:=by intro X hP hw hK hc i Zb s σ H E I hf st hg;subst hP hw hK;obtain ⟨xs,x,hq,hx⟩:=hg;obtain ⟨its,rv,p,hz⟩:=I.list hq;obtain ⟨u,hu,ru⟩:=rv.get hx;obtain ⟨f0,f1,f2,f3,f4,f5⟩:=hf it (by simp);refine wpAny_pyNext_list_item st p.isList (x:=u) (by simpa using hu) λh' st' sb=>?_;have I1:Inv X Zb σ H {s with heap:=h'}:=I.turned (t':=s.toks) (λb o hb e=>(sb.2 b hb).trans e) f0 f1 f3 f4 f5;obtain ⟨o,e,c,d⟩:=id st';exact ⟨u,rfl,Zh8 (s:= {s with heap:=h'}) e c d (by decide) ⟨x,H,I1,ru,⟨rfl,λys hy=>by rw [I.list_inj hy hq];exact hx⟩,st',λb hb=>(hf b hb).1⟩⟩
 done:=by intro X hP hw hK hc i Zb s σ H E I hf st hg;subst hP hw hK;obtain ⟨xs,hq,hx⟩:=hg;obtain ⟨its,rv,p,hz⟩:=I.list hq;obtain ⟨f0,f1,f2,f3,f4,f5⟩:=hf it (by simp);have hl:=rv.length;exact wpAny_pyNext_list_end (I.ok.hd hc) st p.isList (by simp;omega) λh' eb=>⟨rfl,I.turned (t':=s.toks) (λb o hb e=>eb b o hb e) f0 f1 f3 f4 f5⟩
 self:=λ_ _ _ _ _ st h=>wpAny_pyIter_listiter st h
theorem ZjS {P:jx} {w:jG} {K:Qa} {tg:jL} (a it:jo):ZkV P w K tg (Itt K a) [it] it (λi h=>h.IsTupleIter it a i) where
 mem:=by simp
 obj:=λi h st b hb=>by
  have e:b=it:=by simpa using hb
  subst e;obtain ⟨o,e,c,d⟩:=st;exact ⟨o,e,λv z=>by rw [d] at z;cases z⟩
 keep:=λi h h' st k=>st.at λo e=>k it (by simp) o e
 item:=by intro X hP hw hK hc i Zb s σ H E I hf st hg;subst hP hw hK;obtain ⟨xs,x,hq,hx⟩:=hg;obtain ⟨its,rv,p,hz⟩:=I.tuple hq;obtain ⟨u,hu,ru⟩:=rv.get hx;obtain ⟨f0,f1,f2,f3,f4,f5⟩:=hf it (by simp);refine wpAny_pyNext_tuple_item st (show s.heap.IsTuple a its.toArray from p) (x:=u) (by simpa using hu) λh' st' sb=>?_;have I1:Inv X Zb σ H {s with heap:=h'}:=I.turned (t':=s.toks) (λb o hb e=>(sb.2 b hb).trans e) f0 f1 f3 f4 f5;obtain ⟨o,e,c,d⟩:=id st';exact ⟨u,rfl,Zh8 (s:= {s with heap:=h'}) e c d (by decide) ⟨x,H,I1,ru,⟨rfl,λys hy=>by rw [I.tuple_inj hy hq];exact hx⟩,st',λb hb=>(hf b hb).1⟩⟩
 done:=by intro X hP hw hK hc i Zb s σ H E I hf st hg;subst hP hw hK;obtain ⟨xs,hq,hx⟩:=hg;obtain ⟨its,rv,p,hz⟩:=I.tuple hq;obtain ⟨f0,f1,f2,f3,f4,f5⟩:=hf it (by simp);have hl:=rv.length;exact wpAny_pyNext_tuple_end (I.ok.hd hc) st (show s.heap.IsTuple a its.toArray from p) (by simp;omega) λh' eb=>⟨rfl,I.turned (t':=s.toks) (λb o hb e=>eb b o hb e) f0 f1 f3 f4 f5⟩
 self:=λ_ _ _ _ _ st h=>wpAny_pyIter_tupleiter st h
theorem ZjR {P:jx} {w:jG} {K:Qa} {tg:jL} (it:jo) (lo:Int) (n:Nat):ZkV P w K tg (Itr lo n) [it] it (λi h=>IsRangeIter h it (lo+(i:Nat) * 1) ((n:Int)-(i:Nat)) 1) where
 mem:=by simp
 obj:=λi h st b hb=>by
  have e:b=it:=by simpa using hb
  subst e
  exact ⟨_,st,λv z=>by
   have z':Data.fields _=Data.cell v:=z;cases z'⟩
 keep:=λi h h' st k=>k it (by simp) _ st
 item:=by intro X hP hw hK hc i Zb s σ H E I hf st hg;subst hP hw hK;obtain ⟨f0,f1,f2,f3,f4,f5⟩:=hf it (by simp);have W:=Walks.range (prog:=X.prog) (w:=X.w) (I.ok.hd hc) it lo 1 n;refine W.item i s _ _ hg st λv h' tk hv st' kk=>?_;obtain ⟨t,rfl⟩:=hv;have I1:Inv X Zb σ H {s with heap:=h',toks:=tk}:=I.turned (λb o hb e=>kk b o (by simpa using hb) e) f0 f1 f3 f4 f5;refine ⟨_,rfl,Zh8 (s:= {s with heap:=h',toks:=tk}) (n:="range_iterator") st' rfl rfl (by decide) ⟨.int (lo+i),H,I1,⟨t,?_⟩,⟨rfl,rfl⟩,st',λb hb=>(hf b hb).1⟩⟩;rw [Int.mul_one]
 done:=by intro X hP hw hK hc i Zb s σ H E I hf st hg;subst hP hw hK;obtain ⟨f0,f1,f2,f3,f4,f5⟩:=hf it (by simp);exact wpAny_pyNext_range_end (I.ok.hd hc) st (by have:n<=i:=hg;omega) λh' eb=>⟨rfl,I.turned (t':=s.toks) (λb o hb e=>eb b o hb e) f0 f1 f3 f4 f5⟩
 self:=λ_ _ _ _ _ st h=>wpAny_pyIter_rangeiter st h
section
variable {X:Cx} {tg:jL}
noncomputable def Zt8 (K:Qa) (tl:TE):TI:=λσ H R=>tl σ H λx H1=>∃a,x=.ref a/\(∃xs,SqL K H1 a xs)/\R (Itl K a) H1
noncomputable def Zu2 (K:Qa) (tl:TE):TI:=λσ H R=>tl σ H λx H1=>∃a,x=.ref a/\(∃xs,SqT K H1 a xs)/\R (Itt K a) H1
theorem Zey {l:jL} {tl:TE} (hl:PE X l tl):PI X tg l (Zt8 X.K tl):=by
 intro Zb s σ H R I h;refine thn (hl Zb s σ H _ I h) λv s1 ⟨x,H1,I1,r1,q1⟩=>?_;obtain ⟨a,e,⟨xs,hq⟩,q⟩:=q1;subst e;cases r1;obtain ⟨its,rv,p,hz⟩:=I1.list hq;refine wpAny_pyIter_list p.isList ?_;refine ⟨s1.heap.objs.size,[s1.heap.objs.size],_,_,H1,rfl,I1.kept (t':=s1.toks) λb o e=>Qe _ e,ZaK a _,⟨_,Qi _ rfl,rfl,rfl⟩,λb hb=>?_,q⟩;have e:b=s1.heap.objs.size:=by simpa using hb
 subst e;exact I1.fpOk (Qf _) (I1.hok.fresh (Qf _))
theorem Zsv {l:jL} {tl:TE} (hl:PE X l tl):PI X tg l (Zu2 X.K tl):=by
 intro Zb s σ H R I h;refine thn (hl Zb s σ H _ I h) λv s1 ⟨x,H1,I1,r1,q1⟩=>?_;obtain ⟨a,e,⟨xs,hq⟩,q⟩:=q1;subst e;cases r1;obtain ⟨its,rv,p,hz⟩:=I1.tuple hq;refine wpAny_pyIter_tuple (show s1.heap.IsTuple a its.toArray from p) ?_;refine ⟨s1.heap.objs.size,[s1.heap.objs.size],_,_,H1,rfl,I1.kept (t':=s1.toks) λb o e=>Qe _ e,ZjS a _,⟨_,Qi _ rfl,rfl,rfl⟩,λb hb=>?_,q⟩;have e:b=s1.heap.objs.size:=by simpa using hb
 subst e;exact I1.fpOk (Qf _) (I1.hok.fresh (Qf _))
theorem ZiH {Zb:List (jo×Obj)} {σ:St} {H:Hp} {s:jn} {R:It->Hp->Prop} {E:Value->jn->Prop} {lo hi:Int} {t u v:Tok} {tk:Nat} (I:Inv X Zb σ H s) (h1: -(2 ^ 62)<=lo) (h2:lo<2 ^ 62) (h3: -(2 ^ 62)<=hi) (h4:hi<2 ^ 62)
 (q:R (Itr lo (hi-lo).toNat) H):js (ju X.prog X.w) X.A (Qai (.ref s.heap.objs.size)) (PIE X Zb σ tg R) E {s with heap:=s.heap.push {cls:=.type "range",data:=.fields #[.int lo t,.int hi u,.int 1 v]},toks:=tk}:=by
 refine wpAny_pyIter_range (IsRange.new ..) (small_one h1 h2 h3 h4) ?_;have I1:Inv X Zb σ H {s with heap:=s.heap.push {cls:=.type "range",data:=.fields #[.int lo t,.int hi u,.int 1 v]},toks:=tk}:=I.kept λb o e=>Qe _ e
 refine ⟨(s.heap.push {cls:=.type "range",data:=.fields #[.int lo t,.int hi u,.int 1 v]}).objs.size,[(s.heap.push {cls:=.type "range",data:=.fields #[.int lo t,.int hi u,.int 1 v]}).objs.size],_,_,H,rfl,
  I1.kept (t':=tk) λb o e=>Qe _ e,ZjR _ lo (hi-lo).toNat,?_,λb hb=>?_,q⟩
 ·have e1:lo+((0:Nat):Int) * 1=lo:=by simp
  have e2:(((hi-lo).toNat:Nat):Int)-((0:Nat):Int)=Builtin.Range.rangeSize lo hi 1:=by rw [rangeSize_one];split<;>omega
  show IsRangeIter _ _ (lo+((0:Nat):Int) * 1) ((((hi-lo).toNat:Nat):Int)-((0:Nat):Int)) 1;rw [e1,e2];exact Qi _ rfl
 ·have e:b=(s.heap.push {cls:=.type "range",data:=.fields #[.int lo t,.int hi u,.int 1 v]}).objs.size:=by simpa using hb
  subst e;exact I1.fpOk (Qf _) (I1.hok.fresh (Qf _))
noncomputable def Zua (ta:TA):TI:=λσ H R=>ta σ H λvs H1=>∃j:Int,vs=[.int j]/\ -(2 ^ 62)<=j/\j<2 ^ 62/\R (Itr 0 j.toNat) H1
noncomputable def Zub (ta:TA):TI:=λσ H R=>ta σ H λvs H1=>∃i j:Int,vs=[.int i,.int j]/\(-(2 ^ 62)<=i/\i<2 ^ 62/\ -(2 ^ 62)<=j/\j<2 ^ 62)/\R (Itr i (j-i).toNat) H1
theorem ZdL {a:jL} {ta:TA} {p pos:Pos} (hg:Gl X "range") (hm:X.mg "range"=none) (ha:PA X [a] ta) (hs:jA [a] X.env=[(false,eval a X.env)]:=by rfl):PI X tg (.Call (.Name "range" p) [a] [] pos) (Zua ta):=by
 intro Zb s σ H R I h;refine Call_ (Zav I hg hm boot_range (PyProof.Rows.callWith_type1 (thn (ha pos Zb s σ H _ I h) λus s1 ⟨vs,H1,I1,r1,q1⟩=>?_) hs rfl));obtain ⟨j,e,q1,q2,q⟩:=q1;subst e
 cases r1 with
 |cons r rr=>
  cases rr;obtain ⟨t,rfl⟩:=r;exact call_range_1 (ZiH I1 (by omega) (by omega) q1 q2 (by simpa using q))
theorem ZlF {a b:jL} {ta:TA} {p pos:Pos} (hg:Gl X "range") (hm:X.mg "range"=none) (ha:PA X [a,b] ta) (hs:jA [a,b] X.env=[(false,eval a X.env),(false,eval b X.env)]:=by rfl) (hs2:jA [b] X.env=[(false,eval b X.env)]:=by rfl):
 PI X tg (.Call (.Name "range" p) [a,b] [] pos) (Zub ta):=by
 intro Zb s σ H R I h;refine Call_ (Zav I hg hm boot_range (PyProof.Rows.callWith_type1 (thn (ha pos Zb s σ H _ I h) λus s1 ⟨vs,H1,I1,r1,q1⟩=>?_) (by rw [hs,hs2]) (by rw [hs2];rfl)));obtain ⟨i,j,e,⟨q1,q2,q3,q4⟩,q⟩:=q1;subst e
 cases r1 with
 |cons r rr=>
  cases rr with
  |cons r' rr=>
   cases rr;obtain ⟨t,rfl⟩:=r;obtain ⟨t',rfl⟩:=r';exact call_range_2 (ZiH I1 q1 q2 q3 q4 q)
noncomputable def Zvi (wi:TI) (g:TG) (tb:TS):TS:=λD σ H=>wi σ H λJ H1=>∃W:Nat->Nat->St->Hp->Prop,(∃m,W 0 m σ H1)/\∀i m σ H,W i m σ H->
 (J.stop i H/\D.nx σ H)\/(J.go i H/\∃N:St->Hp->Prop,(∀σ' H',N σ' H'->∃m',m'<m/\W (i+1) m' σ' H')/\∀x H',J.yld i H x H'->g x σ H' λσ2 H2=>tb {D with nx:=N,ct:=N,bk:=D.nx} σ2 H2)
noncomputable def ZbC (fp:List jo) (h:Heap):List (jo×Obj):=fp.filterMap λb=>(h.get? b).map λo=>(b,o)
theorem ZaW {fp:List jo} {h:Heap} {b:jo} {o:Obj} (hb:b∈fp) (e:h.get? b=some o):(b,o)∈ZbC fp h:=UZ.mpr ⟨b,hb,by rw [e];rfl⟩
theorem Zgw {fp:List jo} {h:Heap} {p:jo×Obj} (hp:p∈ZbC fp h):p.1∈fp/\h.get? p.1=some p.2:=by
 obtain ⟨b,hb,e⟩:=UZ.mp hp
 cases q:h.get? b with
 |none=>rw [q] at e;cases e
 |some o=>
  rw [q] at e;have e':(b,o)=p:=Option.some.inj e;subst e';exact ⟨hb,q⟩
theorem Inv.pinned {Zb:List (jo×Obj)} {σ:St} {H:Hp} {s:jn} {fp:List jo} (I:Inv X Zb σ H s) (hf:∀b∈fp,ZbX X Zb H b) (ho:∀b∈fp,∃o,s.heap.get? b=some o/\∀v,o.data≠ .cell v):Inv X (Zb++ZbC fp s.heap) σ H s:=
 I.pins_of λp hp=>(jN.mp hp).elim (λz=>I.pin p (jB _ z)) λz=>by obtain ⟨hb,e⟩:=Zgw z;obtain ⟨f0,f1,f2,_⟩:=hf p.1 hb;obtain ⟨o,e',d⟩:=ho p.1 hb;rw [e] at e';cases e';exact ⟨e,f0,f1,f2,d⟩
theorem Inv.unpinned {Zb pl:List (jo×Obj)} {σ:St} {H:Hp} {s:jn} (I:Inv X (Zb++pl) σ H s):Inv X Zb σ H s:=I.pins_of λp hp=>I.pin p (jB _ (uw _ hp))
theorem Zfp {iter:jL} {body:List Stmt} {wi:TI} {g:TG} {tb:TS} {pos:Pos} (hp:u9 (ju X.prog X.w) X.A X.env X.xe) (hc:X.calm=true) (hi:PI X tg iter wi) (hg:PG X tg g) (hb:PSs X body tb)
 (hs:∀x,jK iter X.env x=pure x:=by intro _;rfl):PS X (.For tg iter body [] pos) (Zvi wi g tb):=by
 intro Zb s σ H D I h;refine wpAny_For (thn (hi Zb s σ H _ I h) λv s1 h1=>thn h1 λitv s2 h2=>?_) hs;obtain ⟨it,fp,tn,J,H2,e,I2,T,st2,f2,W,⟨m0,w0⟩,turn⟩:=h2;subst e;have stat:∀{H':Hp},(∀b∈fp,H' b=none)->∀b∈fp,ZbX X Zb H' b:=λhn b hb=>⟨hn b hb,(f2 b hb).2⟩;refine codeAny_forLoop_any (λn s'=>∃i σ' H',Inv X Zb σ' H' s'/\tn i s'.heap/\(∀b∈fp,H' b=none)/\W i n σ' H') ?_ m0 ⟨0,σ,H2,I2,st2,λb hb=>(f2 b hb).1,w0⟩;rintro n s3 ⟨i,σ3,H3,I3,st3,fr3,w3⟩;rcases turn i n σ3 H3 w3 with ⟨stop,qn⟩|⟨go,N,hN,step⟩
 ·refine uS hp (thn (T.done X rfl rfl rfl hc i Zb s3 σ3 H3 X.xe I3 (stat fr3) st3 stop) λr s4 ⟨hr,I4⟩=>?_);subst hr;exact vP ⟨σ3,H3,I4,qn⟩
 ·refine uS hp (thn (T.item X rfl rfl rfl hc i Zb s3 σ3 H3 X.xe I3 (stat fr3) st3 go) λr s4 ⟨u,hr,h4⟩=>?_);subst hr;refine uS hp (thn h4 λ_ s5 ⟨x,H5,I5,r5,y5,st5,fr5⟩=>?_);have I5':=I5.pinned (stat fr5) (T.obj _ _ st5);refine uS hp (thn (hg _ s5 σ3 H5 x u _ I5' r5 (step x H5 y5)) λ_ s6 ⟨σ6,H6,I6,q6⟩=>?_);refine uS hp (thn (hb _ s6 σ6 H6 _ I6 q6) λf s7 q7=>?_);have again:∀{σ7:St} {H7:Hp},Inv X (Zb++ZbC fp s5.heap) σ7 H7 s7->N σ7 H7->∃m,m<n/\∃i σ' H',Inv X Zb σ' H' s7/\tn i s7.heap/\(∀b∈fp,H' b=none)/\W i m σ' H':=λ{σ7 H7} I7 n7=>by obtain ⟨m',hm,w7⟩:=hN σ7 H7 n7;refine ⟨m',hm,i+1,σ7,H7,I7.unpinned,T.keep _ _ _ st5 λb hb o e=>(I7.pin (b,o) (jB _ (jB _ (ZaW hb e)))).1,λb hb=>?_,w7⟩;obtain ⟨o,e,d⟩:=T.obj _ _ st5 b hb;exact (I7.pin (b,o) (jB _ (jB _ (ZaW hb e)))).2.1
  cases f with
  |next=>obtain ⟨σ7,H7,I7,n7⟩:=q7;exact again I7 n7
  |cont=>obtain ⟨σ7,H7,I7,n7⟩:=q7;exact again I7 n7
  |brk=>obtain ⟨σ7,H7,I7,q7⟩:=q7;exact ⟨σ7,H7,I7.unpinned,q7⟩
  |ret v=>obtain ⟨x7,σ7,H7,I7,r7,q7⟩:=q7;exact ⟨x7,σ7,H7,I7.unpinned,r7,q7⟩
end
theorem Znh {K:Qa} {a:jo} {xs:List V} {g:TG} {tb:TS} {D:Zap} {σ:St} {H:Hp} (Pv:Nat->St->Hp->Prop) (h0:Pv 0 σ H) (hl:∀i σ H,i<=xs.length->Pv i σ H->SqL K H a xs)
 (hs:∀i x σ H,xs[i]?=some x->Pv i σ H->g x σ H λσ2 H2=>tb {D with nx:=Pv (i+1),ct:=Pv (i+1),bk:=D.nx} σ2 H2) (hd:∀σ H,Pv xs.length σ H->D.nx σ H):
 ∃W:Nat->Nat->St->Hp->Prop,(∃m,W 0 m σ H)/\∀i m σ H,W i m σ H->
  ((Itl K a).stop i H/\D.nx σ H)\/((Itl K a).go i H/\∃N:St->Hp->Prop,(∀σ' H',N σ' H'->∃m',m'<m/\W (i+1) m' σ' H')/\∀x H',(Itl K a).yld i H x H'->g x σ H' λσ2 H2=>tb {D with nx:=N,ct:=N,bk:=D.nx} σ2 H2):=by
 refine ⟨λi m σ H=>m=xs.length-i/\i<=xs.length/\Pv i σ H,⟨xs.length,by simp,Qu _,h0⟩,?_⟩;rintro i m σ H ⟨rfl,hi,p⟩;have q:=hl i σ H hi p;by_cases hlt:i<xs.length
 ·refine .inr ⟨⟨xs,xs[i],q,by simp [hlt]⟩,Pv (i+1),λσ' H' p'=>⟨xs.length-(i+1),by omega,rfl,hlt,p'⟩,λx H' y=>?_⟩;obtain ⟨e,y⟩:=y;subst e;exact hs i x σ _ (y xs q) p
 ·have e:i=xs.length:=by omega
  subst e;exact .inl ⟨⟨xs,q,Qf _⟩,hd σ H p⟩
theorem Zpm {K:Qa} {a:jo} {xs:List V} {g:TG} {tb:TS} {D:Zap} {σ:St} {H:Hp} (Pv:Nat->St->Hp->Prop) (h0:Pv 0 σ H) (hl:∀i σ H,i<=xs.length->Pv i σ H->SqT K H a xs)
 (hs:∀i x σ H,xs[i]?=some x->Pv i σ H->g x σ H λσ2 H2=>tb {D with nx:=Pv (i+1),ct:=Pv (i+1),bk:=D.nx} σ2 H2) (hd:∀σ H,Pv xs.length σ H->D.nx σ H):
 ∃W:Nat->Nat->St->Hp->Prop,(∃m,W 0 m σ H)/\∀i m σ H,W i m σ H->
  ((Itt K a).stop i H/\D.nx σ H)\/((Itt K a).go i H/\∃N:St->Hp->Prop,(∀σ' H',N σ' H'->∃m',m'<m/\W (i+1) m' σ' H')/\∀x H',(Itt K a).yld i H x H'->g x σ H' λσ2 H2=>tb {D with nx:=N,ct:=N,bk:=D.nx} σ2 H2):=by
 refine ⟨λi m σ H=>m=xs.length-i/\i<=xs.length/\Pv i σ H,⟨xs.length,by simp,Qu _,h0⟩,?_⟩;rintro i m σ H ⟨rfl,hi,p⟩;have q:=hl i σ H hi p;by_cases hlt:i<xs.length
 ·refine .inr ⟨⟨xs,xs[i],q,by simp [hlt]⟩,Pv (i+1),λσ' H' p'=>⟨xs.length-(i+1),by omega,rfl,hlt,p'⟩,λx H' y=>?_⟩;obtain ⟨e,y⟩:=y;subst e;exact hs i x σ _ (y xs q) p
 ·have e:i=xs.length:=by omega
  subst e;exact .inl ⟨⟨xs,q,Qf _⟩,hd σ H p⟩
theorem Zla {lo:Int} {n:Nat} {g:TG} {tb:TS} {D:Zap} {σ:St} {H:Hp} (Pv:Nat->St->Hp->Prop) (h0:Pv 0 σ H)
 (hs:∀i σ H,i<n->Pv i σ H->g (.int (lo+i)) σ H λσ2 H2=>tb {D with nx:=Pv (i+1),ct:=Pv (i+1),bk:=D.nx} σ2 H2) (hd:∀σ H,Pv n σ H->D.nx σ H):
 ∃W:Nat->Nat->St->Hp->Prop,(∃m,W 0 m σ H)/\∀i m σ H,W i m σ H->
  ((Itr lo n).stop i H/\D.nx σ H)\/((Itr lo n).go i H/\∃N:St->Hp->Prop,(∀σ' H',N σ' H'->∃m',m'<m/\W (i+1) m' σ' H')/\∀x H',(Itr lo n).yld i H x H'->g x σ H' λσ2 H2=>tb {D with nx:=N,ct:=N,bk:=D.nx} σ2 H2):=by
 refine ⟨λi m σ H=>m=n-i/\i<=n/\Pv i σ H,⟨n,by simp,Qu _,h0⟩,?_⟩;rintro i m σ H ⟨rfl,hi,p⟩;by_cases hlt:i<n
 ·refine .inr ⟨hlt,Pv (i+1),λσ' H' p'=>⟨n-(i+1),by omega,rfl,hlt,p'⟩,λx H' y=>?_⟩;obtain ⟨e,y⟩:=y;subst e y;exact hs i σ _ hlt p
 ·have e:i=n:=by omega
  subst e;exact .inl ⟨Qf _,hd σ H p⟩
noncomputable abbrev R2:=V->V->Hp->VK->Prop
noncomputable def OpR (X:Cx) (f:Value->Value->Sem Value) (r:R2):Prop:=
 ∀(Zb:List (jo×Obj)) (s:jn) (σ:St) (H:Hp) (x y:V) (v u:Value) (Q:VK),Inv X Zb σ H s->ZP x v->ZP y u->r x y H Q->
  js (ju X.prog X.w) X.A (f v u) (EP X Zb σ Q) X.xe s
noncomputable def UnR (X:Cx) (f:Value->Sem Value) (r:V->Hp->VK->Prop):Prop:=
 ∀(Zb:List (jo×Obj)) (s:jn) (σ:St) (H:Hp) (x:V) (v:Value) (Q:VK),Inv X Zb σ H s->ZP x v->r x H Q->
  js (ju X.prog X.w) X.A (f v) (EP X Zb σ Q) X.xe s
noncomputable def qk (X:Cx) (f:Value) (r:List V->Hp->VK->Prop):Prop:=
 ∀(Zb:List (jo×Obj)) (s:jn) (σ:St) (H:Hp) (xs:List V) (us:List Value) (Q:VK),Inv X Zb σ H s->ZA xs us->r xs H Q->
  js (ju X.prog X.w) X.A (call f us) (EP X Zb σ Q) X.xe s
noncomputable def ZuW (X:Cx) (r:V->Hp->(Bool->Hp->Prop)->Prop):Prop:=
 ∀(Zb:List (jo×Obj)) (s:jn) (σ:St) (H:Hp) (x:V) (v:Value) (Q:Bool->Hp->Prop),Inv X Zb σ H s->ZP x v->r x H Q->
  js (ju X.prog X.w) X.A (truthy v) (TP X Zb σ Q) X.xe s
noncomputable def tOp (r:R2) (ta tb:TE):TE:=λσ H Q=>ta σ H λx H1=>tb σ H1 λy H2=>r x y H2 Q
noncomputable def tUn (r:V->Hp->VK->Prop) (ta:TE):TE:=λσ H Q=>ta σ H λx H1=>r x H1 Q
noncomputable def rI (C:Int->Int->Prop) (g:Int->Int->V):R2:=λx y H Q=>∃i j,x=.int i/\y=.int j/\C i j/\Q (g i j) H
noncomputable def rI0 (g:Int->Int->V):R2:=λx y H Q=>∃i j,x=.int i/\y=.int j/\Q (g i j) H
noncomputable def rU (g:Int->V):V->Hp->VK->Prop:=λx H Q=>∃i,x=.int i/\Q (g i) H
section
variable {X:Cx} {a b c:jL} {ta tb tc:TE} {pos:Pos}
theorem Zra (ha:PE X a ta) (hb:PE X b tb) {Zb:List (jo×Obj)} {s:jn} {σ:St} {H:Hp} {R:V->V->Hp->Prop} (I:Inv X Zb σ H s)
 (h:ta σ H λx H1=>tb σ H1 λy H2=>R x y H2) {Q:Value->jn->Prop} {f:Value->Value->Sem Value}
 (hf:∀v u s2 x y H2,Inv X Zb σ H2 s2->ZP x v->ZP y u->R x y H2->js (ju X.prog X.w) X.A (f v u) Q X.xe s2):
 js (ju X.prog X.w) X.A (eval a X.env) (λv s₁=>js (ju X.prog X.w) X.A (eval b X.env) (λu s₂=>js (ju X.prog X.w) X.A (f v u) Q X.xe s₂) X.xe s₁) X.xe s:=by
 refine thn (ha Zb s σ H _ I h) λv s1 ⟨x,H1,I1,r1,q1⟩=>?_;refine thn (hb Zb s1 σ H1 _ I1 q1) λu s2 ⟨y,H2,I2,r2,q2⟩=>?_;exact hf v u s2 x y H2 I2 r1 r2 q2
theorem Zr {op:Operator} {r:R2} (ho:OpR X (uH op) r) (ha:PE X a ta) (hb:PE X b tb):PE X (.BinOp a op b pos) (tOp r ta tb):=by intro Zb s σ H Q I h;exact wpAny_BinOp (Zra ha hb I h λv u s2 x y H2 I2 rx ry q=>ho Zb s2 σ H2 x y v u Q I2 rx ry q)
theorem ZkA {op:UnaryOp} {r:V->Hp->VK->Prop} (ho:UnR X (unaryOp op) r) (ha:PE X a ta):PE X (.UnaryOp op a pos) (tUn r ta):=by intro Zb s σ H Q I h;exact UnaryOp_ (thn (ha Zb s σ H _ I h) λv s1 ⟨x,H1,I1,r1,q1⟩=>ho Zb s1 σ H1 x v Q I1 r1 q1)
theorem opI {f:Value->Value->Sem Value} {C:Int->Int->Prop} {g:Int->Int->Int}
 (rule:∀(i j:Int) (t u:Tok) (s:jn) (Q:Value->jn->Prop) (E:Value->jn->Prop),C i j->Q (.int (g i j) s.toks) {s with toks:=s.toks+1}->js (ju X.prog X.w) X.A (f (.int i t) (.int j u)) Q E s):
 OpR X f (rI C λi j=>.int (g i j)):=by
 intro Zb s σ H x y v u Q I rx ry h;obtain ⟨i,j,rfl,rfl,hc,q⟩:=h;obtain ⟨t,rfl⟩:=rx;obtain ⟨t',rfl⟩:=ry;exact rule i j t t' s _ _ hc ⟨.int (g i j),H,I.tok _,⟨_,rfl⟩,q⟩
theorem Zsc {f:Value->Value->Sem Value} {g:Int->Int->Int}
 (rule:∀(i j:Int) (t u:Tok) (s:jn) (Q:Value->jn->Prop) (E:Value->jn->Prop),Q (.int (g i j) s.toks) {s with toks:=s.toks+1}->js (ju X.prog X.w) X.A (f (.int i t) (.int j u)) Q E s):
 OpR X f (rI0 λi j=>.int (g i j)):=by
 intro Zb s σ H x y v u Q I rx ry h;obtain ⟨i,j,rfl,rfl,q⟩:=h;obtain ⟨t,rfl⟩:=rx;obtain ⟨t',rfl⟩:=ry;exact rule i j t t' s _ _ ⟨.int (g i j),H,I.tok _,⟨_,rfl⟩,q⟩
theorem Zsb {f:Value->Value->Sem Value} {g:Int->Int->Bool}
 (rule:∀(i j:Int) (t u:Tok) (s:jn) (Q:Value->jn->Prop) (E:Value->jn->Prop),Q (.bool (g i j)) s->js (ju X.prog X.w) X.A (f (.int i t) (.int j u)) Q E s):
 OpR X f (rI0 λi j=>.bl (g i j)):=by
 intro Zb s σ H x y v u Q I rx ry h;obtain ⟨i,j,rfl,rfl,q⟩:=h;obtain ⟨t,rfl⟩:=rx;obtain ⟨t',rfl⟩:=ry;exact rule i j t t' s _ _ ⟨.bl (g i j),H,I,rfl,q⟩
noncomputable def Ztd (i j:Int):Prop:=0<j/\j<1073741824
noncomputable def Zte (i j:Int):Prop:=0<=j/\j<=1000000/\i.natAbs<2 ^ 64
noncomputable def ZoV (i j:Int):Prop:=(-(2 ^ 64)<i/\i<2 ^ 64)\/(-(2 ^ 64)<j/\j<2 ^ 64)
theorem ZoV.ok {i j:Int} (h:ZoV i j):IntMulOk i j:=by
 rcases h with ⟨h1,h2⟩|⟨h1,h2⟩
 ·exact .of_left (intBits_le_64 h1 h2)
 ·exact .of_right (intBits_le_64 h1 h2)
theorem Zsd:OpR X (uH .Add) (rI0 λi j=>.int (i+j)):=Zsc λ_ _ _ _ _ _ _ q=>add_int q
theorem Zsk:OpR X (uH .Sub) (rI0 λi j=>.int (i-j)):=Zsc λ_ _ _ _ _ _ _ q=>sub_int q
theorem Zsh:OpR X (uH .Mult) (rI ZoV λi j=>.int (i * j)):=opI λ_ _ _ _ _ _ _ hc q=>mul_int q hc.ok
theorem ZpF:OpR X (uH .FloorDiv) (rI Ztd λi j=>.int (i/j)):=opI λi j _ _ _ _ _ hc q=>by have h1:(0:Int)<j:=hc.1;have h2:j<1073741824:=hc.2;exact floordiv_int (by omega) (by rw [Int.fdiv_eq_ediv_of_nonneg i (by omega)];exact q) (.inl (PyProof.noPylong_small (by omega)))
theorem Zsg:OpR X (uH .Mod) (rI (λ_ j=>0<j) λi j=>.int (i%j)):=opI λi j _ _ _ _ _ hc q=>by have h1:(0:Int)<j:=hc;exact mod_int' (by omega) (by rw [Int.fmod_eq_emod_of_nonneg i (by omega)];exact q)
theorem Zsi:OpR X (uH .Pow) (rI Zte λi j=>.int (i ^ j.toNat)):=opI λ_ _ _ _ _ _ _ hc q=>pow_int_small hc.1 hc.2.1 hc.2.2 q
theorem Zpt:OpR X (Qae .Add) (rI0 λi j=>.int (i+j)):=Zsc λ_ _ _ _ _ _ _ q=>iadd_int q
theorem unI {f:Value->Sem Value} {g:Int->Int}
 (rule:∀(i:Int) (t:Tok) (s:jn) (Q:Value->jn->Prop) (E:Value->jn->Prop),Q (.int (g i) s.toks) {s with toks:=s.toks+1}->js (ju X.prog X.w) X.A (f (.int i t)) Q E s):
 UnR X f (rU λi=>.int (g i)):=by
 intro Zb s σ H x v Q I rx h;obtain ⟨i,rfl,q⟩:=h;obtain ⟨t,rfl⟩:=rx;exact rule i t s _ _ ⟨.int (g i),H,I.tok _,⟨_,rfl⟩,q⟩
theorem Zs7:UnR X (unaryOp .USub) (rU λi=>.int (-i)):=unI λ_ _ _ _ _ q=>neg_int q
end
noncomputable def ZsM:V->V->Bool
 | .non,.non=>true| .non,.int _=>true| .int _,.non=>true| .non,.bl _=>true| .bl _,.non=>true| .non,.str _=>true| .str _,.non=>true
 | .int _,.int _=>true| .bl _,.bl _=>true| .str _,.str _=>true| .byt _,.byt _=>true
 | .int _,.str _=>true| .str _,.int _=>true| .bl _,.str _=>true| .str _,.bl _=>true
 |_,_=>false
noncomputable def rEq:R2:=λx y H Q=>ZsM x y=true/\Q (.bl (decide (x=y))) H
noncomputable def rNe:R2:=λx y H Q=>ZsM x y=true/\Q (.bl (!decide (x=y))) H
theorem Zki {i j:Int}:decide (V.int i=V.int j)=(i==j):=by rw [Ug];simp
theorem ZmW {i j:Bool}:decide (V.bl i=V.bl j)=(i==j):=by rw [Ug];simp
theorem Zkj {i j:Str}:decide (V.str i=V.str j)=(i==j):=by rw [Ug];simp
theorem Zkh {i j:Array UInt8}:decide (V.byt i=V.byt j)=(i.toList==j.toList):=by rw [Ug];cases i;cases j;simp
section
variable {X:Cx} {a b c:jL} {ta tb tc:TE} {pos:Pos}
theorem ZO {Zb:List (jo×Obj)} {σ:St} {H:Hp} {s:jn} {Q:VK} {k k':Bool} (I:Inv X Zb σ H s) (q:Q (.bl k) H) (e:k=k'):EP X Zb σ Q (.bool k') s:=by subst e;exact ⟨.bl k,H,I,rfl,q⟩
theorem Zul:OpR X (jZ .Eq) rEq:=by
 intro Zb s σ H x y v u Q I rx ry h;obtain ⟨hs,q⟩:=h
 cases x with
 |non=>
  cases rx
  cases y with
  |non=>cases ry;exact PySem.EqNone.eq_none_none (ZO I q (by simp))
  |bl j=>cases ry;exact PySem.EqNone.eq_none_bool (ZO I q (by simp))
  |int j=>obtain ⟨t',rfl⟩:=ry;exact PySem.EqNone.eq_none_int (ZO I q (by simp))
  |str j=>obtain ⟨t',rfl⟩:=ry;exact PySem.EqNone.eq_none_str (ZO I q (by simp))
  |_=>exact absurd (show false=true from hs) Qg
 |bl i=>
  cases rx
  cases y with
  |non=>cases ry;exact PySem.EqNone.eq_bool_none (ZO I q (by simp))
  |bl j=>cases ry;exact eq_bool (ZO I q ZmW)
  |str j=>obtain ⟨t',rfl⟩:=ry;exact PySem.EqMixed.eq_bool_str (ZO I q (by simp))
  |_=>exact absurd (show false=true from hs) Qg
 |int i=>
  obtain ⟨t,rfl⟩:=rx
  cases y with
  |non=>cases ry;exact PySem.EqNone.eq_int_none (ZO I q (by simp))
  |int j=>obtain ⟨t',rfl⟩:=ry;exact eq_int (ZO I q Zki)
  |str j=>obtain ⟨t',rfl⟩:=ry;exact PySem.EqMixed.eq_int_str (ZO I q (by simp))
  |_=>exact absurd (show false=true from hs) Qg
 |str i=>
  obtain ⟨t,rfl⟩:=rx
  cases y with
  |non=>cases ry;exact PySem.EqNone.eq_str_none (ZO I q (by simp))
  |bl j=>cases ry;exact PySem.EqMixed.eq_str_bool (ZO I q (by simp))
  |int j=>obtain ⟨t',rfl⟩:=ry;exact PySem.EqMixed.eq_str_int (ZO I q (by simp))
  |str j=>obtain ⟨t',rfl⟩:=ry;exact eq_str (ZO I q Zkj)
  |_=>exact absurd (show false=true from hs) Qg
 |byt i=>
  obtain ⟨t,rfl⟩:=rx
  cases y with
  |byt j=>obtain ⟨t',rfl⟩:=ry;exact PySem.W.eq_bytes (ZO I q Zkh)
  |_=>exact absurd (show false=true from hs) Qg
 |_=>cases y<;>exact absurd (show false=true from hs) Qg
theorem Zup:OpR X (jZ .NotEq) rNe:=by
 intro Zb s σ H x y v u Q I rx ry h;obtain ⟨hs,q⟩:=h
 cases x with
 |non=>
  cases rx
  cases y with
  |non=>cases ry;exact PySem.EqNone.ne_none_none (ZO I q (by simp))
  |bl j=>cases ry;exact PySem.EqNone.ne_none_bool (ZO I q (by simp))
  |int j=>obtain ⟨t',rfl⟩:=ry;exact PySem.EqNone.ne_none_int (ZO I q (by simp))
  |str j=>obtain ⟨t',rfl⟩:=ry;exact PySem.EqNone.ne_none_str (ZO I q (by simp))
  |_=>exact absurd (show false=true from hs) Qg
 |bl i=>
  cases rx
  cases y with
  |non=>cases ry;exact PySem.EqNone.ne_bool_none (ZO I q (by simp))
  |bl j=>cases ry;exact ne_bool (ZO I q (congrArg not ZmW))
  |str j=>obtain ⟨t',rfl⟩:=ry;exact PySem.EqMixed.ne_bool_str (ZO I q (by simp))
  |_=>exact absurd (show false=true from hs) Qg
 |int i=>
  obtain ⟨t,rfl⟩:=rx
  cases y with
  |non=>cases ry;exact PySem.EqNone.ne_int_none (ZO I q (by simp))
  |int j=>obtain ⟨t',rfl⟩:=ry;exact ne_int (ZO I q (congrArg not Zki))
  |str j=>obtain ⟨t',rfl⟩:=ry;exact PySem.EqMixed.ne_int_str (ZO I q (by simp))
  |_=>exact absurd (show false=true from hs) Qg
 |str i=>
  obtain ⟨t,rfl⟩:=rx
  cases y with
  |non=>cases ry;exact PySem.EqNone.ne_str_none (ZO I q (by simp))
  |bl j=>cases ry;exact PySem.EqMixed.ne_str_bool (ZO I q (by simp))
  |int j=>obtain ⟨t',rfl⟩:=ry;exact PySem.EqMixed.ne_str_int (ZO I q (by simp))
  |str j=>obtain ⟨t',rfl⟩:=ry;exact ne_str (ZO I q (congrArg not Zkj))
  |_=>exact absurd (show false=true from hs) Qg
 |byt i=>
  obtain ⟨t,rfl⟩:=rx
  cases y with
  |byt j=>obtain ⟨t',rfl⟩:=ry;exact PySem.W.ne_bytes (ZO I q (congrArg not Zkh))
  |_=>exact absurd (show false=true from hs) Qg
 |_=>cases y<;>exact absurd (show false=true from hs) Qg
theorem Zuo:OpR X (jZ .Lt) (rI0 λi j=>.bl (decide (i<j))):=Zsb λ_ _ _ _ _ _ _ q=>lt_int q
theorem Zun:OpR X (jZ .LtE) (rI0 λi j=>.bl (decide (i<=j))):=Zsb λ_ _ _ _ _ _ _ q=>le_int q
theorem Zum:OpR X (jZ .Gt) (rI0 λi j=>.bl (decide (j<i))):=Zsb λ_ _ _ _ _ _ _ q=>gt_int q
theorem ZlA:OpR X (jZ .Lt) (λx y H Q=>∃i j,x=.str i/\y=.str j/\Q (.bl (decide (i.cps.toList<j.cps.toList))) H):=by intro Zb s σ H x y v u Q I rx ry h;obtain ⟨i,j,rfl,rfl,q⟩:=h;obtain ⟨t,rfl⟩:=rx;obtain ⟨t',rfl⟩:=ry;exact lt_str (ZO I q rfl)
theorem Zsf:OpR X (jZ .Is) (λx y H Q=>y=.non/\Q (.bl (decide (x=.non))) H):=by
 intro Zb s σ H x y v u Q I rx ry h;obtain ⟨rfl,q⟩:=h;cases ry;refine is_none_gen (ZO I q ?_)
 cases x<;>first
  |(cases rx;rfl)
  |(obtain ⟨t,rfl⟩:=rx;rfl)
theorem Zn0 (b:jL) {op:CmpOp} (h:op≠ .In:=by decide) (h2:op≠ .NotIn:=by decide):u5 op b=false:=by
 have e1:(op==CmpOp.In)=false:=by cases op<;>first|rfl|exact absurd rfl h
 have e2:(op==CmpOp.NotIn)=false:=by cases op<;>first|rfl|exact absurd rfl h2
 cases b<;>simp [u5,e1,e2]
theorem ZpJ {op:CmpOp} {r:R2} (ho:OpR X (jZ op) r) (ha:PE X a ta) (hb:PE X b tb) (hm:u5 op b=false):PE X (.Compare a [op] [b] pos) (tOp r ta tb):=by intro Zb s σ H Q I h;exact wpAny_Compare1 (Zra ha hb I h λv u s2 x y H2 I2 rx ry q=>ho Zb s2 σ H2 x y v u Q I2 rx ry q) hm
noncomputable def ZtS (K:Qa) (x:V) (H:Hp) (k:Bool):Prop:=
 match x with
 | .non=>k=false
 | .bl b=>k=b
 | .int i=>k=(i !=0)
 | .str y=>y.length<=sizeLine/\k=((y.length:Int) !=0)
 | .byt y=>y.size<=sizeLine/\k=((y.size:Int) !=0)
 | .ref p=>(∃xs,SqL K H p xs/\k= !xs.isEmpty)\/(∃xs,SqT K H p xs/\k= !xs.isEmpty)\/∃kvs,H p=some (.dK kvs)/\k= !kvs.isEmpty
 |_=>False
theorem Zjh {κ:Type} {kvs:List (κ×V)} {vs:List (κ×Value)} (r:KV kvs vs):(!vs.isEmpty)= !kvs.isEmpty:=by cases r<;>rfl
theorem Ze5 {xs:List V} {its:List Value} (r:ZA xs its):(!its.toArray.isEmpty)= !xs.isEmpty:=by cases r<;>simp
theorem Zcp:(sizeLine:Nat)<2 ^ 63:=by rw [jw];decide
theorem Zs5:ZuW X (λx H Q=>∃k,ZtS X.K x H k/\Q k H):=by
 intro Zb s σ H x v Q I rx h;obtain ⟨k,e,q⟩:=h;have hl:=Zcp;have hs:sizeLine=16777216:=jw
 cases x with
 |non=>
  cases rx;have e':k=false:=e;subst e';exact truthy_none ⟨H,I,q⟩
 |bl b=>
  cases rx;have e':k=b:=e;subst e';exact uU ⟨H,I,q⟩
 |int i=>
  obtain ⟨t,rfl⟩:=rx;have e':k=(i !=0):=e;subst e';exact PySem.P.truthy_int ⟨H,I,q⟩
 |str y=>
  obtain ⟨t,rfl⟩:=rx;obtain ⟨hy,e'⟩:y.length<=sizeLine/\k=((y.length:Int) !=0):=e;subst e';exact PySem.P.truthy_str (by omega) ⟨H,I.tok _,q⟩
 |byt y=>
  obtain ⟨t,rfl⟩:=rx;obtain ⟨hy,e'⟩:y.size<=sizeLine/\k=((y.size:Int) !=0):=e;subst e';exact PySem.W.truthy_bytes (by omega) ⟨H,I.tok _,q⟩
 |ref p=>
  cases rx;have e':(∃xs,SqL X.K H p xs/\k= !xs.isEmpty)\/(∃xs,SqT X.K H p xs/\k= !xs.isEmpty)\/∃kvs,H p=some (.dK kvs)/\k= !kvs.isEmpty:=e;rcases e' with ⟨xs,hx,e'⟩|⟨xs,hx,e'⟩|⟨kvs,hx,e'⟩
  ·subst e';obtain ⟨its,r,pl,hz⟩:=I.list hx;have hlen:=r.length;exact wpAny_truthy_list pl.isList (by simp only [jI];omega) ⟨H,I.tok _,by rw [Ze5 r];exact q⟩
  ·subst e';obtain ⟨its,r,pl,hz⟩:=I.tuple hx;have hlen:=r.length;exact truthy_tuple pl (by simp only [jI];omega) ⟨H,I.tok _,by rw [Ze5 r];exact q⟩
  ·subst e';obtain ⟨hz,hS,vs,r,m⟩:kvs.length<=sizeLine/\(p==uW)=false/\∃vs,KV kvs vs/\s.heap.DictOf (zl X.prog X.w) p vs:=I.hok p _ hx;have hlen:kvs.length=vs.length:=Paired.length r;exact wpAny_truthy_dict hS m (by omega) ⟨H,I.tok _,by rw [Zjh r];exact q⟩
 |_=>exact (show False from e).elim
theorem ZjA:OpR X (uH .Add) (λx y H Q=>∃i j,x=.str i/\y=.str j/\i.length+j.length<=sizeLine/\Q (.str (i++j)) H):=by intro Zb s σ H x y v u Q I rx ry h;obtain ⟨i,j,rfl,rfl,hz,q⟩:=h;obtain ⟨t,rfl⟩:=rx;obtain ⟨t',rfl⟩:=ry;exact add_str (λt' tk=>⟨.str (i++j),H,I.tok _,⟨_,rfl⟩,q⟩) hz
theorem Zid:OpR X (Qae .Add) (λx y H Q=>∃i j,x=.str i/\y=.str j/\i.length+j.length<=sizeLine/\Q (.str (i++j)) H):=by intro Zb s σ H x y v u Q I rx ry h;obtain ⟨i,j,rfl,rfl,hz,q⟩:=h;obtain ⟨t,rfl⟩:=rx;obtain ⟨t',rfl⟩:=ry;exact iadd_str (λt' tk=>⟨.str (i++j),H,I.tok _,⟨_,rfl⟩,q⟩) hz
theorem qN {x:V} {us:List Value} (r:ZA [x] us):∃u,us=[u]/\ZP x u:=by
 cases r with
 |cons r1 r2=>cases r2;exact ⟨_,rfl,r1⟩
theorem ZfN {x y:V} {us:List Value} (r:ZA [x,y] us):∃u w',us=[u,w']/\ZP x u/\ZP y w':=by
 cases r with
 |cons r1 r2=>
  cases r2 with
  |cons r3 r4=>cases r4;exact ⟨_,_,rfl,r1,r3⟩
end
structure Zi1 (h:Heap) (x dx C:jo) (mA:Str->Option Value):Prop where
 obj:h.get? x=some (Qad C dx)
 ns:h.Ns1 dx mA
 ne:dx≠x
theorem Zlq {h:Heap} {dx:jo} {mA:Str->Option Value} (n:h.Ns1 dx mA):∃od,h.get? dx=some od/\∀name,lookIn name od=some (mA name):=by
 obtain ⟨o,es,ep,ho,hd,hk,_,hm⟩:=n;refine ⟨o,ho,λname=>?_⟩;have e:=hm name;unfold nsFind findBy at e;rw [<-Array.find?_toList] at e;unfold lookIn;rw [hd];dsimp only;split
 ·rename_i y q;rw [q] at e;exact congrArg some e
 ·rename_i q;rw [q] at e;have a:es.toList.any (·.refKey)=false:=by rw [List.any_eq_false];intro y hy;obtain ⟨z,t,hkey⟩:=hk y (Wu.mp hy);simp [DictEntry.refKey,hkey]
  have a':¬es.toList.any (·.refKey)=true:=by rw [a];exact Qg
  rw [if_neg a'];exact congrArg some e
theorem Zi1.look {h:Heap} {x dx C:jo} {mA:Str->Option Value} (I:Zi1 h x dx C mA):∃od,InstAt h x (Qad C dx) C (some od)/\∀name,lookIn name od=some (mA name):=
 let ⟨od,ho,hl⟩:=Zlq I.ns
 ⟨od,⟨I.obj,rfl,rfl,ho⟩,hl⟩
section
variable {prog:jx} {w:jG} {A:Around} {E:Value->jn->Prop} {s:jn} {K:Qa} {x dx C f:jo} {mA:Str->Option Value} {name:Str} {v:Value}
theorem Zpp {expr:Bool} {Q:Value->jn->Prop} (X:K.In s.heap) (I:Zi1 s.heap x dx C mA) (hg:vW K C name=true) (hh:Qaf K C=true)
 (ha:j0 K (.ref C) name=some none) (hv:mA name=some v) (hv':handedIn v=true) (h:Q v {s with toks:=s.toks+1}):
 js (ju prog w) A (getAttr (.ref x) name expr) Q E s:=by
 obtain ⟨od,J,hl⟩:=I.look;exact PySem.W.get_value X J (plainGet_of hg).1 (PySem.W.findObj_own hh ha rfl (by rw [hl,hv])) hv' h
theorem Znl {pl:Sem Bool} {Q:Value×List Value->jn->Prop} (X:K.In s.heap) (I:Zi1 s.heap x dx C mA) (hg:vW K C name=true)
 (hf:j0 K (.ref C) name=some (some (.ref f))) (ht:isFn K (.ref f)=true) (hv:mA name=none) (h:Q (.ref f,[.ref x]) s):
 js (ju prog w) A (Qat (.ref x) name pl) Q E s:=by
 obtain ⟨od,J,hl⟩:=I.look;exact PySem.W.method_fn X J (plainGet_of hg).1 (plainGet_of hg).2 hf (beq_iff_eq.mp ht) (by show (lookIn name od).map (·.isSome)=some false;rw [hl,hv];rfl) h
theorem Zp8 {ns:List Str} {Q:Unit->jn->Prop} (X:K.In s.heap) (I:Zi1 s.heap x dx C mA)
 (hs:j0 K (.ref C) "__setattr__"=some (some (.builtin "object.__setattr__"))) (hp:Qas K C=true) (ht:takerIn K C name=some none) (hh:Qaf K C=true)
 (hw:PySem.Within mA ns) (hsz:ns.length<=sizeLine)
 (h:∀h',Zi1 h' x dx C (λy=>if y=name then some v else mA y)->Heap.SameBut dx s.heap h'->Q () {s with heap:=h',toks:=s.toks+2}):
 js (ju prog w) A (setAttr (.ref x) name v) Q E s:=by
 obtain ⟨od,J,hl⟩:=I.look;refine PySem.W.set_plain X J hs (PySem.W.osa_open (s:= {s with toks:=s.toks+1}) (r:=none) X J hp ht λb=>?_);obtain ⟨cd,hc,hd'⟩:=PySem.W.any_some hh;have hx:s.heap.get? x=some ⟨.ref C,some dx,.plain,#[]⟩:=I.obj;refine jm (jq (jm (jm (wpAny_loadPart hx (jm (PySem.W.Looks.here (s:= {s with toks:=s.toks+1}) (PySem.W.looks_clsIn X hc) ?_))))));rw [hd'];refine jq (a:=some dx) (jm (jq (jm ?_)));refine wpAny_nsSet1 (s:= {s with toks:=s.toks+1}) I.ns λh' hn2 hs2=>?_;obtain ⟨oD,esD,epD,hoD,hdD,hcD⟩:=hn2.count (PySem.Within.cons name v hw);refine jm (wpAny_lookBehind hoD (by rw [hdD];exact pastItsLine_dict (QE hcD (by rw [jD];omega))) ?_);exact jq (h _ ⟨(hs2.2 _ (Ne.symm I.ne)).trans I.obj,hn2,I.ne⟩ hs2)
theorem Zin {R:Qav->jn->Prop} {vs:List Value} {kw:List (Str×Value)} (X:K.In s.heap) (hm:makesIn K C=true)
 (hi:j0 K (.ref C) "__init__"=some (some (.ref f))) (hf:typeIn K (.ref f)=some (.type "function"))
 (h:u6 (ju prog w) (A.under (.builtin "type.__call__" ⟨.ref C::vs,kw⟩)) (.call (.ref f) ⟨.ref (s.heap.objs.size+1)::vs,kw⟩) (PySem.W.InitBack (s.heap.objs.size+1) R)
  {s with heap:=(s.heap.push vi).push (Qad C s.heap.objs.size)}):
 u6 (ju prog w) A (.call (.ref C) ⟨vs,kw⟩) R s:=by
 obtain ⟨hh,g,d,t,os⟩:=s;exact PySem.W.make_core (PySem.W.makes_of X hm) (Qan X hi) (λself=>PySem.W.bind_fn X self hf) (.inl rfl) h
end
noncomputable def Ya (f:Str) (v:V):List (Str×V)->List (Str×V)
 |[]=>[(f,v)]
 |(g,x)::r=>if g=f then (g,v)::r else (g,x)::Ya f v r
theorem Zd6 (f g:Str) (v:V):∀fs:List (Str×V),(Ya f v fs).lookup g=if g=f then some v else fs.lookup g
 |[]=>by
  show UX g [(f,v)]=_;by_cases h:g=f
  ·have hb:(g==f)=true:=beq_iff_eq.mpr h;simp only [UX,hb,if_pos h]
  ·have hb:(g==f)=false:=beq_eq_false_iff_ne.mpr h;simp only [UX,hb,if_neg h]
 |(k,x)::r=>by
  have ih:=Zd6 f g v r;rw [show Ya f v ((k,x)::r)=(if k=f then (k,v)::r else (k,x)::Ya f v r) from rfl];by_cases hk:k=f
  ·rw [if_pos hk];by_cases h:g=k
   ·have hb:(g==k)=true:=beq_iff_eq.mpr h;simp only [UX,hb,if_pos (h.trans hk)]
   ·have hb:(g==k)=false:=beq_eq_false_iff_ne.mpr h;simp only [UX,hb,if_neg (λe:g=f=>h (e.trans hk.symm))]
  ·rw [if_neg hk];by_cases h:g=k
   ·have hb:(g==k)=true:=beq_iff_eq.mpr h;simp only [UX,hb,if_neg (λe:g=f=>hk (h.symm.trans e))]
   ·have hb:(g==k)=false:=beq_eq_false_iff_ne.mpr h;simp only [UX,hb];exact ih
theorem Zdw (f:Str) (v:V):∀fs:List (Str×V),f∈(Ya f v fs).map (·.1)/\∀g,g∈fs.map (·.1)->g∈(Ya f v fs).map (·.1)
 |[]=>⟨by simp [Ya],λg h=>by simp at h⟩
 |(k,x)::r=>by
  obtain ⟨i1,i2⟩:=Zdw f v r;rw [show Ya f v ((k,x)::r)=(if k=f then (k,v)::r else (k,x)::Ya f v r) from rfl];by_cases hk:k=f
  ·rw [if_pos hk];subst hk;exact ⟨by simp,λg h=>by simpa using h⟩
  ·rw [if_neg hk];refine ⟨?_,λg h=>?_⟩
   ·rw [jV];exact jM _ i1
   ·rw [jV] at h ⊢
    rcases jQ.mp h with e|e
    ·exact jQ.mpr (.inl e)
    ·exact jM _ (i2 g e)
theorem Zd4 (f:Str) (v:V):∀fs:List (Str×V),(Ya f v fs).length<=fs.length+1
 |[]=>by simp [Ya]
 |(k,x)::r=>by
  have ih:=Zd4 f v r;rw [show Ya f v ((k,x)::r)=(if k=f then (k,v)::r else (k,x)::Ya f v r) from rfl];by_cases hk:k=f
  ·rw [if_pos hk,jD,jD];omega
  ·rw [if_neg hk,jD,jD];omega
theorem Zbu.some_of {v:V} {o:Option Value} (r:Zbu (some v) o):∃u,o=some u/\ZP v u:=by
 cases o with
 |none=>exact (show False from r).elim
 |some u=>exact ⟨u,rfl,r⟩
theorem Zbu.none_of {o:Option Value} (r:Zbu none o):o=none:=by
 cases o with
 |none=>rfl
 |some u=>exact (show False from r).elim
theorem Zld {v:V} {u:Value} (r:ZP v u):handedIn u=true:=by
 cases v with
 |non=>cases (show u=Qq from r);rfl
 |bl b=>cases (show u=VW b from r);rfl
 |int i=>obtain ⟨t,e⟩:=(show ∃t,u=Vc i t from r);cases e;rfl
 |str x=>obtain ⟨t,e⟩:=(show ∃t,u=US x t from r);cases e;rfl
 |byt b=>obtain ⟨t,e⟩:=(show ∃t,u=jd b t from r);cases e;rfl
 |flt b=>obtain ⟨t,e⟩:=(show ∃t,u=Wo b t from r);cases e;rfl
 |ref a=>cases (show u=Value.ref a from r);rfl
 |ty n=>cases (show u=UA n from r);rfl
section
variable {P:jx} {w:jG} {H H':Hp} {h h':Heap} {a C dx:jo} {fs fs':List (Str×V)}
theorem Zeu (hok:HOk P w H h) (e:H a=some (.ins C dx fs)):∃mA,Zi1 h a dx C mA/\(∀f,Zbu (fs.lookup f) (mA f))/\PySem.Within mA (fs.map (·.1))/\fs.length<=1000/\H dx=some (.own a):=by obtain ⟨d,z,ne,ob,mA,n,r,q⟩:=(show za P w H h a (.ins C dx fs) from hok a _ e);exact ⟨mA,⟨ob,n,ne⟩,r,q,z,d⟩
end
structure Cls (K:Qa) (C:jo):Prop where
 pg:vW K C Vw=true
 hd:Qaf K C=true
 po:Qas K C=true
 sa:j0 K (.ref C) "__setattr__"=some (some (.builtin "object.__setattr__"))
theorem Cls.get {K:Qa} {C:jo} (c:Cls K C) (f:Str):vW K C f=true:=c.pg
noncomputable def YC (K:Qa) (C:jo) (f:Str):Prop:=j0 K (.ref C) f=some none
theorem YC.taker {K:Qa} {C:jo} {f:Str} (n:YC K C f):takerIn K C f=some none:=by unfold takerIn;rw [show j0 K (.ref C) f=some none from n];rfl
structure Zq0 (K:Qa) (C:jo) (m:Str) (f:jo):Prop where
 at_:j0 K (.ref C) m=some (some (.ref f))
 fn:isFn K (.ref f)=true
 kp:uR K (.ref f)=true
section
variable {X:Cx} {Zb:List (jo×Obj)} {σ:St} {H:Hp} {s:jn} {a C dx:jo} {fs:List (Str×V)} {f:Str} {v:V} {A:Around} {E:Value->jn->Prop}
theorem Zjf {b:Bool} {Q:Value->jn->Prop} (I:Inv X Zb σ H s) (e:H a=some (.ins C dx fs)) (c:Cls X.K C) (n:YC X.K C f) (l:fs.lookup f=some v)
 (h:∀u s',Inv X Zb σ H s'->ZP v u->Q u s'):js (ju X.prog X.w) A (getAttr (.ref a) f b) Q E s:=by
 obtain ⟨mA,O,r,_,_,_⟩:=Zeu I.hok e;obtain ⟨u,hu,ru⟩:=Zbu.some_of (v:=v) (o:=mA f) (by rw [<-l];exact r f);exact Zpp I.kIn O (c.get f) c.hd n hu (Zld ru) (h u _ (I.tok _) ru)
theorem Ze3 {m:Str} {g:jo} {pl:Sem Bool} {Q:Value×List Value->jn->Prop} (I:Inv X Zb σ H s) (e:H a=some (.ins C dx fs)) (c:Cls X.K C) (k:Zq0 X.K C m g) (l:fs.lookup m=none)
 (h:Q (.ref g,[.ref a]) s):js (ju X.prog X.w) A (Qat (.ref a) m pl) Q E s:=by
 obtain ⟨mA,O,r,_,_,_⟩:=Zeu I.hok e;have hn:mA m=none:=Zbu.none_of (by rw [<-l];exact r m);exact Znl I.kIn O (c.get m) k.at_ k.fn hn h
theorem ZjJ {y:V} {u:Value} {Q:Unit->jn->Prop} (I:Inv X Zb σ H s) (e:H a=some (.ins C dx fs)) (c:Cls X.K C) (n:YC X.K C f) (hl:fs.length<1000) (ry:ZP y u)
 (h:∀s',Inv X Zb σ (upd H a (.ins C dx (Ya f y fs))) s'->Q () s'):js (ju X.prog X.w) A (setAttr (.ref a) f u) Q E s:=by
 obtain ⟨mA,O,r,wi,_,ho⟩:=Zeu I.hok e;have hz:(fs.map (·.1)).length<=sizeLine:=by rw [jr,jw];omega
 refine Zp8 I.kIn O c.sa c.po n.taker c.hd wi hz λh' O' sb=>h _ ?_;have hd:∃o,h'.get? dx=some o:=let ⟨o,_,_,e',_⟩:=O'.ns;⟨o,e'⟩;refine I.write (x:=a) (e:=dx) (by rw [e];exact True.intro) (.inr ho) (λb q hb z=>(sb.2 b hb).trans z) hd ?_;refine ⟨by rw [Zi O.ne];exact ho,?_,O.ne,O'.obj,_,O'.ns,λg=>?_,λg hg=>?_⟩
 ·have:=Zd4 f y fs;omega
 ·show Zbu ((Ya f y fs).lookup g) (if g=f then some u else mA g);rw [Zd6];by_cases q:g=f
  ·rw [if_pos q,if_pos q];exact ry
  ·rw [if_neg q,if_neg q];exact r g
 ·by_cases q:g=f
  ·rw [q];exact (Zdw f y fs).1
  ·refine (Zdw f y fs).2 g (wi g λz=>hg ?_);show (if g=f then some u else mA g)=none;rw [if_neg q];exact z
theorem Inv.made (I:Inv X Zb σ H s):Inv X Zb σ (upd (upd H s.heap.objs.size (.own (s.heap.objs.size+1))) (s.heap.objs.size+1) (.ins C s.heap.objs.size []))
 {s with heap:=(s.heap.push vi).push (Qad C s.heap.objs.size)}:=by
 have e1:(s.heap.push vi).get? s.heap.objs.size=some vi:=Qi s.heap rfl;have e2:((s.heap.push vi).push (Qad C s.heap.objs.size)).get? (s.heap.objs.size+1)=some (Qad C s.heap.objs.size):=by have:=Qi (s.heap.push vi) (o:=Qad C s.heap.objs.size) rfl;rwa [UE] at this
 have e3:(s.heap.push vi).Ns s.heap.objs.size (λ_=>none):=⟨vi,#[],_,e1,rfl,(λe he=>absurd he (by simp)),λ_=>rfl⟩;have I1:=I.laid (a:=s.heap.objs.size) (o:=.own (s.heap.objs.size+1)) (h':=s.heap.push vi) (t':=s.toks) (λb u q=>Qe _ q) (Qf _) ⟨_,e1⟩;refine I1.laid (a:=s.heap.objs.size+1) (o:=.ins C s.heap.objs.size []) (t':=s.toks) (λb u q=>Qe _ q) (VL (UE _ _)) ?_;have ne:s.heap.objs.size≠s.heap.objs.size+1:=Qo (UV _);refine ⟨by rw [Zi ne,Zg],Qu _,ne,e2,λ_=>none,(Heap.Ns1.of_empty e3).at λo q=>Qe _ q,λ_=>True.intro,λy hy=>absurd rfl hy⟩
theorem Zo2 {prog:jx} {w:jG} {env:Env} {e:jL} {f:Str} {pos:Pos} {s:jn} {Q:Value->jn->Prop} (hb:vo e f env (eval e env)=eval e env)
 (h:js (ju prog w) A (eval e env) (λo s₁=>js (ju prog w) A (getAttr o f true) Q E s₁) E s):js (ju prog w) A (eval (.Attribute e f pos) env) Q E s:=
 Attribute_any_ h (by rw [arm_eval_Attribute,hb])
end
noncomputable def Zvh (K:Qa) (ta:TE) (f:Str):TE:=λσ H Q=>ta σ H λx H1=>∃a C dx fs v,x=.ref a/\H1 a=some (.ins C dx fs)/\Cls K C/\YC K C f/\fs.lookup f=some v/\Q v H1
noncomputable def Zvd (K:Qa) (ta tv:TE) (f:Str):TS:=λD σ H=>tv σ H λy H1=>ta σ H1 λx H2=>∃a C dx fs,x=.ref a/\H2 a=some (.ins C dx fs)/\Cls K C/\YC K C f/\fs.length<1000/\
 D.nx σ (upd H2 a (.ins C dx (Ya f y fs)))
section
variable {X:Cx} {o e value:jL} {f:Str} {pos pos' tpos:Pos} {ta tv:TE}
theorem Zsn (he:PE X e ta) (hb:vo e f X.env (eval e X.env)=eval e X.env):PE X (.Attribute e f pos) (Zvh X.K ta f):=by intro Zb s σ H Q I h;refine Zo2 hb (thn (he Zb s σ H _ I h) λu s1 ⟨x,H1,I1,rx,a,C,dx,fs,v,ex,ea,c,n,l,q⟩=>?_);subst ex;obtain rfl:u=Value.ref a:=rx;exact Zjf I1 ea c n l λu' s2 I2 ru=>⟨v,H1,I2,ru,q⟩
theorem ZsE (ha:PE X o ta) (hv:PE X value tv) (hs:u7 value (some (.Attribute o f pos')) pos.line X.env=pure false):PS X (.Assign [.Attribute o f pos'] value pos) (Zvd X.K ta tv f):=by intro Zb s σ H D I h;refine plainObj_wpAny_Assign_Attribute (thn (hv Zb s σ H _ I h) λu s1 ⟨y,H1,I1,ry,q⟩=>thn (ha Zb s1 σ H1 _ I1 q) λov s2 ⟨x,H2,I2,rx,a,C,dx,fs,ex,ea,c,n,l,q2⟩=>?_) hs;subst ex;obtain rfl:ov=Value.ref a:=rx;exact ZjJ I2 ea c n l ry λs3 I3=>⟨σ,_,I3,q2⟩
end
section
variable {X:Cx} {Zb:List (jo×Obj)} {σ:St} {H:Hp} {s:jn} {A:Around} {E:Value->jn->Prop} {Q:Value->jn->Prop} {c:Value} {b:Bool}
inductive ZcD (K:Qa) (H:Hp):V->Value->Prop where
 |non:ZcD K H .non (.type "NoneType")
 |bl (x:Bool):ZcD K H (.bl x) (.type "bool")
 |int (i:Int):ZcD K H (.int i) (.type "int")
 |str (x:Str):ZcD K H (.str x) (.type "str")
 |flt (x:UInt64):ZcD K H (.flt x) (.type "float")
 |lst {a:jo} {xs:List V} (e:H a=some (.lst xs)):ZcD K H (.ref a) (.type "list")
 |frz {a:jo} {o:Obj} {xs:List V} (e:H a=some (.frz o (.lst xs))):ZcD K H (.ref a) (.type "list")
 |tup {a:jo} {xs:List V} (e:H a=some (.tup xs)):ZcD K H (.ref a) (.type "tuple")
 |dK {a:jo} {kvs:List (Key×V)} (e:H a=some (.dK kvs)):ZcD K H (.ref a) (.type "dict")
 |dT {a:jo} {kvs:List (List Key×V)} (e:H a=some (.dT kvs)):ZcD K H (.ref a) (.type "dict")
 |ins {a C dx:jo} {fs:List (Str×V)} (e:H a=some (.ins C dx fs)) (cl:Cls K C) (ha:j0 K (.ref C) "__class__"=some (some (.builtin "object.__class__")))
  (hn:Qab K (.builtin "object.__class__") "__get__"=some (some (.builtin "getset_descriptor.__get__"))) (htk:Qay K (.builtin "object.__class__")=some true)
  (hm:vw K C (.type "object")=some true):ZcD K H (.ref a) (.ref C)
theorem Zgq {x:V} {u t:Value} (I:Inv X Zb σ H s) (rx:ZP x u) (ty:ZcD X.K H x t) (e:jE X.K t c=some b) (h:∀tk,Q (.bool b) {s with toks:=tk}):
 js (ju X.prog X.w) A (call (.builtin "isinstance") [u,c]) Q E s:=by
 cases ty with
 |non=>cases (show u=Qq from rx);exact vy PySem.W.kitx_none I.kIn True.intro e (λz=>nomatch z) h
 |bl y=>cases (show u=VW y from rx);exact vy PySem.W.kitx_bool I.kIn True.intro e (λz=>nomatch z) h
 |int i=>obtain ⟨t,q⟩:=(show ∃t,u=Vc i t from rx);cases q;exact vy PySem.W.kitx_int I.kIn True.intro e (λz=>nomatch z) h
 |str y=>obtain ⟨t,q⟩:=(show ∃t,u=US y t from rx);cases q;exact vy PySem.W.kitx_str I.kIn True.intro e (λz=>nomatch z) h
 |flt y=>obtain ⟨t,q⟩:=(show ∃t,u=Wo y t from rx);cases q;exact vy PySem.W.kitx_float I.kIn True.intro e (λz=>nomatch z) h
 |@lst a xs ea=>
  cases (show u=Value.ref a from rx);obtain ⟨_,_,n,_,h1⟩:=(show za X.prog X.w H s.heap a (.lst xs) from I.hok a _ ea);exact vy kitx_list I.kIn ⟨_,h1,rfl⟩ e (λz=>nomatch z) h
 |@frz a ob xs ea=>
  cases (show u=Value.ref a from rx);obtain ⟨_,_,_,n,_,h1⟩:=(show za X.prog X.w H s.heap a (.frz ob (.lst xs)) from I.hok a _ ea);exact vy kitx_list I.kIn ⟨_,h1,rfl⟩ e (λz=>nomatch z) h
 |@tup a xs ea=>
  cases (show u=Value.ref a from rx);obtain ⟨_,_,_,p⟩:=(show za X.prog X.w H s.heap a (.tup xs) from I.hok a _ ea);obtain ⟨o,h1,h2,_⟩:=p;exact vy PySem.W.kitx_tuple I.kIn ⟨o,h1,h2⟩ e (λz=>nomatch z) h
 |@dK a kvs ea=>
  cases (show u=Value.ref a from rx);obtain ⟨_,_,vs,_,p⟩:=(show za X.prog X.w H s.heap a (.dK kvs) from I.hok a _ ea);obtain ⟨o,es,ep,h1,h2,_⟩:=p;exact vy PySem.W.kitx_dict I.kIn ⟨o,h1,h2.1⟩ e (λz=>nomatch z) h
 |@dT a kvs ea=>exact False.elim (show za X.prog X.w H s.heap a (.dT kvs) from I.hok a _ ea)
 |@ins a C dx fs ea cl ha hn htk hm=>
  cases (show u=Value.ref a from rx);obtain ⟨mA,O,_⟩:=Zeu I.hok ea;obtain ⟨od,J,_⟩:=O.look;exact vy (PySem.W.kitx_own (cl.get _) cl.hd ha hn htk hm) I.kIn J e (λz=>nomatch z) h
end
structure zH (k:Nat) (A:Around):Prop where
 hd:A.handled=none
 dp:A.depth+3 * k+5<recursionLimit
 un:A.units+16 * k+200<cLine
theorem zH.mono {j k:Nat} {A:Around} (r:zH k A) (h:j<=k):zH j A:=⟨r.hd,by have:=r.dp;omega,by have:=r.un;omega⟩
theorem zH.deeper {k:Nat} {A:Around} (r:zH (k+1) A) (env:Env):zH k (A.deeper env):=
 ⟨r.hd,by have:=r.dp;show A.depth+1+3 * k+5<_;omega,by have:=r.un;show A.units+3+16 * k+200<_;omega⟩
theorem Zjo {A:Around} {C:jo} {us:List Value} {kw:List (Str×Value)}:(A.under (.builtin "type.__call__" ⟨.ref C::us,kw⟩)).depth=A.depth+1:=by
 first|rfl|simp [Around.under,Code.weight,Code.isCreation,Code.isGuard,Code.isCaller,Code.frames,Code.isFrame,guardIds]
theorem Zjp {A:Around} {C:jo} {us:List Value} {kw:List (Str×Value)}:(A.under (.builtin "type.__call__" ⟨.ref C::us,kw⟩)).units=A.units+1:=by
 first|rfl|simp [Around.under,Code.cUnits,Code.frames,Code.isFrame]
theorem zH.make {k:Nat} {A:Around} (r:zH (k+1) A) (C:jo) (us:List Value) (kw:List (Str×Value)):zH k (A.under (.builtin "type.__call__" ⟨.ref C::us,kw⟩)):=
 ⟨r.hd,by have:=r.dp;rw [Zjo];omega,by have:=r.un;rw [Zjp];omega⟩
theorem zH.depth {k:Nat} {A:Around} (r:zH k A):A.depth<recursionLimit:=by have:=r.dp;omega
theorem zH.units {k:Nat} {A:Around} (r:zH k A):A.units+64<cLine:=by have:=r.un;omega
noncomputable def ZlU:TA:=λ_ H Q=>Q [] H
noncomputable def ZoE (ta:TE) (tr:TA):TA:=λσ H Q=>ta σ H λx H1=>tr σ H1 λxs H2=>Q (x::xs) H2
section
variable {X:Cx} {e:jL} {es:List jL} {te:TE} {t:TA} {pos:Pos}
theorem Ze:PA X [] ZlU:=λ_ _ _ _ H Q I h=>Calls.spliced_nil ⟨[],H,I,.nil,h⟩
theorem Za (ha:PE X e te) (hr:PA X es t) (hs:jA (e::es) X.env=(false,eval e X.env)::jA es X.env:=by rfl):PA X (e::es) (ZoE te t):=by intro pos Zb s σ H Q I h;rw [hs];show js _ _ (spliced ((false,eval e X.env)::ut pos (jA es X.env))) _ _ s;refine Calls.spliced_cons (thn (ha Zb s σ H _ I h) λu s1 ⟨x,H1,I1,r1,q1⟩=>?_);exact thn (hr pos Zb s1 σ H1 _ I1 q1) λus s2 ⟨xs,H2,I2,r2,q2⟩=>⟨x::xs,H2,I2,.cons r1 r2,q2⟩
noncomputable def Zs3 (t:TA):TE:=λσ H Q=>t σ H λxs H1=>xs.length<=sizeLine/\∀p,H1 p=none->Q (.ref p) (upd H1 p (.tup xs))
noncomputable def ZsZ (t:TA):TE:=λσ H Q=>t σ H λxs H1=>xs.length<=sizeLine/\∀p,H1 p=none->Q (.ref p) (upd H1 p (.lst xs))
theorem ZR {x1} (h:PA X es t):PE X (.Tuple es x1 pos) (Zs3 t):=by intro Zb s σ H Q I hq;refine wpAny_Tuple_spliced (thn (h pos Zb s σ H _ I hq) λus s1 ⟨xs,H1,I1,r,z,q⟩=>⟨by rw [<-r.length];exact z,?_⟩);have hf:H1 s1.heap.objs.size=none:=I1.hok.fresh (Qf _);refine ⟨.ref s1.heap.objs.size,upd H1 s1.heap.objs.size (.tup xs),I1.laid (t':=s1.toks) (λb u e=>Qe _ e) (Qf _) ?_,rfl,q _ hf⟩;exact ⟨z,us,r,⟨_,Qi _ rfl,rfl,_,rfl⟩⟩
theorem JB (h:PA X es t):PE X (.List es pos) (ZsZ t):=by intro Zb s σ H Q I hq;refine wpAny_List_spliced (thn (h pos Zb s σ H _ I hq) λus s1 ⟨xs,H1,I1,r,z,q⟩=>⟨by rw [<-r.length];exact z,?_⟩);have hf:H1 s1.heap.objs.size=none:=I1.hok.fresh (Qf _);refine ⟨.ref s1.heap.objs.size,upd H1 s1.heap.objs.size (.lst xs),I1.laid (t':=s1.toks) (λb u e=>Qe _ e) (Qf _) ?_,rfl,q _ hf⟩;exact ⟨z,us,0,r,Qi _ rfl⟩
end
noncomputable abbrev Sp:=List V->Hp->VK->XK->Prop
noncomputable abbrev CXT:=List Env->Hp->jn->XK->Value->jn->Prop
structure ZeG (P:jx) (w:jG) (K:Qa) (mg:Str->Option Value) (base:Heap) (A:Around) (outer:List Env) (s:jn) (H:Hp):Prop where
 frames:A.frames=some outer
 mod:Mod K mg base
 bs:∀b o,base.get? b=some o->s.heap.get? b=some o/\H b=none
 bsz:base.objs.size<=s.heap.objs.size
 funs:s.heap.FunFrames base outer
 frf:∀b∈frs outer,H b=none
 hok:HOk P w H s.heap
 bare:vA s.gens
noncomputable def CE (outer:List Env) (P:jx) (w:jG) (H:Hp) (s:jn) (Q:VK) (u:Value) (s':jn):Prop:=
 ∃v H',s'.os=s.os/\vA s'.gens/\Un (frs outer) [] H H' s.heap s'.heap/\HOk P w H' s'.heap/\ZP v u/\Q v H'
noncomputable def CR (CX:CXT) (outer:List Env) (P:jx) (w:jG) (H:Hp) (s:jn) (Q:VK) (E:XK) (r:Qav) (s':jn):Prop:=
 match r with
 | .ok (.ret u)=>CE outer P w H s Q u s'
 | .ok _=>False
 | .error e=>CX outer H s E e s'
structure ZQ (P:jx) (w:jG) (K:Qa) (mg:Str->Option Value) (base:Heap) (CX:CXT) (k:Nat) (f:jo) (fd:j9) (ps:List Str) (sp:Sp):Prop where
 len:∀vs H Q E,sp vs H Q E->vs.length=ps.length
 run:∀(A:Around) (outer:List Env) (s:jn) (H:Hp) (args:Args) (us:List Value) (vs:List V) (Q:VK) (E:XK),zH k A->ZeG P w K mg base A outer s H->Qar s fd args (ps.zip us)->ZA vs us->sp vs H Q E->
  u6 (ju P w) A (.call (.ref f) args) (CR CX outer P w H s Q E) s
theorem ZQ.imp {P:jx} {w:jG} {K:Qa} {mg:Str->Option Value} {base:Heap} {CX:CXT} {k:Nat} {f:jo} {fd:j9} {ps:List Str} {sp sp':Sp} (F:ZQ P w K mg base CX k f fd ps sp)
 (h:∀vs H Q E,sp' vs H Q E->sp vs H Q E):ZQ P w K mg base CX k f fd ps sp':=
 ⟨λvs H Q E q=>F.len vs H Q E (h _ _ _ _ q),λA outer s H args us vs Q E hr he hb hv hs=>F.run A outer s H args us vs Q E hr he hb hv (h _ _ _ _ hs)⟩
theorem ZeG.make {P:jx} {w:jG} {K:Qa} {mg:Str->Option Value} {base:Heap} {A:Around} {outer:List Env} {s:jn} {H:Hp} (e:ZeG P w K mg base A outer s H) (C:jo) (us:List Value) (kw:List (Str×Value)):
 ZeG P w K mg base (A.under (.builtin "type.__call__" ⟨.ref C::us,kw⟩)) outer s H:=⟨by first|exact e.frames|(simpa [Around.under,Code.envs,Code.isFrame,pushEnvs] using e.frames),e.mod,e.bs,e.bsz,e.funs,e.frf,e.hok,e.bare⟩
section
variable {X:Cx} {Zb:List (jo×Obj)} {σ:St} {H:Hp} {s s':jn}
theorem Inv.env0 (I:Inv X Zb σ H s):ZeG X.prog X.w X.K X.mg X.base X.A X.stack s H:=
 ⟨I.ok.frames,I.ok.mod,I.bs,QE I.ok.bsz I.sz,I.stack,I.stkFree,I.hok,I.bare⟩
theorem Inv.after {Q:VK} {u:Value} (I:Inv X Zb σ H s) (h:CE X.stack X.prog X.w H s Q u s'):EP X Zb σ Q u s':=by obtain ⟨v,H',os,bare,un,hok,r,q⟩:=h;obtain ⟨hh,g,d,t,os'⟩:=s';obtain rfl:os'=s.os:=os;exact ⟨v,H',I.call (h':=hh) (g':=g) (d':=d) (t':=t) (ch:=[]) un hok bare (λb z=>absurd z (by simp)),r,q⟩
end
noncomputable def ZqK (sp:Sp) (dvs:List V) (E:XK) (t:TA):TE:=λσ H Q=>t σ H λvs H1=>sp (vs++dvs) H1 Q E
noncomputable def ZoJ (C:jo) (m:Str) (sp:Sp) (dvs:List V) (E:XK) (ta:TE) (t:TA):TE:=λσ H Q=>ta σ H λx H1=>∃a dx fs,x=.ref a/\H1 a=some (.ins C dx fs)/\fs.lookup m=none/\
 t σ H1 λvs H2=>sp (x::(vs++dvs)) H2 Q E
noncomputable def ZiT (C:jo) (sp:Sp) (dvs:List V) (E:XK) (t:TA):TE:=λσ H Q=>t σ H λvs H1=>∀x dx,H1 x=none->H1 dx=none->dx≠x->
 sp (.ref x::(vs++dvs)) (upd (upd H1 dx (.own x)) x (.ins C dx [])) (λv H2=>v=.non/\Q (.ref x) H2) E
noncomputable def Jj (K:Qa) (fd:j9) (ps:List Str) (ds:List Value):Prop:=
 ∀(s:jn) (us:List Value),K.In s.heap->(us++ds).length=ps.length->Qar s fd ⟨us,[]⟩ (ps.zip (us++ds))
theorem Jj.all {K:Qa} {fd:j9} {ps:List Str} (h:∀us:List Value,us.length=ps.length->vE fd ⟨us,[]⟩=pure (ps.zip us)):Jj K fd ps []:=λs us _ hl=>by
 rw [vk] at hl ⊢
 exact .of_eq (h us hl)
noncomputable def Zbt (CX:CXT) (X:Cx) (E:XK):Prop:=∀(Zb:List (jo×Obj)) (σ:St) (H:Hp) (s:jn) (e:Value) (s':jn),Inv X Zb σ H s->CX X.stack H s E e s'->X.xe e s'
section
variable {X:Cx} {CX:CXT} {k:Nat} {f C:jo} {fd:j9} {ps:List Str} {sp:Sp} {dvs:List V} {ds:List Value} {E:XK} {x m:Str} {p pos apos:Pos} {e o:jL} {es:List jL} {ta:TE} {t:TA}
theorem ZjI {Zb:List (jo×Obj)} {σ:St} {H:Hp} {s:jn} {Q:VK} {us:List Value} {vs:List V} (F:ZQ X.prog X.w X.K X.mg X.base CX k f fd ps sp) (hr:zH k X.A) (hb:Jj X.K fd ps ds) (hd:ZA dvs ds) (hx:Zbt CX X E)
 (I:Inv X Zb σ H s) (r:ZA vs us) (h:sp (vs++dvs) H Q E):js (ju X.prog X.w) X.A (call (.ref f) us) (EP X Zb σ Q) X.xe s:=by
 have r2:ZA (vs++dvs) (us++ds):=r.append hd;have hl:(us++ds).length=ps.length:=by rw [<-r2.length];exact F.len _ _ _ _ h
 refine uO (ud (F.run X.A X.stack s H ⟨us,[]⟩ (us++ds) (vs++dvs) Q E hr I.env0 (hb s us I.kIn hl) r2 h) λr s' hq=>?_)
 cases r with
 |error e=>exact hx Zb σ H s e s' I hq
 |ok fl=>
  cases fl with
  |ret u=>exact I.after hq
  |next=>exact False.elim hq
  |brk=>exact False.elim hq
  |cont=>exact False.elim hq
theorem ZpI (F:ZQ X.prog X.w X.K X.mg X.base CX k f fd ps sp) (hr:zH k X.A) (hg:Gl X x) (hm:X.mg x=some (.ref f)) (hk:uR X.K (.ref f)=true) (hb:Jj X.K fd ps ds) (hd:ZA dvs ds) (hx:Zbt CX X E)
 (ha:PA X (e::es) t) (hdb:(x==("__debug__":Str))=false:=by decide) (he:jA (e::es) X.env=(false,eval e X.env)::jA es X.env:=by rfl) (hpl:(ut pos (jA es X.env)).any (·.1)=false:=by rfl):
 PE X (.Call (.Name x p) (e::es) [] pos) (ZqK sp dvs E t):=by
 intro Zb s σ H Q I h;refine j4 (Jf I hg hm ?_ hdb);refine vj (h₀:=X.base) I.ok.mod.kin hk (thn (ha pos Zb s σ H _ I h) λus s1 ⟨vs,H1,I1,r,q⟩=>⟨I1.kIn,?_⟩) he hpl;exact ZjI F hr hb hd hx I1 r q
theorem Zn8 (F:ZQ X.prog X.w X.K X.mg X.base CX k f fd ps sp) (hr:zH k X.A) (hg:Gl X x) (hm:X.mg x=some (.ref f)) (hk:uR X.K (.ref f)=true) (hb:Jj X.K fd ps ds) (hd:ZA dvs ds) (hx:Zbt CX X E)
 (hdb:(x==("__debug__":Str))=false:=by decide):PE X (.Call (.Name x p) [] [] pos) (ZqK sp dvs E ZlU):=by
 intro Zb s σ H Q I h;refine j4 (Jf I hg hm ?_ hdb);exact callWith_K0 I.kIn hk (ZjI (us:=[]) F hr hb hd hx I .nil h)
theorem ZpM {pl:Sem Bool} (he:PE X o ta) (c:Cls X.K C) (hm:Zq0 X.K C m f) (F:ZQ X.prog X.w X.K X.mg X.base CX k f fd ps sp) (hr:zH k X.A) (hb:Jj X.K fd ps ds) (hd:ZA dvs ds) (hx:Zbt CX X E) (ha:PA X (e::es) t)
 (hst:jA (e::es) X.env=(false,eval e X.env)::jA es X.env:=by rfl) (hpl:(ut pos (jA es X.env)).any (·.1)=false:=by rfl)
 (ht:eval (.Call (.Attribute o m apos) (e::es) [] pos) X.env=(do
  let ov <-eval o X.env
  standAt apos.atName
  let (f,first) <-vN [ov] (Qat ov m pl)
  callWith pos f first (ut pos (jA (e::es) X.env)) (v6 pos (vq [] X.env))):=by rfl):
 PE X (.Call (.Attribute o m apos) (e::es) [] pos) (ZoJ C m sp dvs E ta t):=by
 intro Zb s σ H Q I h;refine methodCall_KW (pl:=pl) (thn (he Zb s σ H _ I h) λu s1 ⟨x,H1,I1,rx,a,dx,fs,ex,ea,l,q⟩=>?_) ht;subst ex;obtain rfl:u=Value.ref a:=rx;refine Ze3 I1 ea c hm l ?_;refine vj (first:=[.ref a]) (h₀:=X.base) I.ok.mod.kin hm.kp (thn (ha pos Zb s1 σ H1 _ I1 q) λus s2 ⟨vs,H2,I2,r,q2⟩=>⟨I2.kIn,?_⟩) hst hpl;exact ZjI (us:=.ref a::us) (vs:=.ref a::vs) F hr hb hd hx I2 (.cons rfl r) q2
structure Mk (K:Qa) (C f:jo):Prop where
 makes:makesIn K C=true
 init:j0 K (.ref C) "__init__"=some (some (.ref f))
 fn:isFn K (.ref f)=true
 kp:uR K (.ref C)=true
theorem ZiJ {Zb:List (jo×Obj)} {σ:St} {H:Hp} {s:jn} {Q:VK} {us:List Value} {vs:List V} (M:Mk X.K C f) (F:ZQ X.prog X.w X.K X.mg X.base CX k f fd ps sp) (hr:zH (k+1) X.A) (hb:Jj X.K fd ps ds) (hd:ZA dvs ds)
 (hx:Zbt CX X E) (I:Inv X Zb σ H s) (r:ZA vs us)
 (h:∀x dx,H x=none->H dx=none->dx≠x->sp (.ref x::(vs++dvs)) (upd (upd H dx (.own x)) x (.ins C dx [])) (λv H2=>v=.non/\Q (.ref x) H2) E):
 js (ju X.prog X.w) X.A (call (.ref C) us) (EP X Zb σ Q) X.xe s:=by
 have hq:=h (s.heap.objs.size+1) s.heap.objs.size (I.hok.fresh (Va _)) (I.hok.fresh (Qf _)) (Qo (UV _));have I2:=Inv.made (C:=C) I;have r2:ZA (V.ref (s.heap.objs.size+1)::(vs++dvs)) (Value.ref (s.heap.objs.size+1)::(us++ds)):=.cons rfl (r.append hd);have hl:(Value.ref (s.heap.objs.size+1)::us++ds).length=ps.length:=by have e:=r2.length;rw [F.len _ _ _ _ hq] at e;exact e.symm
 refine uO (Zin (f:=f) I.kIn M.makes M.init (beq_iff_eq.mp M.fn) (ud (F.run _ X.stack _ _ ⟨Value.ref (s.heap.objs.size+1)::us,[]⟩ (Value.ref (s.heap.objs.size+1)::(us++ds)) _ _ E (hr.make C us [])
  (I2.env0.make C us []) (hb _ (Value.ref (s.heap.objs.size+1)::us) I2.kIn hl) r2 hq) λr s' hq'=>?_))
 cases r with
 |error e=>exact hx Zb σ _ _ e s' I2 hq'
 |ok fl=>
  cases fl with
  |ret u=>
   obtain ⟨v,H',I3,rv,ev,q3⟩:=I2.after hq';subst ev;exact ⟨rv,⟨V.ref (s.heap.objs.size+1),H',I3,rfl,q3⟩⟩
  |next=>exact False.elim hq'
  |brk=>exact False.elim hq'
  |cont=>exact False.elim hq'
theorem ZpK (M:Mk X.K C f) (F:ZQ X.prog X.w X.K X.mg X.base CX k f fd ps sp) (hr:zH (k+1) X.A) (hg:Gl X x) (hm:X.mg x=some (.ref C)) (hb:Jj X.K fd ps ds) (hd:ZA dvs ds) (hx:Zbt CX X E)
 (ha:PA X (e::es) t) (hdb:(x==("__debug__":Str))=false:=by decide) (he:jA (e::es) X.env=(false,eval e X.env)::jA es X.env:=by rfl) (hpl:(ut pos (jA es X.env)).any (·.1)=false:=by rfl):
 PE X (.Call (.Name x p) (e::es) [] pos) (ZiT C sp dvs E t):=by
 intro Zb s σ H Q I h;refine j4 (Jf I hg hm ?_ hdb);refine vj (h₀:=X.base) I.ok.mod.kin M.kp (thn (ha pos Zb s σ H _ I h) λus s1 ⟨vs,H1,I1,r,q⟩=>⟨I1.kIn,?_⟩) he hpl;exact ZiJ M F hr hb hd hx I1 r q
theorem Zoe (M:Mk X.K C f) (F:ZQ X.prog X.w X.K X.mg X.base CX k f fd ps sp) (hr:zH (k+1) X.A) (hg:Gl X x) (hm:X.mg x=some (.ref C)) (hb:Jj X.K fd ps ds) (hd:ZA dvs ds) (hx:Zbt CX X E)
 (hdb:(x==("__debug__":Str))=false:=by decide):PE X (.Call (.Name x p) [] [] pos) (ZiT C sp dvs E ZlU):=by
 intro Zb s σ H Q I h;refine j4 (Jf I hg hm ?_ hdb);exact callWith_K0 I.kIn M.kp (ZiJ (us:=[]) M F hr hb hd hx I .nil h)
end
structure Zv (N P:List Str) (sc:Scope):Prop where
 kind:sc.kind=.function
 co:sc.isCoroutine=false
 gen:sc.isGenerator=false
 nd:N.Nodup
 pre:N.take P.length=P
 par:∀x∈P,sc.names.lookup x=some .local\/sc.names.lookup x=some .cell
 nofree:∀y∈sc.names,y.2≠ .free
theorem Zgf {kindOf:Str->Option vL} {x:Str}:∀{binds:List (Str×Value)} {m:Str->Option Value},(∀v,(x,v)∉binds)->bindL kindOf binds m x=m x
 |[],_,_=>rfl
 |(n,v)::r,m,h=>by
  unfold bindL;rw [Zgf λw hw=>h w (jM _ hw)];split
  ·have:x≠n:=by rintro rfl;exact h v jY
   simp [this]
  ·rfl
theorem Zgd {kindOf:Str->Option vL} {x:Str}:∀{binds:List (Str×Value)} {m:Str->Option Value},(∀v,(x,v)∉binds)->bindC kindOf binds m x=m x
 |[],_,_=>rfl
 |(n,v)::r,m,h=>by
  unfold bindC;rw [Zgd λw hw=>h w (jM _ hw)];split
  ·rfl
  ·have:x≠n:=by rintro rfl;exact h v jY
   simp [this]
theorem Zge {kindOf:Str->Option vL} {x:Str} {v:Value}:∀{P:List Str} {vs:List Value} {i:Nat} {m:Str->Option Value},P.Nodup->P[i]?=some x->vs[i]?=some v->kindOf x=some .local->
 bindL kindOf (P.zip vs) m x=some v
 |[],_,_,_,_,h,_,_=>by simp at h
 |_::_,[],_,_,_,_,h,_=>by simp at h
 |p::P,w::vs,0,m,nd,h1,h2,hk=>by simp at h1 h2;subst h1;subst h2;show bindL kindOf ((p,w)::P.zip vs) m p=_;unfold bindL;rw [Zgf λv hv=>(Uu.mp nd).1 (Vn hv).1,if_pos hk];simp
 |p::P,w::vs,i+1,m,nd,h1,h2,hk=>by show bindL kindOf ((p,w)::P.zip vs) m x=_;unfold bindL;exact Zge (i:=i) (Uu.mp nd).2 (by simpa using h1) (by simpa using h2) hk
theorem Zgc {kindOf:Str->Option vL} {x:Str} {v:Value}:∀{P:List Str} {vs:List Value} {i:Nat} {m:Str->Option Value},P.Nodup->P[i]?=some x->vs[i]?=some v->kindOf x≠some .local->
 bindC kindOf (P.zip vs) m x=some v
 |[],_,_,_,_,h,_,_=>by simp at h
 |_::_,[],_,_,_,_,h,_=>by simp at h
 |p::P,w::vs,0,m,nd,h1,h2,hk=>by simp at h1 h2;subst h1;subst h2;show bindC kindOf ((p,w)::P.zip vs) m p=_;unfold bindC;rw [Zgd λv hv=>(Uu.mp nd).1 (Vn hv).1,if_neg hk];simp
 |p::P,w::vs,i+1,m,nd,h1,h2,hk=>by show bindC kindOf ((p,w)::P.zip vs) m x=_;unfold bindC;exact Zgc (i:=i) (Uu.mp nd).2 (by simpa using h1) (by simpa using h2) hk
noncomputable def qh (N:List Str) (vs:List V):St:=vs.map some++Qv (N.length-vs.length) none
noncomputable def Jm (CX:CXT) (P:jx) (w:jG) (K:Qa) (mg:Str->Option Value) (base:Heap) (N:List Str) (qual:Str) (scope:Scope) (f:jo) (cd:Value) (A:Around) (outer:List Env) (s:jn) (H:Hp) (E:XK):Cx where
 prog:=P
 w:=w
 K:=K
 mg:=mg
 base:=base
 A:=A.deeper (uk qual scope s.heap.objs.size f cd)
 N:=N
 s₀:=s
 H₀:=H
 env:=uk qual scope s.heap.objs.size f cd
 outer:=outer
 stack:=uk qual scope s.heap.objs.size f cd::outer
 ex:=[]
 calm:=true
 fn:=λ_=>true
 pn:=[]
 xe:=λe s'=>js (ju P w) (A.deeper (uk qual scope s.heap.objs.size f cd)) (leaving (uk qual scope s.heap.objs.size f cd) e) (λ_ s''=>CX outer H s E e s'') (λe' s''=>CX outer H s E e' s'') s'
theorem ZhT {sc:Scope} {n:Nat} {x:Str} (h:sc.names.lookup x=some .cell):∃c,(cellsFrom n sc.names []).lookup x=some c:=by have q:=QaK sc.names n [] (.inl h);exact U6.mp q
theorem Zgp {CX:CXT} {P:jx} {w:jG} {K:Qa} {mg:Str->Option Value} {base:Heap} {N ps:List Str} {qual:Str} {scope:Scope} {f:jo} {cd:Value} {A:Around} {outer:List Env} {s s1:jn} {H:Hp} {E:XK} {us:List Value} {vs:List V}
 (S:Zv N ps scope) (hd:A.handled=none) (e0:ZeG P w K mg base A outer s H) (hl:vs.length=ps.length) (r:ZA vs us)
 (x:InCallC s s.heap.objs.size (bindL (uk qual scope s.heap.objs.size f cd).kindOf (ps.zip us) λ_=>none) (cellsFrom (s.heap.objs.size+1) scope.names []) (bindC (uk qual scope s.heap.objs.size f cd).kindOf (ps.zip us) λ_=>none) s1):
 Inv (Jm CX P w K mg base N qual scope f cd A outer s H E) [] (qh N vs) H s1:=by
 have hpl:ps.length<=N.length:=by have:=congrArg Ui S.pre;rw [jF] at this;omega
 obtain ⟨h1,tk,rfl,hk⟩:=x.done;have noA:∀b:jo,b∉(Jm CX P w K mg base N qual scope f cd A outer s H E).ex:=λb z=>absurd (show b∈([]:List jo) from z) (by simp)
 refine ⟨⟨e0.mod,S.kind,rfl,rfl,Qf _,λy z c h1 h2=>?_,λy hy=>?_,λy c _ h=>?_,λ_=>hd,Around.frames_deeper e0.frames,.inr ⟨rfl,rfl⟩,λb z=>absurd z (noA b),e0.bs,e0.bsz,λb _ _=>noA b,λb z=>absurd z (noA b),e0.funs,e0.frf⟩,
  rfl,e0.bare,Un.kept hk,⟨_,x.toInCall.ns,λi y v h1 h2 h3=>?_⟩,λy c h=>⟨_,x.cell y c h⟩,e0.hok.fresh (Qf _),λy c h=>?_,λp hp=>absurd (show p∈([]:List (jo×Obj)) from hp) (by simp),e0.hok.kept hk,?_⟩
 ·exact name_of_addr x.apart (PySem.mem_of_lookup h1) (PySem.mem_of_lookup h2)
 ·have hy:scope.names.lookup y=some .cell\/scope.names.lookup y=some .free:=hy;rcases hy with hy|hy
  ·exact ZhT hy
  ·exact absurd rfl (S.nofree _ (PySem.mem_of_lookup hy))
 ·exact QT (x.above y c (PySem.mem_of_lookup h))
 ·have hi:i<vs.length:=by
   unfold qh at h2;by_cases hi:i<vs.length
   ·exact hi
   ·rw [Qt (by simpa using hi)] at h2;rw [Vg] at h2;split at h2<;>cases h2
  have ha:vs[i]?=some v:=by
   unfold qh at h2;rw [QA (by simpa using hi),Qh] at h2
   cases e:vs[i]? with
   |none=>rw [e] at h2;cases h2
   |some a=>rw [e] at h2;cases h2;rfl
  obtain ⟨u,hu,rv⟩:=r.get ha;have hp:ps[i]?=some y:=by rw [<-S.pre,We (by omega)];exact h1
  have ndP:ps.Nodup:=by rw [<-S.pre];exact S.nd.sublist (Uz _ _)
  refine ⟨u,rv,?_⟩;rcases S.par y (QF hp) with k|k
  ·exact .inl ⟨k,Zge ndP hp hu k⟩
  ·obtain ⟨c,e⟩:=ZhT (n:=s.heap.objs.size+1) k;refine .inr ⟨.inl k,c,e,?_⟩;have q:=x.cell y c e;rw [Zgc ndP hp hu (by show scope.names.lookup y≠_;rw [k];decide)] at q;exact q
 ·exact e0.hok.fresh (QT (x.above y c (PySem.mem_of_lookup h)))
 ·unfold qh;show _=N.length;rw [jv,jr,uZ];omega
theorem Zh5 {CX:CXT} {P:jx} {w:jG} {K:Qa} {mg:Str->Option Value} {base:Heap} {k:Nat} {f:jo} {name qual:Str} {params:Arguments} {body:List Stmt} {scope:Scope} {dV kV doc pm cdv ct oc:Value} {an od:Option jo}
 {osl:Array (Option Value)} {N ps:List Str} {sp:Sp} (lk:K.lookup f=some ⟨oc,od,.func (vI name qual params body scope dV kV doc pm an cdv ct),osl⟩) (hcd:vF K cdv qual=true) (S:Zv N ps scope)
 (len:∀vs H Q E,sp vs H Q E->vs.length=ps.length)
 (hbody:∀(A:Around) (outer:List Env) (s:jn) (H:Hp) (vs:List V) (Q:VK) (E:XK),zH k (A.deeper (uk qual scope s.heap.objs.size f cdv))->sp vs H Q E->
  ∃t,PSs (Jm CX P w K mg base N qual scope f cdv A outer s H E) body t/\t {nx:=λ_ H'=>Q .non H',rt:=Q} (qh N vs) H):
 ZQ P w K mg base CX (k+1) f (vI name qual params body scope dV kV doc pm an cdv ct) ps sp:=by
 refine ⟨len,λA outer s H args us vs Q E hr e0 hb r hsp=>?_⟩;have hl:=len _ _ _ _ hsp;have KX:K.In s.heap:=e0.mod.kin.keeps λb o e=>(e0.bs b o e).1;have lim:s.heap.NoLimit:=e0.mod.nolimit.keeps λb o e=>(e0.bs b o e).1
 have hkind:∀y∈ps.zip us,scope.names.lookup y.1=some .local\/(scope.names.lookup y.1=some .cell/\((cellsFrom (s.heap.objs.size+1) scope.names []).lookup y.1).isSome=true):=λ⟨n,v⟩ hy=>by
  rcases S.par n (Vn hy).1 with q|q
  ·exact .inl q
  ·exact .inr ⟨q,QaK _ _ _ (.inl q)⟩
 refine codeAny_call_function hr.depth (KX _ _ lk) rfl S.co S.gen rfl (codeRec_of KX hcd) (hb _ _ _ _ ?_);refine QaD S.kind hkind λenv he s1 x=>?_;subst he;refine ⟨lim.keeps x.toInCall.keep,codeAny_func ?_⟩;obtain ⟨t,ht,hq⟩:=hbody A outer s H vs Q E (hr.deeper _) hsp;have I:Inv (Jm CX P w K mg base N qual scope f cdv A outer s H E) [] (qh N vs) H s1:=Zgp S hr.hd e0 hl r x;refine jW (ht [] s1 (qh N vs) H _ I hq) (λfl s' hs=>?_) λe s' hs=>hs
 have fin:∀{σ':St} {H':Hp} {v:V} {u:Value},Inv (Jm CX P w K mg base N qual scope f cdv A outer s H E) [] σ' H' s'->ZP v u->Q v H'->CE outer P w H s Q u s':=
  λ{σ' H' v u} J rv q=>⟨v,H',J.os,J.bare,J.base,J.hok,rv,q⟩
 cases fl with
 |ret u=>
  obtain ⟨v,σ',H',J,rv,q⟩:=hs;exact fin J rv q
 |next=>
  obtain ⟨σ',H',J,q⟩:=hs;exact fin (v:=V.non) (u:=Qq) J rfl q
 |brk=>
  obtain ⟨_,_,_,q⟩:=hs;exact False.elim q
 |cont=>
  obtain ⟨_,_,_,q⟩:=hs;exact False.elim q
section
variable {X:Cx} {x:Str} {p pos:Pos} {e:jL} {es:List jL} {t:TA} {id T:String} {r:List V->Hp->VK->Prop}
noncomputable def tCB (r:List V->Hp->VK->Prop) (t:TA):TE:=λσ H Q=>t σ H λvs H1=>r vs H1 Q
theorem ZC (hc:qk X (.builtin id) r) (hg:Gl X x) (hm:X.mg x=none) (hv:jT x=some (.builtin id)) (ha:PA X (e::es) t) (hn:x≠"__name__":=by decide) (hdb:(x==("__debug__":Str))=false:=by decide)
 (he:jA (e::es) X.env=(false,eval e X.env)::jA es X.env:=by rfl) (hpl:(ut pos (jA es X.env)).any (·.1)=false:=by rfl):PE X (.Call (.Name x p) (e::es) [] pos) (tCB r t):=by
 intro Zb s σ H Q I h;refine j4 (Zav I hg hm hv ?_ hn hdb);exact PyProof.Rows.callWith_builtin1 (thn (ha pos Zb s σ H _ I h) λus s1 ⟨vs,H1,I1,r1,q1⟩=>hc Zb s1 σ H1 vs us Q I1 r1 q1) he hpl
theorem zQ (hc:qk X (.type T) r) (hg:Gl X x) (hm:X.mg x=none) (hv:jT x=some (.type T)) (ha:PA X (e::es) t) (hn:x≠"__name__":=by decide) (hdb:(x==("__debug__":Str))=false:=by decide)
 (he:jA (e::es) X.env=(false,eval e X.env)::jA es X.env:=by rfl) (hpl:(ut pos (jA es X.env)).any (·.1)=false:=by rfl):PE X (.Call (.Name x p) (e::es) [] pos) (tCB r t):=by
 intro Zb s σ H Q I h;refine j4 (Zav I hg hm hv ?_ hn hdb);exact PyProof.Rows.callWith_type1 (thn (ha pos Zb s σ H _ I h) λus s1 ⟨vs,H1,I1,r1,q1⟩=>hc Zb s1 σ H1 vs us Q I1 r1 q1) he hpl
end
end L2
namespace HT
open PySem PyProof.Rows
section
variable {prog:jx} {w:jG} {A:Around} {E:Value->jn->Prop} {s:jn}
noncomputable def sIx (n d:Nat):Option Int->Nat
 |none=>d
 |some v=>if v<0 then (v+(n:Int)).toNat else min v.toNat n
theorem Zoy (n d:Nat) (hd:d<=n) (o:Option Int):sIx n d o<=n:=by
 cases o with
 |none=>exact hd
 |some v=>
  show (if v<0 then (v+(n:Int)).toNat else min v.toNat n)<=n;by_cases hv:v<0
  ·rw [if_pos hv];omega
  ·rw [if_neg hv];exact Nat.min_le_right _ _
end
end HT
namespace L2
open PySem PySem.Spec PyProof.Rows
noncomputable abbrev TO:=St->Hp->(Option Int->Hp->Prop)->Prop
noncomputable def PO (X:Cx) (e:Option jL) (t:TO):Prop:=
 ∀(Zb:List (jo×Obj)) (s:jn) (σ:St) (H:Hp) (Q:Option Int->Hp->Prop),Inv X Zb σ H s->t σ H Q->
  js (ju X.prog X.w) X.A (evalPart e X.env) (λu s'=>∃o H',Inv X Zb σ H' s'/\IsPart u o/\Q o H') X.xe s
noncomputable def ZhC:TO:=λ_ H Q=>Q none H
noncomputable def ZuF (t:TE):TO:=λσ H Q=>t σ H λx H1=>∃i,x=.int i/\Q (some i) H1
section
variable {X:Cx} {e:jL} {te:TE} {lo hi:Option jL} {tl th:TO} {pos p2:Pos}
theorem YL:PO X none ZhC:=by intro Zb s σ H Q I h;rw [evalPart_none];exact jq ⟨none,H,I,.none,h⟩
theorem ZpQ (h:PE X e te):PO X (some e) (ZuF te):=by intro Zb s σ H Q I hw;rw [evalPart_some];refine thn (h Zb s σ H _ I hw) λu s1 ⟨x,H1,I1,r1,q1⟩=>?_;obtain ⟨i,rfl,q⟩:=q1;obtain ⟨t,rfl⟩:=r1;exact ⟨some i,H1,I1,.int i t,q⟩
noncomputable def SlR (X:Cx) (r:V->Option Int->Option Int->Hp->VK->Prop):Prop:=
 ∀(Zb:List (jo×Obj)) (s:jn) (σ:St) (H:Hp) (x:V) (v vl vu:Value) (lo hi:Option Int) (sl:jo) (Q:VK),Inv X Zb σ H s->ZP x v->s.heap.IsSliceOf sl vl vu .none->IsPart vl lo->IsPart vu hi->r x lo hi H Q->
  ∃T id,vM (.type T) "__getitem__"=pure (some (.builtin id))/\s.TypeIs v T/\js (ju X.prog X.w) X.A (QaA v (.ref sl)) (EP X Zb σ Q) X.xe s
noncomputable def tSl (r:V->Option Int->Option Int->Hp->VK->Prop) (te:TE) (tl th:TO):TE:=λσ H Q=>te σ H λx H1=>tl σ H1 λl H2=>th σ H2 λu H3=>r x l u H3 Q
theorem zE {r:V->Option Int->Option Int->Hp->VK->Prop} (hr:SlR X r) (he:PE X e te) (hl:PO X lo tl) (hu:PO X hi th):PE X (.Subscript e (.Slice lo hi none p2) pos) (tSl r te tl th):=by intro Zb s σ H Q I h;refine Subscript_ (thn (he Zb s σ H _ I h) λv s1 ⟨x,H1,I1,r1,q1⟩=>?_);refine wpAny_Slice (thn (hl Zb s1 σ H1 _ I1 q1) λvl s2 ⟨l,H2,I2,pl,q2⟩=>thn (hu Zb s2 σ H2 _ I2 q2) λvu s3 ⟨u,H3,I3,pu,q3⟩=>?_);rw [evalPart_none];refine jq ?_;have I4:Inv X Zb σ H3 {s3 with heap:=s3.heap.push {cls:=.type "slice",data:=.fields #[vl,vu,.none]} }:=I3.kept (t':=s3.toks) λb ob q=>Qe _ q;obtain ⟨T,id,hT,ht,hg⟩:=hr Zb {s3 with heap:=s3.heap.push {cls:=.type "slice",data:=.fields #[vl,vu,.none]} } σ H3 x v vl vu l u s3.heap.objs.size Q I4 r1 (Heap.IsSliceOf.new ..) pl pu q3;show js (ju X.prog X.w) X.A (subscriptTail e (.Slice lo hi none p2) v (.ref s3.heap.objs.size)) (EP X Zb σ Q) X.xe {s3 with heap:=s3.heap.push {cls:=.type "slice",data:=.fields #[vl,vu,.none]} };exact tail_any (ops:=[.ref s3.heap.objs.size,v]) ht hT hg (by with_unfolding_all rfl)
noncomputable def Zpc (xs:List V) (lo hi:Option Int):List V:=(xs.drop (HT.sIx xs.length 0 lo)).take (HT.sIx xs.length xs.length hi-HT.sIx xs.length 0 lo)
theorem ZhX (xs:List V) (lo hi:Option Int):(Zpc xs lo hi).length<=xs.length:=by unfold Zpc;rw [jF,jO];omega
end
noncomputable def ixN (n:Nat) (i:Int):Option Nat:=if 0<=i then (if i<n then some i.toNat else none) else if -(n:Int)<=i then some (i+n).toNat else none
noncomputable def atI {α:Type} (xs:List α) (i:Int):Option α:=(ixN xs.length i).bind λj=>xs[j]?
theorem Zpu {n:Nat} {i:Int} {j:Nat} (h:ixN n i=some j):seqIndex? i n=some j/\j<n/\ -(n:Int)<=i/\i<n:=by
 unfold ixN at h;by_cases h0:0<=i
 ·rw [if_pos h0] at h;by_cases h1:i<n
  ·rw [if_pos h1] at h;have e:i.toNat=j:=Option.some.inj h;exact ⟨by rw [seqIndex_of h0 h1,e],by omega,by omega,h1⟩
  ·rw [if_neg h1] at h;cases h
 ·rw [if_neg h0] at h;by_cases h1: -(n:Int)<=i
  ·rw [if_pos h1] at h;have e:(i+n).toNat=j:=Option.some.inj h;exact ⟨by rw [seqIndex_neg (by omega) h1,e],by omega,h1,by omega⟩
  ·rw [if_neg h1] at h;cases h
theorem ZgO {α:Type} {xs:List α} {i:Int} {v:α} (h:atI xs i=some v):∃j,seqIndex? i xs.length=some j/\xs[j]?=some v/\j<xs.length/\ -(xs.length:Int)<=i/\i<xs.length:=by
 unfold atI at h
 cases e:ixN xs.length i with
 |none=>rw [e] at h;cases h
 |some j=>
  rw [e] at h;obtain ⟨h1,h2,h3,h4⟩:=Zpu e;exact ⟨j,h1,h,h2,h3,h4⟩
noncomputable def Zj6 (b:jL):Prop:=∀o i,Qaw b false o i=operate [o,i] (QaA o i)
noncomputable def IxR (X:Cx) (r:R2):Prop:=
 ∀(value slice:jL) (Zb:List (jo×Obj)) (s:jn) (σ:St) (H:Hp) (x y:V) (v u:Value) (Q:VK),Inv X Zb σ H s->ZP x v->ZP y u->r x y H Q->
  Qaw slice false v u=operate [v,u] (QaA v u)->js (ju X.prog X.w) X.A (subscriptTail value slice v u) (EP X Zb σ Q) X.xe s
noncomputable def MtR (X:Cx) (id:String) (r:V->List V->Hp->VK->Prop):Prop:=
 ∀(Zb:List (jo×Obj)) (s:jn) (σ:St) (H:Hp) (x:V) (xs:List V) (v:Value) (us:List Value) (Q:VK),Inv X Zb σ H s->ZP x v->ZA xs us->r x xs H Q->
  js (ju X.prog X.w) X.A (call (.builtin id) (v::us)) (EP X Zb σ Q) X.xe s
section
variable {X:Cx} {a b:jL} {ta tb:TE} {pos:Pos}
theorem Z9 {r:R2} (hr:IxR X r) (ha:PE X a ta) (hb:PE X b tb) (hs:Zj6 b):PE X (.Subscript a b pos) (tOp r ta tb):=by intro Zb s σ H Q I h;exact Subscript_ (Zra ha hb I h λv u s2 x y H2 I2 rx ry q=>hr a b Zb s2 σ H2 x y v u Q I2 rx ry q (hs _ _))
noncomputable def Zu9 (K:Qa):R2:=λx y H Q=>∃p xs i v,x=.ref p/\y=.int i/\SqL K H p xs/\atI xs i=some v/\Q v H
noncomputable def Zvb (K:Qa):R2:=λx y H Q=>∃p xs i v,x=.ref p/\y=.int i/\SqT K H p xs/\atI xs i=some v/\Q v H
noncomputable def Zva:R2:=λx y H Q=>∃z i c,x=.str z/\y=.int i/\z.length<=sizeLine/\atI z.cps.toList i=some c/\Q (.str ⟨#[c]⟩) H
theorem Zpv:IxR X (Zu9 X.K):=by
 intro value slice Zb s σ H x y v u Q I rx ry h hs;obtain ⟨p,xs,i,z,rfl,rfl,hq,he,q⟩:=h;cases rx;obtain ⟨t,rfl⟩:=ry;obtain ⟨its,r,pl,hz⟩:=I.list hq;obtain ⟨j,h1,h2,h3,h4,h5⟩:=ZgO he;obtain ⟨w,ew,rw'⟩:=r.get h2;have hl:=r.length;have hn:=Zcp;have fin:EP X Zb σ Q w s:=⟨z,H,I,rw',q⟩;by_cases h0:0<=i
 ·have hj:i.toNat=j:=by rw [seqIndex_of h0 h5] at h1;exact Option.some.inj h1
  exact item_listR pl.isList h0 (by omega) (by rw [hj];simpa using ew) fin hs
 ·have hj:(i+(its.toArray.size:Int)).toNat=j:=by rw [seqIndex_neg (by omega) h4] at h1;rw [jI,<-hl];exact Option.some.inj h1
  exact subscriptTail_builtinR (x:=w) pl.isList.typeIs slot_list_getitem.lookup
   (wpAny_getItem_list_neg (Q:=λr s'=>r=w/\EP X Zb σ Q r s') pl.isList (by omega) (by rw [jI]<;>omega) (by omega) (by rw [hj];simpa using ew) ⟨rfl,fin⟩) hs
theorem ZrG:IxR X (Zvb X.K):=by
 intro value slice Zb s σ H x y v u Q I rx ry h hs;obtain ⟨p,xs,i,z,rfl,rfl,hq,he,q⟩:=h;cases rx;obtain ⟨t,rfl⟩:=ry;obtain ⟨its,r,pl,hz⟩:=I.tuple hq;obtain ⟨j,h1,h2,h3,h4,h5⟩:=ZgO he;obtain ⟨w,ew,rw'⟩:=r.get h2;have hl:=r.length;have hn:=Zcp;have fin:EP X Zb σ Q w s:=⟨z,H,I,rw',q⟩
 exact subscriptTail_builtinR (x:=w) pl.typeIs slot_tuple_getitem.lookup
  (getItem_tuple (j:=j) (Q:=λr s'=>r=w/\EP X Zb σ Q r s') pl (by omega) (by omega) (by rw [jI,<-hl];exact h1) (by simpa using ew) ⟨rfl,fin⟩) hs
theorem ZrF:IxR X Zva:=by
 intro value slice Zb s σ H x y v u Q I rx ry h hs;obtain ⟨z,i,c,rfl,rfl,hz,he,q⟩:=h;obtain ⟨t,rfl⟩:=rx;obtain ⟨t',rfl⟩:=ry;obtain ⟨j,h1,h2,h3,h4,h5⟩:=ZgO he;have hl:z.cps.toList.length=z.length:=by simp [VD]
 rw [hl] at h1 h4 h5;have hn:=Zcp
 exact tail_any (ui s z t) slot_str_getitem.lookup (getItem_str (c:=c) (by
  have e1:decide (i < -(2 ^ 63:Int))=false:=decide_eq_false (by omega);have e2:decide (i ≥ 2 ^ 63)=false:=decide_eq_false (by omega);rw [e1,e2,Wf]) (by rw [h1];simpa using h2) ⟨.str ⟨#[c]⟩,H,I.tok _,⟨_,rfl⟩,q⟩) hs
theorem Zhx (lo hi:Option Int) (n:Nat):(vp lo hi none n).1=((HT.sIx n 0 lo:Nat):Int)/\(vp lo hi none n).2.1=((HT.sIx n n hi:Nat):Int)/\(vp lo hi none n).2.2=1:=by
 refine ⟨?_,?_,rfl⟩
 ·cases lo with
  |none=>simp [vp,HT.sIx]
  |some i=>
   simp only [vp,HT.sIx,WH,show (1:Int)>0 by decide,if_true];by_cases h:i<0
   ·simp only [h,if_true]<;>omega
   ·simp only [h,if_false]<;>omega
 ·cases hi with
  |none=>simp [vp,HT.sIx]
  |some i=>
   simp only [vp,HT.sIx,WH,show (1:Int)>0 by decide,if_true];by_cases h:i<0
   ·simp only [h,if_true]<;>omega
   ·simp only [h,if_false]<;>omega
theorem Zf9 (its:List Value) (lo hi:Option Int):slicePick its.toArray lo hi none=((its.drop (HT.sIx its.length 0 lo)).take (HT.sIx its.length its.length hi-HT.sIx its.length 0 lo)).toArray:=by obtain ⟨h1,h2,h3⟩:=Zhx lo hi its.toArray.size;unfold slicePick;rw [h1,h2,h3];simp only [sliceRange_one,pick_run,jI]<;>rfl
noncomputable def Zvc (K:Qa):V->Option Int->Option Int->Hp->VK->Prop:=λx lo hi H Q=>∃a xs,x=.ref a/\SqL K H a xs/\∀p,H p=none->Q (.ref p) (upd H p (.lst (Zpc xs lo hi)))
theorem Zp9:SlR X (Zvc X.K):=by intro Zb s σ H x v vl vu lo hi sl Q I rx hs pl pu h;obtain ⟨a,xs,rfl,hx,q⟩:=h;cases rx;obtain ⟨its,r,ht,hz⟩:=I.list hx;have hlen:=r.length;refine ⟨"list",_,slot_list_getitem.lookup,ht.isList.typeIs,?_⟩;refine wpAny_getItem_list_slice ht.isList hs pl pu .none (by simp) ?_ (by rw [jI]<;>omega);rw [Zf9,<-hlen];refine ⟨.ref s.heap.objs.size,_,I.laid (t':=s.toks) (o:=.lst (Zpc xs lo hi)) (λb ob q=>Qe _ q) (Qf _) ?_,rfl,q _ (I.hok.fresh (Qf _))⟩;exact ⟨QE (ZhX xs lo hi) hz,_,0,(r.drop (HT.sIx xs.length 0 lo)).take (HT.sIx xs.length xs.length hi-HT.sIx xs.length 0 lo),Qi _ rfl⟩
noncomputable def JO:V->Bool
 | .non=>true
 | .bl _=>true
 | .int _=>true
 | .str _=>true
 |_=>false
noncomputable def eqV:V->V->Bool
 | .non,.non=>true
 | .bl a,.bl b=>a==b
 | .bl a,.int b=>(if a then 1 else 0)==b
 | .int a,.bl b=>a==(if b then 1 else 0)
 | .int a,.int b=>a==b
 | .str a,.str b=>a==b
 |_,_=>false
theorem Zm7 {A:Around} {s:jn} {y x:V} {u v:Value} (ry:ZP y u) (rx:ZP x v) (fy:JO y=true) (fx:JO x=true):SeqAt.EqAt A s u v (eqV y x):=by
 cases y with
 |non=>
  cases ry
  cases x with
  |non=>cases rx;exact SeqAt.EqAt.same _
  |bl b=>cases rx;exact SeqAt.EqAt.none_bool b
  |int b=>obtain ⟨t,rfl⟩:=rx;exact SeqAt.EqAt.none_int b t
  |str b=>obtain ⟨t,rfl⟩:=rx;exact SeqAt.EqAt.none_str b t
  |_=>exact absurd (show false=true from fx) Qg
 |bl a=>
  cases ry
  cases x with
  |non=>cases rx;exact SeqAt.EqAt.bool_none a
  |bl b=>cases rx;exact SeqAt.EqAt.bool_bool a b
  |int b=>obtain ⟨t,rfl⟩:=rx;exact SeqAt.EqAt.bool_int a b t
  |str b=>obtain ⟨t,rfl⟩:=rx;exact SeqAt.EqAt.bool_str a b t
  |_=>exact absurd (show false=true from fx) Qg
 |int a=>
  obtain ⟨t',rfl⟩:=ry
  cases x with
  |non=>cases rx;exact SeqAt.EqAt.int_none a t'
  |bl b=>cases rx;exact SeqAt.EqAt.int_bool a t' b
  |int b=>obtain ⟨t,rfl⟩:=rx;exact SeqAt.EqAt.int_int a t' b t
  |str b=>obtain ⟨t,rfl⟩:=rx;exact SeqAt.EqAt.int_str a t' b t
  |_=>exact absurd (show false=true from fx) Qg
 |str a=>
  obtain ⟨t',rfl⟩:=ry
  cases x with
  |non=>cases rx;exact SeqAt.EqAt.str_none a t'
  |bl b=>cases rx;exact SeqAt.EqAt.str_bool a t' b
  |int b=>obtain ⟨t,rfl⟩:=rx;exact SeqAt.EqAt.str_int a t' b t
  |str b=>obtain ⟨t,rfl⟩:=rx;exact SeqAt.EqAt.str_str a t' b t
  |_=>exact absurd (show false=true from fx) Qg
 |_=>exact absurd (show false=true from fy) Qg
noncomputable def eqU (x:V) (u:Value):Bool:=match u with
 | .none=>eqV .non x
 | .bool b=>eqV (.bl b) x
 | .int i _=>eqV (.int i) x
 | .str z _=>eqV (.str z) x
 |_=>false
theorem Zm8 {x y:V} {u:Value} (r:ZP y u) (f:JO y=true):eqU x u=eqV y x:=by
 cases y with
 |non=>cases r;rfl
 |bl b=>cases r;rfl
 |int i=>obtain ⟨t,rfl⟩:=r;rfl
 |str z=>obtain ⟨t,rfl⟩:=r;rfl
 |_=>exact absurd (show false=true from f) Qg
theorem ZgN {x:V}:∀{xs:List V} {us:List Value},ZA xs us->xs.all JO=true->us.any (eqU x)=xs.any λy=>eqV y x
 |_,_,.nil,_=>rfl
 |y::xs,u::us,.cons r t,f=>by rw [W6,QM] at f;rw [Vb,Vb,Zm8 r f.1,ZgN t f.2]
theorem Zfe {A:Around} {s:jn} {x:V} {v:Value} (rx:ZP x v) (fx:JO x=true):∀{xs:List V} {us:List Value},ZA xs us->xs.all JO=true->∀u∈us,SeqAt.EqAt A s u v (eqU x u)
 |_,_,.nil,_=>λu hu=>by cases hu
 |y::xs,u::us,.cons r t,f=>λu' hu=>by
  rw [W6,QM] at f;rcases jQ.mp hu with rfl|hu
  ·rw [Zm8 r f.1];exact Zm7 r rx f.1 fx
  ·exact Zfe rx fx t f.2 u' hu
noncomputable def inV (x:V) (xs:List V):Bool:=xs.any λy=>eqV y x
noncomputable def rIn (K:Qa) (neg:Bool):R2:=λx y H Q=>∃p xs,y=.ref p/\(SqL K H p xs\/SqT K H p xs)/\JO x=true/\xs.all JO=true/\Q (.bl (if neg then !inV x xs else inV x xs)) H
theorem Zlz:OpR X (jZ .In) (rIn X.K false):=by
 intro Zb s σ H x y v u Q I rx ry h;obtain ⟨p,xs,rfl,hq,fx,fs,q⟩:=h;cases ry;rcases hq with hq|hq
 ·obtain ⟨its,r,pl,hz⟩:=I.list hq;refine SeqAt.in_listAt (eqU x) pl.isList (λw hw=>Zfe rx fx r fs w (by simpa using hw)) ⟨.bl _,H,I,rfl,?_⟩;rw [show its.toArray.any (eqU x)=its.any (eqU x) by simp,ZgN r fs];exact q
 ·obtain ⟨its,r,pl,hz⟩:=I.tuple hq;refine SeqAt.in_tupleAt (eqU x) pl (λw hw=>Zfe rx fx r fs w (by simpa using hw)) ⟨.bl _,H,I,rfl,?_⟩;rw [show its.toArray.any (eqU x)=its.any (eqU x) by simp,ZgN r fs];exact q
theorem ZgT:qk X (.builtin "len") (λxs H Q=>∃p ys,xs=[.ref p]/\(SqL X.K H p ys\/SqT X.K H p ys)/\Q (.int ys.length) H):=by
 intro Zb s σ H xs us Q I r h;obtain ⟨p,ys,rfl,hq,q⟩:=h;obtain ⟨u,rfl,rx⟩:=qN r;cases rx;have hn:=Zcp;rcases hq with hq|hq
 ·obtain ⟨its,r',pl,hz⟩:=I.list hq;have hlen:=r'.length;exact Calls.call_len_list pl.isList (by simp only [jI]<;>omega) ⟨.int ys.length,H,I.tok _,⟨s.toks+1,by rw [jI,hlen]⟩,q⟩
 ·obtain ⟨its,r',pl,hz⟩:=I.tuple hq;have hlen:=r'.length;exact len_tuple pl (by simp only [jI]<;>omega) ⟨.int ys.length,H,I.tok _,⟨s.toks+1,by rw [jI,hlen]⟩,q⟩
theorem ZgU:qk X (.builtin "len") (λxs H Q=>∃z,xs=[.str z]/\z.length<=sizeLine/\Q (.int z.length) H):=by intro Zb s σ H xs us Q I r h;obtain ⟨z,rfl,hz,q⟩:=h;obtain ⟨u,rfl,t,rfl⟩:=qN r;have hn:=Zcp;exact len_str (by omega) ⟨.int z.length,H,I.tok _,⟨_,rfl⟩,q⟩
noncomputable def tyV (K:Qa) (T:String) (x:V) (H:Hp):Prop:=match x with
 | .str _=>T="str"
 | .int _=>T="int"
 | .ref p=>(T="list"/\∃xs,SqL K H p xs)\/(T="tuple"/\∃o,K.lookup p=some o/\o.cls=.type "tuple"/\o.dict=none)\/
  (T="dict"/\((∃kvs,H p=some (.dK kvs))\/∃kvs,H p=some (.dT kvs)))\/(T="set"/\∃S n,H p=some (.set S n))
 |_=>False
theorem Zs6 {Zb:List (jo×Obj)} {σ:St} {H:Hp} {s:jn} {T:String} {x:V} {v:Value} (I:Inv X Zb σ H s) (r:ZP x v) (ty:tyV X.K T x H):
 s.TypeIs v T/\∀a,v=.ref a->∃ob,s.heap.get? a=some ob/\ob.dict=none:=by
 cases x with
 |str z=>
  obtain ⟨t,rfl⟩:=r;cases (show T="str" from ty);exact ⟨ui s z t,λ_ e=>nomatch e⟩
 |int i=>
  obtain ⟨t,rfl⟩:=r;cases (show T="int" from ty);exact ⟨typeIs_int s i t,λ_ e=>nomatch e⟩
 |ref p=>
  cases r;rcases ty with ⟨rfl,xs,hq⟩|⟨rfl,o,hk,hc,hd⟩|⟨rfl,hk⟩|⟨rfl,S,n,hk⟩
  ·obtain ⟨its,_,pl,_⟩:=I.list hq;refine ⟨pl.isList.typeIs,λa e=>?_⟩;cases e;obtain ⟨o,n,e,c,hd,_⟩:=pl;exact ⟨o,e,hd⟩
  ·refine ⟨⟨o,I.kIn p o hk,hc⟩,λa e=>?_⟩;cases e;exact ⟨o,I.kIn _ o hk,hd⟩
  ·have z:∃o,s.heap.get? p=some o/\o.ExactDict:=by
    rcases hk with ⟨kvs,hk⟩|⟨kvs,hk⟩
    ·obtain ⟨_,_,_,_,o,_,_,e,ex,_⟩:=I.hok p _ hk;exact ⟨o,e,ex⟩
    ·exact False.elim (show za X.prog X.w H s.heap p (.dT kvs) from I.hok p _ hk)
   obtain ⟨o,e,ex⟩:=z;refine ⟨⟨o,e,ex.1⟩,λa e2=>?_⟩;cases e2;exact ⟨o,e,ex.2.1⟩
  ·obtain ⟨o,_,_,_,e,ex,_⟩:=I.hok p _ hk;refine ⟨⟨o,e,ex.1⟩,λa e2=>?_⟩;cases e2;exact ⟨o,e,ex.2.1⟩
 |_=>exact False.elim ty
noncomputable def ZuB (K:Qa) (T:String) (r:V->List V->Hp->VK->Prop) (to:TE):TE:=λσ H Q=>to σ H λx H1=>tyV K T x H1/\r x [] H1 Q
noncomputable def tBM (K:Qa) (T:String) (r:V->List V->Hp->VK->Prop) (to:TE) (t:TA):TE:=λσ H Q=>to σ H λx H1=>tyV K T x H1/\t σ H1 λxs H2=>r x xs H2 Q
variable {o e:jL} {es:List jL} {to:TE} {t:TA} {name:Str} {apos cpos:Pos} {T id:String} {r:V->List V->Hp->VK->Prop}
theorem Zuq (pa:PlainAttrs T) (slot:Slot T name id) (hty:typeOf (.builtin id)=pure (.type "method_descriptor")) (hm:MtR X id r) (ho:PE X o to) (ha:PA X (e::es) t)
 (hbase:vo o name X.env (eval o X.env)=eval o X.env:=by rfl)
 (hfew:((ut cpos (jA (e::es) X.env)).all (λx=> !x.1) && (v6 cpos (vq [] X.env)).all (λx=>x.1.isSome)
  && decide ((e::es).length+([]:List QaB).length+(if ([]:List QaB).isEmpty then 0 else 1)<30))=true:=by rfl)
 (hline:(apos.endLine==cpos.line)=true:=by rfl) (hs:jA (e::es) X.env=(false,eval e X.env)::jA es X.env:=by rfl) (hplain:(ut cpos (jA es X.env)).any (·.1)=false:=by rfl):
 PE X (.Call (.Attribute o name apos) (e::es) [] cpos) (tBM X.K T r to t):=by
 intro Zb s σ H Q I h;refine wpAny_Call_method_late hbase hfew hline rfl (thn (ho Zb s σ H _ I h) λv s1 ⟨x,H1,I1,r1,ty,q1⟩=>?_);obtain ⟨h1,h2⟩:=Zs6 I1 r1 ty;refine ⟨T,id,pa,slot,hty,h1,h2,?_⟩;have hA:=ha cpos Zb s1 σ H1 _ I1 q1
 rw [hs] at hA ⊢
 refine Calls.callWith_builtin (by show (false || (ut cpos (jA es X.env)).any (·.1))=false;rw [hplain]<;>rfl) (Calls.evalArgs_plain ?_);exact thn hA λus s2 ⟨vs,H2,I2,r2,q2⟩=>hm Zb s2 σ H2 x vs v us Q I2 r1 r2 q2
end
noncomputable def MtM (X:Cx) (id:String) (r:V->List V->Hp->VK->Prop):Prop:=
 ∀(Zb:List (jo×Obj)) (s:jn) (σ:St) (H:Hp) (x:V) (xs:List V) (v:Value) (us:List Value) (Q:VK),Inv X Zb σ H s->ZP x v->ZA xs us->r x xs H Q->
  js (ju X.prog X.w) X.A (call (.builtin id) (v::us)) (EP X Zb σ Q) X.xe s
theorem ZA.one:∀{x:V} {us:List Value},ZA [x] us->∃u,us=[u]/\ZP x u
 |_,_,.cons r .nil=>⟨_,rfl,r⟩
theorem ZA.rep {xs:List V} {us:List Value} (h:ZA xs us):∀k:Nat,ZA (Qv k xs).flatten (Qv k us).flatten
 |0=>.nil
 |k+1=>by rw [uE,uE,Uk,Uk];exact ZA.append h (ZA.rep h k)
theorem Zgm (its:List Value):∀(k:Nat) (acc:List Value),
 V2 (λx1 x2=>x1++x2) acc.toArray (Qv k its.toArray)=(acc++(Qv k its).flatten).toArray
 |0,acc=>by simp
 |k+1,acc=>by
  have e:acc.toArray++its.toArray=(acc++its).toArray:=by simp
  have e2:(acc++its)++(Qv k its).flatten=acc++(Qv (k+1) its).flatten:=by rw [uE,Uk,j6]
  rw [<-e2,<-Zgm its k (acc++its),<-e,uE,WV]
section
variable {X:Cx} {Zb:List (jo×Obj)} {σ:St} {H:Hp} {s:jn} {l b:jo} {xs ys zs:List V}
theorem Inv.lset {its its':List Value} {n:Nat} {f:Array Value->Array Value} {t':Nat} (I:Inv X Zb σ H s) (hH:H l=some (.lst xs))
 (e:s.heap.get? l=some {cls:=.type "list",data:=.seq its.toArray n}) (hf:f its.toArray=its'.toArray) (hv:ZA ys its') (hz:ys.length<=sizeLine):
 Inv X Zb σ (upd H l (.lst ys)) {s with heap:=s.heap.update l (Obj.mapSeq f),toks:=t'}:=by
 have q:=PySem.IsL.update e f;rw [hf] at q;refine I.write (x:=l) (e:=l) (by rw [hH];exact trivial) (.inl rfl) (λb' u hb hu=>(QX s.heap (Obj.mapSeq f) (Ne.symm hb)).trans hu) ⟨_,q⟩ ?_;exact ⟨hz,its',_,hv,q⟩
theorem Inv.lnew {its:List Value} {t':Nat} (I:Inv X Zb σ H s) (hv:ZA ys its) (hz:ys.length<=sizeLine):
 Inv X Zb σ (upd H s.heap.objs.size (.lst ys)) {s with heap:=s.heap.push {cls:=.type "list",data:=.seq its.toArray},toks:=t'}:=
 I.laid (λ_ _ q=>Qe _ q) (Qf _) ⟨hz,its,0,hv,Qi _ rfl⟩
theorem Inv.fresh (I:Inv X Zb σ H s):H s.heap.objs.size=none:=I.hok.fresh (Qf _)
theorem Inv.lstM (I:Inv X Zb σ H s) (hH:H l=some (.lst xs)):xs.length<=sizeLine/\∃(its:List Value) (n:Nat),ZA xs its/\xs.length=its.length/\s.heap.get? l=some {cls:=.type "list",data:=.seq its.toArray n}:=by obtain ⟨z,its,n,r,e⟩:=I.hok l _ hH;exact ⟨z,its,n,r,r.length,e⟩
theorem Zn1 {n:Nat} (h:n<=sizeLine):Builtin.List.listTooLong n=false:=by unfold Builtin.List.listTooLong;exact decide_eq_false (by omega)
end
section
variable {X:Cx}
noncomputable def ZeA:V->List V->Hp->VK->Prop:=λx vs H Q=>∃l xs y,x=.ref l/\vs=[y]/\H l=some (.lst xs)/\xs.length<sizeLine/\Q .non (upd H l (.lst (xs++[y])))
theorem Zlt:MtM X "list.append" ZeA:=by intro Zb s σ H x vs v us Q I rx rv h;obtain ⟨l,xs,y,rfl,rfl,hH,hz,q⟩:=h;cases rx;obtain ⟨u,rfl,ru⟩:=rv.one;obtain ⟨z,its,n,r,hl,e⟩:=I.lstM hH;refine uK F.slot_list_append ⟨_,e,rfl⟩ F.entry_list_append (F.args_list_append_2 _ _) (PySem.list_append l its.toArray n u (by rw [jI];omega)) ⟨e,?_⟩;refine ⟨.non,_,I.lset (its':=its++[u]) hH e (by simp) (r.append (.cons ru .nil)) ?_,rfl,q⟩;rw [jv,jJ];omega
noncomputable def Zop:R2:=λx y H Q=>∃l b xs zs,x=.ref l/\y=.ref b/\H l=some (.lst xs)/\H b=some (.lst zs)/\xs.length+zs.length<=sizeLine/\∀p,H p=none->Q (.ref p) (upd H p (.lst (xs++zs)))
theorem Zse:OpR X (uH .Add) Zop:=by
 intro Zb s σ H x y v u Q I rx ry h;obtain ⟨l,b,xs,zs,rfl,rfl,hH,hB,hz,q⟩:=h;cases rx;cases ry;obtain ⟨z,its,n,r,hl,e⟩:=I.lstM hH;obtain ⟨z2,its2,n2,r2,hl2,e2⟩:=I.lstM hB;refine PySem.P.add_list e e2 ?_ (by rw [jI,jI];omega);have ea:its.toArray++its2.toArray=(its++its2).toArray:=by simp
 rw [ea];exact ⟨.ref _,_,I.lnew (t':=s.toks) (r.append r2) (by rw [jv];omega),rfl,q _ I.fresh⟩
noncomputable def Zoq:R2:=λx y H Q=>∃l k xs,x=.ref l/\y=.int k/\H l=some (.lst xs)/\ -(2 ^ 63)<=k/\k<2 ^ 63/\xs.length * k.toNat<=sizeLine/\
 ∀p,H p=none->Q (.ref p) (upd H p (.lst (Qv k.toNat xs).flatten))
theorem Zpy {α:Type} (xs:List α) (k:Nat):(Qv k xs).flatten.length=k * xs.length:=by
 induction k with
 |zero=>simp
 |succ k ih=>rw [uE,Uk,jv,ih,Nat.succ_mul,jg]
theorem Zsj:OpR X (uH .Mult) Zoq:=by
 intro Zb s σ H x y v u Q I rx ry h;obtain ⟨l,k,xs,rfl,rfl,hH,h1,h2,hz,q⟩:=h;cases rx;obtain ⟨t,rfl⟩:=ry;obtain ⟨z,its,n,r,hl,e⟩:=I.lstM hH;have hlen:its.toArray.size * k.toNat<=sizeLine:=by rw [jI,<-hl];exact hz
 have hcap:¬its.toArray.size * k.toNat>(2 ^ 63-1)/8:=by
  have:(sizeLine:Nat)<=(2 ^ 63-1)/8:=by decide
  omega
 have hfit:¬(!Builtin.List.listFitsIndex k)=true:=by rw [fitsIndex_both h1 h2];exact Qg
 have hlong:¬Builtin.List.listTooLong (its.toArray.size * k.toNat)=true:=by rw [Zn1 hlen];exact Qg
 have hnew:V2 (λx1 x2=>x1++x2) #[] (Qv (if its.toArray.isEmpty=true then 0 else k.toNat) its.toArray)=(Qv k.toNat its).flatten.toArray:=by
  have f0:∀m:Nat,V2 (λx1 x2=>x1++x2) #[] (Qv m its.toArray)=(Qv m its).flatten.toArray:=λm=>by have:=Zgm its m [];rw [uJ] at this;exact this
  rw [f0]
  cases its with
  |nil=>simp
  |cons a r'=>rw [if_neg (by simp)]
 refine wpAny_binaryOp_repeat_ref (T:="list") (U:="int") (by decide) ⟨_,e,rfl⟩ (λs'=>typeIs_int s' k t) noFill_list_mul F.fills_int_mul F.slot_int_rmul repeat_list F.slot_int_index.lookup
  (uK F.slot_int_rmul (typeIs_int s k t) F.entry_int_rmul (F.args_int_rmul_2 _ _) (int___rmul___int_list k t l its.toArray n)
   ⟨e,rfl,⟨_,e,rfl⟩,uK F.slot_list_mul ⟨_,e,rfl⟩ F.entry_list_mul (F.args_list_mul_2 _ _) (AutoListH.list___mul___list_int_3 l its.toArray n k t hfit hcap hlong) ⟨e,?_⟩⟩)
 rw [hnew];exact ⟨.ref _,_,I.lnew (t':=s.toks) (r.rep k.toNat) (by rw [Zpy,Nat.mul_comm];exact hz),rfl,q _ I.fresh⟩
end
end L2
namespace Att
open PySem PySem.W PySem.Calls PyProof.Rows
theorem Zek {P:v9} {h:Heap}:∀(ns:List Int) (vs:List Value),WellAll P h vs (ns.map WData.int)->IntsAre vs ns:=by
 intro ns
 induction ns with
 |nil=>
  intro vs w;rw [map_nil] at w;cases w;exact .nil
 |cons n ns ih=>
  intro vs w;rw [jV] at w
  cases w with
  |cons a b=>
   cases a;exact .cons _ _ (ih _ b)
theorem ZlN {l:OpenLaw} {n:Nat} (hn:l.most=some n) {P:v9} {h:Heap} {args:List WData} {vals:List Value}
 (hpre:l.row.toRowW.claim.pre args=true) (hwl:WellAll P h vals args):
 ∃a vs ns,vals=[Value.ref a]/\args=[WData.list (ns.map WData.int)]/\h.get? a=some {cls:=.type "list",data:=.seq vs.toArray}/\IntsAre vs ns/\ns.length<=n:=by
 have hsh:WShape.hasAll [] args [.list .int]=true:=(pre_splitW hpre).1;have hc:l.pre.holds [] {args:=args}=true:=(pre_splitW hpre).2;obtain ⟨d,r,rfl,h1,h2⟩:=hasAllW_cons hsh;obtain rfl:=hasAllW_nil h2;obtain ⟨xs,rfl,h3⟩:=hasW_list h1;obtain ⟨ns,rfl⟩:=items_int h3
 have hlen:ns.length<=n:=by
  unfold OpenLaw.pre at hc;have h4:(WTm.not (.lt (.lit (.int (n:Int))) (.len (.arg 0)))).holds [] {args:=[.list (ns.map .int)]}=true:=by have h4:=(holds_andW hc).1;rw [hn] at h4;exact h4
  have h5:=condW_of h4 (w_not (w_lt w_lit (w_len_list (w_arg rfl))));rw [jr] at h5;refine VQ λq=>?_;have q':(n:Int)<((ns.length:Nat):Int):=by omega
  first
   |(rw [decide_eq_true q'] at h5;exact absurd h5 (by decide))
   |(simp at h5;omega)
 cases hwl with
 |cons w1 w2=>
  cases w2
  cases w1 with
  |list ho hall=>exact ⟨_,_,ns,rfl,rfl,ho,Zek ns _ hall,hlen⟩
theorem ZlG (l:OpenLaw) (args:List WData):l.row.toRowW.claim.post args (.bool true) args=true:=
 postW_of (r:=l.row.toRowW) (X:=(true==true))
  (show WShape.has [] (.bool true) .bool=true by first|rfl|decide|simp [WShape.has,WShape.arms,WShape.armsAll])
  (show (WTm.eq .res (.lit (.bool true))).value [] {args:=args,res:=some (.bool true),after:=args}=some (.bool (true==true)) from w_eq_bool (w_res rfl) w_lit) rfl
theorem ZhK {l:OpenLaw} {n:Nat} {q:jx} {loose:List Str} {XP:(Str->Option Value)->Heap->Prop} {YP:jG->Heap->Prop} {d:DefRec}
 (hn:l.most=some n) (hdf:d.params.defaults=[])
 (call:∀(w:jG) (s₀ s₁:jn) (mg mb:Str->Option Value) (fa:jo) (o:Obj) (pm cd doc:Value) (a:jo) (vs:List Value) (ns:List Int),
  Ground q loose [] XP w s₀ mg mb s₁.heap->YP w s₁.heap->
  s₁.heap.get? fa=some o->o.data=.func (docDef d.name d.params d.body d.scope pm cd doc)->s₁.heap.CodeRec cd d.name->mg d.name=some (.ref fa)->
  s₁.heap.get? a=some {cls:=.type "list",data:=.seq vs.toArray}->IntsAre vs ns->ns.length<=n->s₁.gens=#[]->
  u6 (ju l.prog w) Qap (.call (.ref fa) ⟨[.ref a],[]⟩) (λr s'=>r=.ok (.ret (.bool true))/\OldK s₁.heap s'.heap/\s'.os=s₁.os/\vA s'.gens) s₁):
 WalkO q loose XP YP l.row.toRowW d [] (λf vs=>PySem.call f vs):=by
 intro w s₀ s₁ mg mb G Y fa o pm cd doc dV kV ho hd hcd hD hmg hg args vals as hpre hlay hrd hwl hlo;obtain rfl:dV=.none:=Dflts.none hD hdf;obtain rfl:kV=.none:=Dflts.noKw hD;obtain ⟨a,vs,ns,rfl,rfl,hobj,hints,hlen⟩:=ZlN hn hpre hwl;refine enter_call (ud (call w s₀ s₁ mg mb fa o pm cd doc a vs ns G Y ho (fd_plain hd) hcd hmg hobj hints hlen hg) λr s' hq=>?_);obtain ⟨rfl,h2,h3,h4⟩:=hq;exact ⟨.inl ⟨.bool true,.bool true,[],rfl,λ_=>rfl,.bool true,ZlG l _,λ_=>⟨List.Pairwise.nil,λ_ hm=>(nomatch hm)⟩⟩,h2,h3,h4⟩
end Att
namespace L2
open PySem PySem.Spec PyProof.Rows
theorem ZgG:∀{vs:List Value} {ns:List Int},IntsAre vs ns->ZA (ns.map V.int) vs
 |_,_,.nil=>.nil
 |_,_,.cons n t h=>.cons ⟨t,rfl⟩ (ZgG h)
noncomputable def zd (s:Stmt):Arguments:=match s with
 | .FunctionDef _ a _ _ _ _ _ _ _ _=>a
 |_=> {posonlyargs:=[],args:=[],vararg:=none,kwonlyargs:=[],kw_defaults:=[],kwarg:=none,defaults:=[]}
noncomputable def ZV (s:Stmt):List Stmt:=match s with
 | .FunctionDef _ _ b _ _ _ _ _ _ _=>b
 |_=>[]
noncomputable def Zk (s:Stmt):Scope:=match s with
 | .FunctionDef _ _ _ _ _ _ sc _ _ _=>sc
 |_=> {kind:=.function,names:=[],isGenerator:=false,isCoroutine:=false}
noncomputable abbrev CX0:CXT:=λ_ _ _ _ _ _=>False
noncomputable abbrev E0:XK:=λ_ _ _=>False
theorem Ziz {X:Cx}:Zbt CX0 X E0:=λ_ _ _ _ _ _ _ h=>h.elim
structure Fun (K:Qa) (x qual:Str) (st:Stmt) (f:jo) (fd:j9):Prop where
 ex:∃(oc:Value) (od:Option jo) (kV doc pm:Value) (an:Option jo) (cdv ct:Value) (osl:Array (Option Value)),
  fd=vI x qual (zd st) (ZV st) (Zk st) .none kV doc pm an cdv ct/\K.lookup f=some ⟨oc,od,.func fd,osl⟩/\vF K cdv qual=true
 kp:uR K (.ref f)=true
section
variable {P:jx} {w:jG} {K:Qa} {mg:Str->Option Value} {base:Heap}
theorem Fun.ok {x qual:Str} {st:Stmt} {f:jo} {fd:j9} {N ps:List Str} {k:Nat} {sp:Sp} (F:Fun K x qual st f fd) (S:Zv N ps (Zk st)) (len:∀vs H Q E,sp vs H Q E->vs.length=ps.length)
 (hbody:∀(cdv:Value) (A:Around) (outer:List Env) (s:jn) (H:Hp) (vs:List V) (Q:VK) (E:XK),zH k (A.deeper (uk qual (Zk st) s.heap.objs.size f cdv))->sp vs H Q E->
  ∃t,PSs (Jm CX0 P w K mg base N qual (Zk st) f cdv A outer s H E).nox (ZV st) t/\t {nx:=λ_ H'=>Q .non H',rt:=Q} (qh N vs) H):ZQ P w K mg base CX0 (k+1) f fd ps sp:=by
 obtain ⟨oc,od,kV,doc,pm,an,cdv,ct,osl,rfl,lk,hcd⟩:=F.ex;refine Zh5 lk hcd S len λA outer s H vs Q E hr hsp=>?_;obtain ⟨t,h,q⟩:=hbody cdv A outer s H vs Q E hr hsp;exact ⟨t,h.nox,q⟩
theorem Fun.binds {x qual:Str} {st:Stmt} {f:jo} {fd:j9} {ps:List Str} (F:Fun K x qual st f fd)
 (h:∀(kV doc pm:Value) (an:Option jo) (cdv ct:Value) (us:List Value),us.length=ps.length->vE (vI x qual (zd st) (ZV st) (Zk st) .none kV doc pm an cdv ct) ⟨us,[]⟩=pure (ps.zip us)):Jj K fd ps []:=by
 obtain ⟨oc,od,kV,doc,pm,an,cdv,ct,osl,rfl,lk,hcd⟩:=F.ex;exact .all (h kV doc pm an cdv ct)
theorem Zdr {x qual:Str} {st:Stmt} {f:jo} {oc:Value} {od an:Option jo} {osl:Array (Option Value)} {kV doc pm cdv ct:Value} (l:K.lookup f=some ⟨oc,od,.func (vI x qual (zd st) (ZV st) (Zk st) .none kV doc pm an cdv ct),osl⟩)
 (c:vF K cdv qual=true) (k:uR K (.ref f)=true):Fun K x qual st f (vI x qual (zd st) (ZV st) (Zk st) .none kV doc pm an cdv ct):=⟨⟨oc,od,kV,doc,pm,an,cdv,ct,osl,rfl,l,c⟩,k⟩
end
theorem ZX {A:Around} {k:Nat} (hr:zH k A):A.units+1<cLine:=WM (Nat.add_le_add_left (by decide:1<=64) _) hr.units
section
variable {X:Cx}
theorem pv (i:Nat) {x:Str} {pos:Pos} (hN:X.N[i]?=some x:=by rfl) (hv:Vis X.env.scope x:=by first|exact Or.inl rfl|exact Or.inr (Or.inl rfl)|exact Or.inr (Or.inr rfl)) (hd:(x==("__debug__":Str))=false:=by decide)
 (hcd:(x==("__classdict__":Str))=false:=by decide):PE X (.Name x pos) (ZuH i):=Zst hN hv hd hcd
end
theorem ZcN {A B:Prop} (h:B):if false=true then A else B:=by rw [if_neg Qg];exact h
theorem Zdu {A B:Prop} (h:A):if true=true then A else B:=by rw [if_pos rfl];exact h
theorem YK {c A B:Prop} [Decidable c] (h1:c->A) (h2:¬c->B):if c then A else B:=by
 by_cases h:c
 ·rw [if_pos h];exact h1 h
 ·rw [if_neg h];exact h2 h
noncomputable def Zt (H H':Hp):Prop:=∀b o,H b=some o->H' b=some o
theorem Zt.refl (H:Hp):Zt H H:=λ_ _ h=>h
theorem Zt.trans {H H1 H2:Hp} (a:Zt H H1) (b:Zt H1 H2):Zt H H2:=λc o h=>b c o (a c o h)
theorem Zt.free {H H':Hp} (e:Zt H H') {l:jo} (h:H' l=W3):H l=W3:=by
 cases q:H l with
 |none=>rfl
 |some o=>
  rw [e l o q] at h;cases h
theorem Zt.seq {K:Qa} {H H':Hp} {a:jo} {xs:List V} (e:Zt H H') (h:SqL K H a xs):SqL K H' a xs:=by
 rcases h with (h|⟨o,h⟩)|h
 ·exact .inl (.inl (e _ _ h))
 ·exact .inl (.inr ⟨o,e _ _ h⟩)
 ·exact .inr h
noncomputable def T (l:List Nat):Str:=⟨l.toArray⟩
noncomputable def L (z:Str):List Nat:=z.cps.toList
theorem L_T (l:List Nat):L (T l)=l:=by unfold L T;simp
theorem T_L (z:Str):T (L z)=z:=by cases z;simp [T,L]
theorem Z0 (z:Str):(L z).length=z.length:=by simp [L,VD]
theorem ZtR (l:List Nat):(T l).length=l.length:=by simp [T,VD]
theorem Zj7 (a b:List Nat):T a++T b=T (a++b):=by show ji (T a) (T b)=T (a++b);simp [ji,T]
theorem Zb4 {a b:List Nat}:T a=T b↔a=b:=by
 constructor
 ·intro h;have:=congrArg L h;rwa [L_T,L_T] at this
 ·intro h;rw [h]
noncomputable def gS:St->Nat->Option V
 |[],_=>none
 |a::_,0=>a
 |_::r,n+1=>gS r n
theorem Ze2:∀{σ:St} {i:Nat} {v:V},gS σ i=some v->σ[i]?=some (some v)
 |[],_,_,h=>by simp [gS] at h
 |a::_,0,v,h=>by have h:a=some v:=h;simp [h]
 |_::r,n+1,v,h=>by have h:gS r n=some v:=h;simpa using Ze2 h
noncomputable def ZpY (i:Nat):TE:=λσ H Q=>match gS σ i with
 |some v=>Q v H
 |none=>False
section
variable {X:Cx}
theorem qv (i:Nat) {x:Str} {pos:Pos} (hN:X.N[i]?=some x:=by rfl) (hv:Vis X.env.scope x:=by first|exact Or.inl rfl|exact Or.inr (Or.inl rfl)|exact Or.inr (Or.inr rfl)) (hd:(x==("__debug__":Str))=false:=by decide)
 (hcd:(x==("__classdict__":Str))=false:=by decide):PE X (.Name x pos) (ZpY i):=by
 intro Zb s σ H Q I h;refine pv i hN hv hd hcd Zb s σ H Q I ?_;unfold ZpY at h
 cases e:gS σ i with
 |none=>rw [e] at h;exact h.elim
 |some v=>rw [e] at h;exact ⟨v,Ze2 e,h⟩
noncomputable def Zq4:R2:=λx y H Q=>match x,y with
 | .int i,.int j=>Q (.int (i+j)) H
 | .str a,.str b=>(L a).length+(L b).length<=sizeLine/\Q (.str (T (L a++L b))) H
 | .ref l,.ref b=>Zop (.ref l) (.ref b) H Q
 |_,_=>False
theorem Zw:OpR X (uH .Add) Zq4:=by
 intro Zb s σ H x y v u Q I rx ry h
 cases x<;>cases y<;>first
  |exact False.elim h
  |exact Zsd Zb s σ H _ _ v u Q I rx ry ⟨_,_,rfl,rfl,h⟩
  |exact Zse Zb s σ H _ _ v u Q I rx ry h
  |(refine ZjA Zb s σ H _ _ v u Q I rx ry ⟨_,_,rfl,rfl,?_,?_⟩
    ·rw [<-Z0,<-Z0];exact h.1
    ·rename_i a b;have e:=Zj7 (L a) (L b);rw [T_L,T_L] at e;rw [e];exact h.2)
theorem Zr1:OpR X (Qae .Add) (λx y H Q=>match x,y with
 | .int i,.int j=>Q (.int (i+j)) H
 | .str a,.str b=>(L a).length+(L b).length<=sizeLine/\Q (.str (T (L a++L b))) H
 |_,_=>False):=by
 intro Zb s σ H x y v u Q I rx ry h
 cases x<;>cases y<;>first
  |exact False.elim h
  |exact Zpt Zb s σ H _ _ v u Q I rx ry ⟨_,_,rfl,rfl,h⟩
  |(refine Zid Zb s σ H _ _ v u Q I rx ry ⟨_,_,rfl,rfl,?_,?_⟩
    ·rw [<-Z0,<-Z0];exact h.1
    ·rename_i a b;have e:=Zj7 (L a) (L b);rw [T_L,T_L] at e;rw [e];exact h.2)
noncomputable def Zlg (C:Int->Int->Prop) (g:Int->Int->V):R2:=λx y H Q=>match x,y with
 | .int i,.int j=>C i j/\Q (g i j) H
 |_,_=>False
noncomputable def Zgo (g:Int->Int->V):R2:=λx y H Q=>match x,y with
 | .int i,.int j=>Q (g i j) H
 |_,_=>False
theorem Zjv {f:Value->Value->Sem Value} {C:Int->Int->Prop} {g:Int->Int->V} (h:OpR X f (rI C g)):OpR X f (Zlg C g):=by
 intro Zb s σ H x y v u Q I rx ry q
 cases x<;>cases y<;>first
  |exact False.elim q
  |exact h Zb s σ H _ _ v u Q I rx ry ⟨_,_,rfl,rfl,q.1,q.2⟩
theorem Zhb {f:Value->Value->Sem Value} {g:Int->Int->V} (h:OpR X f (rI0 g)):OpR X f (Zgo g):=by
 intro Zb s σ H x y v u Q I rx ry q
 cases x<;>cases y<;>first
  |exact False.elim q
  |exact h Zb s σ H _ _ v u Q I rx ry ⟨_,_,rfl,rfl,q⟩
noncomputable abbrev ZjN:R2:=Zgo λi j=>.int (i-j)
theorem Zfg:OpR X (uH .Sub) ZjN:=Zhb Zsk
noncomputable abbrev Zls:R2:=Zlg (λ_ j=>0<j) λi j=>.int (i%j)
theorem Zb7:OpR X (uH .Mod) Zls:=Zjv Zsg
noncomputable abbrev Zqy:R2:=Zlg Ztd λi j=>.int (i/j)
theorem Zr0:OpR X (uH .FloorDiv) Zqy:=Zjv ZpF
noncomputable abbrev Zu8:R2:=Zlg Zte λi j=>.int (i ^ j.toNat)
theorem ZqH:OpR X (uH .Pow) Zu8:=Zjv Zsi
noncomputable def rep (n:Nat) (l:List Nat):List Nat:=(Qv n l).flatten
theorem Zk9 (c:List (Array Nat)):∀a:Array Nat,(c.foldl (λx y=>x++y) a).toList=a.toList++(c.map Wl).flatten:=by
 induction c with
 |nil=>intro a;simp
 |cons x r ih=>intro a;simp [ih]
theorem Zuf (z:Str) (n:Int):Txt.mul z n=T (rep n.toNat (L z)):=by
 unfold Txt.mul rep;by_cases h1:n<1
 ·rw [if_pos h1];have:n.toNat=0:=by omega
  rw [this];rfl
 ·rw [if_neg h1];by_cases h2:(n==1 || z.length==0)=true
  ·rw [if_pos h2];rcases QS _ _|>.mp h2 with e|e
   ·have:n=1:=by simpa using e
    subst this;show z=T (List.flatten [L z]);simp [T_L]
   ·have e0:z.length=0:=by simpa using e
    have e1:L z=[]:=VT (by rw [Z0];exact e0);rw [e1];have e2:z=T []:=by rw [<-e1,T_L]
    rw [e2]
    congr 1
    simp
  ·rw [if_neg h2];have e:=Zk9 (Qv n.toNat z.cps) #[];rw [<-T_L ⟨_⟩]
   congr 1
   show (V2 (λx y=>x++y) #[] (Qv n.toNat z.cps)).toList=_;rw [e];simp [L]
noncomputable def ZrX:R2:=λx y H Q=>match x,y with
 | .int i,.int j=>ZoV i j/\Q (.int (i * j)) H
 | .str a,.int n=>(-(2 ^ 63)<=n/\n<2 ^ 63/\(L a).length * n.toNat<=sizeLine)/\Q (.str (T (rep n.toNat (L a)))) H
 | .ref l,.int k=>Zoq (.ref l) (.int k) H Q
 |_,_=>False
theorem Zd8:OpR X (uH .Mult) ZrX:=by
 intro Zb s σ H x y v u Q I rx ry h
 cases x<;>cases y<;>first
  |exact False.elim h
  |exact Zsh Zb s σ H _ _ v u Q I rx ry ⟨_,_,rfl,rfl,h.1,h.2⟩
  |exact Zsj Zb s σ H _ _ v u Q I rx ry h
  |(rename_i a n
    obtain ⟨t,e⟩:=rx;obtain ⟨t',e'⟩:=ry;subst e e';obtain ⟨⟨h1,h2,h3⟩,q⟩:=h;rw [Z0] at h3;have hl:sizeLine=16777216:=jw;refine SB.mul ⟨?_,λh4 h5=>?_,λh4 h5=>?_⟩ λt' k=>?_
    ·rw [decide_eq_false (by omega),decide_eq_false (by omega)];rfl
    ·intro h6
     have h7:n<=(a.length:Int) * n:=by
      have h8:a.length≠0:=by intro z;rw [z] at h5;simp at h5
      have h9:(1:Int)<=(a.length:Int):=by omega
      calc n=1 * n:=by omega
       _<=(a.length:Int) * n:=Int.mul_le_mul_of_nonneg_right h9 (by omega)
     have h10:(a.length:Int) * n<=16777216:=by
      have:((a.length * n.toNat:Nat):Int)<=16777216:=by omega
      rw [Int.natCast_mul,VA (by omega)] at this;exact this
     have h11:(a.length:Int)<=(2 ^ 63-1)/n:=by rw [Int.le_ediv_iff_mul_le (by omega)];omega
     omega
    ·unfold Builtin.Str.tooLong;exact decide_eq_false (by omega)
    ·exact ⟨.str (T (rep n.toNat (L a))),H,I.tok _,⟨_,by rw [Zuf]⟩,q⟩)
noncomputable def ltV:R2:=λx y H Q=>match x,y with
 | .int i,.int j=>Q (.bl (decide (i<j))) H
 | .str a,.str b=>Q (.bl (decide (L a<L b))) H
 |_,_=>False
theorem Ziv:OpR X (jZ .Lt) ltV:=by
 intro Zb s σ H x y v u Q I rx ry h
 cases x<;>cases y<;>first
  |exact False.elim h
  |exact Zuo Zb s σ H _ _ v u Q I rx ry ⟨_,_,rfl,rfl,h⟩
  |exact ZlA Zb s σ H _ _ v u Q I rx ry ⟨_,_,rfl,rfl,h⟩
noncomputable abbrev leV:R2:=Zgo λi j=>.bl (decide (i<=j))
noncomputable abbrev gtV:R2:=Zgo λi j=>.bl (decide (j<i))
theorem Zui:OpR X (jZ .LtE) leV:=Zhb Zun
theorem Zju:OpR X (jZ .Gt) gtV:=Zhb Zum
noncomputable def sc:V->V->Option Bool
 | .int i,.int j=>some (decide (i=j))
 | .str a,.str b=>some (decide (L a=L b))
 | .bl a,.bl b=>some (decide (a=b))
 | .non,.non=>some true
 | .non,.int _=>some false| .int _,.non=>some false| .non,.bl _=>some false| .bl _,.non=>some false| .non,.str _=>some false| .str _,.non=>some false
 | .int _,.str _=>some false| .str _,.int _=>some false| .bl _,.str _=>some false| .str _,.bl _=>some false
 |_,_=>none
theorem ZtP {a b:Str}:L a=L b↔a=b:=by
 constructor
 ·intro h;rw [<-T_L a,<-T_L b,h]
 ·intro h;rw [h]
theorem ZqJ {x y:V} {b:Bool} (h:sc x y=some b):ZsM x y=true/\b=decide (x=y):=by
 cases x<;>cases y<;>first
  |exact (nomatch (show (none:Option Bool)=some b from h))
  |(have h:=Option.some.inj h
    subst h;refine ⟨rfl,?_⟩;simp [ZtP])
noncomputable def eqR:R2:=λx y H Q=>match sc x y with
 |some b=>Q (.bl b) H
 |none=>False
noncomputable def neR:R2:=λx y H Q=>match sc x y with
 |some b=>Q (.bl (!b)) H
 |none=>False
theorem ZbY:OpR X (jZ .Eq) eqR:=by
 intro Zb s σ H x y v u Q I rx ry h;unfold eqR at h
 cases e:sc x y with
 |none=>rw [e] at h;exact h.elim
 |some b=>
  rw [e] at h;obtain ⟨h1,h2⟩:=ZqJ e;subst h2;exact Zul Zb s σ H x y v u Q I rx ry ⟨h1,h⟩
theorem ZpC:OpR X (jZ .NotEq) neR:=by
 intro Zb s σ H x y v u Q I rx ry h;unfold neR at h
 cases e:sc x y with
 |none=>rw [e] at h;exact h.elim
 |some b=>
  rw [e] at h;obtain ⟨h1,h2⟩:=ZqJ e;subst h2;exact Zup Zb s σ H x y v u Q I rx ry ⟨h1,h⟩
noncomputable def isV:R2:=λx y H Q=>match y,x with
 | .non,x=>Q (.bl (decide (x=.non))) H
 | .bl b,.bl c=>Q (.bl (c==b)) H
 |_,_=>False
noncomputable def ZqA:R2:=λx y H Q=>match y,x with
 | .non,x=>Q (.bl (!decide (x=.non))) H
 | .bl b,.bl c=>Q (.bl (c !=b)) H
 |_,_=>False
theorem Zu6:OpR X (jZ .Is) isV:=by
 intro Zb s σ H x y v u Q I rx ry h
 cases y with
 |non=>exact Zsf Zb s σ H x _ v u Q I rx ry ⟨rfl,h⟩
 |bl b=>
  cases x with
  |bl c=>
   cases rx;cases ry;exact is_bool (ZO I h rfl)
  |_=>exact False.elim h
 |_=>cases x<;>exact False.elim h
noncomputable def ixV (K:Qa):R2:=λx y H Q=>match x,y with
 | .str z,.int i=>(L z).length<=sizeLine/\∃c,atI (L z) i=some c/\Q (.str (T [c])) H
 | .ref p,.int i=>∃xs v,(SqL K H p xs\/SqT K H p xs)/\atI xs i=some v/\Q v H
 |_,_=>False
theorem Zu3:IxR X (ixV X.K):=by
 intro value slice Zb s σ H x y v u Q I rx ry h hs
 cases x<;>cases y<;>first
  |exact False.elim h
  |(obtain ⟨hz,c,e,q⟩:=h
    exact ZrF value slice Zb s σ H _ _ v u Q I rx ry ⟨_,_,c,rfl,rfl,(by rw [<-Z0];exact hz),e,q⟩ hs)
  |(obtain ⟨xs,w,e|e,ei,q⟩:=h
    ·exact Zpv value slice Zb s σ H _ _ v u Q I rx ry ⟨_,xs,_,w,rfl,rfl,e,ei,q⟩ hs
    ·exact ZrG value slice Zb s σ H _ _ v u Q I rx ry ⟨_,xs,_,w,rfl,rfl,e,ei,q⟩ hs)
noncomputable def cut {α:Type} (xs:List α) (lo hi:Option Int):List α:=(xs.drop (HT.sIx xs.length 0 lo)).take (HT.sIx xs.length xs.length hi-HT.sIx xs.length 0 lo)
theorem ZbO {α:Type} (xs:List α) (lo hi:Option Int):(cut xs lo hi).length<=xs.length:=by unfold cut;rw [jF,jO];omega
theorem Zor (a b:Nat):sliceRange (a:Int) (b:Int) 1=(Qj (b-a)).map λk=>a+k:=by
 unfold sliceRange;have h1:(1:Int)>0:=by decide
 simp only [h1,if_true];have e2:(if (a:Int)<(b:Int) then ((b:Int)-(a:Int)+1-1)/1 else 0).toNat=b-a:=by split<;>omega
 rw [e2];apply uF;intro k _;omega
theorem ZrH (lo hi:Option Int) (n:Nat):Builtin.Str.strSliceIndices lo hi 1 n=(Qj (HT.sIx n n hi-HT.sIx n 0 lo)).map λk=>HT.sIx n 0 lo+k:=by
 rw [<-Zor];have h1:(1:Int)>0:=by decide
 have cl:∀(i:Int) (d:Nat),max 0 (min (if i<0 then i+(n:Int) else i) (n:Int))=((HT.sIx n d (some i):Nat):Int):=by
  intro i d;show max 0 (min (if i<0 then i+(n:Int) else i) (n:Int))=(((if i<0 then (i+(n:Int)).toNat else min i.toNat n):Nat):Int);by_cases hi:i<0
  ·rw [if_pos hi,if_pos hi];omega
  ·rw [if_neg hi,if_neg hi];omega
 unfold Builtin.Str.strSliceIndices;simp only [h1,if_true]
 cases lo with
 |none=>
  cases hi with
  |none=>rfl
  |some j=>
   simp only [cl j n];rfl
 |some i=>
  cases hi with
  |none=>
   simp only [cl i 0];rfl
  |some j=>simp only [cl i 0,cl j n]
theorem Zoh (l:List Nat) (a:Nat):∀k:Nat,((Qj k).map λm=>a+m).filterMap (λi=>l[i]?)=(l.drop a).take k
 |0=>by simp
 |k+1=>by rw [Ut,ux,Vq,Zoh l a k,Ub,Ur];cases e:l[a+k]?<;>simp [e]
theorem Zqa (z:Str) (lo hi:Option Int):Txt.slice z lo hi=T (cut (L z) lo hi):=by
 unfold Txt.slice;rw [ZrH]
 have e0:(λi:Nat=>z.cps[i]?)=λi:Nat=>(L z)[i]?:=by
  funext i
  simp [L]
 have hl:(L z).length=z.length:=Z0 z;have h1:=HT.Zoy z.length z.length (Qf _) hi;have e:T (cut (L z) lo hi)=⟨(((Qj (HT.sIx z.length z.length hi-HT.sIx z.length 0 lo)).map λk=>HT.sIx z.length 0 lo+k).filterMap λi=>z.cps[i]?).toArray⟩:=by rw [e0,Zoh];unfold cut T;rw [hl]
 rw [<-e];split
 ·rename_i h;rw [jr,uP] at h;have h2:HT.sIx z.length z.length hi-HT.sIx z.length 0 lo=z.length:=by simpa using h
  have h3:HT.sIx z.length 0 lo=0:=by
   by_cases hz:z.length=0
   ·have:=HT.Zoy z.length 0 (Qu _) lo;omega
   ·omega
  unfold cut;rw [hl,h2,h3,Uc,<-hl,QG,T_L]
 ·rfl
noncomputable def slV (K:Qa):V->Option Int->Option Int->Hp->VK->Prop:=λx lo hi H Q=>match x with
 | .str z=>(L z).length<=sizeLine/\Q (.str (T (cut (L z) lo hi))) H
 | .ref p=>∃xs,SqL K H p xs/\∀q,H q=none->Q (.ref q) (upd H q (.lst (cut xs lo hi)))
 |_=>False
theorem Zky {v:Value} {o:Option Int} (h:IsPart v o):∃q:Option (Int×Tok),v=partValue q/\q.map (·.1)=o:=by
 cases h with
 |none=>exact ⟨none,rfl,rfl⟩
 |int i t=>exact ⟨some (i,t),rfl,rfl⟩
theorem Zve:SlR X (slV X.K):=by
 intro Zb s σ H x v vl vu lo hi sl Q I rx hs pl pu h
 cases x with
 |str z=>
  obtain ⟨hz,q⟩:=h;obtain ⟨t,rfl⟩:=rx;obtain ⟨l,rfl,el⟩:=Zky pl;obtain ⟨u,rfl,eu⟩:=Zky pu;refine ⟨"str",_,F.slot_str_getitem.lookup,ui _ _ _,?_⟩;refine wpAny_getItem_str_slice (l:=l) (u:=u) (st:=none) hs rfl ?_;refine post_val_or_str ⟨?_,λt' k=>?_⟩
  ·show (Txt.slice z (l.map (·.1)) (u.map (·.1))).length<=sizeLine;refine QE (Txt.slice_le z _ _) ?_;rw [<-Z0];exact hz
  ·refine ⟨.str (T (cut (L z) lo hi)),H,I.tok _,⟨t',?_⟩,q⟩;show US (Txt.slice z (l.map (·.1)) (u.map (·.1))) t'=_;rw [Zqa,el,eu]
 |ref p=>
  obtain ⟨xs,hx,q⟩:=h;exact Zp9 Zb s σ H _ v vl vu lo hi sl Q I rx hs pl pu ⟨p,xs,rfl,hx,q⟩
 |_=>exact False.elim h
noncomputable def Zjl (K:Qa):List V->Hp->VK->Prop:=λxs H Q=>match xs with
 |[.str z]=>(L z).length<=sizeLine/\Q (.int (L z).length) H
 |[.ref p]=>∃ys,(SqL K H p ys\/SqT K H p ys)/\Q (.int ys.length) H
 |_=>False
theorem ZtZ:qk X (.builtin "len") (Zjl X.K):=by
 intro Zb s σ H xs us Q I r h;unfold Zjl at h;split at h
 ·exact ZgU Zb s σ H _ us Q I r ⟨_,rfl,by rw [<-Z0];exact h.1,by rw [<-Z0];exact h.2⟩
 ·obtain ⟨ys,hy,q⟩:=h;exact ZgT Zb s σ H _ us Q I r ⟨_,ys,rfl,hy,q⟩
 ·exact h.elim
noncomputable def ZsU (l p:List Nat) (k:Nat):Bool:=decide (k+p.length<=l.length/\(l.drop k).take p.length=p)
theorem Zuy (x y:Str) (k:Nat):(decide (k+y.length<=x.length) && Builtin.Str.subAt x y k)=ZsU (L x) (L y) k:=by
 unfold ZsU Builtin.Str.subAt;rw [Z0,Z0];rw [Ug];simp only [QM,decide_eq_true_eq,beq_iff_eq];refine and_congr_right λ_=>?_;have e:(x.cps.extract k (k+y.length)).toList=((L x).drop k).take y.length:=by simp [L,List.extract_eq_drop_take]
 constructor
 ·intro h;rw [<-e,h];rfl
 ·intro h;apply Array.ext';rw [e,h];rfl
noncomputable def ZcO (sep:List Nat):List (List Nat)->List Nat
 |[]=>[]
 |[x]=>x
 |x::y::r=>x++sep++ZcO sep (y::r)
theorem Zdv:∀xs:List (List Nat),ZcO [] xs=xs.flatten
 |[]=>rfl
 |[x]=>by simp [ZcO]
 |x::y::r=>by rw [ZcO,Zdv (y::r)];simp
theorem Znw (sep:Str):∀ys:List Str,WZ sep ys=T (ZcO (L sep) (ys.map L))
 |[]=>rfl
 |[x]=>by show x=T (L x);rw [T_L]
 |x::y::r=>by show x++sep++WZ sep (y::r)=T (L x++L sep++ZcO (L sep) ((y::r).map L));rw [Znw sep (y::r),<-Zj7,<-Zj7,T_L,T_L]
theorem Zqb:∀{zs:List Str} {us:List Value},ZA (zs.map V.str) us->StrsAre us zs:=by
 intro zs
 induction zs with
 |nil=>intro us r;cases r;exact .nil
 |cons z r ih=>
  intro us h;rw [jV] at h
  cases h with
  |cons r1 r2=>
   obtain ⟨t,rfl⟩:=r1;exact .cons z t (ih r2)
noncomputable def Zie (K:Qa):V->List V->Hp->VK->Prop:=λx xs H Q=>match x,xs with
 | .str a,[.ref p]=>∃zs:List (List Nat),SqL K H p (zs.map λl=>V.str (T l))/\(zs.map Ui).sum+zs.length * (L a).length<=sizeLine/\Q (.str (T (ZcO (L a) zs))) H
 |_,_=>False
theorem ZrT:MtR X "str.join" (Zie X.K):=by
 intro Zb s σ H x xs v us Q I rx rs h;unfold Zie at h;split at h
 ·rename_i a p;obtain ⟨zs,hp,hz,q⟩:=h;obtain ⟨t,rfl⟩:=rx;obtain ⟨u,rfl,ru⟩:=qN rs;cases ru;obtain ⟨its,r',pl,_⟩:=I.list hp;have e:(zs.map λl=>V.str (T l))=(zs.map T).map V.str:=by simp
  rw [e] at r';have hl:sizeLine=16777216:=jw;refine join_list (ys:=zs.map T) pl.isList (by simpa using Zqb r') ?_ λt' k=>?_
  ·rw [uM,jr,<-Z0 a]
   have:(VD∘T)=Ui:=by
    funext l
    exact ZtR l
   rw [<-hl];show (List.map (VD∘T) zs).sum+_<=_;rw [this];exact hz
  ·refine ⟨.str (T (ZcO (L a) zs)),H,I.tok _,⟨t',?_⟩,q⟩;show US (Txt.join a (zs.map T)) t'=_;have e2:Txt.join a (zs.map T)=WZ a (zs.map T):=StrLaws.glued_eq_join _ _;rw [e2,Znw,uM]
   congr 3
   simp [L_T,Function.comp_def]
 ·exact h.elim
end
theorem za.forget {P:jx} {w:jG} {H H':Hp} {h h':Heap} {a:jo} {o:HO} (x:za P w H h a o) (y:za P w H' h' a o):za P w H h' a o:=by
 induction o with
 |frz ob u ih=>exact ⟨y.1,ih x.2 y.2⟩
 |ins C dx fs=>exact ⟨x.1,y.2⟩
 |dT kvs=>exact False.elim x
 |_=>exact y
theorem HOk.forget {P:jx} {w:jG} {H H':Hp} {h h':Heap} (x:HOk P w H h) (y:HOk P w H' h') (sm:Zt H H'):HOk P w H h':=λa o e=>(x a o e).forget (y a o (sm a o e))
section
variable {X:Cx} {Zb:List (jo×Obj)} {σ σ':St} {H H':Hp} {s s':jn}
theorem Zt.upd {H H':Hp} {a:jo} {o:HO} (e:Zt H H') (n:H' a=none):Zt H (upd H' a o):=λb u q=>by have q':=e b u q;rw [Zi (Zj q' n)];exact q'
theorem Zt.updN {H:Hp} {a:jo} {o:HO} (n:H a=none):Zt H (L2.upd H a o):=Zt.upd (Zt.refl H) n
noncomputable def tFE (t:TE):TE:=λσ H Q=>t σ H λv H'=>Zt H H'/\Q v H
end
structure Fn (P:jx) (w:jG) (K:Qa) (mg:Str->Option Value) (base:Heap) (k:Nat) (x:Str) (ps:List Str) (sp:Sp):Prop where
 ex:∃f fd,ZQ P w K mg base CX0 k f fd ps sp/\mg x=some (.ref f)/\uR K (.ref f)=true/\Jj K fd ps []
section
variable {P:jx} {w:jG} {K:Qa} {mg:Str->Option Value} {base:Heap}
theorem Fun.pure {x qual:Str} {st:Stmt} {f:jo} {fd:j9} {N ps:List Str} {k:Nat} {sp:Sp} (F:Fun K x qual st f fd) (S:Zv N ps (Zk st)) (len:∀vs H Q E,sp vs H Q E->vs.length=ps.length)
 (hbody:∀(cdv:Value) (A:Around) (outer:List Env) (s:jn) (H:Hp) (vs:List V) (Q:VK) (E:XK),zH k (A.deeper (uk qual (Zk st) s.heap.objs.size f cdv))->sp vs H Q E->
  ∃t,PSs (Jm CX0 P w K mg base N qual (Zk st) f cdv A outer s H E).nox (ZV st) t/\t {nx:=λ_ H'=>Zt H H'/\Q .non H,rt:=λv H'=>Zt H H'/\Q v H} (qh N vs) H):ZQ P w K mg base CX0 (k+1) f fd ps sp:=by
 have F1:ZQ P w K mg base CX0 (k+1) f fd ps (λvs H Q' E=>∃Q,sp vs H Q E/\Q'=λv H'=>Zt H H'/\Q v H):=by refine F.ok S (λvs H Q E ⟨Q0,h,_⟩=>len vs H Q0 E h) λcdv A outer s H vs Q E hr ⟨Q0,h,e⟩=>?_;subst e;exact hbody cdv A outer s H vs Q0 E hr h
 refine ⟨len,λA outer s H args us vs Q E hr e0 hb r hsp=>?_⟩;refine ud (F1.run A outer s H args us vs (λv H'=>Zt H H'/\Q v H) E hr e0 hb r ⟨Q,hsp,rfl⟩) λr s' h=>?_
 cases r with
 |error e=>exact h
 |ok fl=>
  cases fl with
  |ret u=>
   obtain ⟨v,H',os,bare,un,hok,rv,sm,q⟩:=h;exact ⟨v,H,os,bare,⟨un.keep,un.slot,λ_ _ _ n _=>n,un.there,λ_ _ q=>q,λ_ _ _ q=>q,λ_ ps q=>⟨#[],by rw [q];simp⟩⟩,e0.hok.forget hok sm,rv,q⟩
  |next=>exact h
  |brk=>exact h
  |cont=>exact h
end
section
variable {X:Cx} {k:Nat} {x:Str} {ps:List Str} {sp:Sp} {p pos:Pos} {e:jL} {es:List jL} {t:TA}
noncomputable def tFn (sp:Sp) (t:TA):TE:=λσ H Q=>t σ H λvs H1=>sp vs H1 Q E0
theorem ZS (F:Fn X.prog X.w X.K X.mg X.base k x ps sp) (hr:zH k X.A) (ha:PA X (e::es) t) (hg:Gl X x:=by rfl) (hdb:(x==("__debug__":Str))=false:=by decide)
 (he:jA (e::es) X.env=(false,eval e X.env)::jA es X.env:=by rfl) (hpl:(ut pos (jA es X.env)).any (·.1)=false:=by rfl):PE X (.Call (.Name x p) (e::es) [] pos) (tFn sp t):=by
 obtain ⟨f,fd,F,hm,hk,hb⟩:=F.ex;intro Zb s σ H Q I h;refine ZpI F hr hg hm hk hb .nil Ziz ha hdb he hpl Zb s σ H Q I ?_;show t σ H λvs H1=>sp (vs++[]) H1 Q E0;simp only [vk];exact h
theorem Zso (F:Fn X.prog X.w X.K X.mg X.base k x ps sp) (hr:zH k X.A) (hg:Gl X x:=by rfl) (hdb:(x==("__debug__":Str))=false:=by decide):PE X (.Call (.Name x p) [] [] pos) (λ_ H Q=>sp [] H Q E0):=by obtain ⟨f,fd,F,hm,hk,hb⟩:=F.ex;intro Zb s σ H Q I h;exact Zn8 F hr hg hm hk hb .nil Ziz hdb Zb s σ H Q I h
end
noncomputable def Ye:List (Str×vL)->List (Str×jo)->List (Str×jo)->Option (List (Str×jo))
 |[],_,acc=>some acc
 |(n,k)::r,cells,acc=>if k==.free then (match cells.lookup n with
    |some c=>Ye r cells ((n,c)::acc)
    |none=>none) else Ye r cells acc
theorem ZaS {scope:Scope} {env:Env} {cl:List (Str×jo)} (h:Ye scope.names env.cells []=some cl):closureFor scope env=pure cl:=by
 have all:∀(names:List (Str×vL)) (acc:List (Str×jo)),Ye names env.cells acc=some cl->
  (do
   let mut cs:=acc
   for (name,kind) in names do
    if kind==.free then cs:=(name,<-cellOf env name)::cs
   return cs:Sem (List (Str×jo)))=pure cl:=by
  intro names
  induction names with
  |nil=>
   intro acc h;cases Option.some.inj (show some acc=some cl from h);rfl
  |cons x r ih=>
   intro acc h;obtain ⟨n,k⟩:=x;unfold Ye at h
   dsimp only at ih ⊢
   rw [Uv];dsimp only
   cases hk:(k==NameKind.free) with
   |false=>
    rw [hk] at h
    simp only [hk,Q4,if_false] at h ⊢
    exact ih acc h
   |true=>
    rw [hk] at h
    simp only [hk,if_true] at h ⊢
    cases hc:env.cells.lookup n with
    |none=>rw [hc] at h;cases h
    |some c=>
     rw [hc] at h;unfold cellOf;simp only [hc];exact ih ((n,c)::acc) h
 exact all scope.names [] h
theorem qy {cells:List (Str×jo)} {cl:List (Str×jo)}:∀(names:List (Str×vL)) (acc:List (Str×jo)),Ye names cells acc=some cl->
 (∀x c,acc.lookup x=some c->cells.lookup x=some c)->(∀x c,cl.lookup x=some c->cells.lookup x=some c)/\∀x,((∃c,acc.lookup x=some c)\/names.lookup x=some .free)->∃c,cl.lookup x=some c
 |[],acc,h,ha=>by cases Option.some.inj (show some acc=some cl from h);exact ⟨ha,λx hx=>hx.elim id λz=>by simp at z⟩
 |(n,k)::r,acc,h,ha=>by
  unfold Ye at h
  cases hk:(k==NameKind.free) with
  |false=>
   rw [hk] at h;simp only [Q4,if_false] at h;obtain ⟨h1,h2⟩:=qy r acc h ha;refine ⟨h1,λx hx=>h2 x (hx.imp id λz=>?_)⟩;rw [QH] at z
   cases hx:x==n with
   |true=>
    rw [hx] at z;cases Option.some.inj z;cases hk
   |false=>rw [hx] at z;exact z
  |true=>
   rw [hk] at h;simp only [if_true] at h
   cases hc:cells.lookup n with
   |none=>rw [hc] at h;cases h
   |some c=>
    rw [hc] at h
    obtain ⟨h1,h2⟩:=qy r ((n,c)::acc) h (λx d hx=>by
     rw [QH] at hx
     cases e:x==n with
     |true=>
      rw [e] at hx;cases Option.some.inj hx;rw [eq_of_beq e];exact hc
     |false=>rw [e] at hx;exact ha x d hx)
    refine ⟨h1,λx hx=>?_⟩
    cases e:x==n with
    |true=>exact h2 x (.inl ⟨c,by rw [QH,e]⟩)
    |false=>
     refine h2 x ?_;rcases hx with ⟨d,hd⟩|hx
     ·exact .inl ⟨d,by rw [QH,e];exact hd⟩
     ·rw [QH,e] at hx;exact .inr hx
theorem Zfr {scope:Scope} {env:Env} {x:Str} {k:vL} (h:scope.names.lookup x=some k):(Qam scope env).names.lookup x=some (if (k==.free && env.scope.kind==.function && env.kindOf x==some .cell)=true then .cell else k):=by
 unfold Qam;dsimp only;generalize scope.names=names at h
 induction names with
 |nil=>simp at h
 |cons y r ih=>
  obtain ⟨n,j⟩:=y;rw [jV];rw [QH] at h
  cases e:x==n with
  |true=>
   rw [e] at h;cases Option.some.inj h;have en:=eq_of_beq e;subst en;dsimp only;split<;>rw [QH,beq_self_eq_true]
  |false=>
   rw [e] at h;have:=ih h;dsimp only;split<;>(rw [QH,e];exact this)
theorem Zhn {scope:Scope} {env:Env} {x:Str} (h:scope.names.lookup x=none):(Qam scope env).names.lookup x=none:=by
 unfold Qam;dsimp only;generalize scope.names=names at h
 induction names with
 |nil=>rfl
 |cons y r ih=>
  obtain ⟨n,j⟩:=y;rw [jV];rw [QH] at h
  cases e:x==n with
  |true=>rw [e] at h;cases h
  |false=>
   rw [e] at h;have:=ih h;dsimp only;split<;>(rw [QH,e];exact this)
noncomputable def PFs (X:Cx) (ifs:List jL) (t:TT):Prop:=
 ∀(Zb:List (jo×Obj)) (s:jn) (σ:St) (H:Hp) (Q:Bool->Hp->Prop),Inv X Zb σ H s->t σ H Q->
  js (ju X.prog X.w) X.A (forIn ifs true λc r=>if r=true then do let ok <-isTrue c X.env (eval c X.env);pure (ForInStep.yield ok) else pure (ForInStep.yield r)) (TP X Zb σ Q) X.xe s
theorem Zhh {X:Cx}:PFs X [] (λ_ H Q=>Q true H):=λ_ _ _ H _ I h=>wpAny_tests_nil ⟨H,I,h⟩
theorem Zhi {X:Cx} {c:jL} {t:TT} (h:PT X c t):PFs X [c] t:=λZb s σ H Q I q=>wpAny_tests_one (h Zb s σ H Q I q)
noncomputable def YT (X:Cx) (scope:Scope):List (Str×Nat)->Prop
 |[]=>True
 |(x,j)::r=>(X.N[j]?=some x/\X.env.scope.names.lookup x=some .cell/\scope.names.lookup x=some .free)/\YT X scope r
theorem YT.get {X:Cx} {scope:Scope}:∀{cp:List (Str×Nat)} {i:Nat} {x:Str} {j:Nat},YT X scope cp->cp[i]?=some (x,j)->X.N[j]?=some x/\X.env.scope.names.lookup x=some .cell/\scope.names.lookup x=some .free
 |[],_,_,_,_,e=>by simp at e
 |(y,k)::r,0,x,j,h,e=>by simp at e;obtain ⟨rfl,rfl⟩:=e;exact h.1
 |_::r,i+1,x,j,h,e=>YT.get (cp:=r) (i:=i) h.2 (by simpa using e)
noncomputable def Zau (n:Nat) (cp:List (Str×Nat)) (σ:St):St:=Qv n none++cp.map λp=>gS σ p.2
noncomputable def cxC (X:Cx) (scope:Scope) (cl:List (Str×jo)) (N:List Str) (fp:List jo) (C:jo) (s:jn) (H:Hp):Cx:=
 {X with N:=N,s₀:=s,H₀:=H,env:=um scope cl C X.env,outer:=X.stack,stack:=X.stack,ex:=fp,fn:=λ_=>false,pn:=[],xe:=λ_ _=>False}
noncomputable def ZeH (n:Nat) (g:TG):Prop:=∀x σ H Q,g x σ H Q->g x σ H λσ' H'=>Q σ' H'/\∀j:Nat,n<=j->σ'[j]?=σ[j]?
theorem ZbQ {n i:Nat} (h:i<n):ZeH n (Yg i):=λx σ H Q q=>⟨q,λj hj=>Uj (by omega)⟩
noncomputable def ZiS (n:Nat) (cp:List (Str×Nat)) (wi:TI) (g:TG) (tc:TT) (te:TE):TE:=λσ H Q=>wi σ H λJ H1=>∃W:Nat->Nat->Hp->List V->Prop,(∃m,W 0 m H1 [])/\∀i m H2 acc,W i m H2 acc->
 acc.length<sizeLine/\((J.stop i H2/\∀l,H2 l=none->Q (.ref l) (upd H2 l (.lst acc)))\/
  (J.go i H2/\∀x H3,J.yld i H2 x H3->g x (Zau n cp σ) H3 λσ' H4=>tc σ' H4 λb H5=>if b=true then te σ' H5 λy H6=>∃m',m'<m/\W (i+1) m' H6 (acc++[y]) else ∃m',m'<m/\W (i+1) m' H5 acc))
noncomputable abbrev Zcq (its:List Value) (n:Nat):Obj:= {cls:=.type "list",data:=.seq its.toArray n}
section
variable {X:Cx} {Zb:List (jo×Obj)} {σ:St} {H2:Hp} {s2:jn} {scope:Scope} {cl:List (Str×jo)} {own:List Str} {cp:List (Str×Nat)} {fp:List jo} {C D:jo} {h1:Heap}
theorem Zpa (I:Inv X Zb σ H2 s2) (hcl:Ye scope.names X.env.cells []=some cl) (hk:scope.kind=.function) (hnc:∀y∈scope.names,y.2≠ .cell)
 (f2:∀b∈fp,ZbX X Zb H2 b) (hC:s2.heap.objs.size<=C) (hlt:∀b∈fp,b<s2.heap.objs.size) (N:List Str):(cxC X scope cl N fp C s2 H2).Ok:=by
 have c1:=(qy scope.names [] hcl (λx c h=>by simp at h)).1;have c2:=(qy scope.names [] hcl (λx c h=>by simp at h)).2;refine ⟨I.ok.mod,hk,I.ok.glob,I.ok.blt,hC,λx y c h1 h2=>I.ok.inj x y c (c1 x c h1) (c1 y c h2),λx hx=>?_,λx c h _=>absurd h (by simp [cxC]),I.ok.hd,I.ok.frames,.inl rfl,λb hb=>⟨?_,λx c h=>?_⟩,I.bs,QE I.ok.bsz I.sz,λb o e hb=>?_,λb hb hf=>?_,I.stack,I.stkFree⟩
 ·have hx:(Qam scope X.env).names.lookup x=some .cell\/(Qam scope X.env).names.lookup x=some .free:=hx
  cases e:scope.names.lookup x with
  |none=>rw [Zhn e] at hx;rcases hx with z|z<;>cases z
  |some k=>
   rw [Zfr e] at hx;refine c2 x (.inr ?_);by_cases hf:(k==.free && X.env.scope.kind==.function && X.env.kindOf x==some .cell)=true
   ·have:k=.free:=by simp only [QM] at hf;exact eq_of_beq hf.1.1
    rw [e,this]
   ·rw [if_neg hf] at hx;rcases hx with z|z
    ·cases Option.some.inj z;exact absurd rfl (hnc _ (PySem.mem_of_lookup e))
    ·cases Option.some.inj z;exact e
 ·exact Qo (Ql (hlt b hb) hC)
 ·exact (f2 b hb).2.2.2.2.1 x c (c1 x c h)
 ·rcases (f2 b hb).2.2.2.1 with z|z
  ·exact I.ok.noex b o e z
  ·exact absurd (Ql (Qk e) (QE I.ok.bsz z)) (QW _)
 ·have hf:b∈frs X.stack:=hf;rcases jQ.mp (I.stkSub b hf) with z|z
  ·exact (f2 b hb).2.1 z
  ·exact (f2 b hb).2.2.1 z
theorem Zi9 {tk:Nat} (I:Inv X Zb σ H2 s2) (hcl:Ye scope.names X.env.cells []=some cl) (hk:scope.kind=.function) (hnc:∀y∈scope.names,y.2≠ .cell) (hcp:YT X scope cp)
 (f2:∀b∈fp,ZbX X Zb H2 b) (hC:s2.heap.objs.size<C) (hlt:∀b∈fp,b<s2.heap.objs.size) (hns:h1.Ns C (λ_=>none)) (old:∀b o,s2.heap.get? b=some o->h1.get? b=some o)
 (hD:h1.get? s2.heap.objs.size=some (Zcq [] 0)):
 Inv (cxC X scope cl (own++cp.map (·.1)) fp C s2 H2) [(s2.heap.objs.size,Zcq [] 0)] (Zau own.length cp σ) H2 {s2 with heap:=h1,toks:=tk}:=by
 have ok:=Zpa I hcl hk hnc f2 (QT hC) hlt (own++cp.map (·.1));have c1:=(qy scope.names [] hcl (λx c h=>by simp at h)).1;have c2:=(qy scope.names [] hcl (λx c h=>by simp at h)).2;obtain ⟨m,hm,hl⟩:=id I.loc;refine ⟨ok,rfl,I.bare,Un.kept old,⟨_,hns,λi x v e1 e2 e3=>?_⟩,λx c e=>?_,I.hok.fresh (QT hC),λx c e=>I.freeC x c (c1 x c e),λp hp=>?_,I.hok.kept old,?_⟩
 ·have e1:(own++cp.map (·.1))[i]?=some x:=e1;unfold Zau at e2;by_cases hi:i<own.length
  ·rw [QA (by simpa using hi),Vg] at e2;split at e2<;>cases e2
  ·rw [Qt (by simpa using hi),uZ,Qh] at e2;rw [Qt (by omega),Qh] at e1
   cases q:cp[i-own.length]? with
   |none=>rw [q] at e1;cases e1
   |some p=>
    rw [q] at e1 e2;obtain ⟨y,j⟩:=p;cases Option.some.inj e1;obtain ⟨g1,g2,g3⟩:=hcp.get q;have e4:gS σ j=some v:=Option.some.inj e2;obtain ⟨u,r,lk⟩:=hl j y v g1 (Ze2 e4) (.inr (.inl g2));refine ⟨u,r,.inr ⟨?_,?_⟩⟩
    ·left
     show (Qam scope X.env).names.lookup y=some .cell;rw [Zfr g3];rw [if_pos];have:X.env.kindOf y=some .cell:=g2;rw [this,I.ok.kind];rfl
    ·rcases lk with ⟨z,_⟩|⟨_,c,z,zc⟩
     ·have z':X.env.scope.names.lookup y=some .local:=z;rw [g2] at z';cases z'
     ·obtain ⟨d,hd⟩:=c2 y (.inr g3);have hd':=c1 y d hd;rw [z] at hd';cases Option.some.inj hd';obtain ⟨o,ho,hdt⟩:=zc;exact ⟨c,hd,o,old _ _ ho,hdt⟩
 ·obtain ⟨v,o,ho,hd⟩:=I.cell x c (c1 x c e);exact ⟨v,o,old _ _ ho,hd⟩
 ·have hp:p∈[(s2.heap.objs.size,Zcq [] 0)]:=hp;cases jC.mp hp;refine ⟨hD,I.hok.fresh (Qf _),Qo hC,λhf=>?_,λv z=>by cases z⟩;have hf:s2.heap.objs.size∈frs X.stack:=hf;rcases jQ.mp (I.stkSub _ hf) with z|z
  ·exact Q5 I.lt z
  ·exact I.nofs (Qf _) z
 ·show (Zau own.length cp σ).length=(own++cp.map (·.1)).length;unfold Zau;simp
theorem ZhW {X':Cx} {σ':St} {H':Hp} {s':jn} {h'':Heap} {acc:List V} {its:List Value} {n:Nat} (I:Inv X Zb σ H2 s2) (f2:∀b∈fp,ZbX X Zb H2 b)
 (hX:X'=cxC X scope cl (own++cp.map (·.1)) fp C s2 H2) (hC:s2.heap.objs.size<C) (J:Inv X' [(s2.heap.objs.size,Zcq its n)] σ' H' s') (rv:ZA acc its) (hz:acc.length<=sizeLine)
 (hsb:Heap.SameBut C s'.heap h''):H' s2.heap.objs.size=none/\Inv X Zb σ (upd H' s2.heap.objs.size (.lst acc)) {s' with heap:=h''}:=by
 subst hX;obtain ⟨p1,p2,p3,p4,p5⟩:=J.pin (s2.heap.objs.size,Zcq its n) (jB _ (jC.mpr rfl));have p1:s'.heap.get? s2.heap.objs.size=some (Zcq its n):=p1;have p2:H' s2.heap.objs.size=none:=p2;have hfC:H' C=none:=J.free;have up:∀b o,b≠C->s'.heap.get? b=some o->h''.get? b=some o:=λb o hb e=>(hsb.2 b hb).trans e;have ltC:∀b o,s2.heap.get? b=some o->b≠C:=λb o e=>Qo (Wp (Qk e) hC);have ltD:∀b o,s2.heap.get? b=some o->b≠s2.heap.objs.size:=λb o e=>Qo (Qk e);have B:Un (frs X.stack) fp H2 H' s2.heap s'.heap:=J.base
 refine ⟨p2,I.call' (ch:=fp) J.os ⟨λb o e n hb hx=>up b o (ltC b o e) (B.keep b o e n hb hx),λb o e n hb hx=>?_,λb o e n hx=>?_,λb o e hx=>?_,λb xs e=>?_,λb o u e=>?_,λb ps e=>?_⟩ (λa o e=>?_) J.bare
  λb hb=>⟨(f2 b hb).2.2.2.1,(f2 b hb).2.1,(f2 b hb).2.2.2.2.1,(f2 b hb).2.2.2.2.2⟩⟩
 ·obtain ⟨sl,e1⟩:=B.slot b o e n hb hx;exact ⟨sl,up b _ (ltC b o e) e1⟩
 ·rw [Zi (ltD b o e)];exact B.free b o e n hx
 ·obtain ⟨o',e1⟩:=B.there b o e hx;exact ⟨o',up b o' (ltC b o e) e1⟩
 ·have q:=B.tups b xs e;rw [Zi (Zj q p2)];exact q
 ·have q:=B.frzs b o u e;rw [Zi (Zj q p2)];exact q
 ·obtain ⟨more,q⟩:=B.tbls b ps e;exact ⟨more,by rw [Zi (Zj q p2)];exact q⟩
 ·by_cases ha:a=s2.heap.objs.size
  ·subst ha;rw [Zg] at e;cases e;exact ⟨hz,its,n,rv,up _ _ (Qo hC) p1⟩
  ·rw [Zi ha] at e;refine (J.hok a o e).stay (λb u hb q=>up b u ?_ q) (λb q=>?_) λb xs q=>?_
   ·rintro rfl;rcases hb with z|z
    ·subst z;rw [hfC] at e;cases e
    ·rw [hfC] at z;cases z
   ·rw [Zi (Zj q p2)];exact q
   ·rw [Zi (Zj q p2)];exact q
end
theorem ZlV {α:Type} {t:Sem α} {Q Q':α->jn->Prop} {M:uI} {A:Around} {E:Value->jn->Prop} {s:jn} (h:js M A t Q (λ_ _=>False) s) (hQ:∀a s,Q a s->Q' a s):js M A t Q' E s:=jW h hQ λ_ _ x=>x.elim
section
variable {X:Cx}
structure Zqt (Cd:Cx->Prop) (P:jx) (w:jG) (K:Qa) (tg:jL) (J:It) (fp:List jo) (it:jo) (tn:Nat->Heap->Prop):Prop where
 mem:it∈fp
 obj:∀i h,tn i h->∀b∈fp,∃o,h.get? b=some o/\∀v,o.data≠ .cell v
 keep:∀i h h',tn i h->(∀b∈fp,∀o,h.get? b=some o->h'.get? b=some o)->tn i h'
 item:∀(X:Cx),X.prog=P->X.w=w->X.K=K->Cd X->∀(i:Nat) (Zb:List (jo×Obj)) (s:jn) (σ:St) (H:Hp) (E:Value->jn->Prop),Inv X Zb σ H s->(∀b∈fp,ZbX X Zb H b)->tn i s.heap->J.go i H->
  js (ju P w) X.A (uf (.ref it)) (λr s1=>∃u,r=some u/\js (ju P w) X.A (vQ tg (.ref it) u) (λ_ s2=>∃x H',Inv X Zb σ H' s2/\ZP x u/\J.yld i H x H'/\tn (i+1) s2.heap/\∀b∈fp,H' b=none) E s1) E s
 done:∀(X:Cx),X.prog=P->X.w=w->X.K=K->Cd X->∀(i:Nat) (Zb:List (jo×Obj)) (s:jn) (σ:St) (H:Hp) (E:Value->jn->Prop),Inv X Zb σ H s->(∀b∈fp,ZbX X Zb H b)->tn i s.heap->J.stop i H->js (ju P w) X.A (uf (.ref it)) (λr s1=>r=none/\Inv X Zb σ H s1) E s
 self:∀(A:Around) (i:Nat) (s:jn) (Q:Value->jn->Prop) (E:Value->jn->Prop),tn i s.heap->Q (.ref it) s->js (ju P w) A (Qai (.ref it)) Q E s
noncomputable def ZuV (Cd:Cx->Prop) (X:Cx) (Zb:List (jo×Obj)) (σ:St) (tg:jL) (R:It->Hp->Prop) (itv:Value) (s2:jn):Prop:=
 ∃(it:jo) (fp:List jo) (tn:Nat->Heap->Prop) (J:It) (H':Hp),itv=.ref it/\Inv X Zb σ H' s2/\Zqt Cd X.prog X.w X.K tg J fp it tn/\tn 0 s2.heap/\(∀b∈fp,ZbX X Zb H' b)/\R J H'
noncomputable def PIG (Cd:Cx->Prop) (X:Cx) (tg iter:jL) (wi:TI):Prop:=∀(Zb:List (jo×Obj)) (s:jn) (σ:St) (H:Hp) (R:It->Hp->Prop),Inv X Zb σ H s->wi σ H R->js (ju X.prog X.w) X.A (eval iter X.env) (λv s1=>js (ju X.prog X.w) X.A (Qai v) (ZuV Cd X Zb σ tg R) X.xe s1) X.xe s
theorem PI.toG {X:Cx} {tg iter:jL} {wi:TI} (h:PI X tg iter wi):PIG (λX=>X.calm=true) X tg iter wi:=λZb s σ H R I q=>thn (h Zb s σ H R I q) λv s1 h1=>thn h1 λitv s2 ⟨it,fp,tn,J,H',e,I',T,r⟩=>⟨it,fp,tn,J,H',e,I',⟨T.mem,T.obj,T.keep,T.item,T.done,T.self⟩,r⟩
theorem Zgi {Cd:Cx->Prop} {use:Option (Value->Sem Unit)} {R:Value->jn->Prop} {Zb:List (jo×Obj)} {s:jn} {σ:St} {H:Hp} {Q:VK} {elt iter target:jL} {ifs:List jL} {scope:Scope} {pos:Pos} {cl:List (Str×jo)} {own:List Str} {cp:List (Str×Nat)} {wi:TI} {g:TG} {tc:TT} {te:TE}
 (hc:∀fp c s H,Cd (cxC X scope cl (own++cp.map (·.1)) fp c s H)) (hcl:Ye scope.names X.env.cells []=some cl) (hk:scope.kind=.function) (hnc:∀y∈scope.names,y.2≠ .cell)
 (hnm:∀x∈scope.names,x.2=.local->scope.names.lookup x.1=some .local) (hcp:YT X scope cp) (hi:PIG Cd X target iter wi) (gk:ZeH own.length g)
 (hg:∀fp C s H,PG (cxC X scope cl (own++cp.map (·.1)) fp C s H) target g) (ht:∀fp C s H,PFs (cxC X scope cl (own++cp.map (·.1)) fp C s H) ifs tc) (he:∀fp C s H,PE (cxC X scope cl (own++cp.map (·.1)) fp C s H) elt te)
 (hs:∀x,jK iter X.env x=pure x)
 (I:Inv X Zb σ H s) (h:ZiS own.length cp wi g tc te σ H Q)
 (fin':∀{s2 s5:jn} {C:jo} {fp:List jo} {H2 H':Hp} {acc:List V} {its:List Value} {k:Nat},Inv X Zb σ H2 s2->(∀b∈fp,ZbX X Zb H2 b)->s2.heap.objs.size<C->Inv (cxC X scope cl (own++cp.map (·.1)) fp C s2 H2) [(s2.heap.objs.size,Zcq its k)] (Zau own.length cp σ) H' s5->ZA acc its->acc.length<=sizeLine->(H' s2.heap.objs.size=none->Q (.ref s2.heap.objs.size) (upd H' s2.heap.objs.size (.lst acc)))->compPost (ju X.prog X.w) X.A X.xe use R (.ref s2.heap.objs.size) C (.ok .next) s5):
 js (ju X.prog X.w) X.A (comprehension (.ListComp elt [⟨target,iter,ifs,0⟩] scope pos) scope X.env (firstIterPos [⟨target,iter,ifs,0⟩] pos) (newList []) false (eval iter X.env) use) R X.xe s:=by
 refine wpAny_comprehension_free (use:=use) rfl hs (ZaS hcl) hk hnm (thn (hi Zb s σ H _ I h) λxv s1 h1=>thn h1 λitv s2 h2=>?_);obtain ⟨it,fp,tn,J,H2,e,I2,Tn,st2,f2,W,⟨m0,w0⟩,turn⟩:=h2;subst e;have hlt:∀b∈fp,b<s2.heap.objs.size:=λb hb=>by obtain ⟨o,e,_⟩:=Tn.obj _ _ st2 b hb;exact Qk e
 refine j8 (wpAny_newFunctionEnv hnc (by intro y hy;simp at hy) (λh1 hns hsb=>?_) hk)
 dsimp only at hns hsb ⊢
 generalize hP:s2.heap.push {cls:=.type "list",dict:=none,data:=.seq ([]:List Value).toArray}=h0 at hns hsb ⊢
 have hCs:h0.objs.size=s2.heap.objs.size+1:=by rw [<-hP,UE]
 generalize hCg:h0.objs.size=C at hns hsb hCs ⊢
 have hC:s2.heap.objs.size<C:=by omega
 have neC:∀b:jo,b<s2.heap.objs.size->b≠C:=λb h=>Qo (Wp h hC)
 have old:∀b o,s2.heap.get? b=some o->h1.get? b=some o:=λb o e=>
  (hsb.2 b (neC b (Qk e))).trans (by rw [Qe _ (by rw [<-hP];exact Qe _ e)])
 have hD:h1.get? s2.heap.objs.size=some (Zcq [] 0):=
  (hsb.2 _ (Qo hC)).trans (by rw [Qe _ (by rw [<-hP];exact Qi _ rfl)])
 have fpok:∀{its:List Value} {k:Nat} {H':Hp},(∀b∈fp,H' b=none)->∀b∈fp,ZbX (cxC X scope cl (own++cp.map (·.1)) fp C s2 H2) [(s2.heap.objs.size,Zcq its k)] H' b:=λ{its k H'} fr b hb=>by
  refine ⟨fr b hb,neC b (hlt b hb),λhf=>?_,.inl hb,λx c e=>?_,λp hp=>?_⟩
  ·have hf:b∈frs X.stack:=hf;rcases jQ.mp (I2.stkSub b hf) with z|z
   ·exact (f2 b hb).2.1 z
   ·exact (f2 b hb).2.2.1 z
  ·exact (f2 b hb).2.2.2.2.1 x c ((qy scope.names [] hcl (λx c h=>by simp at h)).1 x c e)
  ·have hp:p∈[(s2.heap.objs.size,Zcq its k)]:=hp;cases jC.mp hp;exact Q5 (hlt b hb)
 have loop:∀s4:jn,s4= {s2 with heap:=h1,toks:=s2.toks+([]:List (Str×Value)).length}->
  u6 (ju X.prog X.w) X.A (.compLoop (.ListComp elt [⟨target,iter,ifs,0⟩] scope pos) 0 (.ref it) (.ref s2.heap.objs.size) (um scope cl C X.env))
   (compPost (ju X.prog X.w) X.A X.xe use R (.ref s2.heap.objs.size) C) s4:=by
  intro s4 e4;have I4:Inv (cxC X scope cl (own++cp.map (·.1)) fp C s2 H2) [(s2.heap.objs.size,Zcq [] 0)] (Zau own.length cp σ) H2 s4:=by rw [e4];exact Zi9 I2 hcl hk hnc hcp f2 hC hlt (by simpa using hns) old hD
  have st4:tn 0 s4.heap:=by rw [e4];exact Tn.keep _ _ _ st2 λb _ o e=>old b o e
  refine codeAny_loop rfl (λn s'=>∃i H' acc its k,Inv (cxC X scope cl (own++cp.map (·.1)) fp C s2 H2) [(s2.heap.objs.size,Zcq its k)] (Zau own.length cp σ) H' s'/\ZA acc its/\tn i s'.heap/\(∀b∈fp,H' b=none)/\W i n H' acc)
   (λn s' hI=>?_) m0 ⟨0,H2,[],[],0,I4,.nil,st4,λb hb=>(f2 b hb).1,w0⟩
  obtain ⟨i,H',acc,its,k,I',rv,st,fr,w⟩:=hI;show js _ X.A ((compTurn (.ListComp elt [⟨target,iter,ifs,0⟩] scope pos) 0 (.ref it) (.ref s2.heap.objs.size) (um scope cl C X.env)).onRaise (λx=>do noteFrame x (um scope cl C X.env);theTreesLotGoes x)) _ _ s';refine wpAny_noted ?_;rw [compTurn_list];refine jm (wpAny_standAt (jm ?_));obtain ⟨hz,⟨stop,fin⟩|⟨go,step⟩⟩:=turn i n H' acc w
  ·refine ZlV (Tn.done (cxC X scope cl (own++cp.map (·.1)) fp C s2 H2) rfl rfl rfl (hc _ _ _ _) i _ s' _ H' (λ_ _=>False) I' (fpok fr) st stop) λr s5 ⟨hr,I5⟩=>?_;subst hr;refine jq ?_;exact fin' I2 f2 hC I5 rv (QT hz) (fin _)
  ·refine ZlV (Tn.item (cxC X scope cl (own++cp.map (·.1)) fp C s2 H2) rfl rfl rfl (hc _ _ _ _) i _ s' _ H' (λ_ _=>False) I' (fpok fr) st go) λr s5 ⟨u,hr,h5⟩=>?_;subst hr;refine jm (ZlV h5 λ_ s6 ⟨x,H6,I6,r6,y6,st6,fr6⟩=>?_);have I6':=I6.pinned (fpok fr6) (Tn.obj _ _ st6);refine jm (ZlV (hg fp C s2 H2 _ s6 _ H6 x u _ I6' r6 (gk _ _ _ _ (step x H6 y6))) λ_ s7 ⟨σ7,H7,I7,q7,kp7⟩=>?_);refine jm (ZlV (ht fp C s2 H2 _ s7 σ7 H7 _ I7 q7) λb s8 ⟨H8,I8,q8⟩=>?_)
   have weak:∀{H9:Hp} {s9:jn} {ps:List (jo×Obj)},Inv (cxC X scope cl (own++cp.map (·.1)) fp C s2 H2) ps σ7 H9 s9->Inv (cxC X scope cl (own++cp.map (·.1)) fp C s2 H2) ps (Zau own.length cp σ) H9 s9:=λ{H9 s9 ps} I9=>
    I9.weak (by rw [I9.len];exact I'.len) λj v e=>by
     by_cases hj:own.length<=j
     ·rw [kp7 j hj];exact e
     ·unfold Zau at e;rw [QA (by rw [uZ];omega),Vg] at e;split at e<;>cases e
   have turned:∀{H9:Hp} {s9:jn},Inv (cxC X scope cl (own++cp.map (·.1)) fp C s2 H2) ([(s2.heap.objs.size,Zcq its k)]++ZbC fp s6.heap) σ7 H9 s9->(∀b∈fp,H9 b=none)/\∀b∈fp,∀o,s6.heap.get? b=some o->s9.heap.get? b=some o:=λ{H9 s9} I9=>by
    refine ⟨λb hb=>?_,λb hb o e=>?_⟩
    ·obtain ⟨o,e,_⟩:=Tn.obj _ _ st6 b hb;exact (I9.pin (b,o) (jB _ (jB _ (ZaW hb e)))).2.1
    ·exact (I9.pin (b,o) (jB _ (jB _ (ZaW hb e)))).1
   cases b with
   |false=>
    obtain ⟨m',hm',w8⟩:=q8;refine jq ⟨rfl,m',hm',i+1,H8,acc,its,k,weak I8.unpinned,rv,Tn.keep _ _ _ st6 (turned I8).2,(turned I8).1,w8⟩
   |true=>
    refine jm (jm (ZlV (he fp C s2 H2 _ s8 σ7 H8 _ I8 q8) λuy s9 ⟨y,H9,I9,r9,m',hm',w9⟩=>?_));have pD:=I9.pin (s2.heap.objs.size,Zcq its k) (jB _ (uw _ (jC.mpr rfl)));have lenI:=rv.length;refine jm (wpAny_list_append_plain (items:=its.toArray) ⟨k,pD.1⟩ (λh10 pl sb=>?_) (by rw [jI];omega));obtain ⟨k',hk'⟩:=pl
    have I10:Inv (cxC X scope cl (own++cp.map (·.1)) fp C s2 H2) (ZbC fp s6.heap) σ7 H9 {s9 with heap:=h10}:=by
     have I9':Inv (cxC X scope cl (own++cp.map (·.1)) fp C s2 H2) (ZbC fp s6.heap) σ7 H9 s9:=I9.pins_of λp hp=>I9.pin p (jB _ (jB _ hp));refine I9'.turned (t':=s9.toks) (it:=s2.heap.objs.size) (λb o hb e=>(sb.2 b hb).trans e) pD.2.1 pD.2.2.1 (.inr (Qf _)) (λx c e z=>?_) λp hp z=>?_
     ·obtain ⟨v,o,ho,hd⟩:=I9.cell x c e;rw [z,pD.1] at ho;cases ho;cases hd
     ·have hp:p∈ZbC fp s6.heap:=hp;exact Qo (hlt p.1 (Zgw hp).1) z
    have kk:∀b∈fp,∀o,s6.heap.get? b=some o->h10.get? b=some o:=λb hb o e=>(sb.2 b (Qo (hlt b hb))).trans ((turned I9).2 b hb o e);have I11:Inv (cxC X scope cl (own++cp.map (·.1)) fp C s2 H2) [(s2.heap.objs.size,Zcq (its++[uy]) k')] σ7 H9 {s9 with heap:=h10}:=I10.pins_of λp hp=>by cases jC.mp hp;refine ⟨?_,pD.2.1,pD.2.2.1,pD.2.2.2.1,λv z=>by cases z⟩;rw [hk'];simp
    exact jq (jq ⟨rfl,m',hm',i+1,H9,acc++[y],its++[uy],k',weak I11,rv.append (.cons r9 .nil),Tn.keep _ _ _ st6 kk,(turned I9).1,w9⟩)
 exact codeAny_compStart_list (loop _ rfl) (Tn.self _ 0 _ _ _ (Tn.keep _ _ _ st2 λb _ o e=>old b o e) (loop _ rfl))
theorem Zc3 {elt iter target:jL} {ifs:List jL} {scope:Scope} {pos:Pos} {cl:List (Str×jo)} {own:List Str} {cp:List (Str×Nat)} {wi:TI} {g:TG} {tc:TT} {te:TE}
 (hc:X.calm=true) (hcl:Ye scope.names X.env.cells []=some cl) (hk:scope.kind=.function) (hnc:∀y∈scope.names,y.2≠ .cell)
 (hnm:∀x∈scope.names,x.2=.local->scope.names.lookup x.1=some .local) (hcp:YT X scope cp) (hi:PI X target iter wi) (gk:ZeH own.length g)
 (hg:∀fp C s H,PG (cxC X scope cl (own++cp.map (·.1)) fp C s H) target g) (ht:∀fp C s H,PFs (cxC X scope cl (own++cp.map (·.1)) fp C s H) ifs tc) (he:∀fp C s H,PE (cxC X scope cl (own++cp.map (·.1)) fp C s H) elt te)
 (hs:∀x,jK iter X.env x=pure x:=by intro _;rfl):PE X (.ListComp elt [⟨target,iter,ifs,0⟩] scope pos) (ZiS own.length cp wi g tc te):=by
 intro Zb s σ H Q I h;rw [eval_ListComp];refine Zgi (Cd:=λX=>X.calm=true) (λ_ _ _ _=>hc) hcl hk hnc hnm hcp hi.toG gk hg ht he hs I h λ{s2 s5 C fp H2 H' acc its k} I2 f2 hC I5 rv hz fin=>?_;obtain ⟨mm,hmm,_⟩:=I5.loc;refine ⟨mm,hmm,λh'' hs''=>?_⟩;obtain ⟨hn,I6⟩:=ZhW I2 f2 rfl hC I5 rv hz hs'';exact ⟨.ref s2.heap.objs.size,_,I6,rfl,fin hn⟩
end
section
variable {X:Cx} {pos:Pos}
noncomputable def trV (K:Qa) (t:TE):TT:=λσ H Q=>t σ H λx H'=>match x with
 | .bl b=>Q b H'
 | .int i=>Q (i !=0) H'
 | .non=>Q false H'
 | .str z=>(L z).length<=sizeLine/\Q (((L z).length:Int) !=0) H'
 | .ref p=>∃k,ZtS K (.ref p) H' k/\Q k H'
 |_=>False
theorem Zuv {a:jL} {ta:TE} (ha:PE X a ta) (he:∀whole,isTrue a X.env whole=(do let v <-whole;standAt a.pos;vN [v] (truthy v)):=by intro _;rfl):PT X a (trV X.K ta):=by
 intro Zb s σ H Q I h;refine isTrue_plain (thn (ha Zb s σ H _ I h) λv s1 ⟨x,H1,I1,r1,q1⟩=>Zs5 Zb s1 σ H1 x v Q I1 r1 ?_) (he _)
 cases x with
 |bl b=>exact ⟨b,rfl,q1⟩
 |int i=>exact ⟨_,rfl,q1⟩
 |non=>exact ⟨false,rfl,q1⟩
 |str z=>exact ⟨_,⟨by rw [<-Z0];exact q1.1,rfl⟩,by rw [<-Z0];exact q1.2⟩
 |ref p=>exact q1
 |_=>exact False.elim q1
noncomputable def tB2 (r:R2) (ta tb:TE):TT:=λσ H Q=>ta σ H λx H1=>tb σ H1 λy H2=>r x y H2 λz H3=>match z with
 | .bl b=>Q b H3
 |_=>False
theorem zr {op:CmpOp} {r:R2} {a b:jL} {ta tb:TE} (ho:OpR X (jZ op) r) (ha:PE X a ta) (hb:PE X b tb) (hm:u5 op b=false:=by first|exact Zn0 _|with_unfolding_all rfl):PT X (.Compare a [op] [b] pos) (tB2 r ta tb):=by
 intro Zb s σ H Q I h
 refine wpAny_isTrue_Compare1 (thn (ha Zb s σ H _ I h) λv s1 ⟨x,H1,I1,r1,q1⟩=>thn (hb Zb s1 σ H1 _ I1 q1) λu s2 ⟨y,H2,I2,r2,q2⟩=>
  thn (ho Zb s2 σ H2 x y v u _ I2 r1 r2 q2) λc s3 ⟨z,H3,I3,r3,q3⟩=>?_) hm
 cases z with
 |bl k=>cases r3;exact uU ⟨H3,I3,q3⟩
 |_=>exact False.elim q3
theorem Zb8 {op:CmpOp} {r:R2} {a b:jL} {ta tb:TE} (ho:OpR X (jZ op) r) (ha:PE X a ta) (hb:PE X b tb) (hm:u5 op b=false:=by first|exact Zn0 _|with_unfolding_all rfl):PE X (.Compare a [op] [b] pos) (tOp r ta tb):=ZpJ ho ha hb hm
noncomputable def Zs9 (ta tb:TE):TE:=λσ H Q=>ta σ H λx H1=>match x with
 | .bl c=>if c=true then tb σ H1 Q else Q (.bl false) H1
 |_=>False
noncomputable def vOr (ta tb:TE):TE:=λσ H Q=>ta σ H λx H1=>match x with
 | .bl c=>if c=true then Q (.bl true) H1 else tb σ H1 Q
 |_=>False
noncomputable def ZuJ (ta:TE):TE:=λσ H Q=>ta σ H λx H1=>match x with
 | .bl c=>Q (.bl (!c)) H1
 |_=>False
theorem ZnX {a:jL} {ta:TE} (h:PE X a ta) (Zb:List (jo×Obj)) (s:jn) (σ:St) (H:Hp) (Q Q':VK) (I:Inv X Zb σ H s) (q:ta σ H Q) (hq:∀v H',Q v H'->Q' v H'):js (ju X.prog X.w) X.A (eval a X.env) (EP X Zb σ Q') X.xe s:=
 thn (h Zb s σ H Q I q) λu s1 ⟨v,H1,I1,r,q⟩=>⟨v,H1,I1,r,hq v H1 q⟩
theorem PE.imp {e:jL} {t:TE} (h:PE X e t) {t':TE} (hi:∀σ H Q,t' σ H Q->∃Q0,t σ H Q0/\∀v H',Q0 v H'->Q v H'):PE X e t':=λZb s σ H Q I q=>by obtain ⟨Q0,h0,h1⟩:=hi σ H Q q;exact ZnX h Zb s σ H Q0 Q I h0 h1
theorem Zex {a b:jL} {qB:List jL} {ta tb:TE} (ha:PE X a ta) (hb:PE X (.BoolOp .And (b::qB) pos) tb):PE X (.BoolOp .And (a::b::qB) pos) (Zs9 ta tb):=by
 have ha':PE X a (λσ H Q=>∃Q0:VK,ta σ H Q0/\∀v H',Q0 v H'->Q v H'):=ha.imp λσ H Q h=>h;intro Zb s σ H Q I h;refine Zsl (ta:=λσ H Q=>∃Q0:VK,ta σ H Q0/\∀v H',Q0 v H'->Q v H') ha' hb Zb s σ H Q I ?_;refine ⟨_,h,λv H' q=>?_⟩
 cases v with
 |bl c=>exact ⟨c,rfl,q⟩
 |_=>exact False.elim q
theorem Zss {a b:jL} {qB:List jL} {ta tb:TE} (ha:PE X a ta) (hb:PE X (.BoolOp .Or (b::qB) pos) tb):PE X (.BoolOp .Or (a::b::qB) pos) (vOr ta tb):=by
 have ha':PE X a (λσ H Q=>∃Q0:VK,ta σ H Q0/\∀v H',Q0 v H'->Q v H'):=ha.imp λσ H Q h=>h;intro Zb s σ H Q I h;refine Zus (ta:=λσ H Q=>∃Q0:VK,ta σ H Q0/\∀v H',Q0 v H'->Q v H') ha' hb Zb s σ H Q I ?_;refine ⟨_,h,λv H' q=>?_⟩
 cases v with
 |bl c=>exact ⟨c,rfl,q⟩
 |_=>exact False.elim q
noncomputable def ZrZ:V->Hp->VK->Prop:=λx H Q=>match x with
 | .int i=>Q (.int (-i)) H
 |_=>False
theorem ZkR:UnR X (unaryOp .USub) ZrZ:=by
 intro Zb s σ H x v Q I rx h
 cases x with
 |int i=>exact Zs7 Zb s σ H _ v Q I rx ⟨i,rfl,h⟩
 |_=>exact False.elim h
noncomputable def pT (t:TE):TO:=λσ H Q=>t σ H λx H1=>match x with
 | .int i=>Q (some i) H1
 |_=>False
theorem ZbD {e:jL} {te:TE} (h:PE X e te):PO X (some e) (pT te):=by
 have h':PE X e (λσ H Q=>∃Q0:VK,te σ H Q0/\∀v H',Q0 v H'->Q v H'):=h.imp λσ H Q h=>h;intro Zb s σ H Q I hw;refine ZpQ h' Zb s σ H Q I ?_;refine ⟨_,hw,λv H' q=>?_⟩
 cases v with
 |int i=>exact ⟨i,rfl,q⟩
 |_=>exact False.elim q
noncomputable def ZsI (i:Nat) (te:TE) (ti:TIp):TS:=λD σ H=>match gS σ i with
 |some x=>te σ H λy H1=>ti x y H1 λz H2=>D.nx (σ.set i (some z)) H2
 |none=>False
theorem ZpR {i:Nat} {x:Str} {e:jL} {te:TE} {op:Operator} {ti:TIp} {pos':Pos} (ho:OpR X (Qae op) ti) (hN:X.N.Nodup) (hi:X.N[i]?=some x) (hx:Loc X.env.scope x) (he:PE X e te) (hf:X.fn x=true\/X.env.scope.names.lookup x=some .local:=by first|exact .inl rfl|exact .inr rfl|assumption):
 PS X (.AugAssign (.Name x pos') op e pos) (ZsI i te ti):=by
 intro Zb s σ H D I h;refine ZsD hN hi hx he ho hf Zb s σ H D I ?_;unfold ZsI at h
 cases e:gS σ i with
 |none=>rw [e] at h;exact h.elim
 |some v=>rw [e] at h;exact ⟨v,Ze2 e,h⟩
noncomputable def tWh (c:TT) (tb:TS):TS:=λD σ H=>∃W:Nat->St->Hp->Prop,(∃m,W m σ H)/\∀m σ H,W m σ H->
 c σ H λb H1=>if b=true then tb {nx:=λσ' H'=>∃m',m'<m/\W m' σ' H',rt:=D.rt,bk:=D.nx,ct:=λσ' H'=>∃m',m'<m/\W m' σ' H'} σ H1 else D.nx σ H1
theorem Zuu {c:jL} {body:List Stmt} {tc:TT} {tb:TS} (hp:u9 (ju X.prog X.w) X.A X.env X.xe) (hc:PT X c tc) (hb:PSs X body tb):PS X (.While c body [] pos) (tWh tc tb):=by
 have hc':PT X c (λσ H Q=>∃Q0:Bool->Hp->Prop,tc σ H Q0/\∀v H',Q0 v H'->Q v H'):=λZb s σ H Q I ⟨Q0,h0,h1⟩=>thn (hc Zb s σ H Q0 I h0) λb s1 ⟨H1,I1,q⟩=>⟨H1,I1,h1 b H1 q⟩;intro Zb s σ H D I h;obtain ⟨W,w0,turn⟩:=h;refine Zol hp hc' hb Zb s σ H D I ⟨W,w0,λm σ1 H1 w=>⟨_,turn m σ1 H1 w,λb H2 q=>?_⟩⟩
 cases b with
 |true=>exact ⟨_,λ_ _ z=>z,q⟩
 |false=>exact q
noncomputable def Zt4 (lo:Int) (n:Nat) (i:Nat) (tb:TS):TS:=λD σ H=>∃Pv:Nat->St->Hp->Prop,Pv 0 σ H/\(∀k σ H,k<n->Pv k σ H->tb {nx:=Pv (k+1),rt:=D.rt,bk:=D.nx,ct:=Pv (k+1)} (σ.set i (some (.int (lo+k)))) H)/\∀σ H,Pv n σ H->D.nx σ H
noncomputable def ZuG (ta:TA) (i:Nat) (tb:TS):TS:=λD σ H=>ta σ H λvs H1=>match vs with
 |[.int j]=>(-(2 ^ 62)<=j/\j<2 ^ 62)/\Zt4 0 j.toNat i tb D σ H1
 |_=>False
theorem PA.imp {es:List jL} {t:TA} (h:PA X es t) {t':TA} (hi:∀σ H Q,t' σ H Q->∃Q0:List V->Hp->Prop,t σ H Q0/\∀v H',Q0 v H'->Q v H'):PA X es t':=λp Zb s σ H Q I q=>by obtain ⟨Q0,h0,h1⟩:=hi σ H Q q;exact thn (h p Zb s σ H Q0 I h0) λus s1 ⟨vs,H1,I1,r,q⟩=>⟨vs,H1,I1,r,h1 vs H1 q⟩
theorem ZpV {a:jL} {x:Str} {i:Nat} {p p' pos':Pos} {body:List Stmt} {ta:TA} {tb:TS} (hp:u9 (ju X.prog X.w) X.A X.env X.xe) (hc:X.calm=true) (hm:X.mg "range"=none) (ha:PA X [a] ta)
 (hg:PG X (.Name x pos') (Yg i)) (hb:PSs X body tb) (hgl:Gl X "range":=by rfl) (hs:jA [a] X.env=[(false,eval a X.env)]:=by rfl) (hf:∀x,jK (.Call (.Name "range" p) [a] [] p') X.env x=pure x:=by intro _;rfl):
 PS X (.For (.Name x pos') (.Call (.Name "range" p) [a] [] p') body [] pos) (ZuG ta i tb):=by
 have ha':PA X [a] (λσ H Q=>∃Q0:List V->Hp->Prop,ta σ H Q0/\∀v H',Q0 v H'->Q v H'):=ha.imp λσ H Q h=>h;intro Zb s σ H D I h;refine Zfp hp hc (ZdL hgl hm ha' hs) hg hb hf Zb s σ H D I ⟨_,h,λvs H1 q=>?_⟩;split at q
 ·obtain ⟨⟨h1,h2⟩,Pv,h0,hs',hd⟩:=q;exact ⟨_,rfl,h1,h2,Zla Pv h0 (λk σ H hk pv=>hs' k σ H hk pv) hd⟩
 ·exact q.elim
noncomputable def Zrv (K:Qa) (a:jo) (xs:List V) (g:TG) (tb:TS):TS:=λD σ H=>∃Pv:Nat->St->Hp->Prop,Pv 0 σ H/\(∀i σ H,i<=xs.length->Pv i σ H->SqL K H a xs)/\
 (∀i x σ H,xs[i]?=some x->Pv i σ H->g x σ H λσ2 H2=>tb {nx:=Pv (i+1),rt:=D.rt,bk:=D.nx,ct:=Pv (i+1)} σ2 H2)/\∀σ H,Pv xs.length σ H->D.nx σ H
noncomputable def ZkO (K:Qa) (tl:TE) (g:TG) (tb:TS):TS:=λD σ H=>tl σ H λv H1=>match v with
 | .ref a=>∃xs,SqL K H1 a xs/\Zrv K a xs g tb D σ H1
 |_=>False
theorem ZsF {l tg:jL} {body:List Stmt} {tl:TE} {g:TG} {tb:TS} (hp:u9 (ju X.prog X.w) X.A X.env X.xe) (hc:X.calm=true) (hl:PE X l tl) (hg:PG X tg g) (hb:PSs X body tb)
 (hf:∀x,jK l X.env x=pure x:=by intro _;rfl):PS X (.For tg l body [] pos) (ZkO X.K tl g tb):=by
 have hl':PE X l (λσ H Q=>∃Q0:VK,tl σ H Q0/\∀v H',Q0 v H'->Q v H'):=hl.imp λσ H Q h=>h;intro Zb s σ H D I h;refine Zfp hp hc (Zey hl') hg hb hf Zb s σ H D I ⟨_,h,λv H1 q=>?_⟩
 cases v with
 |ref a=>
  obtain ⟨xs,hx,Pv,h0,hs,h1,hd⟩:=q;exact ⟨a,rfl,⟨xs,hx⟩,Znh Pv h0 hs h1 hd⟩
 |_=>exact False.elim q
noncomputable def ZoI (K:Qa) (n:Nat) (cp:List (Str×Nat)) (tl:TE) (te:TE):TE:=λσ H Q=>tl σ H λv H1=>match v with
 | .ref a=>∃(xs:List V) (f:V->V),SqL K H1 a xs/\xs.length<sizeLine/\(∀x∈xs,te ((Zau n cp σ).set 0 (some x)) H1 λy H6=>H6=H1/\y=f x)/\∀l,H1 l=none->Q (.ref l) (upd H1 l (.lst (xs.map f)))
 |_=>False
theorem ZpL {elt iter:jL} {x:Str} {px:Pos} {scope:Scope} {pos:Pos} {cl:List (Str×jo)} {own:List Str} {cp:List (Str×Nat)} {tl te:TE}
 (hc:X.calm=true) (hcl:Ye scope.names X.env.cells []=some cl) (hk:scope.kind=.function) (hnc:∀y∈scope.names,y.2≠ .cell)
 (hnm:∀x∈scope.names,x.2=.local->scope.names.lookup x.1=some .local) (hcp:YT X scope cp) (hi:PE X iter tl) (hn:0<own.length)
 (hg:∀fp C s H,PG (cxC X scope cl (own++cp.map (·.1)) fp C s H) (.Name x px) (Yg 0)) (he:∀fp C s H,PE (cxC X scope cl (own++cp.map (·.1)) fp C s H) elt te)
 (hs:∀x,jK iter X.env x=pure x:=by intro _;rfl):PE X (.ListComp elt [⟨.Name x px,iter,[],0⟩] scope pos) (ZoI X.K own.length cp tl te):=by
 have hi':PE X iter (λσ H Q=>∃Q0:VK,tl σ H Q0/\∀v H',Q0 v H'->Q v H'):=hi.imp λσ H Q h=>h;have he':∀fp C s H,PE (cxC X scope cl (own++cp.map (·.1)) fp C s H) elt (λσ H Q=>∃Q0:VK,te σ H Q0/\∀v H',Q0 v H'->Q v H'):=λfp C s H=>(he fp C s H).imp λσ H Q h=>h;intro Zb s σ H Q I h;refine Zc3 hc hcl hk hnc hnm hcp (Zey hi') (ZbQ hn) hg (λ_ _ _ _=>Zhh) he' hs Zb s σ H Q I ?_;refine ⟨_,h,λv H1 q=>?_⟩
 cases v with
 |ref a=>
  obtain ⟨xs,f,hx,hz,hst,q⟩:=q;refine ⟨a,rfl,⟨xs,hx⟩,λi m H2 acc=>H2=H1/\m=xs.length-i/\i<=xs.length/\acc=(xs.take i).map f,⟨xs.length,rfl,rfl,Qu _,rfl⟩,?_⟩;rintro i m H2 acc ⟨rfl,rfl,hi2,rfl⟩;refine ⟨by rw [jr,jF];omega,?_⟩;by_cases hlt:i<xs.length
  ·refine .inr ⟨⟨xs,xs[i],hx,by simp [hlt]⟩,λy H3 ⟨e3,y3⟩=>?_⟩;subst e3;have ey:=y3 xs hx;have key:∃Q0:VK,te ((Zau own.length cp σ).set 0 (some y)) H3 Q0/\∀z H6,Q0 z H6->∃m',m'<xs.length-i/\H6=H3/\m'=xs.length-(i+1)/\i+1<=xs.length/\(xs.take i).map f++[z]=(xs.take (i+1)).map f:=by refine ⟨_,hst y (QF ey),λz H6 ⟨e6,ez⟩=>⟨xs.length-(i+1),by omega,e6,rfl,hlt,?_⟩⟩;subst ez;rw [Ub,ey,ux];rfl
   exact key
  ·have e:i=xs.length:=by omega
   subst e;refine .inl ⟨⟨xs,hx,Qf _⟩,λl hl=>?_⟩;rw [QG];exact q l hl
 |_=>exact False.elim q
end
end L2
namespace LW
open PySem L2
noncomputable def byL:List Int:=[48271,69621,16807,39373,21401,60493,87721,31337]
noncomputable def Zhk:List Int:=[99991,99989,99971,99961,99929,99923,99907,99901]
noncomputable def Zan:List Nat:=(Qj 5).map (λk=>32+k)++(Qj 89).map λk=>38+k
theorem ZlO:Zan.length=94:=by rfl'
noncomputable def ZmN (ns:List Int) (k:Int):Int:=if k<ns.length then ns.getD k.toNat 0 else 0
theorem ZmS {α:Type} (xs:List α) (m:Int) (h:0<=m):(cut xs none (some m)).length<=m.toNat:=by
 unfold cut;rw [jF,jO];have:HT.sIx xs.length xs.length (some m)<=m.toNat:=by show (if m<0 then (m+(xs.length:Int)).toNat else min m.toNat xs.length)<=m.toNat;rw [if_neg (by omega)];omega
 omega
theorem ZpZ (n:Nat) (l:List Nat):(rep n l).length=n * l.length:=by unfold rep;simp
theorem YV {α:Type} {xs:List α} {i:Int} (d:α) (h0:0<=i) (h1:i<xs.length):atI xs i=some (xs.getD i.toNat d):=by
 unfold atI ixN;rw [if_pos h0,if_pos h1];show xs[i.toNat]?=_;rw [Qb];have:i.toNat<xs.length:=by omega
 rw [Qd this];rfl
theorem Zh7 (l:List Int) (i:Nat):(l.map V.int).getD i (V.int 0)=V.int (l.getD i 0):=by rw [Qb,Qb,Qh];cases l[i]?<;>rfl
theorem Zka {l:List Int} {i:Int} (h0:0<=i) (h1:i<l.length):atI (l.map V.int) i=some (V.int (l.getD i.toNat 0)):=by rw [YV (V.int 0) h0 (by simpa using h1),Zh7]
theorem ZlH {i:Int} (h0:0<=i) (h1:i<8):0<Zhk.getD i.toNat 0:=by
 have:i.toNat<8:=by omega
 generalize i.toNat=n at this;have h:∀n:Nat,n<8->0<Zhk.getD n 0:=by decide
 exact h n this
theorem ZcT {α:Type} {xs:List α} {lo hi:Option Int} {c:α} (h:c∈cut xs lo hi):c∈xs:=UD (Q7 h)
theorem Zng {α β:Type} (g:α->β):∀l:List α,(l.map λc=>[g c]).flatten=l.map g
 |[]=>rfl
 |x::r=>by rw [jV,jV,Uk,Zng g r];rfl
theorem ZsW {α β:Type} (g:α->β):∀l:List α,((l.map λc=>[g c]).map Ui).sum=l.length
 |[]=>rfl
 |x::r=>by rw [jV,jV,Vz,ZsW g r,jD];show 1+r.length=r.length+1;omega
theorem Zph:L (Qc "")=[]:=by rfl'
theorem ZgW {α β:Type} (f:α->β) (l:List α) (lo hi:Option Int):cut (l.map f) lo hi=(cut l lo hi).map f:=by unfold cut;rw [QaG,map_drop,jr]
theorem ZkS {H:Hp} {p p':jo} {o o':HO} (h:upd H p o p'=none):upd (upd H p o) p' o' p=some o:=by
 have:p≠p':=by rintro rfl;rw [Zg] at h;cases h
 rw [Zi this,Zg]
end LW
namespace L2
open PySem PySem.Spec PyProof.Rows
section
variable {X:Cx} {pos:Pos}
noncomputable def isS (x:V) (n:String):Option Bool:=match x with
 | .int _=>if n="int" then some true else if n="bool" then some false else if n="str" then some false else if n="list" then some false else if n="tuple" then some false else if n="dict" then some false else none
 | .bl _=>if n="int" then some true else if n="bool" then some true else if n="str" then some false else if n="list" then some false else if n="tuple" then some false else if n="dict" then some false else none
 | .str _=>if n="int" then some false else if n="bool" then some false else if n="str" then some true else if n="list" then some false else if n="tuple" then some false else if n="dict" then some false else none
 | .non=>if n="int" then some false else if n="bool" then some false else if n="str" then some false else if n="list" then some false else if n="tuple" then some false else if n="dict" then some false else none
 |_=>none
theorem ZrD {K:Qa} {H:Hp} {x:V} {n:String} {b:Bool} (h:isS x n=some b):∃t,ZcD K H x t/\jE K t (.type n)=some b:=by
 cases x with
 |int i=>
  refine ⟨_,.int i,?_⟩;unfold isS at h;dsimp only at h;split at h
  ·rename_i e;subst e;cases h;rfl
  split at h
  ·rename_i e;subst e;cases h;rfl
  split at h
  ·rename_i e;subst e;cases h;rfl
  split at h
  ·rename_i e;subst e;cases h;rfl
  split at h
  ·rename_i e;subst e;cases h;rfl
  split at h
  ·rename_i e;subst e;cases h;rfl
  ·cases h
 |bl i=>
  refine ⟨_,.bl i,?_⟩;unfold isS at h;dsimp only at h;split at h
  ·rename_i e;subst e;cases h;rfl
  split at h
  ·rename_i e;subst e;cases h;rfl
  split at h
  ·rename_i e;subst e;cases h;rfl
  split at h
  ·rename_i e;subst e;cases h;rfl
  split at h
  ·rename_i e;subst e;cases h;rfl
  split at h
  ·rename_i e;subst e;cases h;rfl
  ·cases h
 |str i=>
  refine ⟨_,.str i,?_⟩;unfold isS at h;dsimp only at h;split at h
  ·rename_i e;subst e;cases h;rfl
  split at h
  ·rename_i e;subst e;cases h;rfl
  split at h
  ·rename_i e;subst e;cases h;rfl
  split at h
  ·rename_i e;subst e;cases h;rfl
  split at h
  ·rename_i e;subst e;cases h;rfl
  split at h
  ·rename_i e;subst e;cases h;rfl
  ·cases h
 |non=>
  refine ⟨_,.non,?_⟩;unfold isS at h;dsimp only at h;split at h
  ·rename_i e;subst e;cases h;rfl
  split at h
  ·rename_i e;subst e;cases h;rfl
  split at h
  ·rename_i e;subst e;cases h;rfl
  split at h
  ·rename_i e;subst e;cases h;rfl
  split at h
  ·rename_i e;subst e;cases h;rfl
  split at h
  ·rename_i e;subst e;cases h;rfl
  ·cases h
 |_=>cases h
noncomputable def Znt (K:Qa):List V->Hp->VK->Prop:=λxs H Q=>match xs with
 |[.ref p,.ty n]=>∃b t,ZcD K H (.ref p) t/\jE K t (.type n)=some b/\Q (.bl b) H
 |[x,.ty n]=>match isS x n with
  |some b=>Q (.bl b) H
  |none=>False
 |_=>False
theorem ZtX:qk X (.builtin "isinstance") (Znt X.K):=by
 intro Zb s σ H xs us Q I r h;unfold Znt at h;split at h
 ·rename_i p n;obtain ⟨b,t,ty,e,q⟩:=h;obtain ⟨u,w',rfl,ru,rw'⟩:=ZfN r;cases rw';exact Zgq I ru ty e λtk=>ZO (I.tok tk) q rfl
 ·rename_i x n _;split at h
  ·rename_i b e;obtain ⟨t,ty,e2⟩:=ZrD (K:=X.K) (H:=H) e;obtain ⟨u,w',rfl,ru,rw'⟩:=ZfN r;cases rw';exact Zgq I ru ty e2 λtk=>ZO (I.tok tk) h rfl
  ·exact h.elim
 ·exact h.elim
end
section
variable {X:Cx} {K:Qa} {pos:Pos}
theorem zi (h:X.K=K):IxR X (ixV K):=h▸Zu3
theorem Zaa (h:X.K=K):SlR X (slV K):=h▸Zve
theorem zL (h:X.K=K):qk X (.builtin "len") (Zjl K):=h▸ZtZ
theorem Zri (h:X.K=K):qk X (.builtin "isinstance") (Znt K):=h▸ZtX
theorem Zew (h:X.K=K):MtR X "str.join" (Zie K):=h▸ZrT
theorem ZaZ {a:jL} {ta:TE} (hK:X.K=K) (ha:PE X a ta) (he:∀whole,isTrue a X.env whole=(do let v <-whole;standAt a.pos;vN [v] (truthy v)):=by intro _;rfl):PT X a (trV K ta):=by subst hK;exact Zuv ha he
variable {o e:jL} {es:List jL} {to:TE} {t:TA} {name:Str} {apos cpos:Pos} {T id:String} {r:V->List V->Hp->VK->Prop}
theorem qA (hK:X.K=K) (pa:PlainAttrs T) (slot:Slot T name id) (hty:typeOf (.builtin id)=pure (.type "method_descriptor")) (hm:MtR X id r) (ho:PE X o to) (ha:PA X (e::es) t)
 (hbase:vo o name X.env (eval o X.env)=eval o X.env:=by rfl)
 (hfew:((ut cpos (jA (e::es) X.env)).all (λx=> !x.1) && (v6 cpos (vq [] X.env)).all (λx=>x.1.isSome)
  && decide ((e::es).length+([]:List QaB).length+(if ([]:List QaB).isEmpty then 0 else 1)<30))=true:=by rfl)
 (hline:(apos.endLine==cpos.line)=true:=by rfl) (hs:jA (e::es) X.env=(false,eval e X.env)::jA es X.env:=by rfl) (hplain:(ut cpos (jA es X.env)).any (·.1)=false:=by rfl):
 PE X (.Call (.Attribute o name apos) (e::es) [] cpos) (tBM K T r to t):=by
 subst hK;exact Zuq pa slot hty hm ho ha hbase hfew hline hs hplain
theorem ZkE {l tg:jL} {body:List Stmt} {tl:TE} {g:TG} {tb:TS} (hK:X.K=K) (hp:u9 (ju X.prog X.w) X.A X.env X.xe) (hc:X.calm=true) (hl:PE X l tl) (hg:PG X tg g) (hb:PSs X body tb)
 (hf:∀x,jK l X.env x=pure x:=by intro _;rfl):PS X (.For tg l body [] pos) (ZkO K tl g tb):=by
 subst hK;exact ZsF hp hc hl hg hb hf
theorem Zof {elt iter:jL} {x:Str} {px:Pos} {scope:Scope} {pos:Pos} {cl:List (Str×jo)} {own:List Str} {cp:List (Str×Nat)} {tl te:TE} (hK:X.K=K)
 (hc:X.calm=true) (hcl:Ye scope.names X.env.cells []=some cl) (hk:scope.kind=.function) (hnc:∀y∈scope.names,y.2≠ .cell)
 (hnm:∀x∈scope.names,x.2=.local->scope.names.lookup x.1=some .local) (hcp:YT X scope cp) (hi:PE X iter tl) (hn:0<own.length)
 (hg:∀fp C s H,PG (cxC X scope cl (own++cp.map (·.1)) fp C s H) (.Name x px) (Yg 0)) (he:∀fp C s H,PE (cxC X scope cl (own++cp.map (·.1)) fp C s H) elt te)
 (hs:∀x,jK iter X.env x=pure x:=by intro _;rfl):PE X (.ListComp elt [⟨.Name x px,iter,[],0⟩] scope pos) (ZoI K own.length cp tl te):=by
 subst hK;exact ZpL hc hcl hk hnc hnm hcp hi hn hg he hs
end
theorem zK:jT "len"=some (.builtin "len"):=by rfl'
theorem ZZ:jT "isinstance"=some (.builtin "isinstance"):=by rfl'
theorem Zdm:jT "sorted"=some (.builtin "sorted"):=by rfl'
theorem Zo7:jT "list"=some (.type "list"):=by rfl'
theorem ZgR:jT "int"=some (.type "int"):=by rfl'
theorem ZeT:jT "str"=some (.type "str"):=by rfl'
theorem Zo6:jT "dict"=some (.type "dict"):=by rfl'
theorem ZhM:jT "range"=some (.type "range"):=by rfl'
theorem ZhN:jT "reversed"=some (.type "reversed"):=by rfl'
theorem ZgQ:jT "enumerate"=some (.type "enumerate"):=by rfl'
theorem Zrf:jT "zip"=some (.type "zip"):=by rfl'
end L2
namespace LW
open PySem L2
noncomputable def com:List Nat->List Nat->Nat
 |a::x,b::y=>if a=b then com x y+1 else 0
 |_,_=>0
end LW
namespace LS
open PySem PySem.W PyProof.Rows
noncomputable abbrev gt (p:Array Nat) (k:Nat):Nat:=p.getD k 0
noncomputable def Pm (n:Nat) (p:Array Nat):Prop:=p.toList.Perm (Qj n)
theorem Pm.size {n:Nat} {p:Array Nat} (h:Pm n p):p.size=n:=by have:=h.length_eq;simpa using this
theorem Pm.lt {n:Nat} {p:Array Nat} (h:Pm n p) {k:Nat} (hk:k<n):gt p k<n:=by
 have hs:=h.size
 have:gt p k∈p.toList:=by
  have hk':k<p.size:=by omega
  unfold gt;rw [QJ,QZ hk'];simp
 have:=h.mem_iff.mp this;simpa using this
section
variable {O:ve} {key:Nat->O.α} {n:Nat}
noncomputable def Up (key:Nat->O.α) (p:Array Nat) (k:Nat):Prop:=∀i j,i<=j->j<k->O.kle (key (gt p i)) (key (gt p j))
noncomputable def Dn (key:Nat->O.α) (p:Array Nat) (k:Nat):Prop:=∀i j,i<=j->j<k->O.kle (key (gt p j)) (key (gt p i))
structure ZkT (key:Nat->O.α) (n:Nat) (J:jn->Prop) (cmp:Nat->Nat->(Bool->jn->Prop)->jn->Prop):Prop where
 ask:∀i j C s,i<n->j<n->J s->(∀s',J s'->C (O.blt (key i) (key j)) s')->cmp i j C s
variable {J:jn->Prop} {cmp:Nat->Nat->(Bool->jn->Prop)->jn->Prop}
end
section
variable {O:ve} {key:Nat->O.α} {n:Nat}
noncomputable def St (key:Nat->O.α) (p:Array Nat) (k:Nat):Prop:=∀i j,i<j->j<k->key (gt p i)=key (gt p j)->gt p i<gt p j
noncomputable def Ust (key:Nat->O.α) (p:Array Nat) (k:Nat):Prop:=Up key p k/\St key p k
variable {J:jn->Prop} {cmp:Nat->Nat->(Bool->jn->Prop)->jn->Prop}
end
end LS
namespace LO
noncomputable def eLe (l:List Nat) (i j:Nat):Bool:=decide (l.drop i<=l.drop j)
noncomputable def ord (l:List Nat):List Nat:=(Qj (l.length+1)).mergeSort (eLe l)
theorem YX (l:List Nat):(ord l).Perm (Qj (l.length+1)):=List.mergeSort_perm _ _
theorem YD (l:List Nat):(ord l).length=l.length+1:=by rw [(YX l).length_eq,uP]
theorem JS {l:List Nat} {i:Nat}:i∈ord l↔i<=l.length:=by rw [(YX l).mem_iff,QB];omega
theorem ZlB (l:List Nat):(ord l).Nodup:=(YX l).symm.nodup List.nodup_range
theorem Zhf (l:List Nat):(ord l).Pairwise (λi j=>l.drop i<=l.drop j):=by
 have h:=List.pairwise_mergeSort (le:=eLe l) (λa b c h1 h2=>by
  unfold eLe at *
  simp only [decide_eq_true_eq] at *
  exact List.le_trans h1 h2) (λa b=>by
  unfold eLe;simp only [QS,decide_eq_true_eq];exact List.le_total _ _) (Qj (l.length+1))
 refine h.imp λh=>?_;simpa [eLe] using h
theorem Zh0 {l:List Nat} {i j:Nat} (hi:i<=l.length) (hj:j<=l.length) (h:l.drop i=l.drop j):i=j:=by have:=congrArg Ui h;rw [jO,jO] at this;omega
theorem Zja {l:List Nat} {i j:Nat} (hi:i<=l.length) (hj:j<=l.length) (hn:i≠j) (h:l.drop i<=l.drop j):l.drop i<l.drop j:=by
 rcases List.le_iff_lt_or_eq.mp h with h|h
 ·exact h
 ·exact absurd (Zh0 hi hj h) hn
theorem Zn5 (l:List Nat):(ord l).Pairwise (λi j=>l.drop i<l.drop j):=by have h1:=Zhf l;have h2:(ord l).Pairwise (· ≠·):=ZlB l;have h3:=h1.and h2;refine List.Pairwise.imp_of_mem ?_ h3;intro a b ha hb h;exact Zja (JS.mp ha) (JS.mp hb) h.2 h.1
theorem Zn6 {l p:List Nat} (hp:p.Perm (Qj (l.length+1))) (hs:p.Pairwise (λi j=>l.drop i<=l.drop j)):p=ord l:=by refine List.Perm.eq_of_pairwise (le:=λi j=>l.drop i<=l.drop j) (λa b ha hb h1 h2=>?_) hs (Zhf l) (hp.trans (YX l).symm);have ha:=hp.mem_iff.mp ha;have hb:=JS.mp hb;rw [QB] at ha;exact Zh0 (by omega) hb (List.le_antisymm h1 h2)
theorem ZcF {α:Type} {lt:α->α->Bool} (irr:∀a,lt a a=false) (asym:∀a b,lt a b=true->lt b a=false):∀{xs:List α},xs.Pairwise (λa b=>lt a b=true)->∀{k:Nat} {x:α},xs[k]?=some x->xs.countP (λa=>lt a x)=k
 |[],_,k,x,h=>by simp at h
 |a::r,hp,0,x,h=>by
  simp at h;subst h;rw [Qw,irr];have:r.countP (λb=>lt b a)=0:=by rw [QY];intro b hb;have:=(QI.mp hp).1 b hb;rw [asym _ _ this];simp
  rw [this];simp
 |a::r,hp,k+1,x,h=>by
  have hx:r[k]?=some x:=by simpa using h
  have ih:=ZcF irr asym (QI.mp hp).2 hx;have:lt a x=true:=(QI.mp hp).1 x (QF hx);rw [Qw,ih,this];simp
noncomputable def JC (l:List Nat) (j:Nat):Nat:=(Qj (l.length+1)).countP (λi=>decide (l.drop i<l.drop j))
theorem ZeB {l:List Nat} {k j:Nat} (h:(ord l)[k]?=some j):JC l j=k:=by
 have hp:(ord l).Pairwise (λa b=>decide (l.drop a<l.drop b)=true):=(Zn5 l).imp λh=>decide_eq_true h
 have:=ZcF (lt:=λa b=>decide (l.drop a<l.drop b)) (λa=>decide_eq_false (Vt _)) (λa b h=>by
  have h:=of_decide_eq_true h;exact decide_eq_false λz=>Vt _ (W5 h z)) hp h
 rw [<-this];exact ((YX l).countP_eq _).symm
theorem ZaG {l:List Nat} {j:Nat} (hj:j<=l.length):(ord l)[JC l j]?=some j:=by obtain ⟨k,hk⟩:=Vu (JS.mpr hj);rw [ZeB hk];exact hk
theorem Zhm {l:List Nat} {j:Nat} (hj:j<=l.length):JC l j<l.length+1:=by have:=(Qn.mp (ZaG hj)).1;rw [YD] at this;exact this
noncomputable def zI (l:List Nat) (p:Nat):Option Nat:=if p=0 then none else l[p-1]?
noncomputable def JD (l:List Nat):List (Option Nat):=(ord l).map (zI l)
noncomputable def ze (l:List Nat):List Nat:=(ord l).filterMap (zI l)
noncomputable def Zdt (l:List Nat):Nat:=JC l 0
theorem Zd9 (l:List Nat):(JD l).length=l.length+1:=by unfold JD;rw [jr,YD]
theorem Zhp {l:List Nat} {k j:Nat} (h:(ord l)[k]?=some j):(JD l)[k]?=some (zI l j):=by unfold JD;rw [Qh,h];rfl
noncomputable def ZcR (c:Nat):Option Nat->Bool
 |some d=>decide (d<c)
 |none=>false
noncomputable def less (rs:List (Option Nat)) (c:Nat):Nat:=rs.countP (ZcR c)
noncomputable def J2 (rs:List (Option Nat)) (c k:Nat):Nat:=(rs.take k).countP (λo=>o==some c)
theorem Yx (f:Nat->Bool) (n:Nat):(Qj (n+1)).countP f=(if f 0 then 1 else 0)+(Qj n).countP (λi=>f (i+1)):=by rw [Wn,Qw,Uw];rw [jg];rfl
theorem Zaf (f:Nat->Bool) (n:Nat):(Qj (n+1)).countP f=(Qj n).countP f+if f n then 1 else 0:=by rw [Ut,Us];simp [Qw]
theorem Zck {α:Type} (f g h:α->Bool) (xs:List α) (hh:∀x∈xs,(if h x then 1 else 0)=(if f x then 1 else 0)+(if g x then 1 else 0)):xs.countP h=xs.countP f+xs.countP g:=by
 induction xs with
 |nil=>rfl
 |cons x r ih=>
  have h1:=hh x (jY);have h2:=ih λy hy=>hh y (jM _ hy);rw [Qw,Qw,Qw,h2,h1];omega
theorem ZbP {l:List Nat} {i c:Nat} (h:l[i]?=some c):l.drop i=c::l.drop (i+1):=by obtain ⟨hi,rfl⟩:=Qn.mp h;exact Q1 hi
theorem ZfJ {α:Type} {lt:α->α->Bool} (irr:∀a,lt a a=false) (asym:∀a b,lt a b=true->lt b a=false) (f:α->Bool):∀{xs:List α},xs.Pairwise (λa b=>lt a b=true)->∀{k:Nat} {x:α},xs[k]?=some x->(xs.take k).countP f=xs.countP (λa=>f a && lt a x)
 |[],_,k,x,h=>by simp at h
 |a::r,hp,0,x,h=>by
  simp at h;subst h;rw [Q6,List.countP_nil]
  symm
  rw [QY];intro b hb;rcases jQ.mp hb with rfl|hb
  ·rw [irr];simp
  ·have:=(QI.mp hp).1 b hb;rw [asym _ _ this];simp
 |a::r,hp,k+1,x,h=>by
  have hx:r[k]?=some x:=by simpa using h
  have ih:=ZfJ irr asym f (QI.mp hp).2 hx;have:lt a x=true:=(QI.mp hp).1 x (QF hx);rw [QO,Qw,Qw,ih,this];simp
theorem Zi2 {l:List Nat} {k j:Nat} (c:Nat) (h:(ord l)[k]?=some j):J2 (JD l) c k=(Qj (l.length+1)).countP (λi=>(zI l i==some c) && decide (l.drop i<l.drop j)):=by
 have hp:(ord l).Pairwise (λa b=>decide (l.drop a<l.drop b)=true):=(Zn5 l).imp λh=>decide_eq_true h
 have:=ZfJ (lt:=λa b=>decide (l.drop a<l.drop b)) (λa=>decide_eq_false (Vt _)) (λa b h=>by
  have h:=of_decide_eq_true h;exact decide_eq_false λz=>Vt _ (W5 h z)) (λi=>zI l i==some c) hp h
 unfold J2 JD;rw [<-QaG,Uw];refine Eq.trans ?_ (this.trans ((YX l).countP_eq _));rfl
theorem Zii (l:List Nat) (c:Nat):less (JD l) c=(Qj (l.length+1)).countP (λi=>ZcR c (zI l i)):=by unfold less JD;rw [Uw];exact (YX l).countP_eq _
theorem Zci (l:List Nat) (i:Nat):zI l (i+1)=l[i]?:=by unfold zI;rw [if_neg (by omega)];rfl
theorem count_cons (l:List Nat) (c:Nat) (t:List Nat):(Qj (l.length+1)).countP (λi=>decide (l.drop i<c::t))=1+less (JD l) c+(Qj (l.length+1)).countP (λi=>(zI l i==some c) && decide (l.drop i<t)):=by
 rw [Zii];rw [Zaf,Yx (λi=>ZcR c (zI l i)),Yx (λi=>(zI l i==some c) && decide (l.drop i<t))];have e1:decide (l.drop l.length<c::t)=true:=by rw [Vi];simp
 have e2:zI l 0=none:=by unfold zI;rw [if_pos rfl]
 rw [e1,e2]
 have key:(Qj l.length).countP (λi=>decide (l.drop i<c::t))=(Qj l.length).countP (λi=>ZcR c (zI l (i+1)))+(Qj l.length).countP (λi=>(zI l (i+1)==some c) && decide (l.drop (i+1)<t)):=by
  refine Zck _ _ _ _ λi hi=>?_;have hi:=QB.mp hi;have ei:l[i]?=some l[i]:=Qd hi;rw [Zci,ei,ZbP ei];show _=(if decide (l[i]<c)=true then 1 else 0)+_;generalize l[i]=d;generalize l.drop (i+1)=u;by_cases h1:d<c
  ·have h2:¬d=c:=by omega
   simp [QK,h1,h2]
  ·by_cases h2:d=c
   ·simp [QK,h2]
   ·simp [QK,h1,h2]
 rw [key,show ZcR c none=false from rfl];simp;omega
theorem ZmC {l:List Nat} {p c:Nat} (hp:p<l.length) (hc:l[p]?=some c):JC l p=1+less (JD l) c+J2 (JD l) c (JC l (p+1)):=by have e:=ZaG (l:=l) (j:=p+1) (by omega);rw [Zi2 c e];unfold JC;rw [ZbP hc];exact count_cons l c _
noncomputable abbrev Rs:=List (Option Nat)
noncomputable def bk (rs:Rs) (k:Nat):Option Nat:=match rs[k]? with
 |some (some c)=>some (1+less rs c+J2 rs c k)
 |_=>none
noncomputable def Zu5 (rs:Rs):List Nat:=rs.filterMap id
theorem Zkb {rs:Rs} {k c:Nat} (h:rs[k]?=some (some c)):bk rs k=some (1+less rs c+J2 rs c k):=by unfold bk;rw [h]
noncomputable def rd (rs:Rs):Nat->Option Nat
 |0=>some 0
 |k+1=>(rd rs k).bind (bk rs)
noncomputable def Zqu (rs:Rs):Prop:=∃r,rd rs ((Zu5 rs).length)=some r
theorem ZgC {α:Type} {D f:α->Bool}:∀{xs:List α},xs.Pairwise (λa b=>D b=true->D a=true)->(xs.take (xs.countP D)).countP f=xs.countP (λa=>f a && D a)
 |[],_=>rfl
 |a::r,hp=>by
  have h1:=(QI.mp hp).1;have ih:=ZgC (f:=f) (QI.mp hp).2
  cases e:D a with
  |true=>
   rw [Wi e,QO,Qw,Qw,ih,e];simp
  |false=>
   have z:r.countP D=0:=by rw [QY];intro b hb hd;have:=h1 b hb hd;rw [e] at this;cases this
   have z2:r.countP (λa=>f a && D a)=0:=by
    rw [QY] at z ⊢
    intro b hb;have:=z b hb;simp [this]
   rw [Wj (by rw [e];simp),z,Q6,Qw,z2,e];simp
noncomputable def low (l t:List Nat):Nat:=(Qj (l.length+1)).countP (λi=>decide (l.drop i<t))
noncomputable def Zah (l t:List Nat) (i:Nat):Bool:=t.isPrefixOf (l.drop i)
noncomputable def ZnV (l t:List Nat):Nat:=(Qj (l.length+1)).countP (λi=>Zah l t i)
noncomputable def Zdf (l t:List Nat) (i:Nat):Bool:=decide (l.drop i<t) || Zah l t i
noncomputable def Zbj (l t:List Nat):Nat:=low l t+ZnV l t
theorem Zcu:∀{t x:List Nat},t.isPrefixOf x=true->¬x<t
 |[],x,_=>List.not_lt_nil _
 |c::t,[],h=>by simp at h
 |c::t,d::x,h=>by
  simp only [Ws,QM,beq_iff_eq] at h;rw [QK];rintro (z|⟨_,z⟩)
  ·omega
  ·exact Zcu h.2 z
theorem Zet (l t:List Nat):Zbj l t=(Qj (l.length+1)).countP (Zdf l t):=by
 unfold Zbj low ZnV;refine (Zck _ _ _ _ λi _=>?_).symm;unfold Zdf
 cases e:Zah l t i with
 |false=>cases decide (l.drop i<t)<;>rfl
 |true=>
  have:¬l.drop i<t:=Zcu e;simp [this]
theorem ZkL:∀{t x u:List Nat},t<=x->x<=t++u->t.isPrefixOf x=true
 |[],x,u,_,_=>by simp
 |c::t,[],u,h,_=>absurd (List.nil_lt_cons c t) (Uq.mpr h)
 |c::t,d::x,u,h1,h2=>by
  rw [uN] at h2;have a:¬(d::x<c::t):=Uq.mpr h1;have b:¬(c::(t++u)<d::x):=Uq.mpr h2;rw [QK] at a b;have e:c=d:=by omega
  subst e;simp only [Ws,QM,beq_self_eq_true,true_and];exact ZkL (Uq.mp λz=>a (.inr ⟨rfl,z⟩)) (Uq.mp λz=>b (.inr ⟨rfl,z⟩))
theorem ZgD {l t:List Nat} {i j:Nat} (h:l.drop i<=l.drop j) (hj:Zdf l t j=true):Zdf l t i=true:=by
 unfold Zdf Zah at *
 rw [QS,decide_eq_true_eq] at *
 by_cases hx:l.drop i<t
 ·exact .inl hx
 ·right
  rcases hj with hj|hj
  ·exact absurd (WD h hj) hx
  ·obtain ⟨u,hu⟩:=U0.mp hj;refine ZkL (u:=u) (Uq.mp hx) ?_;rw [hu];exact h
theorem Zik {l t:List Nat} {i j:Nat} (h:l.drop i<=l.drop j) (hj:decide (l.drop j<t)=true):decide (l.drop i<t)=true:=decide_eq_true (WD h (of_decide_eq_true hj))
theorem Zd3 {l:List Nat} {D:Nat->Bool} (c:Nat) (hd:∀i j,l.drop i<=l.drop j->D j=true->D i=true):J2 (JD l) c ((Qj (l.length+1)).countP D)=(Qj (l.length+1)).countP (λi=>(zI l i==some c) && D i):=by have h:=ZgC (f:=λi=>zI l i==some c) (D:=D) ((Zhf l).imp λ{i j} h=>hd i j h);rw [(YX l).countP_eq,(YX l).countP_eq] at h;unfold J2 JD;rw [<-QaG,Uw];exact h
theorem ZnQ (l:List Nat) (c:Nat) (t:List Nat):low l (c::t)=1+less (JD l) c+J2 (JD l) c (low l t):=by unfold low;rw [count_cons,Zd3 c λi j=>Zik]
theorem Zlf (l:List Nat) (c:Nat) (t:List Nat):Zbj l (c::t)=1+less (JD l) c+J2 (JD l) c (Zbj l t):=by
 rw [Zet,Zet,Zd3 c λi j=>ZgD,Zii];rw [Zaf,Yx (λi=>ZcR c (zI l i)),Yx (λi=>(zI l i==some c) && Zdf l t i)];have e1:Zdf l (c::t) l.length=true:=by unfold Zdf;rw [Vi];simp
 have e2:zI l 0=none:=by unfold zI;rw [if_pos rfl]
 rw [e1,e2]
 have key:(Qj l.length).countP (Zdf l (c::t))=(Qj l.length).countP (λi=>ZcR c (zI l (i+1)))+(Qj l.length).countP (λi=>(zI l (i+1)==some c) && Zdf l t (i+1)):=by
  refine Zck _ _ _ _ λi hi=>?_;have hi:=QB.mp hi;have ei:l[i]?=some l[i]:=Qd hi;unfold Zdf Zah;rw [Zci,ei,ZbP ei];show _=(if decide (l[i]<c)=true then 1 else 0)+_;generalize l[i]=d;generalize l.drop (i+1)=u;by_cases h1:d<c
  ·have h2:¬d=c:=by omega
   have h3:¬c=d:=by omega
   simp [QK,h1,h2,h3]
  ·by_cases h2:d=c
   ·simp [QK,h2]
   ·have h3:¬c=d:=λz=>h2 z.symm;simp [QK,h1,h2,h3]
 rw [key,show ZcR c none=false from rfl];simp;omega
theorem Zkt (l:List Nat):low l []=0:=by unfold low;rw [QY];intro i _;simp
theorem Zno (l:List Nat):Zbj l []=l.length+1:=by unfold Zbj ZnV Zah;rw [Zkt];simp
theorem ZkG {l t:List Nat} {i:Nat} (hi:i<=l.length):Zah l t i=true↔low l t<=JC l i/\JC l i<Zbj l t:=by
 have key:∀{D:Nat->Bool},(∀i j,l.drop i<=l.drop j->D j=true->D i=true)->(D i=true↔JC l i<(Qj (l.length+1)).countP D):=by
  intro D hd;have hs:(ord l).Pairwise (λa b=>D b=true->D a=true):=(Zhf l).imp λ{i j} h=>hd i j h
  have go:∀{xs:List Nat} {k x:Nat},xs.Pairwise (λa b=>D b=true->D a=true)->xs[k]?=some x->(D x=true↔k<xs.countP D):=by
   intro xs
   induction xs with
   |nil=>intro k x _ h;simp at h
   |cons a r ih=>
    intro k x hp h
    cases ea:D a with
    |true=>
     rw [Wi ea]
     cases k with
     |zero=>simp at h;subst h;simp [ea]
     |succ k=>
      have:=ih (k:=k) (x:=x) (QI.mp hp).2 (by simpa using h);rw [this,Nat.add_lt_add_iff_right]
    |false=>
     have z:r.countP D=0:=by rw [QY];intro b hb hd;have:=(QI.mp hp).1 b hb hd;rw [ea] at this;cases this
     rw [Wj (by rw [ea];simp),z];constructor
     ·intro hx;rcases jQ.mp (QF h) with e|e
      ·rw [e,ea] at hx;cases hx
      ·have:=(QI.mp hp).1 x e hx;rw [ea] at this;cases this
     ·intro hx;omega
  have:=go hs (ZaG hi);rwa [(YX l).countP_eq] at this
 have k1:=key (D:=λi=>decide (l.drop i<t)) λi j=>Zik;have k2:=key (D:=Zdf l t) λi j=>ZgD;rw [Zet];have e1:low l t=(Qj (l.length+1)).countP (λi=>decide (l.drop i<t)):=rfl;rw [e1];constructor
 ·intro h;have n:¬l.drop i<t:=Zcu h;refine ⟨?_,k2.mp (by unfold Zdf;rw [h,jf])⟩;have:¬(decide (l.drop i<t)=true):=by simpa using n
  rw [k1] at this;omega
 ·rintro ⟨h1,h2⟩;have a:=k2.mpr h2;have b:¬(decide (l.drop i<t)=true):=by rw [k1];omega
  unfold Zdf at a;rw [QS] at a;exact a.resolve_left b
end LO
namespace L2
open PySem PySem.Spec PyProof.Rows
noncomputable def cxL (X:Cx) (A:Around) (env:Env) (N:List Str) (s:jn) (H:Hp):Cx:=
 {X with A:=A.deeper env,N:=N,s₀:=s,H₀:=H,env:=env,outer:=X.stack,stack:=env::X.stack,ex:=[],fn:=λ_=>false,pn:=[],xe:=λ_ _=>False}
noncomputable def ZfW (v:V) (cp:List (Str×Nat)) (σ:St):St:=some v::cp.map λp=>gS σ p.2
section
variable {X:Cx} {Zb:List (jo×Obj)} {σ:St} {H:Hp} {s:jn} {scope:Scope} {cl:List (Str×jo)} {cp:List (Str×Nat)} {A:Around} {env:Env} {x:Str} {v:V} {u:Value} {h1:Heap}
theorem Zll {tk:Nat} (I:Inv X Zb σ H s) (hA:A.frames=some X.stack) (hh:A.handled=none) (hcl:Ye scope.names X.env.cells []=some cl) (hk:scope.kind=.function) (hnc:∀y∈scope.names,y.2≠ .cell) (hcp:YT X scope cp)
 (hx:scope.names.lookup x=some .local) (hnx:x∉cp.map (·.1)) (r:ZP v u) (e1:env.scope=scope) (e2:env.locals=s.heap.objs.size) (e3:env.globals=jy) (e4:env.cells=cl) (e5:env.frame=some s.heap.objs.size) (e6:env.builtins=j5)
 (hns:h1.Ns s.heap.objs.size (λy=>[(x,u)].reverse.lookup y)) (old:∀b o,s.heap.get? b=some o->h1.get? b=some o):
 Inv (cxL X A env (x::cp.map (·.1)) s H) [] (ZfW v cp σ) H {s with heap:=h1,toks:=tk}:=by
 have c1:=(qy scope.names [] hcl (λx c h=>by simp at h)).1;have c2:=(qy scope.names [] hcl (λx c h=>by simp at h)).2;obtain ⟨m,hm,hl⟩:=id I.loc;have kOf:∀y,env.kindOf y=scope.names.lookup y:=λy=>by unfold Env.kindOf;rw [e1]
 refine ⟨⟨I.ok.mod,?_,e3,e6,?_,?_,?_,λy c z=>absurd z (by simp [cxL]),λ_=>hh,?_,.inr ⟨rfl,?_⟩,λb z=>absurd (show b∈([]:List jo) from z) (by simp),I.bs,QE I.ok.bsz I.sz,λb o _ z=>absurd (show b∈([]:List jo) from z) (by simp),λb z=>absurd (show b∈([]:List jo) from z) (by simp),I.stack,I.stkFree⟩,
  rfl,I.bare,Un.kept old,⟨λy=>[(x,u)].reverse.lookup y,?_,λi y w' q1 q2 q3=>?_⟩,λy c q=>?_,?_,λy c q=>?_,λp hp=>absurd (show p∈([]:List (jo×Obj)) from hp) (by simp),I.hok.kept old,?_⟩
 ·show env.scope.kind=.function;rw [e1];exact hk
 ·show s.heap.objs.size<=env.locals;rw [e2];exact Qf _
 ·intro y z c h1 h2;have h1:env.cells.lookup y=some c:=h1;have h2:env.cells.lookup z=some c:=h2;rw [e4] at h1 h2;exact I.ok.inj y z c (c1 y c h1) (c1 z c h2)
 ·intro y hy;show ∃c,env.cells.lookup y=some c;rw [e4];have hy:env.kindOf y=some .cell\/env.kindOf y=some .free:=hy;rw [kOf] at hy;rcases hy with z|z
  ·exact absurd rfl (hnc _ (PySem.mem_of_lookup z))
  ·exact c2 y (.inr z)
 ·exact Around.frames_deeper hA
 ·show env.frame=some env.locals;rw [e5,e2]
 ·show h1.Ns env.locals _;rw [e2];exact hns
 ·have q1:(x::cp.map (·.1))[i]?=some y:=q1;unfold ZfW at q2
  cases i with
  |zero=>
   cases q1;cases (show some v=some w' from by simpa using q2);exact ⟨u,r,.inl ⟨by show env.kindOf x=_;rw [kOf];exact hx,by simp⟩⟩
  |succ i=>
   have q1:(cp.map (·.1))[i]?=some y:=by simpa using q1
   have q2:(cp.map λp=>gS σ p.2)[i]?=some (some w'):=by simpa using q2
   rw [Qh] at q1 q2
   cases q:cp[i]? with
   |none=>rw [q] at q1;cases q1
   |some p=>
    rw [q] at q1 q2;obtain ⟨y',j⟩:=p;cases Option.some.inj q1;obtain ⟨g1,g2,g3⟩:=hcp.get q;have e4':gS σ j=some w':=Option.some.inj q2;obtain ⟨u',r',lk⟩:=hl j y' w' g1 (Ze2 e4') (.inr (.inl g2));refine ⟨u',r',.inr ⟨.inr (by show env.kindOf y'=_;rw [kOf];exact g3),?_⟩⟩;rcases lk with ⟨z,_⟩|⟨_,c,z,zc⟩
    ·have z':X.env.scope.names.lookup y'=some .local:=z;rw [g2] at z';cases z'
    ·obtain ⟨d,hd⟩:=c2 y' (.inr g3);have hd':=c1 y' d hd;rw [z] at hd';cases Option.some.inj hd';obtain ⟨o,ho,hdt⟩:=zc;exact ⟨c,by show env.cells.lookup y'=_;rw [e4];exact hd,o,old _ _ ho,hdt⟩
 ·have q:env.cells.lookup y=some c:=q;rw [e4] at q;obtain ⟨w',o,ho,hd⟩:=I.cell y c (c1 y c q);exact ⟨w',o,old _ _ ho,hd⟩
 ·show H env.locals=none;rw [e2];exact I.hok.fresh (Qf _)
 ·have q:env.cells.lookup y=some c:=q;rw [e4] at q;exact I.freeC y c (c1 y c q)
 ·show (ZfW v cp σ).length=(x::cp.map (·.1)).length;unfold ZfW;simp
theorem ZnL {name qual:Str} {params:Arguments} {body:jL} {pm ctv:Value} {c' f:jo} {te:TE} {Q:VK} (I:Inv X Zb σ H s) (hA:A.frames=some X.stack) (hh:A.handled=none) (hd:A.depth<recursionLimit)
 (hcl:Ye scope.names X.env.cells []=some cl) (hk:scope.kind=.function) (hnc:∀y∈scope.names,y.2≠ .cell) (hcp:YT X scope cp) (hx:scope.names.lookup x=some .local) (hnx:x∉cp.map (·.1)) (hco:scope.isCoroutine=false) (hgen:scope.isGenerator=false)
 (ho:s.heap.get? f=some (Qao name qual params body scope cl pm c' ctv)) (hcd:s.heap.CodeRec (.ref c') qual)
 (hb:∀u:Value,vE (kla_fn name qual params body scope cl pm (.ref c') ctv) ⟨[u],[]⟩=pure [(x,u)]) (r:ZP v u)
 (he:∀A L f c' s H,PE (cxL X A (newEnv scope L jy cl (qual++".<locals>.") (some f) (.ref c') none j5) (x::cp.map (·.1)) s H) body te) (h:te (ZfW v cp σ) H Q):
 js (ju X.prog X.w) A (call (.ref f) [u]) (EP X Zb σ Q) (λ_ _=>False) s:=by
 refine uO (PySem.W.kla_callFunE hd ho rfl hco hgen rfl hcd ?_);rw [hb u];refine jq (wpAny_newFunctionEnv hnc (λy hy=>?_) (λh1 hns hsb=>?_) hk)
 ·cases jC.mp hy;exact hx
 ·have old:∀b o,s.heap.get? b=some o->h1.get? b=some o:=λb o e=>(hsb.2 b (Qo (Qk e))).trans (Qe _ e);refine ⟨I.nolimit.keeps old,PySem.W.kla_codeExpr ?_⟩;generalize hE:newEnv scope s.heap.objs.size jy cl (qual++".<locals>.") (some f) (.ref c') none j5=env;have e1:env.scope=scope:=by rw [<-hE];rfl
  have e4:env.cells=cl:=by rw [<-hE];rfl
  have J:Inv (cxL X A env (x::cp.map (·.1)) s H) [] (ZfW v cp σ) H {s with heap:=h1,toks:=s.toks+[(x,u)].length}:=
   Zll I hA hh hcl hk hnc hcp hx hnx r e1 (by rw [<-hE];rfl) (by rw [<-hE];rfl) e4 (by rw [<-hE];rfl) (by rw [<-hE];rfl) hns old
  refine jW ((hE▸he A s.heap.objs.size f c' s H:PE (cxL X A env (x::cp.map (·.1)) s H) body te) [] _ _ H Q J h) (λw' s' ⟨y,H',J',ry,q⟩=>?_) λ_ _ z=>False.elim z;exact I.after ⟨y,H',J'.os,J'.bare,J'.base,J'.hok,ry,q⟩
end
noncomputable def ZhG (c:jo) (q:Str):HO:=.ext λh=>h.CodeRec (.ref c) q
theorem ZmO {P:jx} {w:jG} {H:Hp} {h:Heap} {c:jo} {q:Str} (x:h.CodeRec (.ref c) q):za P w H h c (ZhG c q):=by obtain ⟨c2,o,vs,t,e,ho,hd,hv⟩:=id x;cases e;refine ⟨x,⟨o,ho⟩,λh1 h2 z k=>?_⟩;obtain ⟨c3,o',vs',t',e,a,b,d⟩:=z;cases e;exact ⟨_,o',vs',t',rfl,k o' a,b,d⟩
noncomputable def Bk (P:jo) (pos:Pos) (q:Str) (H:Hp):Prop:=H P=some (.tbl #[])\/∃c',H P=some (.tbl #[uc pos.line,uc pos.col,.ref c'])/\H c'=some (ZhG c' q)
noncomputable def zp (H H':Hp):Prop:=∀b o,H b=some o->H' b≠none/\((∀ps,o≠ .tbl ps)->H' b=some o)
theorem zp.at {H H':Hp} (a:zp H H') {b:jo} {o:HO} (h:H b=some o) (n:∀ps,o≠ .tbl ps):H' b=some o:=(a b o h).2 n
theorem zp.free {H H':Hp} (a:zp H H') {b:jo} (h:H' b=none):H b=none:=by
 cases q:H b with
 |none=>rfl
 |some o=>exact absurd h (a b o q).1
theorem zp.refl (H:Hp):zp H H:=λ_ _ h=>⟨by rw [h];simp,λ_=>h⟩
theorem zp.trans {H H1 H2:Hp} (a:zp H H1) (b:zp H1 H2):zp H H2:=λc o h=>⟨λz=>(a c o h).1 (b.free z),λn=>b.at ((a c o h).2 n) n⟩
theorem Zt.toN {H H':Hp} (a:Zt H H'):zp H H':=λc o h=>⟨by rw [a c o h];simp,λ_=>a c o h⟩
theorem zp.upd {H H':Hp} {a:jo} {o:HO} (e:zp H H') (n:H' a=none):zp H (L2.upd H' a o):=λb u q=>by
 have hb:b≠a:=by rintro rfl;exact (e b u q).1 n
 rw [Zi hb];exact e b u q
theorem zp.seq {K:Qa} {H H':Hp} {a:jo} {xs:List V} (e:zp H H') (h:SqL K H a xs):SqL K H' a xs:=by
 rcases h with (h|⟨o,h⟩)|h
 ·exact .inl (.inl (e.at h (by nofun)))
 ·exact .inl (.inr ⟨o,e.at h (by nofun)⟩)
 ·exact .inr h
theorem Bk.put {P:jo} {pos:Pos} {q:Str} {H:Hp} {a:jo} {o:HO} (h:Bk P pos q H) (n:H a=none):Bk P pos q (L2.upd H a o):=by
 rcases h with h|⟨c',h,g⟩
 ·exact .inl (by rw [Zi (Zj h n)];exact h)
 ·exact .inr ⟨c',by rw [Zi (Zj h n)];exact h,by rw [Zi (Zj g n)];exact g⟩
noncomputable def Jl (P:jo) (H H':Hp):Prop:=∀b o,b≠P->H b=some o->H' b=some o
theorem Jl.refl (P:jo) (H:Hp):Jl P H H:=λ_ _ _ h=>h
theorem Jl.trans {P:jo} {H H1 H2:Hp} (a:Jl P H H1) (b:Jl P H1 H2):Jl P H H2:=λc o n h=>b c o n (a c o n h)
theorem Zt.toE {P:jo} {H H':Hp} (a:Zt H H'):Jl P H H':=λc o _ h=>a c o h
theorem Jl.upd {P:jo} {H H':Hp} {a:jo} {o:HO} (e:Jl P H H') (n:H' a=none):Jl P H (L2.upd H' a o):=λb u nb q=>by have q':=e b u nb q;rw [Zi (Zj q' n)];exact q'
theorem Bk.isTbl {P:jo} {pos:Pos} {q:Str} {H:Hp} (h:Bk P pos q H):∃ps,H P=some (.tbl ps):=by
 rcases h with h|⟨c',h,_⟩
 ·exact ⟨_,h⟩
 ·exact ⟨_,h⟩
theorem Bk.keep {P P2:jo} {pos pos2:Pos} {q q2:Str} {H H':Hp} (b2:Bk P2 pos2 q2 H) (b1:Bk P pos q H) (ne:P2≠P) (se:Jl P H H'):Bk P2 pos2 q2 H':=by
 obtain ⟨ps,hP⟩:=b1.isTbl;rcases b2 with h|⟨c',h,g⟩
 ·exact .inl (se _ _ ne h)
 ·exact .inr ⟨c',se _ _ ne h,se _ _ (ZcU g hP (by intro z;cases z)) g⟩
structure Zj4 (X:Cx) (c P:jo):Prop where
 code:X.env.code=.ref c
 hd:CodeHd X.base c P
 bm:∃bm ob,X.mg "__builtins__"=some (.ref bm)/\bm≠j5/\X.base.get? bm=some ob/\ob.cls=.type "module"/\ob.dict=some j5/\ob.data=.plain
section
variable {X:Cx} {Zb:List (jo×Obj)} {σ:St} {H:Hp} {s:jn} {scope:Scope} {cl:List (Str×jo)} {A:Around} {c P:jo} {params:Arguments} {body:jL} {pos:Pos} {q:Str} {M:uI} {E:Value->jn->Prop} {Q:Value->jn->Prop}
theorem ZnK (I:Inv X Zb σ H s) (L:Zj4 X c P) {o:HO} (hP:H P=some o):s.heap.BuiltinsAt X.mg P/\jy≠P:=by
 obtain ⟨bm,ob,b1,b2,b3,b4,b5,b6⟩:=L.bm;have hb:=I.bs bm ob b3;obtain ⟨og,es,ep,g1,g2,_⟩:=id I.mod.glob;have hg:=I.bs jy og g1;refine ⟨⟨bm,ob,b1,b2,?_,?_,hb.1,b4,b5,b6⟩,?_⟩
 ·rintro rfl;rw [g1] at b3;cases b3;rw [g2] at b6;cases b6
 ·rintro rfl;rw [hb.2] at hP;cases hP
 ·intro z;rw [<-z,hg.2] at hP;cases hP
theorem ZnM (I:Inv X Zb σ H s) (L:Zj4 X c P) (hcl:Ye scope.names X.env.cells []=some cl) (hdef:defaultsOf params X.env=([],[])) (bk:Bk P pos q H) (hq:X.env.qual++"<lambda>"=q)
 (hQ:∀f c' pm ctv H' s',Inv X (Zb++[(f,Qao "<lambda>" q params body scope cl pm c' ctv)]) σ H' s'->H' c'=some (ZhG c' q)->Bk P pos q H'->zp H H'->Jl P H H'->Q (.ref f) s'):
 js M A (eval (.Lambda params body scope pos) X.env) Q E s:=by
 refine PySem.W.kla_eval hdef ?_;rw [hq];have hg:s.heap.Ns jy X.mg:=I.mod.glob.keeps I.bk;have C:CodeHd s.heap c P:=L.hd.keeps I.bk;rcases bk with hP|⟨c',hP,hc'⟩
 ·have hPo:s.heap.get? P=some (QaE #[]):=I.hok P _ hP;obtain ⟨hb,hgP⟩:=ZnK I L hP;refine PySem.W.kla_makeFunction (mg:=X.mg) (ZaS hcl) I.ok.glob hg L.code C hPo trivial rfl hgP hb λc' ctv h' tk hx hge hlt hrec htb=>?_;have hnc:H c'=none:=I.hok.fresh hge;have hPc:P≠c':=Zj hP hnc;have nP:∀b,H b=none->b≠P:=λb n z=>by rw [z,hP] at n;cases n
  have old:∀b o,b≠P->s.heap.get? b=some o->(h'.push (Qao "<lambda>" q params body scope cl ((X.mg "__name__").getD .none) c' ctv)).get? b=some o:=λb o hb e=>Qe _ (hx b o hb e);have htb':(h'.push (Qao "<lambda>" q params body scope cl ((X.mg "__name__").getD .none) c' ctv)).get? P=some (QaE #[uc pos.line,uc pos.col,.ref c']):=Qe _ (by simpa using htb)
  have I1:Inv X Zb σ (upd (upd H P (.tbl #[uc pos.line,uc pos.col,.ref c'])) c' (ZhG c' q)) {s with heap:=h'.push (Qao "<lambda>" q params body scope cl ((X.mg "__name__").getD .none) c' ctv),toks:=tk}:=by
   have other:∀b,b≠P->b≠c'->upd (upd H P (.tbl #[uc pos.line,uc pos.col,.ref c'])) c' (ZhG c' q) b=H b:=λb h1 h2=>by rw [Zi h2,Zi h1]
   refine I.un ⟨λb o e n _ _=>old b o (nP b n) e,λb o e n _ _=>⟨o.slots,old b o (nP b n) e⟩,λb o e n _=>?_,λb o e _=>?_,λb xs e=>?_,λb o u e=>?_,λb ps e=>?_⟩ λb o e=>?_
   ·rw [other b (nP b n) (Qo (Ql (Qk e) hge))];exact n
   ·by_cases hb:b=P
    ·subst hb;exact ⟨_,htb'⟩
    ·exact ⟨o,old b o hb e⟩
   ·rw [other b (ZcU e hP (by intro z;cases z)) (Zj e hnc)];exact e
   ·rw [other b (ZcU e hP (by intro z;cases z)) (Zj e hnc)];exact e
   ·by_cases hb:b=P
    ·subst hb;rw [hP] at e;cases e;exact ⟨#[uc pos.line,uc pos.col,.ref c'],by rw [Zi hPc,Zg];simp⟩
    ·exact ⟨#[],by rw [other b hb (Zj e hnc),e];simp⟩
   ·by_cases hb:b=c'
    ·subst hb;rw [Zg] at e;cases e;exact ZmO (hrec.push _)
    ·rw [Zi hb] at e;by_cases hb2:b=P
     ·subst hb2;rw [Zg] at e;cases e;exact htb'
     ·rw [Zi hb2] at e;refine (I.hok b o e).stay (λd u hd z=>old d u ?_ z) (λd z=>?_) λd xs z=>?_
      ·rcases hd with rfl|hd
       ·exact hb2
       ·exact ZcU hd hP (by intro z;cases z)
      ·rw [other d (ZcU z hP (by intro z;cases z)) (Zj z hnc)];exact z
      ·rw [other d (ZcU z hP (by intro z;cases z)) (Zj z hnc)];exact z
  have hsz:s.heap.objs.size<=h'.objs.size:=QT (WM hge hlt);refine hQ h'.objs.size c' ((X.mg "__name__").getD .none) ctv _ _ (I1.pins_of λp hp=>?_) Zg (.inr ⟨c',by rw [Zi hPc,Zg],Zg⟩) (λb o e=>?_) λb o hb e=>by rw [Zi (Zj e hnc),Zi hb];exact e
  ·rcases jN.mp hp with hp|hp
   ·exact I1.pin p (jB _ hp)
   ·cases jC.mp hp;refine ⟨Qi _ rfl,?_,Q5 (Ql I.lt hsz),I.nofs hsz,λv z=>by cases z⟩;show upd (upd H P _) c' _ h'.objs.size=none;rw [Zi (Q5 hlt),Zi λz=>?_]
    ·exact I.hok.fresh hsz
    ·have:=Qk hPo;rw [<-z] at this;exact absurd (Ql this hsz) (QW _)
  ·rw [Zi (Zj e hnc)];by_cases hb:b=P
   ·subst hb;rw [hP] at e;cases e;rw [Zg];exact ⟨by simp,λnt=>absurd rfl (nt _)⟩
   ·rw [Zi hb,e];exact ⟨by simp,λ_=>rfl⟩
 ·have hPo:s.heap.get? P=some (QaE #[uc pos.line,uc pos.col,.ref c']):=I.hok P _ hP;obtain ⟨hb,hgP⟩:=ZnK I L hP;refine PySem.W.kla_makeFunctionHit (cv:=.ref c') (mg:=X.mg) (ZaS hcl) I.ok.glob hg L.code C hPo trivial ?_ hb λctv h' tk hk hsz=>?_
  ·show (if _ then _ else _)=_;rw [if_pos (by simp)]
  ·have I1:Inv X Zb σ H {s with heap:=h'.push (Qao "<lambda>" q params body scope cl ((X.mg "__name__").getD .none) c' ctv),toks:=tk}:=I.kept λb o e=>Qe _ (hk b o e);refine hQ h'.objs.size c' ((X.mg "__name__").getD .none) ctv H _ (I1.pins_of λp hp=>?_) hc' (.inr ⟨c',hP,hc'⟩) (zp.refl _) (Jl.refl _ _);rcases jN.mp hp with hp|hp
   ·exact I1.pin p (jB _ hp)
   ·cases jC.mp hp;exact ⟨Qi _ rfl,I.hok.fresh hsz,Q5 (Ql I.lt hsz),I.nofs hsz,λv z=>by cases z⟩
end
section
variable {X:Cx} {Zb:List (jo×Obj)} {σ:St} {H:Hp} {s:jn}
structure Own (X:Cx) (Zb:List (jo×Obj)) (H:Hp) (D:jo):Prop where
 old:X.s₀.heap.objs.size<=D
 free:H D=none
 nl:D≠X.env.locals
 np:∀p∈X.pn++Zb,p.1≠D
theorem Own.fresh (I:Inv X Zb σ H s) {D:jo} (h:s.heap.objs.size<=D):Own X Zb H D:=
 ⟨QE I.sz h,I.hok.fresh h,Q5 (Ql I.lt h),λp hp z=>absurd (Ql (Qk (I.pin p hp).1) h) (by rw [z];exact QW _)⟩
theorem Inv.cellne (I:Inv X Zb σ H s) {D:jo} {o:Obj} (ho:s.heap.get? D=some o) (hd:∀v,o.data≠ .cell v):∀x c,X.env.cells.lookup x=some c->c≠D:=λx c e z=>by obtain ⟨v,o',ho',hd'⟩:=I.cell x c e;rw [z,ho] at ho';cases ho';exact hd v hd'
theorem Inv.alter (I:Inv X Zb σ H s) {D:jo} {o:Obj} {h':Heap} (W:Own X Zb H D) (ho:s.heap.get? D=some o) (hd:∀v,o.data≠ .cell v) (k:∀b u,b≠D->s.heap.get? b=some u->h'.get? b=some u):Inv X Zb σ H {s with heap:=h'}:=
 I.turned (t':=s.toks) k W.free W.nl (.inr W.old) (I.cellne ho hd) W.np
theorem Inv.ownfs (I:Inv X Zb σ H s) {D:jo} (W:Own X Zb H D):D∉X.fs:=λhb=>by obtain ⟨_,o,ho,_⟩:=I.ok.funs.mem hb;exact absurd (Ql (Qk ho) W.old) (QW _)
theorem Inv.pin1 (I:Inv X Zb σ H s) {D:jo} {o:Obj} (W:Own X Zb H D) (ho:s.heap.get? D=some o) (hd:∀v,o.data≠ .cell v):Inv X (Zb++[(D,o)]) σ H s:=I.pins_of λp hp=>by
 rcases jN.mp hp with q|q
 ·exact I.pin p (jB _ q)
 ·cases jC.mp q;exact ⟨ho,W.free,W.nl,I.ownfs W,hd⟩
theorem Inv.unpin {ps:List (jo×Obj)} (I:Inv X (Zb++ps) σ H s):Inv X Zb σ H s:=I.pins_of λp hp=>I.pin p (jB _ (uw _ hp))
theorem Inv.track (I:Inv X Zb σ H s) {D:jo} {o:HO} (W:Own X Zb H D) (hc:∀x c,X.env.cells.lookup x=some c->c≠D) (new:za X.prog X.w (upd H D o) s.heap D o):Inv X Zb σ (upd H D o) s:=by
 have ne:∀b u,H b=some u->b≠D:=λb u e=>Zj e W.free;refine ⟨I.ok,I.os,I.bare,⟨I.base.keep,I.base.slot,λb u e n hx=>?_,I.base.there,λb xs e=>?_,λb u v e=>?_,λb ps e=>?_⟩,I.loc,I.cell,?_,λx c e=>?_,λp hp=>?_,λb u e=>?_,I.len⟩
 ·rw [Zi (Qo (Ql (Qk e) W.old))];exact I.base.free b u e n hx
 ·have:=I.base.tups b xs e;rw [Zi (ne b _ this)];exact this
 ·have:=I.base.frzs b u v e;rw [Zi (ne b _ this)];exact this
 ·obtain ⟨m,z⟩:=I.base.tbls b ps e;exact ⟨m,by rw [Zi (ne b _ z)];exact z⟩
 ·rw [Zi (Ne.symm W.nl)];exact I.free
 ·rw [Zi (hc x c e)];exact I.freeC x c e
 ·obtain ⟨a1,a2,a3⟩:=I.pin p hp;exact ⟨a1,by rw [Zi (W.np p hp)];exact a2,a3⟩
 ·by_cases hb:b=D
  ·subst hb;rw [Zg] at e;cases e;exact new
  ·rw [Zi hb] at e;refine (I.hok b u e).stay (λ_ _ _ z=>z) (λd z=>?_) λd xs z=>?_
   ·rw [Zi (ne d _ z)];exact z
   ·rw [Zi (ne d _ z)];exact z
theorem Zp0 {A:Around} {E:Value->jn->Prop} {P:PySem.Fin->jn->Prop} {f:Value} {a kS:jo} {e1:Nat} {vs:List Value} {xs kV:List V} (rv:ZA xs vs) (hl:kV.length=vs.length) (hz:vs.length<=100000) (I:Inv X Zb σ H s) (Wa:Own X Zb H a)
 (ha:s.heap.get? a=some (ur "list" #[] e1)) (Wk:Own X (Zb++[(a,ur "list" #[] e1)]) H kS) (hk:s.heap.get? kS=some (ur "list" #[] 0))
 (hcall:∀ps s' (i:Nat) (x:V) (k:V) (u:Value),Inv X (Zb++ps) σ H s'->xs[i]?=some x->kV[i]?=some k->ZP x u->js (ju X.prog X.w) A (call f [u]) (EP X (Zb++ps) σ λy H'=>H'=H/\y=k) (λ_ _=>False) s')
 (h:∀s' ks e,Inv X (Zb++[(a,ur "list" #[] e1)]) σ H s'->s'.heap.get? kS=some (ur "list" (Qz ks) e)->ZA kV ks->js (ju X.prog X.w) A (ksk_end a false vs.toArray e1 (.ref kS) (Qz ks)) P E s'):
 js (ju X.prog X.w) A (ksk_rest a f false vs.toArray e1 (.ref kS)) P E s:=by
 unfold ksk_rest;refine jm (uD ?_)
 first
  |rw [List.forIn_toArray]
  |rw [<-VB]
 have hsl:sizeLine=16777216:=jw;refine jm (ksk_fold (λi s'=>∃ks e,Inv X (Zb++[(a,ur "list" #[] e1)]) σ H s'/\s'.heap.get? kS=some (ur "list" (Qz ks) e)/\ZA (kV.take i) ks) vs 0 s ⟨[],0,I.pin1 Wa ha (λv z=>by cases z),hk,.nil⟩ (λj u s' hu hI=>?_) λs' hI=>?_)
 ·obtain ⟨ks,e,I1,hk1,rk⟩:=hI
  rw [VH] at rk ⊢
  have hj:j<vs.length:=(Qn.mp hu).1
  obtain ⟨x,hx,rx⟩:∃x,xs[j]?=some x/\ZP x u:=by
   have hxl:j<xs.length:=by rw [rv.length];exact hj
   have e1:xs[j]?=some xs[j]:=Qd hxl;obtain ⟨u',hu',r'⟩:=rv.get e1;rw [hu] at hu';cases hu';exact ⟨_,e1,r'⟩
  have hkj:kV[j]?=some (kV[j]'(by omega)):=Qd (by omega);have I2:Inv X (Zb++([(a,ur "list" #[] e1)]++[(kS,ur "list" (Qz ks) e)])) σ H s':=by rw [<-j6];exact I1.pin1 Wk hk1 (λv z=>by cases z)
  refine jm (jX (jW (hcall _ s' j x _ u I2 hx hkj rx) (λy s2 ⟨yv,H2,I3,ry,eH,ey⟩=>?_) λ_ _ z=>z.elim));subst eH ey;have hk3:=(I3.pin (kS,ur "list" (Qz ks) e) (jB _ (jB _ (jB _ (jC.mpr rfl))))).1;have I4:Inv X (Zb++[(a,ur "list" #[] e1)]) σ H2 s2:=by rw [<-j6] at I3;exact I3.unpin
  have lk:=rk.length;rw [jF] at lk;have hsb:=Heap.SameBut.update s2.heap kS (Obj.mapSeq (·.push y))
  obtain ⟨c2,hg⟩:∃c2,(s2.heap.update kS (Obj.mapSeq (·.push y))).get? kS=some (ur "list" (Qz (ks++[y])) c2):=by
   have:(Qz ks).push y=Qz (ks++[y]):=by simp
   rw [<-this];exact ⟨_,vt hk3 (·.push y)⟩
  dsimp only;refine jm (vm hk3 rfl ?_ (by rw [jI];omega) (by rw [Vm,jI];omega));refine jq ⟨rfl,ks++[y],c2,I4.alter Wk hk3 (λv z=>by cases z) (λb u hb z=>(hsb.2 b hb).trans z),hg,?_⟩;rw [Ub,hkj];exact rk.append (.cons ry .nil)
 ·obtain ⟨ks,e,I1,hk1,rk⟩:=hI;rw [VH,<-hl,QG] at rk;refine jm (listItems_at hk1 rfl ?_);exact h s' ks e I1 hk1 rk
noncomputable def ZhH (prog:jx) (w:jG) {O:ve} (key:Nat->O.α) (n:Nat):Prop:=∀(A:Around) (E:Value->jn->Prop) (κ:uA) (s:jn) (ks vs:List Value),ks.length=vs.length->vs.length=n->2<=n->LS.ZkT key n (λs'=>s'=s) (Qac prog w A κ ks)->
 js (ju prog w) A ((sortRuns').run (SortSt.mk' κ (ks.toArray.zip vs.toArray) #[] 7 none)) (λr s'=>s'=s/\∃p:Array Nat,LS.Pm n p/\LS.Ust key p n/\vR r.2=p.map (VF (ks.toArray.zip vs.toArray))/\vD r.2=none) E s
theorem Zrs {A:Around} {E:Value->jn->Prop} {P:PySem.Fin->jn->Prop} {a kS:jo} {e e1:Nat} {vs ks:List Value} {xs:List V} {κ:uA} {O:ve} {key:Nat->O.α} (rv:ZA xs vs) (hl:ks.length=vs.length) (h64:vs.length<=100000) (hS:ZhH X.prog X.w key vs.length)
 (I:Inv X (Zb++[(a,ur "list" #[] e1)]) σ H s) (Wa:Own X Zb H a) (Wk:Own X (Zb++[(a,ur "list" #[] e1)]) H kS) (hk:s.heap.get? kS=some (ur "list" (Qz ks) e))
 (hkind:2<=vs.length->∀Q:uA->jn->Prop,Q κ s->js (ju X.prog X.w) A (QaH (Qz ks)) Q E s)
 (hask:LS.ZkT key vs.length (λs'=>s'=s) (Qac X.prog X.w A κ ks))
 (h:∀(p:Array Nat) s',LS.Pm vs.length p->LS.Ust key p vs.length->Inv X Zb σ (upd H a (.lst (p.toList.map λi=>xs.getD i .non))) s'->P (.done (.ret .none)) s'):
 js (ju X.prog X.w) A (ksk_end a false vs.toArray e1 (.ref kS) (Qz ks)) P E s:=by
 have hsl:sizeLine=16777216:=jw;have ha:=(I.pin (a,ur "list" #[] e1) (jB _ (jB _ (jC.mpr rfl)))).1;have hka:kS≠a:=λz=>Wk.np (a,ur "list" #[] e1) (jB _ (jB _ (jC.mpr rfl))) z.symm;have lv:=rv.length
 have tail:∀(st:jH) (p:Array Nat),LS.Pm vs.length p->LS.Ust key p vs.length->vR st=p.map (VF (ks.toArray.zip vs.toArray))->vD st=none->js (ju X.prog X.w) A (ksk_tail a false e1 (.ref kS) st) P E s:=by
  intro st p hp hu har hf;have hout:=kat_snds hl har;have hps:=hp.size;unfold ksk_tail;dsimp only;rw [hout];have hs1:=Heap.SameBut.update s.heap kS (Obj.mapSeq λ_=>(#[]:Array Value));have ha1:=(hs1.2 a hka.symm).trans ha;have hs2:=Heap.SameBut.update (s.heap.update kS (Obj.mapSeq λ_=>(#[]:Array Value))) a (Obj.mapSeq λ_=>Qz (p.toList.map λi=>vs.getD i Qq));obtain ⟨c2,hg⟩:∃c2,((s.heap.update kS (Obj.mapSeq λ_=>(#[]:Array Value))).update a (Obj.mapSeq λ_=>Qz (p.toList.map λi=>vs.getD i Qq))).get? a=some (ur "list" (Qz (p.toList.map λi=>vs.getD i Qq)) c2):=⟨_,vt ha1 (λ_=>Qz (p.toList.map λi=>vs.getD i Qq))⟩;refine jm (vm hk rfl ?_ (by rw [jI];omega) (Qu _));refine jm (wpAny_letGo ?_);refine jm (Qax ha1 rfl ?_);refine jm (vm ha1 rfl ?_ (Qu _) (by show (Qz _).size<=_;rw [jI,jr,Qp];omega));rw [hf];simp only [bne_self_eq_false,Q4,if_false];have I1:Inv X (Zb++[(a,ur "list" #[] e1)]) σ H {s with heap:=s.heap.update kS (Obj.mapSeq λ_=>(#[]:Array Value))}:=I.alter Wk hk (λv z=>by cases z) λb u hb z=>(hs1.2 b hb).trans z;have I2:Inv X Zb σ H {s with heap:=(s.heap.update kS (Obj.mapSeq λ_=>(#[]:Array Value))).update a (Obj.mapSeq λ_=>Qz (p.toList.map λi=>vs.getD i Qq))}:=I1.unpin.alter (s:= {s with heap:=s.heap.update kS (Obj.mapSeq λ_=>(#[]:Array Value))}) Wa ha1 (λv z=>by cases z) λb u hb z=>(hs2.2 b hb).trans z;refine jq (h p _ hp hu (I2.track Wa (I2.cellne hg λv z=>by cases z) ?_));refine ⟨by rw [jr,Qp];omega,p.toList.map λi=>vs.getD i Qq,c2,?_,hg⟩
  have all:∀l:List Nat,(∀i∈l,i<vs.length)->ZA (l.map λi=>xs.getD i .non) (l.map λi=>vs.getD i Qq):=by
   intro l
   induction l with
   |nil=>intro _;exact .nil
   |cons i r ih=>
    intro hi;have hi0:=hi i jY;refine .cons ?_ (ih λj hj=>hi j (jM _ hj));have hx:xs[i]?=some (xs.getD i .non):=by rw [Qb,Qd (by omega)];rfl
    obtain ⟨u,hu,r'⟩:=rv.get hx;show ZP (xs.getD i .non) (vs.getD i Qq);have e:vs.getD i Qq=u:=by rw [Qb,hu];rfl
    rw [e];exact r'
  exact all p.toList λi hi=>by have:=hp.mem_iff.mp hi;exact QB.mp this
 unfold ksk_end;dsimp only;rw [if_neg Qg];by_cases h2:vs.toArray.size<2
 ·rw [if_pos h2,if_pos h2];refine jm (jq ?_);rw [StateT.run_pure];refine jm (jq ?_);dsimp only;rw [if_neg Qg];rw [jI] at h2;refine tail _ (Qz (Qj vs.length)) (by unfold LS.Pm;simp) ⟨λi j hij hj=>?_,λi j hij hj=>by omega⟩ ?_ rfl
  ·have:i=j:=by omega
   subst this;exact Q8 _
  ·have e:=Ww (ks.toArray.zip vs.toArray);rw [show (ks.toArray.zip vs.toArray).size=vs.length by simp [hl]] at e;exact e.symm
 ·rw [if_neg h2,if_neg h2];rw [jI] at h2;refine jm (hkind (by omega) _ ?_);rw [if_neg Qg];refine jm (jW (hS A E κ s ks vs hl rfl (by omega) hask) ?_ λ_ _ z=>z);rintro ⟨⟨⟩,st'⟩ s' ⟨rfl,p,q1,q2,q3,q4⟩;exact tail st' p q1 q2 q3 q4
end
noncomputable def Zc6 (lo hi:Int):List V:=(Qj (hi-lo).toNat).map λi:Nat=>V.int (lo+(i:Int))
noncomputable def Src (K:Qa) (H:Hp) (a:jo) (xs:List V):Prop:=SqL K H a xs\/SqT K H a xs\/∃lo hi:Int,H a=some (.rng lo hi)/\xs=Zc6 lo hi/\ -(2 ^ 62)<=lo/\lo<2 ^ 62/\ -(2 ^ 62)<=hi/\hi<2 ^ 62
section
variable {X:Cx} {Zb:List (jo×Obj)} {σ:St} {H:Hp} {s:jn}
noncomputable def Zot:List V->Hp->VK->Prop:=λxs H Q=>match xs with
 |[.int j]=>∀r,H r=none->Q (.ref r) (upd H r (.rng 0 j))
 |[.int l,.int j]=>∀r,H r=none->Q (.ref r) (upd H r (.rng l j))
 |_=>False
theorem Zkd:qk X (.type "range") Zot:=by
 intro Zb s σ H xs us Q I r h;unfold Zot at h;split at h
 ·rename_i j;obtain ⟨u,rfl,ru⟩:=qN r;obtain ⟨t,rfl⟩:=ru;have hn:=I.hok.fresh (Qf s.heap.objs.size);exact call_range_1 ⟨.ref s.heap.objs.size,_,I.laid (o:=.rng 0 j) (t':=s.toks+1+1) (λb u e=>Qe _ e) (Qf _) ⟨_,_,_,Qi _ rfl⟩,rfl,h _ hn⟩
 ·rename_i l j;obtain ⟨u,w',rfl,ru,rw'⟩:=ZfN r;obtain ⟨t,rfl⟩:=ru;obtain ⟨t',rfl⟩:=rw';have hn:=I.hok.fresh (Qf s.heap.objs.size);exact call_range_2 ⟨.ref s.heap.objs.size,_,I.laid (o:=.rng l j) (t':=s.toks+1) (λb u e=>Qe _ e) (Qf _) ⟨_,_,_,Qi _ rfl⟩,rfl,h _ hn⟩
 ·exact h.elim
theorem Zov {lo hi:Int} {acc:Array Value} {n:Nat} (hn:n=(hi-lo).toNat) (h:QaC (λi v=>∃t,v=.int (lo+i * 1) t) acc n):ZA (Zc6 lo hi) acc.toList:=by
 obtain ⟨h1,h2⟩:=h
 have key:∀(l:List Value) (k:Nat),(∀j v,l[j]?=some v->∃t,v=Vc (lo+((k+j:Nat):Int)) t)->ZA ((Qj l.length).map λi=>V.int (lo+((k+i:Nat):Int))) l:=by
  intro l
  induction l with
  |nil=>intro k _;exact .nil
  |cons x r ih=>
   intro k hx;rw [jD,Wn,jV,uM];obtain ⟨t,e⟩:=hx 0 x rfl;refine .cons ⟨t,by simpa using e⟩ ?_;have:=ih (k+1) λj v hv=>by obtain ⟨t,e⟩:=hx (j+1) v (by simpa using hv);exact ⟨t,by rw [e];congr 2;omega⟩
   have e2:((λi=>V.int (lo+((k+i:Nat):Int)))∘Nat.succ)=λi=>V.int (lo+((k+1+i:Nat):Int)):=by
    funext i
    show V.int (lo+((k+(i+1):Nat):Int))=_
    congr 2
    omega
   rw [e2];exact this
 have:=key acc.toList 0 λj v hv=>by obtain ⟨t,e⟩:=h2 j v (by simpa using hv);exact ⟨t,by rw [e];simp⟩
 rw [Qp,h1,hn] at this;unfold Zc6;simpa using this
theorem ZeV {A:Around} {E:Value->jn->Prop} {Q:List Value->jn->Prop} {a:jo} {xs:List V} (I:Inv X Zb σ H s) (hh:A.handled=none) (hx:Src X.K H a xs) (hz:xs.length<=16777216)
 (h:∀vs h' tk,ZA xs vs->(∀b o,s.heap.get? b=some o->h'.get? b=some o)->Q vs {s with heap:=h',toks:=tk}):js (ju X.prog X.w) A (collect (.ref a)) Q E s:=by
 have hsl:sizeLine=16777216:=jw;rcases hx with hx|hx|⟨lo,hi,hx,rfl,b1,b2,b3,b4⟩
 ·obtain ⟨its,rv,p,hz'⟩:=I.list hx;obtain ⟨o,ho,hc,n,hd⟩:=p.isList;have:=rv.length;exact wpAny_collect_seq a (.inl rfl) ho hc hd (λh' k=>h its h' s.toks rv k) (by rw [jI];omega)
 ·obtain ⟨its,rv,p,hz'⟩:=I.tuple hx;obtain ⟨o,ho,hc,n,hd⟩:=id p;have:=rv.length;exact wpAny_collect_seq a (.inr rfl) ho hc hd (λh' k=>h its h' s.toks rv k) (by rw [jI];omega)
 ·obtain ⟨t,u,v,hr⟩:=I.hok a _ hx;have hl:(Zc6 lo hi).length=(hi-lo).toNat:=by unfold Zc6;simp
  have hr1:IsRange (s.heap.push {cls:=.type "list",data:=.seq ([]:List Value).toArray}) a lo hi 1 t u v:=Qe _ hr;unfold collect;refine jm (vS (ub F.entry_proto_collect ?_));rw [Around.under_plainId F.plain_proto_collect _];show js _ A.in1 (newList [] >>=λl=>again (.builtin "list.__iadd__" ⟨[l,.ref a],[]⟩)) _ _ s;refine jm (j8 ?_);refine jq ⟨u0 F.plain_list_iadd _,ub F.entry_list_iadd ?_⟩;rw [Around.under_plainId F.plain_list_iadd _];show js _ A.in1 (Builtin.List.listExtendWith (.ref s.heap.objs.size) (.ref a) (.ref s.heap.objs.size)) _ _ _
  have fin:∀s':jn,(∃h' tk acc c',(∀b o,b≠s.heap.objs.size->(s.heap.push {cls:=.type "list",data:=.seq ([]:List Value).toArray}).get? b=some o->h'.get? b=some o)/\h'.get? s.heap.objs.size=some {cls:=.type "list",dict:=none,data:=.seq acc c',slots:=#[]}/\
   QaC (λi v=>∃t,v=.int (lo+i * 1) t) acc (hi-lo).toNat/\s'= {s with heap:=h',toks:=tk})->js (ju X.prog X.w) A (match Value.ref s.heap.objs.size with
   |Value.ref a=>do
    match (<-load a).data with
     |Data.seq xs _=>pure xs.toList
     |_=>unsupported "internal:collect"
   |_=>unsupported "internal:collect") Q E s':=by
   rintro s' ⟨h',tk,acc,c',k,hS,hi',rfl⟩;show js _ A (load s.heap.objs.size >>=_) _ _ _;refine jm (wpAny_load hS ?_);exact jq (h _ h' tk (Zov rfl hi') λb o e=>k b o (Qo (Qk e)) (Qe _ e))
  refine jW (wpAny_extend_range (s:= {s with heap:=s.heap.push {cls:=.type "list",data:=.seq ([]:List Value).toArray} }) (R:=λr s'=>r=.ok (.ret (.ref s.heap.objs.size))/\∃h' tk acc c',(∀b o,b≠s.heap.objs.size->(s.heap.push {cls:=.type "list",data:=.seq ([]:List Value).toArray}).get? b=some o->h'.get? b=some o)/\h'.get? s.heap.objs.size=some {cls:=.type "list",dict:=none,data:=.seq acc c',slots:=#[]}/\
   QaC (λi v=>∃t,v=.int (lo+i * 1) t) acc (hi-lo).toNat/\s'= {s with heap:=h',toks:=tk}) (n:=(hi-lo).toNat) hh hr1 (small_one b1 b2 b3 b4) (by rw [rangeSize_one];split<;>omega) (by omega) s.heap.objs.size (.ref s.heap.objs.size) 0 (Qi _ rfl) λh' tk acc c' k hS hi'=>⟨rfl,h',tk,acc,c',k,hS,hi',rfl⟩) (λfn s' hf=>?_) λe s' he=>?_
  ·cases fn with
   |done fl=>
    obtain ⟨e,hf⟩:=hf;cases e;exact fin s' hf
   |again c'=>
    refine ⟨hf.1,ud hf.2 λr s2 hr=>?_⟩;obtain ⟨e,hr⟩:=hr;subst e;exact fin s2 hr
  ·exact absurd he.1 (by intro z;cases z)
theorem ZjM {kL:List (List Nat)} {ks:List Value} (r:ZA (kL.map λk=>V.str (T k)) ks) {i:Nat} (hi:i<kL.length):∃t,ks.getD i Qq=.str (T (kL.getD i [])) t:=by
 have e:(kL.map λk=>V.str (T k))[i]?=some (V.str (T (kL.getD i []))):=by rw [Qh,Qb,Qd hi];rfl
 obtain ⟨u,hu,t,rfl⟩:=r.get e;exact ⟨t,by rw [Qb,hu];rfl⟩
theorem Zj9 {prog:jx} {w:jG} {A:Around} {kL:List (List Nat)} {ks:List Value} (r:ZA (kL.map λk=>V.str (T k)) ks):LS.ZkT (O:=strKind.toKeyOrd) (λi=>kL.getD i []) kL.length (λs'=>s'=s) (Qac prog w A vX ks):=by refine ⟨λi j C s1 hi hj e h=>?_⟩;subst e;unfold Qac;obtain ⟨t,e1⟩:=ZjM r hi;obtain ⟨t',e2⟩:=ZjM r hj;rw [e1,e2];refine PySem.W.kas_lt_str ?_;have h:=h s1 rfl;have e3:(T (kL.getD i [])).cps.toList=kL.getD i []:=L_T _;have e4:(T (kL.getD j [])).cps.toList=kL.getD j []:=L_T _;rw [e3,e4];exact h
theorem Zif {M:uI} {A:Around} {E:Value->jn->Prop} {kL:List (List Nat)} {ks:List Value} (r:ZA (kL.map λk=>V.str (T k)) ks) (h2:2<=kL.length) {Q:uA->jn->Prop} (h:Q vX s):js M A (QaH (Qz ks)) Q E s:=by
 have hl:=r.length;rw [jr] at hl;refine kas_kind (T:=.type "str") (by omega) (λv hv=>?_) (by decide) (by decide) h;obtain ⟨i,hi⟩:=Vu hv;have hlt:i<kL.length:=by have:=(Qn.mp hi).1;omega
 obtain ⟨t,e⟩:=ZjM r hlt;rw [Qb,hi] at e;have e:v=.str (T (kL.getD i [])) t:=e;rw [e];exact PySem.W.Looks.of_pure rfl
theorem ZlP {Q:VK} {E:Value->jn->Prop} {f a:jo} {xs:List V} {kL:List (List Nat)} (hc:X.calm=true) (hr:zH 1 X.A) (I:Inv X Zb σ H s) (hx:Src X.K H a xs) (h64:xs.length<=100000) (hS:ZhH X.prog X.w (O:=strKind.toKeyOrd) (λi=>kL.getD i []) xs.length) (hl:kL.length=xs.length)
 (hcall:∀ps s' (i:Nat) (x:V) (k:V) (u:Value),Inv X (Zb++ps) σ H s'->xs[i]?=some x->(kL.map λk=>V.str (T k))[i]?=some k->ZP x u->js (ju X.prog X.w) X.A.in1.in1 (call (.ref f) [u]) (EP X (Zb++ps) σ λy H'=>H'=H/\y=k) (λ_ _=>False) s')
 (h:∀l (p:List Nat),H l=none->p.Perm (Qj xs.length)->p.Pairwise (λi j=>kL.getD i []<=kL.getD j []/\(kL.getD i []=kL.getD j []->i<j))->Q (.ref l) (upd H l (.lst (p.map λi=>xs.getD i .non)))):
 js (ju X.prog X.w) X.A (call (.builtin "sorted") [.ref a] [(Qc "key",.ref f)]) (EP X Zb σ Q) E s:=by
 have hsl:sizeLine=16777216:=jw;have hh:X.A.handled=none:=I.ok.hd hc;refine call_function_entry_kw kind_sorted plain_sorted entry_sorted (ksk_s1 _ _) ?_
 unfold Builtin.«sorted»
 refine jm (m:=checkCount "sorted" 1 1 _) (jq ?_);refine jm (ZeV I hh hx (by omega) λvs h1 tk rv k=>?_);have lv:=rv.length;refine jm (Qag ?_ (by omega));have k2:∀b o,s.heap.get? b=some o->(h1.push {cls:=.type "list",data:=.seq vs.toArray}).get? b=some o:=λb o e=>Qe _ (k b o e);have I2:Inv X Zb σ H {s with heap:=h1.push {cls:=.type "list",data:=.seq vs.toArray},toks:=tk}:=I.kept k2;have I1:Inv X Zb σ H {s with heap:=h1,toks:=tk}:=I.kept k;have Wa:Own X Zb H h1.objs.size:=Own.fresh I1 (Qf _);have ho:(h1.push {cls:=.type "list",data:=.seq vs.toArray}).get? h1.objs.size=some (ur "list" vs.toArray 0):=Qi _ rfl;refine jm (jU (wpAny_call_entry_kw slot_list_sort ⟨_,ho,rfl⟩ entry_list_sort ?_ (ksk_l1 _ _)));rw [ksk_t1];unfold ksk_tree;refine jm (listItems_at ho rfl ?_);refine jm (vm ho rfl ?_ (by rw [jI];omega) (Qu _));have hs1:=Heap.SameBut.update (h1.push {cls:=.type "list",data:=.seq vs.toArray}) h1.objs.size (Obj.mapSeq λ_=>(#[]:Array Value));obtain ⟨e1,ho1⟩:∃e1,((h1.push {cls:=.type "list",data:=.seq vs.toArray}).update h1.objs.size (Obj.mapSeq λ_=>(#[]:Array Value))).get? h1.objs.size=some (ur "list" #[] e1):=⟨_,vt ho λ_=>#[]⟩;refine jm (Qax ho1 rfl ?_);refine jm (vT ?_ (by show vs.length<=_;omega));refine jm (Qag ?_ (Qu _));refine jU ?_
 have I3:Inv X Zb σ H {s with heap:=(h1.push {cls:=.type "list",data:=.seq vs.toArray}).update h1.objs.size (Obj.mapSeq λ_=>(#[]:Array Value)),toks:=tk}:=
  I2.alter (s:= {s with heap:=h1.push {cls:=.type "list",data:=.seq vs.toArray},toks:=tk}) Wa ho (λv z=>by cases z) λb u hb z=>(hs1.2 b hb).trans z
 generalize hg4:(h1.push {cls:=.type "list",data:=.seq vs.toArray}).update h1.objs.size (Obj.mapSeq λ_=>(#[]:Array Value))=h4 at *
 have I5:Inv X Zb σ H {s with heap:=(h4.push {cls:=.type "tuple",data:=.seq vs.toArray}).push {cls:=.type "list",data:=.seq ([]:List Value).toArray},toks:=tk}:=
  I3.kept (s:= {s with heap:=h4,toks:=tk}) (t':=tk) λb o e=>Qe _ (Qe _ e)
 have ha5:((h4.push {cls:=.type "tuple",data:=.seq vs.toArray}).push {cls:=.type "list",data:=.seq ([]:List Value).toArray}).get? h1.objs.size=some (ur "list" #[] e1):=Qe _ (Qe _ ho1);have I4:Inv X Zb σ H {s with heap:=h4.push {cls:=.type "tuple",data:=.seq vs.toArray},toks:=tk}:=I3.kept (s:= {s with heap:=h4,toks:=tk}) (t':=tk) λb o e=>Qe _ e;have ha4:(h4.push {cls:=.type "tuple",data:=.seq vs.toArray}).get? h1.objs.size=some (ur "list" #[] e1):=Qe _ ho1
 have Wk:Own X (Zb++[(h1.objs.size,ur "list" #[] e1)]) H (h4.push {cls:=.type "tuple",data:=.seq vs.toArray}).objs.size:=
  Own.fresh (I4.pin1 (s:= {s with heap:=h4.push {cls:=.type "tuple",data:=.seq vs.toArray},toks:=tk}) Wa ha4 λv z=>by cases z) (Qf _)
 refine Zp0 (s:= {s with heap:=(h4.push {cls:=.type "tuple",data:=.seq vs.toArray}).push {cls:=.type "list",data:=.seq ([]:List Value).toArray},toks:=tk}) (kV:=kL.map λk=>V.str (T k)) rv (by rw [jr];omega) (by omega) I5 Wa ha5 Wk (Qi _ rfl) hcall λs6 ks e I6 hk6 rk=>?_;have lk:=rk.length;rw [jr] at lk;refine Zrs (O:=strKind.toKeyOrd) (key:=λi=>kL.getD i []) (κ:=vX) rv (by omega) (by omega) (by rw [<-lv];exact hS) I6 Wa Wk hk6 (λh2 Q' q'=>Zif rk (by omega) q') ?_ λp s7 hp hu I7=>⟨_,rfl,jq ⟨_,rfl,.ref h1.objs.size,_,I7,rfl,?_⟩⟩
 ·have:=Zj9 (s:=s6) (prog:=X.prog) (w:=X.w) (A:=X.A.in1.in1) rk;rw [show kL.length=vs.length by omega] at this;exact this
 ·refine h _ p.toList Wa.free (by unfold LS.Pm at hp;rw [lv];exact hp) ?_;have hps:=hp.size;refine Ue.mpr λi j hi hj hij=>?_;have:=hu.1 i j (QT hij) (by rw [Qp] at hj;omega);have st:=hu.2 i j hij (by rw [Qp] at hj;omega);have gi:LS.gt p i=p.toList[i]:=by unfold LS.gt;rw [QJ];rw [Qp] at hi;simp [hi]
  have gj:LS.gt p j=p.toList[j]:=by unfold LS.gt;rw [QJ];rw [Qp] at hj;simp [hj]
  rw [gi,gj] at this st;have this:decide (kL.getD p.toList[j] []<kL.getD p.toList[i] [])=false:=this;exact ⟨Uq.mp (of_decide_eq_false this),st⟩
end
noncomputable def Zbm (e:jo) (h:Heap):Prop:=∃o vs,h.get? e=some o/\o.data=.fields vs/\vs[2]?=some .none
theorem Zbm.push {e:jo} {h:Heap} (x:Zbm e h) (o':Obj):Zbm e (h.push o'):=by obtain ⟨o,vs,h1,h2,h3⟩:=x;exact ⟨o,vs,Qe _ h1,h2,h3⟩
theorem Zbm.upd {e a:jo} {h:Heap} (x:Zbm e h) (f:Obj->Obj) (hf:∀o vs,o.data=.fields vs->vs[2]?=some .none->∃vs',(f o).data=.fields vs'/\vs'[2]?=some .none):Zbm e (h.update a f):=by
 obtain ⟨o,vs,h1,h2,h3⟩:=x;by_cases q:a=e
 ·subst q;obtain ⟨vs',g1,g2⟩:=hf o vs h2 h3;exact ⟨f o,vs',Q3 f h1 (Obj.isFreed_of_fields g1),g1,g2⟩
 ·exact ⟨o,vs,(QX _ _ q).trans h1,h2,h3⟩
noncomputable def Kp {α:Type} (t:Sem α):Prop:=∀(M:uI) (Γ:PySem.Ctx) (Q:α->Pos->jn->Prop) (E:Value->Pos->jn->Prop) (p:Pos) (s:jn) (e:jo),Zbm e s.heap->Sem.wp M Γ t Q E p s->Sem.wp M Γ t (λa p' s'=>Q a p' s'/\Zbm e s'.heap) E p s
section
variable {α β:Type}
theorem Kp.pure (a:α):Kp (Pure.pure a:Sem α):=λM Γ Q E p s e x h=>by
 rw [Sem.wp_pure'] at h ⊢
 exact ⟨h,x⟩
theorem Kp.bind {m:Sem α} {f:α->Sem β} (hm:Kp m) (hf:∀a,Kp (f a)):Kp (m >>=f):=λM Γ Q E p s e x h=>by
 rw [Sem.wp_bind'] at h ⊢
 exact Sem.wp_mono M Γ m (λa p' s' z=>hf a M Γ Q E p' s' e z.2 z.1) (λ_ _ _ z=>z) p s (hm M Γ _ E p s e x h)
theorem Kp.unsupported (w:String):Kp (PySem.unsupported w:Sem α):=λM Γ Q E p s e x h=>by have:Sem.wp M Γ (Sem.unsupported w:Sem α) Q E p s:=h;rw [Sem.wp_unsupported] at this;exact this.elim
theorem Kp.load (a:jo):Kp (PySem.load a):=λM Γ Q E p s e x h=>by
 have h:Sem.wp M Γ (Sem.load a none Sem.pure) Q E p s:=h;show Sem.wp M Γ (Sem.load a none Sem.pure) _ E p s
 rw [Sem.wp_load] at h ⊢
 obtain ⟨o,h1,h2⟩:=h;refine ⟨o,h1,?_⟩
 rw [Sem.wp_pure] at h2 ⊢
 exact ⟨h2,x⟩
theorem Kp.update (a:jo) (f:Obj->Obj) (hf:∀o vs,o.data=.fields vs->vs[2]?=some .none->∃vs',(f o).data=.fields vs'/\vs'[2]?=some .none):Kp (PySem.update a f):=λM Γ Q E p s e x h=>by
 have h:Sem.wp M Γ (Sem.update a none f Sem.pure) Q E p s:=h;show Sem.wp M Γ (Sem.update a none f Sem.pure) _ E p s
 rw [Sem.wp_update] at h ⊢
 refine ⟨h.1,?_⟩;have h2:=h.2
 rw [Sem.wp_pure] at h2 ⊢
 exact ⟨h2,x.upd f hf⟩
theorem Kp.alloc (o:Obj):Kp (PySem.alloc o):=λM Γ Q E p s e x h=>by
 have h:Sem.wp M Γ (Sem.alloc o Sem.pure) Q E p s:=h;show Sem.wp M Γ (Sem.alloc o Sem.pure) _ E p s
 rw [Sem.wp_alloc] at h ⊢
 rw [Sem.wp_pure] at h ⊢
 exact ⟨h,x.push o⟩
theorem Kp.stack:Kp PySem.stack:=λM Γ Q E p s e x h=>⟨h,x⟩
theorem Kp.ite {c:Prop} [Decidable c] {a b:Sem α} (ha:Kp a) (hb:Kp b):Kp (if c then a else b):=by
 split
 ·exact ha
 ·exact hb
theorem Kp.fieldsOf (v:Value):Kp (PySem.fieldsOf v):=by
 unfold PySem.fieldsOf;split
 ·refine Kp.bind (Kp.load _) λo=>?_;split
  ·exact Kp.pure _
  ·exact Kp.unsupported _
 ·exact Kp.unsupported _
theorem Kp.field (v:Value) (i:Nat):Kp (PySem.field v i):=by
 unfold PySem.field;refine Kp.bind (Kp.fieldsOf v) λvs=>?_;split
 ·exact Kp.pure _
 ·exact Kp.unsupported _
theorem Kp.setField (v:Value) {i:Nat} (hi:i≠2) (x:Value):Kp (PySem.setField v i x):=by
 unfold PySem.setField;split
 ·unfold PySem.updateField;refine Kp.bind (Kp.load _) λo=>?_;split
  ·refine Kp.ite (Kp.update _ _ λo vs h1 h2=>⟨_,Obj.data_mapFields h1 _,?_⟩) (Kp.unsupported _);rw [Array.getElem?_setIfInBounds_ne hi];exact h2
  ·exact Kp.unsupported _
 ·exact Kp.unsupported _
theorem Kp.newFields (ty:String) (vs:List Value):Kp (PySem.newFields ty vs):=by
 unfold PySem.newFields PySem.newObj;dsimp only;have as:Kp (PySem.newObjAsIs (.type ty) (.fields vs.toArray)):=by unfold PySem.newObjAsIs;exact Kp.bind (Kp.alloc _) λa=>Kp.pure _
 exact Kp.ite (Kp.bind (Kp.unsupported _) λ_=>as) as
theorem Kp.readyFrames:∀l:List Env,Kp (PySem.readyFrames l)
 |[]=>Kp.pure _
 |env::outer=>by
  unfold PySem.readyFrames;split
  ·refine Kp.bind (Kp.load _) λo=>Kp.ite (Kp.pure _) (Kp.bind ?_ λ_=>Kp.bind ?_ λ_=>Kp.bind ?_ λ_=>Kp.readyFrames outer)
   ·unfold PySem.behindIsImport;exact Kp.ite (Kp.pure _) (Kp.ite (Kp.pure _) (Kp.bind (Kp.field _ _) λ_=>Kp.pure _))
   ·unfold PySem.keptBack;split
    ·exact Kp.ite (Kp.pure _) (Kp.bind (Kp.bind Kp.stack λ_=>Kp.pure _) λ_=>Kp.pure _)
    ·exact Kp.pure _
   ·exact Kp.update _ _ λo vs h1 h2=>⟨vs,h1,h2⟩
  ·exact Kp.unsupported _
theorem Kp.frameOf (env:Env):Kp (PySem.frameOf env):=by
 unfold PySem.frameOf;refine Kp.bind (Kp.bind Kp.stack λ_=>Kp.pure _) λl=>Kp.bind ?_ λr=>?_
 ·unfold PySem.frameObject;split
  ·exact Kp.pure _
  ·exact Kp.bind (Kp.readyFrames _) λ_=>Kp.pure _
 ·split
  ·exact Kp.pure _
  ·exact Kp.unsupported _
theorem Kp.entryPlaceOf (f:jo) (b:Bool):Kp (PySem.entryPlaceOf f b):=by
 unfold PySem.entryPlaceOf;refine Kp.bind Kp.stack λacts=>?_;split
 ·exact Kp.pure _
 ·exact Kp.pure _
theorem Kp.setFlight (v:Value) (f:Option jo):Kp (PySem.setFlight v f):=by unfold PySem.setFlight;refine Kp.bind (Kp.field _ _) λtb=>Kp.ite (Kp.setField _ (by decide) _) (Kp.pure _)
theorem Kp.noteFrame (v:Value) (env:Env):Kp (PySem.noteFrame v env):=by
 unfold PySem.noteFrame;split
 ·rename_i f _;refine Kp.bind (Kp.field _ _) λhd=>?_
  have qB:Kp (do PySem.setField v 1 (<-EntryCells.newEntry hd (<-PySem.frameOf env) .none (uc f) .none (<-PySem.entryPlaceOf f (hd !=.none)))):=
   Kp.bind (Kp.frameOf env) λ_=>Kp.bind (Kp.entryPlaceOf _ _) λ_=>Kp.bind (Kp.newFields _ _) λ_=>Kp.setField _ (by decide) _
  refine Kp.ite (Kp.bind (Kp.field _ _) λ_=>Kp.ite (Kp.pure _) (Kp.bind (Kp.setField _ (by decide) _) λ_=>qB)) qB
 ·exact Kp.unsupported _
theorem Kp.leaving (env:Env) (v:Value):Kp (PySem.leaving env v):=by unfold PySem.leaving;exact Kp.bind (Kp.noteFrame _ _) λ_=>Kp.setFlight _ _
theorem Kp.any {t:Sem α} (k:Kp t) {M:uI} {A:Around} {Q:α->jn->Prop} {E:Value->jn->Prop} {s:jn} {e:jo} (x:Zbm e s.heap) (h:js M A t Q E s):js M A t (λa s'=>Q a s'/\Zbm e s'.heap) E s:=λΓ p hΓ=>k M Γ _ _ p s e x (h Γ p hΓ)
end
noncomputable def Zeb (base:Heap) (l:List Env) (e:jo) (cls a0:Value) (h:Heap):Prop:=Vl base l e cls a0 h/\Zbm e h
section
variable {M:uI} {A:Around} {E:Value->jn->Prop} {s:jn} {base:Heap} {env:Env} {outer l:List Env} {L e:jo} {cls a0:Value} {Q:Unit->jn->Prop}
theorem Zjk (hfr:A.frames=some (env::outer)) (hf:env.frame=some L) (hfl:Zeb base (env::outer) e cls a0 s.heap)
 (hQ:∀h',Zeb base outer e cls a0 h'->s.heap.UpToSlots h'->Q () {s with heap:=h'}):js M A (leaving env (.ref e)) Q E s:=by
 have w:=wpAny_leaves_onW (M:=M) (A:=A) (E:=E) (Q:=λ_ s'=>∃h',s'= {s with heap:=h'}/\Vl base outer e cls a0 h'/\s.heap.UpToSlots h') hfr hf hfl.1 λh' x1 x2=>⟨h',rfl,x1,x2⟩;refine jW ((Kp.leaving env (.ref e)).any hfl.2 w) (λa s' z=>?_) λ_ _ z=>z;obtain ⟨⟨h',rfl,x1,x2⟩,c⟩:=z;exact hQ h' ⟨x1,c⟩ x2
theorem Zg7 {h:Heap} {args:List Value} (hfr:A.frames=some (env::outer)) (hf:env.frame=some L) (hkb:base.StaysIn h) (hl:h.FunFrames base (env::outer)) (hx:WY h s.heap e cls args)
 (hQ:∀h' t,Zeb base outer e cls (.ref t) h'->h'.TupAt t args->base.get? t=none->s.heap.UpToSlots h'->Q () {s with heap:=h'}):js M A (leaving env (.ref e)) Q E s:=by
 have w:=wpAny_leaves_madeW (M:=M) (A:=A) (E:=E) (Q:=λ_ s'=>∃h' t,s'= {s with heap:=h'}/\Vl base outer e cls (.ref t) h'/\h'.TupAt t args/\base.get? t=none/\s.heap.UpToSlots h') hfr hf hkb hl hx λh' t x1 x2 x3 x4=>⟨h',t,rfl,x1,x2,x3,x4⟩;have c0:Zbm e s.heap:=by obtain ⟨t,h1,_⟩:=hx.there;exact ⟨_,_,h1,rfl,rfl⟩
 refine jW ((Kp.leaving env (.ref e)).any c0 w) (λa s' z=>?_) λ_ _ z=>z;obtain ⟨⟨h',t,rfl,x1,x2,x3,x4⟩,c⟩:=z;exact hQ h' t ⟨x1,c⟩ x2 x3 x4
theorem Zlr (hfr:A.frames=some (env::outer)) (hf:env.frame=some L) (hfl:Zeb base (env::outer) e cls a0 s.heap)
 (hQ:∀h',WL base (env::outer) e cls a0 L h'/\Zbm e h'->s.heap.UpToSlots h'->Q () {s with heap:=h'}):js M A (noteFrame (.ref e) env) Q E s:=by
 have w:=wpAny_looks_onW (M:=M) (A:=A) (E:=E) (Q:=λ_ s'=>∃h',s'= {s with heap:=h'}/\WL base (env::outer) e cls a0 L h'/\s.heap.UpToSlots h') hfr hf hfl.1 λh' x1 x2=>⟨h',rfl,x1,x2⟩;refine jW ((Kp.noteFrame (.ref e) env).any hfl.2 w) (λa s' z=>?_) λ_ _ z=>z;obtain ⟨⟨h',rfl,x1,x2⟩,c⟩:=z;exact hQ h' ⟨x1,c⟩ x2
theorem ZrR (hh:WL base l e cls a0 L s.heap/\Zbm e s.heap) (hQ:∀h',Zeb base l e cls a0 h'->s.heap.UpToSlots h'->Q () {s with heap:=h'}):js M A (setFlight (.ref e) none) Q E s:=by have w:=wpAny_landsW (M:=M) (A:=A) (E:=E) (Q:=λ_ s'=>∃h',s'= {s with heap:=h'}/\Vl base l e cls a0 h'/\s.heap.UpToSlots h') hh.1 λh' x1 x2=>⟨h',rfl,x1,x2⟩;refine jW ((Kp.setFlight (.ref e) none).any hh.2 w) (λa s' z=>?_) λ_ _ z=>z;obtain ⟨⟨h',rfl,x1,x2⟩,c⟩:=z;exact hQ h' ⟨x1,c⟩ x2
theorem Zg6 (hh:Zeb base l e cls a0 s.heap) (hQ:∀h',Zeb base l e cls a0 h'->s.heap.UpToSlots h'->Q () {s with heap:=h'}):js M A (setFlight (.ref e) none) Q E s:=by have w:=lands_againW (M:=M) (A:=A) (E:=E) (Q:=λ_ s'=>∃h',s'= {s with heap:=h'}/\Vl base l e cls a0 h'/\s.heap.UpToSlots h') hh.1 λh' x1 x2=>⟨h',rfl,x1,x2⟩;refine jW ((Kp.setFlight (.ref e) none).any hh.2 w) (λa s' z=>?_) λ_ _ z=>z;obtain ⟨⟨h',rfl,x1,x2⟩,c⟩:=z;exact hQ h' ⟨x1,c⟩ x2
end
noncomputable def CX1 (P:jx) (w:jG):CXT:=λouter H s E e s'=>∃(a C:jo) (a0:Value) (B:Heap) (H':Hp),e=.ref a/\s'.os=s.os/\vA s'.gens/\Un (frs outer) [] H H' s.heap s'.heap/\HOk P w H' B/\
 (∀b o,s.heap.get? b=some o->H b=none->b∉frs outer->B.get? b=some o)/\(∀b o,s.heap.get? b=some o->b∉frs outer->∃o',B.get? b=some o')/\Zeb B outer a (.ref C) a0 s'.heap/\E (.ref C) none H'
theorem ZmU {P:jx} {w:jG} {outer:List Env} {H:Hp} {s:jn} {e:Value} {s':jn} (h:CX1 P w outer H s (λ_ _ _=>False) e s'):False:=by obtain ⟨_,_,_,_,_,_,_,_,_,_,_,_,_,q⟩:=h;exact q
theorem Zpn {l:List Env} {env:Env} {b:jo} (h:env∈l) (hf:env.frame=some b):b∈frs l:=UZ.mpr ⟨env,h,hf⟩
structure Tk (X:Cx) (F:St->XK):Prop where
 pass:∀(Zb:List (jo×Obj)) (σ:St) (H:Hp) (s:jn) (e:Value) (s':jn),Inv X Zb σ H s->CX1 X.prog X.w X.stack H s (F σ) e s'->X.xe e s'
 own:u9 (ju X.prog X.w) X.A X.env X.xe
structure TkN (X:Cx) (F:St->XK):Prop extends Tk X F where
 new:∀(Zb:List (jo×Obj)) (σ:St) (H:Hp) (s:jn) (h':Heap) (a C:jo) (args:List Value),Inv X Zb σ H s->WY s.heap h' a (.ref C) args->F σ (.ref C) none H->X.xe (.ref a) {s with heap:=h'}
section
variable {P:jx} {w:jG} {K:Qa} {mg:Str->Option Value} {base:Heap} {N:List Str} {qual:Str} {scope:Scope} {f:jo} {cdv:Value} {A:Around} {outer:List Env} {s:jn} {H:Hp} {E:XK}
theorem Z1:TkN (Jm (CX1 P w) P w K mg base N qual scope f cdv A outer s H E) (λ_=>E):=by
 refine ⟨⟨λZb σ H1 s1 e s2 I h=>?_,PassesOwn.leaving⟩,λZb σ H1 s1 h' a C args I hm hE=>?_⟩
 ·obtain ⟨a,C,a0,B,H',rfl,h1,h2,h3,h4,h5,h5',h6,h7⟩:=h;have hfr:(A.deeper (uk qual scope s.heap.objs.size f cdv)).frames=some (uk qual scope s.heap.objs.size f cdv::outer):=I.ok.frames;refine Zjk hfr rfl h6 λh3' hfl hup=>?_;have nL:∀b o,s.heap.get? b=some o->b≠s.heap.objs.size:=λb o e=>Qo (Qk e)
  have inB:∀b o,s.heap.get? b=some o->H b=none->b∉frs outer->B.get? b=some o:=λb o e n hb=>by
   refine h5 b o (I.base.keep b o e n hb (by simp [Jm])) (I.base.free b o e n (by simp [Jm])) λz=>?_;rcases jQ.mp (I.stkSub b z) with z|z
   ·exact nL b o e z
   ·exact hb z
  have thB:∀b o,s.heap.get? b=some o->b∉frs outer->∃o',B.get? b=some o':=λb o e hb=>by
   obtain ⟨o1,e1⟩:=I.base.there b o e (by simp [Jm]);refine h5' b o1 e1 λz=>?_;rcases jQ.mp (I.stkSub b z) with z|z
   ·exact nL b o e z
   ·exact hb z
  have frame:∀b o,s.heap.get? b=some o->b∈frs outer->∃sl,h3'.get? b=some {o with slots:=sl}:=λb o e hb=>by
   have n:H b=none:=I.ok.frf b hb;obtain ⟨sl,e1⟩:=I.base.slot b o e n hb (by simp [Jm]);obtain ⟨sl2,e2⟩:=h3.any e1 (I.base.free b o e n (by simp [Jm])) (by simp);have hd:∀vs,o.data≠ .fields vs:=by obtain ⟨_,o',ho',hd'⟩:=I.ok.funs.mem hb;have ho':s.heap.get? b=some o':=ho';rw [e] at ho';cases ho';exact hd'
   obtain ⟨sl3,e3⟩:=hup b _ e2 hd;exact ⟨sl3,e3⟩
  refine ⟨a,C,a0,B,H',rfl,h1.trans I.os,h2,⟨λb o e n hb _=>hfl.1.1 b o (inB b o e n hb),λb o e n hb _=>frame b o e hb,λb o e n _=>?_,λb o e _=>?_,λb xs e=>h3.tups b xs (I.base.tups b xs e),λb o u e=>h3.frzs b o u (I.base.frzs b o u e),λb ps e=>?_⟩,h4,inB,thB,hfl,h7⟩
  ·obtain ⟨o',e1⟩:=I.base.there b o e (by simp [Jm]);exact h3.free b o' e1 (I.base.free b o e n (by simp [Jm])) (by simp)
  ·by_cases hb:b∈frs outer
   ·obtain ⟨sl,e1⟩:=frame b o e hb;exact ⟨_,e1⟩
   ·obtain ⟨o',e1⟩:=thB b o e hb;exact ⟨o',hfl.1.1 b o' e1⟩
  ·obtain ⟨m1,e1⟩:=I.base.tbls b ps e;obtain ⟨m2,e2⟩:=h3.tbls b _ e1;exact ⟨m1++m2,by rw [e2,WG]⟩
 ·have hfr:(A.deeper (uk qual scope s.heap.objs.size f cdv)).frames=some (uk qual scope s.heap.objs.size f cdv::outer):=I.ok.frames;have hin:∀env∈(uk qual scope s.heap.objs.size f cdv::outer),∀b,env.frame=some b->b∈frs (uk qual scope s.heap.objs.size f cdv::outer):=λenv he b hb=>Zpn he hb;have hfun:s1.heap.FunFrames (Qaz s1.heap (frs (uk qual scope s.heap.objs.size f cdv::outer))) (uk qual scope s.heap.objs.size f cdv::outer):=PySem.W.funFrames_hide I.stack hin;refine Zg7 hfr rfl (λb o e=>of_hideAll _ e) hfun hm λh2 t hfl htup ht hup=>?_;have nL:∀b o,s.heap.get? b=some o->b≠s.heap.objs.size:=λb o e=>Qo (Qk e)
  have notf:∀b o,s.heap.get? b=some o->b∉frs outer->b∉frs (uk qual scope s.heap.objs.size f cdv::outer):=λb o e hb z=>by
   rcases jQ.mp (I.stkSub b z) with z|z
   ·exact nL b o e z
   ·exact hb z
  have toB:∀b o,s1.heap.get? b=some o->b∉frs (uk qual scope s.heap.objs.size f cdv::outer)->(Qaz s1.heap (frs (uk qual scope s.heap.objs.size f cdv::outer))).get? b=some o:=λb o e hb=>hideAll_get _ e hb;have inB:∀b o,s.heap.get? b=some o->H b=none->b∉frs outer->(Qaz s1.heap (frs (uk qual scope s.heap.objs.size f cdv::outer))).get? b=some o:=λb o e n hb=>toB b o (I.base.keep b o e n hb (by simp [Jm])) (notf b o e hb);have thB:∀b o,s.heap.get? b=some o->b∉frs outer->∃o',(Qaz s1.heap (frs (uk qual scope s.heap.objs.size f cdv::outer))).get? b=some o':=λb o e hb=>by obtain ⟨o1,e1⟩:=I.base.there b o e (by simp [Jm]);exact ⟨o1,toB b o1 e1 (notf b o e hb)⟩
  have frame:∀b o,s.heap.get? b=some o->b∈frs outer->∃sl,h2.get? b=some {o with slots:=sl}:=λb o e hb=>by
   have n:H b=none:=I.ok.frf b hb;obtain ⟨sl,e1⟩:=I.base.slot b o e n hb (by simp [Jm]);have hd:∀vs,o.data≠ .fields vs:=by obtain ⟨_,o',ho',hd'⟩:=I.ok.funs.mem hb;have ho':s.heap.get? b=some o':=ho';rw [e] at ho';cases ho';exact hd'
   obtain ⟨sl3,e3⟩:=hup b _ (hm.keeps b _ e1) hd;exact ⟨sl3,e3⟩
  have hokB:HOk P w H1 (Qaz s1.heap (frs (uk qual scope s.heap.objs.size f cdv::outer))):=λb o e=>by
   refine (I.hok b o e).stay (λd u hd z=>toB d u z λy=>?_) (λ_ z=>z) λ_ _ z=>z;have:=I.stkFree d y;rcases hd with rfl|hd
   ·rw [e] at this;cases this
   ·rw [hd] at this;cases this
  refine ⟨a,C,.ref t,_,H1,rfl,I.os,I.bare,⟨λb o e n hb _=>hfl.1.1 b o (inB b o e n hb),λb o e n hb _=>frame b o e hb,λb o e n _=>I.base.free b o e n (by simp [Jm]),λb o e _=>?_,I.base.tups,I.base.frzs,I.base.tbls⟩,hokB,inB,thB,hfl,hE⟩;by_cases hb:b∈frs outer
  ·obtain ⟨sl,e1⟩:=frame b o e hb;exact ⟨_,e1⟩
  ·obtain ⟨o',e1⟩:=thB b o e hb;exact ⟨o',hfl.1.1 b o' e1⟩
end
abbrev VE:List Value:=[.type "ValueError",.type "Exception",.type "BaseException",.type "object"]
noncomputable def JA (K:Qa) (C:jo):List Value:=match K.lookup C with
 |some ⟨_,_,.cls cd,_⟩=>cd.mro
 |_=>[]
noncomputable def ExC (K:Qa) (C:jo):Prop:=QaI K C VE "ValueError.__new__"=true
theorem ZgY {K:Qa} {h:Heap} {C:jo} (X:K.In h) (q:ExC K C):∃bm N nm qn bs hdct sn sub ab col dd k0 k1 k2 k3 k5 mN,h.get? C=some (excClassObj nm qn C N bs bm hdct sn sub ab col dd k0 k1 k2 k3 k5 "ValueError.__new__")/\h.Ns N mN/\mN "__init__"=none/\OwnTail h VE bm/\JA K C=.ref C::bm:=by
 unfold ExC QaI at q;split at q
 ·rename_i dd cd sl ho;split at q
  ·rename_i C' bm k0 k1 k2 k3 n k5 hm hs;simp only [QM,beq_iff_eq,QR] at q;obtain ⟨⟨⟨⟨⟨rfl,rfl⟩,hdel⟩,ht⟩,hok⟩,hni⟩:=q;obtain ⟨nm,bs,mro,ns,qn,hd,sn,sub,ab,col,del⟩:=cd;dsimp only at hm hdel hok hni;subst hm hdel;have hsl:sl=#[k0,k1,k2,k3,some (.builtin "ValueError.__new__"),k5]:=by obtain ⟨l⟩:=sl;simp only at hs;rw [hs]
   subst hsl;exact ⟨bm,ns,nm,qn,bs,hd,sn,sub,ab,col,dd,k0,k1,k2,k3,k5,_,X _ _ ho,.of_isNs (PySem.W.isNs_of_in X hok),PySem.W.nsMap_none_of_in X hok hni,PySem.W.tail_of_in X ht,by unfold JA;rw [ho]⟩
  ·cases q
 ·cases q
section
variable {X:Cx} {F:St->XK} {x:Str} {C:jo} {e:jL} {es:List jL} {t:TA} {np cpos pos:Pos}
noncomputable def ZhD (F:St->XK) (C:jo) (t:TA):TS:=λ_ σ H=>t σ H λvs H1=>vs.length<=1000/\F σ (.ref C) none H1
theorem YY (T:TkN X F) (hc:X.calm=true) (q:ExC X.K C) (hg:Gl X x) (hm:X.mg x=some (.ref C)) (ha:PA X (e::es) t) (hdb:(x==("__debug__":Str))=false:=by decide)
 (he:jA (e::es) X.env=(false,eval e X.env)::jA es X.env:=by rfl) (hpl:(ut cpos (jA es X.env)).any (·.1)=false:=by rfl):PS X (.Raise (some (.Call (.Name x np) (e::es) [] cpos)) none pos) (ZhD F C t):=by
 intro Zb s σ H D I h;obtain ⟨bm,N,nm,qn,bs,hdct,sn,sub,ab,col,dd,k0,k1,k2,k3,k5,mN,hC,hN,hni,TL,_⟩:=ZgY I.mod.kin q;refine wpAny_Raise_call_subT (C:=C) (nm:=nm) (q:=qn) (N:=N) (bs:=bs) (bm:=bm) (hdct:=hdct) (sn:=sn) (sub:=sub) (ab:=ab) (col:=col) (dd:=dd) (k0:=k0) (k1:=k1) (k2:=k2) (k3:=k3) (k5:=k5) PySem.F.excBase_ValueError (mN:=mN) (TL.hasType PySem.F.excBase_ValueError.hasBase) (I.ok.hd hc) ?_ hni ?_
 ·rw [he];show (false || (ut cpos (jA es X.env)).any (·.1))=false;rw [hpl];rfl
 ·refine Jf I hg hm ⟨rfl,?_⟩ hdb;have hp:=ha cpos Zb s σ H _ I h
  rw [he] at hp ⊢
  have hsl:sizeLine=16777216:=jw;refine Calls.evalArgs_plain (thn hp λus s2 ⟨vs,H2,I2,rv,hl,hf⟩=>⟨rfl,?_,I2.bk _ _ hC,hN.keeps I2.bk,TL.keeps I2.bk,λh' a hm=>T.new Zb σ H2 s2 h' a C us I2 hm hf⟩);have:=rv.length;show us.length<=sizeLine;omega
end
section
variable {X:Cx} {pos:Pos}
noncomputable def qj (i:Int):List Nat:=L (toString i:Str)
end
structure FnX (P:jx) (w:jG) (K:Qa) (mg:Str->Option Value) (base:Heap) (k:Nat) (x:Str) (ps:List Str) (sp:Sp):Prop where
 ex:∃f fd,ZQ P w K mg base (CX1 P w) k f fd ps sp/\mg x=some (.ref f)/\uR K (.ref f)=true/\Jj K fd ps []
section
variable {P:jx} {w:jG} {K:Qa} {mg:Str->Option Value} {base:Heap}
theorem Fun.okX {x qual:Str} {st:Stmt} {f:jo} {fd:j9} {N ps:List Str} {k:Nat} {sp:Sp} (F:Fun K x qual st f fd) (S:Zv N ps (Zk st)) (len:∀vs H Q E,sp vs H Q E->vs.length=ps.length)
 (hbody:∀(cdv:Value) (A:Around) (outer:List Env) (s:jn) (H:Hp) (vs:List V) (Q:VK) (E:XK),zH k (A.deeper (uk qual (Zk st) s.heap.objs.size f cdv))->sp vs H Q E->
  ∃t,PSs (Jm (CX1 P w) P w K mg base N qual (Zk st) f cdv A outer s H E) (ZV st) t/\t {nx:=λ_ H'=>Q .non H',rt:=Q} (qh N vs) H):ZQ P w K mg base (CX1 P w) (k+1) f fd ps sp:=by
 obtain ⟨oc,od,kV,doc,pm,an,cdv,ct,osl,rfl,lk,hcd⟩:=F.ex;exact Zh5 lk hcd S len λA outer s H vs Q E hr hsp=>hbody cdv A outer s H vs Q E hr hsp
end
section
variable {X:Cx} {F:St->XK} {k:Nat} {x:Str} {ps:List Str} {sp:Sp} {p pos:Pos} {e:jL} {es:List jL} {t:TA}
noncomputable def Zqe (F:St->XK) (sp:Sp) (t:TA):TE:=λσ H Q=>t σ H λvs H1=>sp vs H1 Q (F σ)
theorem Zaw (T:Tk X F) (G:FnX X.prog X.w X.K X.mg X.base k x ps sp) (hr:zH k X.A) (ha:PA X (e::es) t) (hg:Gl X x:=by rfl) (hdb:(x==("__debug__":Str))=false:=by decide)
 (he:jA (e::es) X.env=(false,eval e X.env)::jA es X.env:=by rfl) (hpl:(ut pos (jA es X.env)).any (·.1)=false:=by rfl):PE X (.Call (.Name x p) (e::es) [] pos) (Zqe F sp t):=by
 obtain ⟨f,fd,G,hm,hk,hb⟩:=G.ex;intro Zb s σ H Q I h;refine j4 (Jf I hg hm ?_ hdb);refine vj (h₀:=X.base) I.ok.mod.kin hk (thn (ha pos Zb s σ H _ I h) λus s1 ⟨vs,H1,I1,r,q⟩=>⟨I1.kIn,?_⟩) he hpl;have hl:us.length=ps.length:=by rw [<-r.length];exact G.len _ _ _ _ q
 refine uO (ud (G.run X.A X.stack s1 H1 ⟨us,[]⟩ us vs Q (F σ) hr I1.env0 (by simpa using hb s1 us I1.kIn (by simpa using hl)) r q) λr s' hq=>?_)
 cases r with
 |error e=>exact T.pass Zb σ H1 s1 e s' I1 hq
 |ok fl=>
  cases fl with
  |ret u=>exact I1.after hq
  |next=>exact False.elim hq
  |brk=>exact False.elim hq
  |cont=>exact False.elim hq
end
structure Zdg (X:Cx) (Zb:List (jo×Obj)) (σ:St) (H1:Hp) (s1:jn) (a C:jo) (a0:Value) (B:Heap) (H:Hp) (s2:jn):Prop where
 inv1:Inv X Zb σ H1 s1
 os:s2.os=s1.os
 bare:vA s2.gens
 un:Un (frs X.stack) [] H1 H s1.heap s2.heap
 hokB:HOk X.prog X.w H B
 keepB:∀b o,s1.heap.get? b=some o->H1 b=none->b∉frs X.stack->B.get? b=some o
 thB:∀b o,s1.heap.get? b=some o->b∉frs X.stack->∃o',B.get? b=some o'
noncomputable def ZgJ (a C:jo):HO:=.ext λh=>∃o vs,h.get? a=some o/\o.cls=.ref C/\o.data=.fields vs/\vs[2]?=some .none
section
variable {X:Cx} {Zb:List (jo×Obj)} {σ:St} {H1 H:Hp} {s1 s2:jn} {a C:jo} {a0:Value} {B h:Heap}
theorem Zdg.inv (c:Zdg X Zb σ H1 s1 a C a0 B H s2) (hfl:Zeb B X.stack a (.ref C) a0 h) (hup:s2.heap.UpToSlots h):Inv X Zb σ H {s2 with heap:=h}:=by
 have I:=c.inv1
 have fr:∀b o,s1.heap.get? b=some o->b∈frs X.stack->∃sl,h.get? b=some {o with slots:=sl}:=λb o e hb=>by
  obtain ⟨sl,e1⟩:=c.un.any e (I.stkFree b hb) (by simp);have hd:∀vs,o.data≠ .fields vs:=by obtain ⟨_,o',ho',hd'⟩:=I.stack.mem hb;rw [e] at ho';cases ho';exact hd'
  obtain ⟨sl2,e2⟩:=hup b _ e1 hd;exact ⟨sl2,e2⟩
 refine I.call' (s':= {s2 with heap:=h}) (ch:=[]) c.os ⟨λb o e n hb _=>hfl.1.1 b o (c.keepB b o e n hb),λb o e n hb _=>fr b o e hb,c.un.free,λb o e _=>?_,c.un.tups,c.un.frzs,c.un.tbls⟩ (c.hokB.kept hfl.1.1) c.bare λb z=>absurd z (by simp);by_cases hb:b∈frs X.stack
 ·obtain ⟨sl,e1⟩:=fr b o e hb;exact ⟨_,e1⟩
 ·obtain ⟨o',e1⟩:=c.thB b o e hb;exact ⟨o',hfl.1.1 b o' e1⟩
theorem Inv.trackG {s:jn} (I:Inv X Zb σ H s) {D:jo} {o:HO} (n0:X.s₀.heap.get? D=none) (free:H D=none) (nl:D≠X.env.locals) (hc:∀x c,X.env.cells.lookup x=some c->c≠D) (np:∀p∈X.pn++Zb,p.1≠D) (new:za X.prog X.w (upd H D o) s.heap D o):Inv X Zb σ (upd H D o) s:=by
 have ne:∀b u,H b=some u->b≠D:=λb u e=>Zj e free;refine ⟨I.ok,I.os,I.bare,⟨I.base.keep,I.base.slot,λb u e n hx=>?_,I.base.there,λb xs e=>?_,λb u v e=>?_,λb ps e=>?_⟩,I.loc,I.cell,?_,λx c e=>?_,λp hp=>?_,λb u e=>?_,I.len⟩
 ·have hb:b≠D:=by rintro rfl;rw [n0] at e;cases e
  rw [Zi hb];exact I.base.free b u e n hx
 ·have:=I.base.tups b xs e;rw [Zi (ne b _ this)];exact this
 ·have:=I.base.frzs b u v e;rw [Zi (ne b _ this)];exact this
 ·obtain ⟨m,z⟩:=I.base.tbls b ps e;exact ⟨m,by rw [Zi (ne b _ z)];exact z⟩
 ·rw [Zi (Ne.symm nl)];exact I.free
 ·rw [Zi (hc x c e)];exact I.freeC x c e
 ·obtain ⟨a1,a2,a3⟩:=I.pin p hp;exact ⟨a1,by rw [Zi (np p hp)];exact a2,a3⟩
 ·by_cases hb:b=D
  ·subst hb;rw [Zg] at e;cases e;exact new
  ·rw [Zi hb] at e;refine (I.hok b u e).stay (λ_ _ _ z=>z) (λd z=>?_) λd xs z=>?_
   ·rw [Zi (ne d _ z)];exact z
   ·rw [Zi (ne d _ z)];exact z
theorem Zdg.held (hex:X.ex=[]) (c:Zdg X Zb σ H1 s1 a C a0 B H s2) (hfl:Zeb B X.stack a (.ref C) a0 h) (hup:s2.heap.UpToSlots h):H a=none/\Inv X Zb σ (upd H a (ZgJ a C)) {s2 with heap:=h}:=by
 have I:=c.inv hfl hup;obtain ⟨oe,vs,T,oT,ts,g1,⟨g2,_⟩,g3,_⟩:=hfl.1.2.2.2;have g4:vs[2]?=some Qq:=by obtain ⟨o2,vs2,k1,k2,k3⟩:=hfl.2;rw [g1] at k1;cases k1;rw [g3] at k2;cases k2;exact k3
 have hBa:B.get? a=none:=hfl.1.2.1
 have hHa:H a=none:=by
  cases q:H a with
  |none=>rfl
  |some o=>
   have ok:=c.hokB a o q;have l:=ok.lt
   have ex:∃o',B.get? a=some o':=by
    cases o with
    |lst xs=>obtain ⟨_,_,_,_,e⟩:=ok;exact ⟨_,e⟩
    |tup xs=>obtain ⟨_,_,_,o',e,_⟩:=ok;exact ⟨_,e⟩
    |dK kvs=>obtain ⟨_,_,_,_,o',_,_,e,_⟩:=ok;exact ⟨_,e⟩
    |dT kvs=>exact False.elim ok
    |set S n=>obtain ⟨o',_,_,_,e,_⟩:=ok;exact ⟨_,e⟩
    |ins C dx fs=>obtain ⟨_,_,_,e,_⟩:=ok;exact ⟨_,e⟩
    |own y=>exact ok
    |xd fs=>obtain ⟨_,⟨_,_,_,e,_⟩,_⟩:=ok;exact ⟨_,e⟩
    |rng lo hi=>obtain ⟨_,_,_,e⟩:=ok;exact ⟨_,e⟩
    |frz ob u=>obtain ⟨e,_⟩:=ok;exact ⟨_,e⟩
    |tbl ps=>exact ⟨_,show B.get? a=some _ from ok⟩
    |met f y=>exact ⟨_,show B.get? a=some _ from ok⟩
    |ext φ=>obtain ⟨_,e,_⟩:=ok;exact e
   obtain ⟨o',e⟩:=ex;rw [hBa] at e;cases e
 have nstk:a∉frs X.stack:=λhb=>by obtain ⟨_,o',ho',hd'⟩:=hfl.1.2.2.1.mem hb;rw [g1] at ho';cases ho';exact hd' vs g3
 have ns1:s1.heap.get? a=none:=by
  cases q:s1.heap.get? a with
  |none=>rfl
  |some o=>
   obtain ⟨o',e⟩:=c.thB a o q nstk;rw [hBa] at e;cases e
 have ns0:X.s₀.heap.get? a=none:=by
  cases q:X.s₀.heap.get? a with
  |none=>rfl
  |some o=>
   obtain ⟨o',e⟩:=c.inv1.base.there a o q (by rw [hex];simp);rw [ns1] at e;cases e
 refine ⟨hHa,I.trackG ns0 hHa (λz=>?_) (I.cellne g1 λv z=>by rw [g3] at z;cases z) (λp hp z=>?_) ⟨⟨oe,vs,g1,g2,g3,g4⟩,⟨oe,g1⟩,λh1 h2 ⟨o,ws,e1,e2,e3⟩ k=>⟨o,ws,k o e1,e2,e3⟩⟩⟩
 ·obtain ⟨m,⟨o,es,ep,ho,hd,_⟩,_⟩:=I.loc;have ho:h.get? X.env.locals=some o:=ho;rw [<-z,g1] at ho;cases ho;rw [g3] at hd;cases hd
 ·have:=(c.inv1.pin p hp).1;rw [z,ns1] at this;cases this
end
noncomputable def cxH (X:Cx) (a:jo) (E:Value->jn->Prop):Cx:= {X with A:=X.A.mark (some (.ref a)),calm:=false,xe:=E}
section
variable {X:Cx} {Zb:List (jo×Obj)} {σ:St} {H:Hp} {s:jn} {a:jo} {E:Value->jn->Prop}
theorem Inv.marked (I:Inv X Zb σ H s) (a:jo) (E:Value->jn->Prop):Inv (cxH X a E) Zb σ H s:=
 ⟨⟨I.ok.mod,I.ok.kind,I.ok.glob,I.ok.blt,I.ok.above,I.ok.inj,I.ok.has,I.ok.cab,λz=>absurd (show false=true from z) Qg,I.ok.frames,I.ok.stk,I.ok.exf,I.ok.bs,I.ok.bsz,I.ok.noex,I.ok.exfs,I.ok.funs,I.ok.frf⟩,I.os,I.bare,I.base,I.loc,I.cell,I.free,I.freeC,I.pin,I.hok,I.len⟩
theorem Inv.unmarked (hd:X.calm=true->X.A.handled=none) (I:Inv (cxH X a E) Zb σ H s):Inv X Zb σ H s:=
 ⟨⟨I.ok.mod,I.ok.kind,I.ok.glob,I.ok.blt,I.ok.above,I.ok.inj,I.ok.has,I.ok.cab,hd,I.ok.frames,I.ok.stk,I.ok.exf,I.ok.bs,I.ok.bsz,I.ok.noex,I.ok.exfs,I.ok.funs,I.ok.frf⟩,I.os,I.bare,I.base,I.loc,I.cell,I.free,I.freeC,I.pin,I.hok,I.len⟩
theorem Zio {M:uI} {A:Around} {E:Value->jn->Prop} {K:Qa} {C C0 e:jo} {oe:Obj} {Q:Bool->jn->Prop} (KX:K.In s.heap) (hC:ExC K C) (hC0:ExC K C0) (he:s.heap.get? e=some oe) (hcls:oe.cls=.ref C) (hq:Q ((JA K C).contains (.ref C0)) s):js M A (excMatches (.ref e) (.ref C0)) Q E s:=by
 obtain ⟨bm,N,nm,qn,bs,hdct,sn,sub,ab,col,dd,k0,k1,k2,k3,k5,mN,g,_,_,TL,em⟩:=ZgY KX hC;obtain ⟨bm0,N0,nm0,qn0,bs0,hdct0,sn0,sub0,ab0,col0,dd0,k00,k10,k20,k30,k50,mN0,g0,_,_,TL0,em0⟩:=ZgY KX hC0;have hb0:(Value.ref C0::bm0).contains (.type "BaseException")=true:=by rw [List.contains_cons,TL0.hasType PySem.F.excBase_ValueError.hasBase,jf]
 rw [em] at hq;obtain ⟨hp,gn,d,tk,os⟩:=s;unfold excMatches;have nt:=tc_notTuple
 repeat (first
  |(with_reducible refine wpAny_loadPart_at he ?_
    rw [hcls])
  |with_reducible refine wpAny_loadPart_at g0 ?_
  |(with_reducible refine wpAny_isSubtype_exc g0 ?_
    rw [hb0])
  |with_reducible refine wpAny_isSubtype_exc g ?_
  |wp_step)
 cases hz:(Value.ref C::bm).contains (Value.ref C0)
 all_goals (rw [hz] at hq;wp_walk;exact hq)
end
noncomputable def PHs (X:Cx) (hs:List vG) (th:Zap->St->XK):Prop:=
 ∀(Zb:List (jo×Obj)) (σ:St) (H1:Hp) (s1:jn) (a C:jo) (a0:Value) (B:Heap) (H:Hp) (s2:jn) (h:Heap) (D:Zap),Zdg X Zb σ H1 s1 a C a0 B H s2->Zeb B X.stack a (.ref C) a0 h->s2.heap.UpToSlots h->th D σ (.ref C) none H->
  js (ju X.prog X.w) X.A (handleBy (.ref a) X.env hs) (SP X Zb D) X.xe {s2 with heap:=h}
section
variable {X:Cx} {x n:Str} {C0:jo} {i:Nat} {np pos:Pos} {b₀:Stmt} {suite:List Stmt} {qB:List vG} {ts:TS} {th:Zap->St->XK}
theorem Zsu:PHs X [] (λ_ _ _ _ _=>False):=λ_ _ _ _ _ _ _ _ _ _ _ _ _ _ _ z=>z.elim
theorem SP.unmarked {X:Cx} {Zb:List (jo×Obj)} {a:jo} {E:Value->jn->Prop} {D:Zap} {f:Flow} {s':jn} (hd:X.calm=true->X.A.handled=none) (h:SP (cxH X a E) Zb D f s'):SP X Zb D f s':=by
 cases f with
 |next=>obtain ⟨σ',H',I,q⟩:=h;exact ⟨σ',H',I.unmarked hd,q⟩
 |brk=>obtain ⟨σ',H',I,q⟩:=h;exact ⟨σ',H',I.unmarked hd,q⟩
 |cont=>obtain ⟨σ',H',I,q⟩:=h;exact ⟨σ',H',I.unmarked hd,q⟩
 |ret u=>obtain ⟨v,σ',H',I,r,q⟩:=h;exact ⟨v,σ',H',I.unmarked hd,r,q⟩
noncomputable def unb (i:Nat) (D:Zap):Zap:= {nx:=λσ H=>D.nx (σ.set i none) H,rt:=D.rt,bk:=λσ H=>D.bk (σ.set i none) H,ct:=λσ H=>D.ct (σ.set i none) H}
theorem Zes {Zb:List (jo×Obj)} {σ:St} {H:Hp} {s:jn} {M:uI} {A:Around} {E:Value->jn->Prop} {Q:Unit->jn->Prop} (I:Inv X Zb σ H s) (hN:X.N.Nodup) (hi:X.N[i]?=some n) (hk:X.env.kindOf n=some .local)
 (h:∀s',Inv X Zb (σ.set i none) H s'->Q () s'):js M A (do bindName X.env n .none;unbindBehindTheSuite X.env n pos) Q E s:=by
 obtain ⟨m,hn,hl⟩:=id I.loc;refine wpAny_nameGoes_keeps hk hn (by rw [I.ok.kind];rfl) λh' v hn' hs=>h _ ?_;have hiσ:i<σ.length:=by rw [I.len];exact (Qn.mp hi).1
 obtain ⟨oL,es,ep,hoL,hdL,_⟩:=id hn;refine ⟨I.ok,I.os,I.bare,⟨λb o e nn hb hx=>?_,λb o e nn hb hx=>?_,I.base.free,λb o e hx=>?_,I.base.tups,I.base.frzs,I.base.tbls⟩,⟨_,hn',λj y v' e1 e2 e3=>?_⟩,λy c e=>?_,I.free,I.freeC,λp hp=>?_,λb ob e=>?_,by simpa using I.len⟩
 ·exact (hs.2 b (Qo (Ql (Qk e) I.ok.above))).trans (I.base.keep b o e nn hb hx)
 ·obtain ⟨sl,e1⟩:=I.base.slot b o e nn hb hx;exact ⟨sl,(hs.2 b (Qo (Ql (Qk e) I.ok.above))).trans e1⟩
 ·obtain ⟨o',e1⟩:=I.base.there b o e hx;exact ⟨o',(hs.2 b (Qo (Ql (Qk e) I.ok.above))).trans e1⟩
 ·have hj:j≠i:=by rintro rfl;rw [Vk hiσ] at e2;cases e2
  rw [Uj (Ne.symm hj)] at e2;obtain ⟨u',r',q⟩:=hl j y v' e1 e2 e3;refine ⟨u',r',?_⟩;rcases q with ⟨k,e⟩|⟨k,c,e,z⟩
  ·refine .inl ⟨k,?_⟩;have:y≠n:=λe=>hj (Zff hN e1 (e▸hi));simp [this,e]
  ·exact .inr ⟨k,c,e,z.sameBut hs (I.cne y c e)⟩
 ·obtain ⟨w',z⟩:=I.cell y c e;exact ⟨w',z.sameBut hs (I.cne y c e)⟩
 ·obtain ⟨e,nn,ne,nf,d⟩:=I.pin p hp;exact ⟨(hs.2 p.1 ne).trans e,nn,ne,nf,d⟩
 ·refine (I.hok b ob e).stay (λc w' hc z=>(hs.2 c ?_).trans z) (λ_ z=>z) λ_ _ z=>z;rintro rfl;rcases hc with z|hc
  ·have:=I.free;rw [z,e] at this;cases this
  ·rw [I.free] at hc;cases hc
noncomputable def Zqg (tb:(St->XK)->TS) (th:Zap->St->XK) (te:TS):TS:=λD σ H=>tb (λσ'=>th D σ') {nx:=λσ' H'=>te D σ' H',rt:=D.rt,bk:=D.bk,ct:=D.ct} σ H
noncomputable abbrev Cx.wishP (X:Cx) (pn:List (jo×Obj)) (E:Value->jn->Prop):Cx:= {X with pn:=pn,xe:=E}
theorem Inv.wishP {Zb:List (jo×Obj)} {σ:St} {H:Hp} {s:jn} (I:Inv X Zb σ H s) (E:Value->jn->Prop):Inv (X.wishP (X.pn++Zb) E) [] σ H s:=
 ⟨⟨I.ok.mod,I.ok.kind,I.ok.glob,I.ok.blt,I.ok.above,I.ok.inj,I.ok.has,I.ok.cab,I.ok.hd,I.ok.frames,I.ok.stk,I.ok.exf,I.ok.bs,I.ok.bsz,I.ok.noex,I.ok.exfs,I.ok.funs,I.ok.frf⟩,I.os,I.bare,I.base,I.loc,I.cell,I.free,I.freeC,λp hp=>I.pin p (by simpa using hp),I.hok,I.len⟩
theorem Inv.unwishP {Zb ps:List (jo×Obj)} {σ:St} {H:Hp} {s:jn} {E:Value->jn->Prop} (I:Inv (X.wishP (X.pn++Zb) E) ps σ H s):Inv X Zb σ H s:=
 ⟨⟨I.ok.mod,I.ok.kind,I.ok.glob,I.ok.blt,I.ok.above,I.ok.inj,I.ok.has,I.ok.cab,I.ok.hd,I.ok.frames,I.ok.stk,I.ok.exf,I.ok.bs,I.ok.bsz,I.ok.noex,I.ok.exfs,I.ok.funs,I.ok.frf⟩,I.os,I.bare,I.base,I.loc,I.cell,I.free,I.freeC,λp hp=>I.pin p (uw _ hp),I.hok,I.len⟩
theorem ZsG {body orelse:List Stmt} {h₀:vG} {hs:List vG} {tb:(St->XK)->TS} {te:TS} (hst:X.stack=X.env::X.outer) (hf:X.env.frame=some X.env.locals) (hb:∀pn E F,Tk (X.wishP pn E) F->PSs (X.wishP pn E) body (tb F)) (hh:PHs X (h₀::hs) th) (he:PSs X orelse te):
 PS X (.Try body (h₀::hs) orelse [] pos) (Zqg tb th te):=by
 intro Zb s σ H D I q;refine wpAny_Try_except ?_;have hfr:X.A.frames=some (X.env::X.outer):=by rw [<-hst];exact I.ok.frames
 have tk:Tk (X.wishP (X.pn++Zb) (λe s₁=>js (ju X.prog X.w) X.A (noteFrame e X.env) (λ_ s₂=>js (ju X.prog X.w) X.A (setFlight e none) (λ_ s₃=>js (ju X.prog X.w) X.A (handleBy e X.env (h₀::hs)) (SP X Zb D) X.xe s₃) X.xe s₂) X.xe s₁)) (λσ'=>th D σ'):=by
  refine ⟨λps σ' H1 s1 e s2 I1 hx=>?_,PassesOwn.looking⟩;obtain ⟨a,C,a0,B,H',rfl,h1,h2,h3,h4,h5,h5',h6,h7⟩:=hx;have c:Zdg X Zb σ' H1 s1 a C a0 B H' s2:=⟨I1.unwishP,h1,h2,h3,h4,h5,h5'⟩;have h6:Zeb B (X.env::X.outer) a (.ref C) a0 s2.heap:=by rw [<-hst];exact h6
  refine Zlr hfr hf h6 λh4' hheld hup4=>ZrR hheld λh5' hfl5 hup5=>?_;refine hh Zb σ' H1 s1 a C a0 B H' s2 h5' D c ?_ (hup4.trans hup5) h7;rw [hst];exact hfl5
 refine jW (hb _ _ _ tk [] s σ H _ (I.wishP _) q) (λf s1 z=>?_) λe s1 z=>z
 cases f with
 |next=>obtain ⟨σ',H',J,w'⟩:=z;exact he Zb s1 σ' H' D J.unwishP w'
 |brk=>obtain ⟨σ',H',J,w'⟩:=z;exact ⟨σ',H',J.unwishP,w'⟩
 |cont=>obtain ⟨σ',H',J,w'⟩:=z;exact ⟨σ',H',J.unwishP,w'⟩
 |ret u=>obtain ⟨v,σ',H',J,r,w'⟩:=z;exact ⟨v,σ',H',J.unwishP,r,w'⟩
end
open PySem.Calls PySem.Builtin PySem.Builtin.ObjectAttr PySem.Builtin.Getset_descriptor
structure Zbh (K:Qa) (C:jo):Prop where
 ga:j0 K (.ref C) "__getattribute__"=some (some (.builtin "BaseException.__getattribute__"))
 gh:j0 K (.ref C) "__getattr__"=some none
 cl:j0 K (.ref C) "__class__"=some (some (.builtin "object.__class__"))
 gt:Qab K (.builtin "object.__class__") "__get__"=some (some (.builtin "getset_descriptor.__get__"))
 tk:Qay K (.builtin "object.__class__")=some true
 mo:vw K C (.type "object")=some true
 mb:vw K C (.type "BaseException")=some true
theorem Zbh.is {K:Qa} {C:jo} (G:Zbh K C):(clsIn K C).isSome=true:=by
 have h:=G.mo;unfold vw at h
 cases q:clsIn K C with
 |some _=>rfl
 |none=>rw [q] at h;cases h
theorem Zha {K:Qa} {C:jo} {v:Value} {b:Bool} (h:vw K C v=some b):(JA K C).contains v=b:=by
 unfold vw clsIn at h;unfold JA;split at h
 ·rename_i e;rw [e]
  dsimp only [Option.bind_some] at h ⊢
  split at h
  ·cases h
  ·exact Option.some.inj h
 ·cases h
section
variable {prog:jx} {w:jG} {A:Around} {E:Value->jn->Prop} {s:jn} {K:Qa} {a C:jo} {oe:Obj}
theorem ZeZ {M:uI} {h:Heap} (he:h.get? a=some oe) (hc:oe.cls=.ref C):PySem.W.Looks M h (typeOf (.ref a)) (.ref C):=by rw [<-hc];exact (PySem.W.Looks.ld he).andThen .now
theorem Znb {M:uI} {h:Heap} (KX:K.In h) (G:Zbh K C):PySem.W.Looks M h (find (.ref a) (.ref C) "__class__") (.bind (.builtin "getset_descriptor.__get__") (.builtin "object.__class__")):=by have l1:=Qan (M:=M) KX G.cl;have l2:=PySem.W.looks_specialIn (M:=M) KX G.gt;have l3:=PySem.W.looks_takesIn (M:=M) KX G.tk;refine l1.andThen (PySem.W.Looks.andThen (show PySem.W.Looks M h (getOf (some (.builtin "object.__class__"))) _ from l2) (PySem.W.Looks.andThen (a:=some (.builtin "getset_descriptor.__get__",.builtin "object.__class__")) (l3.andThen .now) ?_));exact PySem.W.Looks.tag .now
theorem Zpi {R:Qav->jn->Prop} {tp:Value} (KX:K.In s.heap) (G:Zbh K C) (he:s.heap.get? a=some oe) (hc:oe.cls=.ref C)
 (h:R (.ok (.ret (.ref C))) s):u6 (ju prog w) A (.call (.builtin "getset_descriptor.__get__") ⟨[.builtin "object.__class__",.ref a,tp],[]⟩) R s:=by
 obtain ⟨hp,gn,dr,tk,os⟩:=s;have l0:=ZeZ (M:=ju prog w) he hc;have l1:=looks_mroIn (M:=ju prog w) KX G.mo;refine v5 PySem.W.KF.slot_gs.plain PySem.W.KF.entry_gs (PySem.W.KF.slot_gs.check _ _ _ _ _ _ _ _ PySem.W.KF.type_class (PySem.W.KF.args_gs _ _ _) ?_);unfold Builtin.«getset_descriptor.__get__» descrGet;rw [PySem.W.dga_obj];refine jm (jq ?_);unfold descrGetter descrCheckInstance descrNameAndClass isInstance;simp only [PySem.W.KF.owner_class]
 repeat lk
 refine ⟨Code.quiet_builtin _ (by rfl'),ub PySem.W.KF.entry_class ?_⟩;unfold Builtin.«object.__class__» shownTypeOf
 repeat lk
 exact h
theorem Zk3 {M:uI} {v:Value} {Q:Unit->jn->Prop} (KX:K.In s.heap) (G:Zbh K C) (he:s.heap.get? a=some oe) (hc:oe.cls=.ref C) (h:Q () s):
 js M A (Qau "BaseException.__getattribute__" ⟨[.ref a,v],[]⟩) Q E s:=by
 obtain ⟨hp,gn,dr,tk,os⟩:=s;have k1:builtinKind "BaseException.__getattribute__"=some .slot:=by rfl'
 have k2:splitId "BaseException.__getattribute__"=some ("BaseException","__getattribute__"):=by rfl'
 have ha:=PySem.F.args_bexc_ga (.ref a) v;have l0:=ZeZ (M:=M) he hc;have l1:=looks_mroIn (M:=M) KX G.mb;simp only [Qau,k1,k2];refine jm ?_;unfold isInstance;refine (PySem.W.Looks.andThen l0 l1).at ?_
 repeat (first|assumption|wp_step)
theorem Zpj {tk:Tok} {Q:Value->jn->Prop} (KX:K.In s.heap) (G:Zbh K C) (he:s.heap.get? a=some oe) (hc:oe.cls=.ref C) (h:Q (.ref C) s):
 js (ju prog w) A (call (.builtin "BaseException.__getattribute__") [.ref a,.str "__class__" tk]) Q E s:=by
 have l0:=ZeZ (M:=ju prog w) he hc;have l1:=Znb (M:=ju prog w) (a:=a) KX G;refine uO (v5 PySem.F.excAttr_ValueError.ga.plain PySem.F.entry_bexc_ga (Zk3 KX G he hc ?_))
 unfold Builtin.«object.__getattribute__»
 refine jm (jq (jm (jq (jm (l0.at (jm (l1.at ?_)))))));show js _ _ (bindTo (.builtin "getset_descriptor.__get__") (.builtin "object.__class__") (.ref a) (.ref C)) _ _ s;show js _ _ (vN [V4 "object.__class__"] (call (.builtin "getset_descriptor.__get__") [.builtin "object.__class__",.ref a,.ref C]) >>=ret) _ _ s;exact jm (jU (uO (Zpi KX G he hc (jq h))))
theorem Zna (self:Value):bindSpecial (.builtin "BaseException.__getattribute__") self=pure (.builtin "BaseException.__getattribute__",[self]):=PySem.F.excAttr_ValueError.ga.bind self
theorem Zrt {Q:Option Value->jn->Prop} (KX:K.In s.heap) (G:Zbh K C) (he:s.heap.get? a=some oe) (hc:oe.cls=.ref C) (h:Q (some (.ref C)) {s with toks:=s.toks+1}):
 js (ju prog w) A (getAttr? (.ref a) "__class__") Q E s:=by
 obtain ⟨hp,gn,dr,tk,os⟩:=s;have l0:=ZeZ (M:=ju prog w) he hc;have l1:=Qan (M:=ju prog w) KX G.ga;have l2:=Qan (M:=ju prog w) KX G.gh;unfold getAttr? getAttrBy? getAttrBy;refine jm (wpAny_mkText (jm (jX (jU (jm (l0.at (jm (l1.at ?_))))))));show js _ _ (getAttrByItsOwn (.ref a) _ (.ref C) (.builtin "BaseException.__getattribute__") false false) _ _ _;unfold getAttrByItsOwn;refine jm (l2.at (jm (jX (jU ?_))));show js _ _ (boundAndCalled (.builtin "BaseException.__getattribute__") (.ref a) _) _ _ _;unfold boundAndCalled;rw [Zna];refine jm (jq ?_);refine Zpj (s:=⟨hp,gn,dr,tk+1,os⟩) KX G he hc ?_;exact PySem.W.handed_on rfl (jq h)
theorem Zig (G:Zbh K C):KitX K (.ref a) (.ref C) (λh=>∃o vs,h.get? a=some o/\o.cls=.ref C/\o.data=.fields vs) where
 ty:=λ_ _ _ p=>by obtain ⟨o,_,h1,h2,_⟩:=p;exact ZeZ h1 h2
 it:=λM h KX _=>by
  have q:=G.is;unfold clsIn at q;split at q
  ·rename_i ho;intro A' Q' E' s' k z;unfold isType loadHead;exact jm (wpAny_loadPart (k _ _ (KX _ _ ho)) (jq z))
  ·cases q
 ne:=λh tp dd its n sl KX e=>by
  have q:=G.is;unfold clsIn at q;split at q
  ·rename_i ho
   cases z:(Value.ref C==Value.ref tp) with
   |false=>rfl
   |true=>
    cases Value.ref.inj (eq_of_beq z);have:=(KX _ _ ho).symm.trans e;cases this
  ·cases q
 ca:=λKX p k=>by obtain ⟨o,_,h1,h2,_⟩:=p;exact Zrt KX G h1 h2 k
end
section
variable {X:Cx} {Zb:List (jo×Obj)} {σ:St} {H:Hp} {s:jn} {a C:jo} {c:Value} {b:Bool}
theorem Zkr {A:Around} {E:Value->jn->Prop} {Q:Value->jn->Prop} (I:Inv X Zb σ H s) (G:Zbh X.K C) (e:H a=some (ZgJ a C)) (q:jE X.K (.ref C) c=some b) (h:∀tk,Q (.bool b) {s with toks:=tk}):
 js (ju X.prog X.w) A (call (.builtin "isinstance") [.ref a,c]) Q E s:=by
 obtain ⟨⟨o0,v0,z1,z2,z3,_⟩,_,_⟩:=I.hok a _ e;have z:∃o vs,s.heap.get? a=some o/\o.cls=.ref C/\o.data=.fields vs:=⟨o0,v0,z1,z2,z3⟩;exact vy (Zig G) I.kIn z q (λz=>nomatch z) h
theorem Znu {A:Around} {E:Value->jn->Prop} {Q:Value->jn->Prop} {p:jo} {cs:List Value} (I:Inv X Zb σ H s) (G:Zbh X.K C) (e:H a=some (ZgJ a C)) (ht:IsTup s.heap p cs.toArray) (q:kitAny X.K (.ref C) cs=some b) (h:∀tk,Q (.bool b) {s with toks:=tk}):
 js (ju X.prog X.w) A (call (.builtin "isinstance") [.ref a,.ref p]) Q E s:=by
 obtain ⟨⟨o0,v0,z1,z2,z3,_⟩,_,_⟩:=I.hok a _ e;have z:∃o vs,s.heap.get? a=some o/\o.cls=.ref C/\o.data=.fields vs:=⟨o0,v0,z1,z2,z3⟩;obtain ⟨o,h1,h2,n,h3⟩:=ht;obtain ⟨oc,od,oda,osl⟩:=o;dsimp only at h2 h3;subst h2 h3;exact PySem.W.kia_tup (Zig G) I.kIn z h1 q (λz=>nomatch z) h
theorem ZgH:∀{ds:List jo} {us:List Value},ZA (ds.map V.ref) us->us=ds.map Value.ref
 |[],_,r=>by cases r;rfl
 |d::ds,_,r=>by
  cases r with
  |cons r1 r2=>
   cases r1;rw [ZgH r2];rfl
noncomputable def Zlh (K:Qa):List V->Hp->VK->Prop:=λxs H Q=>match xs with
 |[.ref a,.ty n]=>∃C b,H a=some (ZgJ a C)/\Zbh K C/\jE K (.ref C) (.type n)=some b/\Q (.bl b) H
 |[.ref a,.ref c]=>∃C b,H a=some (ZgJ a C)/\Zbh K C/\Q (.bl b) H/\(jE K (.ref C) (.ref c)=some b\/∃ds:List jo,SqT K H c (ds.map V.ref)/\kitAny K (.ref C) (ds.map Value.ref)=some b)
 |_=>False
theorem ZtY:qk X (.builtin "isinstance") (Zlh X.K):=by
 intro Zb s σ H xs us Q I r h;unfold Zlh at h;split at h
 ·rename_i a n;obtain ⟨C,b,e,G,q,h⟩:=h;obtain ⟨u,w',rfl,ru,rw'⟩:=ZfN r;cases ru;cases rw';exact Zkr I G e q λtk=>ZO (I.tok tk) h rfl
 ·rename_i a c;obtain ⟨C,b,e,G,h,q⟩:=h;obtain ⟨u,w',rfl,ru,rw'⟩:=ZfN r;cases ru;cases rw';rcases q with q|⟨ds,ht,q⟩
  ·exact Zkr I G e q λtk=>ZO (I.tok tk) h rfl
  ·obtain ⟨its,rv,t,_⟩:=I.tuple ht;have:=ZgH rv;subst this;exact Znu I G e t q λtk=>ZO (I.tok tk) h rfl
 ·exact h.elim
theorem Zat {K:Qa} (h:X.K=K):qk X (.builtin "isinstance") (Zlh K):=h▸ZtY
end
noncomputable def Ite (K:Qa) (a:jo):It:=
 ⟨λi H=>∃xs x,SqL K H a xs/\xs[i]?=some x,λi H x H'=>∃t y,H t=none/\x=.ref t/\H'=upd H t (.tup [.int i,y])/\∀xs,SqL K H a xs->xs[i]?=some y,λi H=>∃xs,SqL K H a xs/\xs.length<=i⟩
theorem ZlX {P:jx} {w:jG} {K:Qa} {es:List jL} {k:Nat} {tp:Pos} (a it e:jo) (hne:e≠it):ZkV P w K (.Tuple es k tp) (Ite K a) [e,it] e (λi h=>(∃old,IsEnum h e it i old)/\h.IsListIter it a i) where
 mem:=by simp
 obj:=λi h st b hb=>by
  obtain ⟨⟨old,h1⟩,o,h2,c,d⟩:=st;rcases jQ.mp hb with rfl|hb
  ·exact ⟨_,h1,λv z=>by cases z⟩
  ·have z:b=it:=by simpa using hb
   subst z;exact ⟨o,h2,λv z=>by rw [d] at z;cases z⟩
 keep:=λi h h' st kp=>by obtain ⟨⟨old,h1⟩,h2⟩:=st;exact ⟨⟨old,kp e (by simp) _ h1⟩,h2.at λo q=>kp it (by simp) o q⟩
 item:=by
  intro X hP hw hK hc i Zb s σ H E I hf st hg;subst hP hw hK;obtain ⟨xs,x,hq,hx⟩:=hg;obtain ⟨its,rv,p,hz⟩:=I.list hq;obtain ⟨u,hu,ru⟩:=rv.get hx;obtain ⟨f0,f1,f2,f3,f4,f5⟩:=hf it (by simp);obtain ⟨g0,g1,g2,g3,g4,g5⟩:=hf e (by simp);obtain ⟨⟨old,st1⟩,st2⟩:=st;refine wpAny_pyNext_enum_item st1 st2 p.isList (x:=u) (by simpa using hu) hne λh1 k1 k2 k3 k4 k5=>?_;refine ⟨_,rfl,wpAny_letOwnedTupleGo_enum k1 λh2 k6 k7=>?_⟩;have new:h2.get? s.heap.objs.size=some {cls:=.type "tuple",data:=.seq #[.int i s.toks,u]}:=(k7.2 _ (Q5 (Qk st1))).trans k3;have up:∀b o,b≠e->b≠it->s.heap.get? b=some o->h2.get? b=some o:=λb o z1 z2 q=>(k7.2 b z1).trans (k5 b o z1 z2 q);have hN:H s.heap.objs.size=none:=I.fresh;have no:∀b o,s.heap.get? b=some o->b≠s.heap.objs.size:=λb o q=>Qo (Qk q);have out:∀b,b∉[e,it]->b≠e/\b≠it:=λb hb=>⟨λz=>hb (by simp [z]),λz=>hb (by simp [z])⟩
  have J:Inv X Zb σ (upd H s.heap.objs.size (.tup [.int i,x])) {s with heap:=h2,toks:=s.toks+1}:=by
   refine I.call' (ch:=[e,it]) rfl ⟨λb o q n hb hx=>up b o (out b hx).1 (out b hx).2 q,λb o q n hb hx=>⟨o.slots,up b o (out b hx).1 (out b hx).2 q⟩,λb o q n hx=>?_,λb o q hx=>⟨o,up b o (out b hx).1 (out b hx).2 q⟩,λb ys q=>?_,λb o y q=>?_,λb ps q=>⟨#[],?_⟩⟩ (λb o q=>?_) I.bare λb hb=>?_
   ·rw [Zi (no b o q)];exact n
   ·rw [Zi (Zj q hN)];exact q
   ·rw [Zi (Zj q hN)];exact q
   ·rw [Zi (Zj q hN),q];simp
   ·by_cases hb:b=s.heap.objs.size
    ·subst hb;rw [Zg] at q;cases q;refine ⟨by simp [jw],[.int i s.toks,u],.cons ⟨_,rfl⟩ (.cons ru .nil),?_⟩;exact ⟨_,new,rfl,_,rfl⟩
    ·rw [Zi hb] at q;refine (I.hok b o q).stay (λc y hc z=>up c y ?_ ?_ z) (λc z=>?_) λc ys z=>?_
     ·rintro rfl;rcases hc with rfl|hc
      ·rw [g0] at q;cases q
      ·rw [g0] at hc;cases hc
     ·rintro rfl;rcases hc with rfl|hc
      ·rw [f0] at q;cases q
      ·rw [f0] at hc;cases hc
     ·rw [Zi (Zj z hN)];exact z
     ·rw [Zi (Zj z hN)];exact z
   ·rcases jQ.mp hb with rfl|hb
    ·exact ⟨g3,g1,g4,g5⟩
    ·have z:b=it:=by simpa using hb
     subst z;exact ⟨f3,f1,f4,f5⟩
  refine ⟨.ref s.heap.objs.size,_,J,rfl,⟨_,x,hN,rfl,rfl,λys hy=>by rw [I.list_inj hy hq];exact hx⟩,⟨⟨u,by simpa using k6⟩,k2.at λo q=>(k7.2 it hne.symm).trans q⟩,λb hb=>?_⟩;rcases jQ.mp hb with rfl|hb
  ·rw [Zi (no b _ st1)];exact g0
  ·have z:b=it:=by simpa using hb
   subst z;obtain ⟨o,q,_⟩:=st2;rw [Zi (no b _ q)];exact f0
 done:=by intro X hP hw hK hc i Zb s σ H E I hf st hg;subst hP hw hK;obtain ⟨xs,hq,hx⟩:=hg;obtain ⟨its,rv,p,hz⟩:=I.list hq;obtain ⟨f0,f1,f2,f3,f4,f5⟩:=hf it (by simp);obtain ⟨⟨old,st1⟩,st2⟩:=st;have hl:=rv.length;exact wpAny_pyNext_enum_end (I.ok.hd hc) st1 st2 p.isList (by simp;omega) λh' eb=>⟨rfl,I.turned (t':=s.toks) (λb o hb q=>eb b o hb q) f0 f1 f3 f4 f5⟩
 self:=λA i s Q E st h=>by obtain ⟨⟨old,st1⟩,st2⟩:=st;exact wpAny_pyIter_enum st1 h
section
variable {X:Cx} {es:List jL} {k:Nat} {tp:Pos}
noncomputable def Zt7 (K:Qa) (ta:TA):TI:=λσ H R=>ta σ H λvs H1=>∃a,vs=[.ref a]/\(∃xs,SqL K H1 a xs)/\R (Ite K a) H1
theorem ZpO {x:jL} {ta:TA} {p pos:Pos} (hg:Gl X "enumerate") (hm:X.mg "enumerate"=none) (ha:PA X [x] ta) (hs:jA [x] X.env=[(false,eval x X.env)]:=by rfl):PI X (.Tuple es k tp) (.Call (.Name "enumerate" p) [x] [] pos) (Zt7 X.K ta):=by
 intro Zb s σ H R I h;refine Call_ (Zav I hg hm ZgQ (PyProof.Rows.callWith_type1 (thn (ha pos Zb s σ H _ I h) λus s1 ⟨vs,H1,I1,r1,q1⟩=>?_) hs rfl));obtain ⟨a,e,⟨xs,hq⟩,q⟩:=q1;subst e;obtain ⟨u,rfl,ru⟩:=r1.one;cases ru;obtain ⟨its,rv,pl,hz⟩:=I1.list hq;refine call_enumerate_list pl.isList λh' k1 k2 k3 k4=>?_;have I2:Inv X Zb σ H1 {s1 with heap:=h'}:=I1.kept (t':=s1.toks) λb o e=>k4 b o e;refine wpAny_pyIter_enum k1 ?_;refine ⟨s1.heap.objs.size+1,[s1.heap.objs.size+1,s1.heap.objs.size],_,_,H1,rfl,I2,ZlX a s1.heap.objs.size (s1.heap.objs.size+1) (Nat.succ_ne_self _),⟨⟨_,k1⟩,k2⟩,λb hb=>?_,q⟩;rcases jQ.mp hb with rfl|hb
 ·exact I1.fpOk (Va _) (I1.hok.fresh (Va _))
 ·have e:b=s1.heap.objs.size:=by simpa using hb
  subst e;exact I1.fpOk (Qf _) (I1.hok.fresh (Qf _))
noncomputable def Zru (K:Qa) (a:jo) (xs:List V) (i j:Nat) (tb:TS):TS:=λD σ H=>∃Pv:Nat->St->Hp->Prop,Pv 0 σ H/\(∀k σ H,k<=xs.length->Pv k σ H->SqL K H a xs)/\
 (∀k x σ H t,xs[k]?=some x->Pv k σ H->H t=none->tb {nx:=Pv (k+1),rt:=D.rt,bk:=D.nx,ct:=Pv (k+1)} ((σ.set i (some (.int k))).set j (some x)) (upd H t (.tup [.int k,x])))/\∀σ H,Pv xs.length σ H->D.nx σ H
noncomputable def ZkN (K:Qa) (ta:TA) (i j:Nat) (tb:TS):TS:=λD σ H=>ta σ H λvs H1=>match vs with
 |[.ref a]=>∃xs,SqL K H1 a xs/\Zru K a xs i j tb D σ H1
 |_=>False
theorem ZkD {K:Qa} {x:jL} {u v:Str} {pu pv:Pos} {i j:Nat} {p pos pos':Pos} {body:List Stmt} {ta:TA} {tb:TS} (hK:X.K=K) (hp:u9 (ju X.prog X.w) X.A X.env X.xe) (hc:X.calm=true) (hm:X.mg "enumerate"=none) (ha:PA X [x] ta)
 (gu:PG X (.Name u pu) (Yg i)) (gv:PG X (.Name v pv) (Yg j)) (hb:PSs X body tb) (hgl:Gl X "enumerate":=by rfl) (hs:jA [x] X.env=[(false,eval x X.env)]:=by rfl)
 (hf:∀z,jK (.Call (.Name "enumerate" p) [x] [] pos') X.env z=pure z:=by intro _;rfl)
 (h1:(jR [.Name u pu,.Name v pv] X.env).map (·.2)=v7 (.Name u pu) X.env::(jR [.Name v pv] X.env).map (·.2):=by rfl) (h2:(jR [.Name v pv] X.env).map (·.2)=v7 (.Name v pv) X.env::(jR [] X.env).map (·.2):=by rfl)
 (h3:(jR [.Name u pu,.Name v pv] X.env).length=2:=by rfl) (h4:(jR [.Name u pu,.Name v pv] X.env).findIdx? (·.1)=none:=by rfl):
 PS X (.For (.Tuple [.Name u pu,.Name v pv] k tp) (.Call (.Name "enumerate" p) [x] [] pos') body [] pos) (ZkN K ta i j tb):=by
 subst hK;have ha':PA X [x] (λσ H Q=>∃Q0:List V->Hp->Prop,ta σ H Q0/\∀v H',Q0 v H'->Q v H'):=ha.imp λσ H Q h=>h;intro Zb s σ H D I h;refine Zfp hp hc (ZpO hgl hm ha' hs) (ZjC hc (ZaH gu (ZaH gv Zhj h2) h1) h3 h4) hb hf Zb s σ H D I ⟨_,h,λvs H1 q=>?_⟩;split at q
 ·rename_i a;obtain ⟨xs,hx,Pv,h0,hl,hst,hd⟩:=q;refine ⟨a,rfl,⟨xs,hx⟩,λn m σ H=>m=xs.length-n/\n<=xs.length/\Pv n σ H,⟨xs.length,by simp,Qu _,h0⟩,?_⟩;rintro n m σ2 H2 ⟨rfl,hn,pv'⟩;have q2:=hl n σ2 H2 hn pv';by_cases hlt:n<xs.length
  ·refine .inr ⟨⟨xs,xs[n],q2,by simp [hlt]⟩,Pv (n+1),λσ' H' p'=>⟨xs.length-(n+1),by omega,rfl,hlt,p'⟩,λz H' y=>?_⟩;obtain ⟨t,y0,ht,rfl,rfl,hy⟩:=y;refine ⟨t,_,rfl,.inl (.of Zg),rfl,_,_,rfl,_,_,rfl,rfl,?_⟩;exact hst n y0 σ2 H2 t (hy xs q2) pv' ht
  ·have e:n=xs.length:=by omega
   subst e;exact .inl ⟨⟨xs,q2,Qf _⟩,hd _ _ pv'⟩
 ·exact q.elim
end
section
variable {X:Cx}
theorem Ze4:∀{ns:List Int} {us:List Value},ZA (ns.map V.int) us->IntsAre us ns
 |[],_,r=>by cases r;exact .nil
 |n::ns,_,r=>by
  cases r with
  |cons r1 r2=>
   obtain ⟨t,rfl⟩:=r1;exact .cons n t (Ze4 r2)
theorem ZeQ {k:Int}:∀{vs:List Value} {ns:List Int},IntsAre vs ns->∀(m:Nat) (hm:m<vs.length),isInt k vs[m]=decide (ns.getD m 0=k)
 |_,_,.nil,m,hm=>absurd hm (Nat.not_lt_zero _)
 |_,_,.cons n t h,0,hm=>by
  show isInt k (.int n t)=decide (n=k);unfold isInt;by_cases q:n=k
  ·simp [q]
  ·simp [q]
 |_,_,.cons n t h,m+1,hm=>ZeQ h m (Nat.lt_of_succ_lt_succ hm)
noncomputable def Zps (K:Qa):V->List V->Hp->VK->Prop:=λx vs H Q=>∃l,∃ns:List Int,x=.ref l/\SqL K H l (ns.map V.int)/\match vs with
 |[.int k]=>k∈ns/\Q (.int (ns.idxOf k)) H
 |_=>False
theorem ZpA {K:Qa} (hK:X.K=K):MtM X "list.index" (Zps K):=by
 subst hK;intro Zb s σ H x vs v us Q I rx rv h;obtain ⟨l,ns,rfl,hq,h⟩:=h;cases rx;split at h
 ·rename_i k;obtain ⟨hk,h⟩:=h;obtain ⟨u,rfl,ru⟩:=rv.one;obtain ⟨t,rfl⟩:=ru;obtain ⟨its,r,p,hz⟩:=I.list hq;have hi:=Ze4 r;have hl:=r.length;rw [jr] at hl hz;have hj:=VX hk;obtain ⟨⟨oc,od,oda,osl⟩,ho,hc,n,hd⟩:=p.isList;dsimp only at hc hd;subst hc hd;have hsz:=jw
  refine uK F.slot_list_index ⟨_,ho,rfl⟩ F.entry_list_index (F.args_list_index_2 _ _) (SeqAt.list_indexAt l its.toArray n od osl (.int k t) (isInt k) (ns.idxOf k) (by rw [jI];omega) (by omega) ?_ λm hm hlt=>?_)
   ⟨ho,λy hy=>(eq_isInt k t hi y (by simpa using hy)).at _ _,.int (ns.idxOf k),H,I.tok _,⟨_,rfl⟩,h⟩
  ·show isInt k its[ns.idxOf k]=true;rw [ZeQ hi _ (by omega)];simp [Qb,hj]
  ·have hm':m<its.length:=by simpa using hm
   show isInt k its[m]=false;rw [ZeQ hi _ hm'];have:m<ns.length:=by omega
   have hne:=List.not_of_lt_findIdx hlt;simp [Qb,this];simpa using hne
 ·exact h.elim
end
theorem ZfP:jT "ValueError"=some (.type "ValueError"):=by rfl'
end L2
namespace LP
open PySem L2
noncomputable def Zqu (ns:List Int):Prop:=∀k:Nat,k<ns.length->ns.count (k:Int)=1
noncomputable instance (ns:List Int):Decidable (Zqu ns):=inferInstanceAs (Decidable (∀k:Nat,k<ns.length->ns.count (k:Int)=1))
noncomputable def Zvp (ns:List Int) (k:Nat):List V:=(Qj ns.length).map λv:Nat=>if (v:Int)∈ns.take k then V.int (ns.idxOf (v:Int)) else V.non
noncomputable def ZqZ (ns:List Int) (k:Nat):Prop:=(ns.take k).Nodup/\∀x∈ns.take k,0<=x/\x<ns.length
theorem ZbL {H:Hp} {a b:jo} {o:HO} (h:upd H a o b=none):H b=none/\b≠a:=by
 by_cases e:b=a
 ·subst e;rw [Zg] at h;cases h
 ·rw [Zi e] at h;exact ⟨h,e⟩
end LP
namespace L2
open PySem PySem.Spec PyProof.Rows
theorem zp.src {K:Qa} {H H':Hp} {a:jo} {xs:List V} (e:zp H H') (h:Src K H a xs):Src K H' a xs:=by
 rcases h with h|h|⟨lo,hi,h,r⟩
 ·exact .inl (e.seq h)
 ·rcases h with (h|⟨o,h⟩)|h
  ·exact .inr (.inl (.inl (.inl (e.at h (by nofun)))))
  ·exact .inr (.inl (.inl (.inr ⟨o,e.at h (by nofun)⟩)))
  ·exact .inr (.inl (.inr h))
 ·exact .inr (.inr ⟨lo,hi,e.at h (by nofun),r⟩)
structure Lm (mg:Str->Option Value) (base:Heap) (c P:jo):Prop where
 hd:CodeHd base c P
 bm:∃bm ob,mg "__builtins__"=some (.ref bm)/\bm≠j5/\base.get? bm=some ob/\ob.cls=.type "module"/\ob.dict=some j5/\ob.data=.plain
theorem Lm.at {X:Cx} {c P:jo} (L:Lm X.mg X.base c P) (h:X.env.code=.ref c):Zj4 X c P:=⟨h,L.hd,L.bm⟩
section
variable {P:jx} {w:jG} {K:Qa} {mg:Str->Option Value} {base:Heap}
theorem Fun.okL {x qual:Str} {st:Stmt} {f c:jo} {fd:j9} {N ps:List Str} {k:Nat} {sp:Sp} (F:Fun K x qual st f fd) (hc:fd.code=.ref c) (S:Zv N ps (Zk st)) (len:∀vs H Q E,sp vs H Q E->vs.length=ps.length)
 (hbody:∀(A:Around) (outer:List Env) (s:jn) (H:Hp) (vs:List V) (Q:VK) (E:XK),zH k (A.deeper (uk qual (Zk st) s.heap.objs.size f (.ref c)))->sp vs H Q E->
  ∃t,PSs (Jm CX0 P w K mg base N qual (Zk st) f (.ref c) A outer s H E).nox (ZV st) t/\t {nx:=λ_ H'=>Q .non H',rt:=Q} (qh N vs) H):ZQ P w K mg base CX0 (k+1) f fd ps sp:=by
 obtain ⟨oc,od,kV,doc,pm,an,cdv,ct,osl,rfl,lk,hcd⟩:=F.ex;have hc:cdv=.ref c:=hc;subst hc;refine Zh5 lk hcd S len λA outer s H vs Q E hr hsp=>?_;obtain ⟨t,h,q⟩:=hbody A outer s H vs Q E hr hsp;exact ⟨t,h.nox,q⟩
end
noncomputable abbrev Ztc (mg:Str->Option Value) (base:Heap):Prop:=∃bm ob,mg "__builtins__"=some (.ref bm)/\bm≠j5/\base.get? bm=some ob/\ob.cls=.type "module"/\ob.dict=some j5/\ob.data=.plain
theorem Zln {P:jx} {w:jG} {K:Qa} {mg mb:Str->Option Value} {CX:CXT} {k:Nat} {fa a:jo} {fd:j9} {x:Str} {sp:Sp} {s₁:jn} {vs:List Value} {ns:List Int} {ts:List jo}
 (KX:K.In s₁.heap) (hns:s₁.heap.Ns jy mg) (hb:s₁.heap.Ns j5 mb) (hbb:∀x:Str,x≠"__name__"->mb x=jT x) (hlim:s₁.heap.NoLimit) (hg:s₁.gens=#[])
 (hbm:∃bm ob,mg "__builtins__"=some (.ref bm)/\bm≠j5/\s₁.heap.get? bm=some ob/\ob.cls=.type "module"/\ob.dict=some j5/\ob.data=.plain)
 (ha:s₁.heap.get? a=some {cls:=.type "list",data:=.seq vs.toArray}) (hi:IntsAre vs ns) (hl:ns.length<=sizeLine) (hr:zH k Qap)
 (hts:∀p∈ts,s₁.heap.get? p=some (QaE #[])/\K.lookup p=none/\∃c,CodeHd s₁.heap c p)
 (F:∀base:Heap,K.In base->base.Ns jy mg->(∃bm ob,mg "__builtins__"=some (.ref bm)/\bm≠j5/\base.get? bm=some ob/\ob.cls=.type "module"/\ob.dict=some j5/\ob.data=.plain)->ZQ P w K mg base CX k fa fd [x] sp)
 (hbind:∀(s:jn) (u:Value),Qar s fd ⟨[u],[]⟩ [(x,u)])
 (hsp:∀H:Hp,SqL K H a (ns.map V.int)->(∀p∈ts,H p=some (.tbl #[]))->sp [.ref a] H (λv _=>v=.bl true) λ_ _ _=>False)
 (hCX:∀H e s',CX [] H s₁ (λ_ _ _=>False) e s'->False):
 u6 (ju P w) Qap (.call (.ref fa) ⟨[.ref a],[]⟩) (λr s'=>r=.ok (.ret (.bool true))/\OldK s₁.heap s'.heap/\s'.os=s₁.os/\vA s'.gens) s₁:=by
 have rv:=ZgG hi;have Zjl:=hi.length
 have core:∀H:Hp,(∀b,H b=none\/(b=a/\∃o xs,H b=some (.frz o (.lst xs)))\/(b∈ts/\H b=some (.tbl #[])))->(∀p∈ts,H p=some (.tbl #[]))->SqL K H a (ns.map V.int)->HOk P w H s₁.heap->(∀b,H b≠none->K.lookup b=none)->
  u6 (ju P w) Qap (.call (.ref fa) ⟨[.ref a],[]⟩) (λr s'=>r=.ok (.ret (.bool true))/\OldK s₁.heap s'.heap/\s'.os=s₁.os/\vA s'.gens) s₁:=by
  intro H hO hT hS hok hK
  have dat:∀b u,s₁.heap.get? b=some u->H b=none\/(∃its n,u.data=.seq its n)\/∃fs,u.data=.fields fs:=λb u e=>by
   rcases hO b with z|⟨rfl,_⟩|⟨z,_⟩
   ·exact .inl z
   ·rw [ha] at e;cases e;exact .inr (.inl ⟨_,_,rfl⟩)
   ·rw [(hts b z).1] at e;cases e;exact .inr (.inr ⟨_,rfl⟩)
  have inB:∀{b:jo} {o:Obj},s₁.heap.get? b=some o->H b=none->(ZfU s₁.heap H).get? b=some o:=λe n=>Znn e n
  have nsB:∀{b:jo} {m:Str->Option Value},s₁.heap.Ns b m->(ZfU s₁.heap H).Ns b m:=λ{b m} ⟨o,es,ep,e,d,r⟩=>⟨o,es,ep,inB e (by
   rcases dat b o e with z|⟨_,_,z⟩|⟨_,z⟩
   ·exact z
   ·rw [d] at z;cases z
   ·rw [d] at z;cases z),d,r⟩
  have hKb:K.In (ZfU s₁.heap H):=λb o e=>inB (KX b o e) (by
   cases q:H b with
   |none=>rfl
   |some u=>rw [hK b (by rw [q];simp)] at e;cases e)
  have hM:Mod K mg (ZfU s₁.heap H):=⟨hKb,nsB hns,⟨mb,nsB hb,hbb⟩,let ⟨mc,h1,h2⟩:=hlim;⟨mc,nsB h1,h2⟩⟩;have e0:ZeG P w K mg (ZfU s₁.heap H) Qap [] s₁ H:=⟨rfl,hM,λb o e=>ZpE e,VL (Zle _ _),trivial,λb hb=>absurd (show b∈([]:List jo) from hb) (by simp),hok,.of_eq hg⟩
  have hbmB:∃bm ob,mg "__builtins__"=some (.ref bm)/\bm≠j5/\(ZfU s₁.heap H).get? bm=some ob/\ob.cls=.type "module"/\ob.dict=some j5/\ob.data=.plain:=by
   obtain ⟨bm,ob,b1,b2,b3,b4,b5,b6⟩:=hbm;refine ⟨bm,ob,b1,b2,inB b3 ?_,b4,b5,b6⟩;rcases dat bm ob b3 with z|⟨_,_,z⟩|⟨_,z⟩
   ·exact z
   ·rw [b6] at z;cases z
   ·rw [b6] at z;cases z
  refine ud ((F _ hKb (nsB hns) hbmB).run Qap [] s₁ H ⟨[.ref a],[]⟩ [.ref a] [.ref a] _ _ hr e0 (hbind s₁ (.ref a)) (.cons rfl .nil) (hsp H hS hT)) λr s' h=>?_
  cases r with
  |error e=>exact (hCX H e s' h).elim
  |ok fl=>
   cases fl with
   |next=>exact False.elim h
   |brk=>exact False.elim h
   |cont=>exact False.elim h
   |ret u=>
    obtain ⟨v,H',os,bare,un,hok',r',q⟩:=h;have q':v=.bl true:=q;subst q';obtain rfl:u=VW true:=r'
    have old:∀b o,s₁.heap.get? b=some o->s'.heap.get? b=some o\/∃more,b∈ts/\s'.heap.get? b=some (QaE more):=λb o e=>by
     rcases hO b with z|⟨_,ob,xs,z⟩|⟨zt,z⟩
     ·exact .inl (un.keep b o e z (by intro y;exact absurd (show b∈([]:List jo) from y) (by simp)) (by simp))
     ·have z2:=un.frzs b ob _ z;obtain ⟨e1,_⟩:=hok b _ z;obtain ⟨e2,_⟩:=hok' b _ z2;rw [e] at e1;cases e1;exact .inl e2
     ·obtain ⟨more,z2⟩:=un.tbls b _ z;exact .inr ⟨_,zt,hok' b _ z2⟩
    refine ⟨rfl,⟨λb o e=>?_,λb o e=>?_⟩,os,bare⟩
    ·rcases old b o e with z|⟨more,zt,z⟩
     ·exact .inl z
     ·obtain ⟨t1,_,c,t2⟩:=hts b zt;rw [t1] at e;cases e;refine .inr (.inl ⟨(t2.tab t1).isCodeTable,rfl,#[],more,rfl,?_⟩);rw [z];simp
    ·rcases old b o e with z|⟨more,_,z⟩
     ·exact ⟨_,z⟩
     ·exact ⟨_,z⟩
 have aT:a∉ts:=λz=>by have:=(hts a z).1;rw [ha] at this;cases this
 cases hk:K.lookup a with
 |some o=>
  have e:=KX a o hk;rw [ha] at e;cases e;refine core (λb=>if b∈ts then some (.tbl #[]) else none) (λb=>?_) (λp hp=>if_pos hp) (.inr ⟨_,vs.toArray,_,hk,rfl,rfl,rfl,by rw [jI,Zjl];exact hl,by simpa using rv⟩) (λb u z=>?_) λb z=>?_
  ·by_cases hb:b∈ts
   ·exact .inr (.inr ⟨hb,if_pos hb⟩)
   ·exact .inl (if_neg hb)
  ·by_cases hb:b∈ts
   ·have z':=(if_pos hb).symm.trans z;cases z';exact (hts b hb).1
   ·have z':=(if_neg hb).symm.trans z;cases z'
  ·by_cases hb:b∈ts
   ·exact (hts b hb).2.1
   ·exact absurd (if_neg hb) z
 |none=>
  refine core (λb=>if b=a then some (.frz {cls:=.type "list",data:=.seq vs.toArray} (.lst (ns.map V.int))) else if b∈ts then some (.tbl #[]) else none) (λb=>?_) (λp hp=>?_) (.inl (.inr ⟨{cls:=.type "list",data:=.seq vs.toArray},if_pos rfl⟩)) (λb u z=>?_) λb z=>?_
  ·by_cases hb:b=a
   ·exact .inr (.inl ⟨hb,_,_,if_pos hb⟩)
   ·by_cases hb2:b∈ts
    ·exact .inr (.inr ⟨hb2,(if_neg hb).trans (if_pos hb2)⟩)
    ·exact .inl ((if_neg hb).trans (if_neg hb2))
  ·have:p≠a:=λz=>aT (z▸hp);exact (if_neg this).trans (if_pos hp)
  ·by_cases hb:b=a
   ·have z':=(if_pos hb).symm.trans z;cases z';subst hb;exact ⟨ha,by rw [jr];exact hl,vs,_,rv,ha⟩
   ·by_cases hb2:b∈ts
    ·have z':=((if_neg hb).trans (if_pos hb2)).symm.trans z;cases z';exact (hts b hb2).1
    ·have z':=((if_neg hb).trans (if_neg hb2)).symm.trans z;cases z'
  ·by_cases hb:b=a
   ·rw [hb];exact hk
   ·by_cases hb2:b∈ts
    ·exact (hts b hb2).2.1
    ·exact absurd ((if_neg hb).trans (if_neg hb2)) z
theorem ZoU {l:VG} {n k:Nat} {q:jx} {loose:List Str} {XP:(Str->Option Value)->Heap->Prop} {YP:jG->Heap->Prop} {d:DefRec} {K:v9->Qa} {CX:jG->CXT} {sp:jG->Sp} {x:Str} {ts:List jo}
 (hn:l.most=some n) (hn2:n<=sizeLine) (hdf:d.params.defaults=[]) (hr:zH k Qap)
 (hY:∀(w:jG) (h:Heap),YP w h->(K w.params).In h/\∀p∈ts,h.get? p=some (QaE #[]))
 (F:∀(w:jG) (mg:Str->Option Value) (fa:jo) (h:Heap),(K w.params).In h->h.Ns jy mg->mg d.name=some (.ref fa)->
  (∀p∈ts,(K w.params).lookup p=none/\∃c,QaJ (K w.params) c p=true)/\∃fd:j9,(∀(s:jn) (u:Value),Qar s fd ⟨[u],[]⟩ [(x,u)])/\
   ∀base:Heap,(K w.params).In base->base.Ns jy mg->(∃bm ob,mg "__builtins__"=some (.ref bm)/\bm≠j5/\base.get? bm=some ob/\ob.cls=.type "module"/\ob.dict=some j5/\ob.data=.plain)->ZQ l.prog w (K w.params) mg base (CX w) k fa fd [x] (sp w))
 (hsp:∀(w:jG) (H:Hp) (a:jo) (ns:List Int),ns.length<=n->SqL (K w.params) H a (ns.map V.int)->(∀p∈ts,H p=some (.tbl #[]))->sp w [.ref a] H (λv _=>v=.bl true) λ_ _ _=>False)
 (hCX:∀(w:jG) (H:Hp) (s:jn) (e:Value) (s':jn),CX w [] H s (λ_ _ _=>False) e s'->False):
 WQ q loose XP YP l.row.toRowW d [] (λf vs=>PySem.call f vs):=by
 refine Att.ZhK hn hdf λw s₀ s₁ mg mb fa o pm cd doc a vs ns G Y ho hd hcd hmg hobj hints hlen hg=>?_;obtain ⟨KX,TX⟩:=hY w _ Y;obtain ⟨hT,fd,hb,hF⟩:=F w mg fa _ KX G.T.g hmg;refine Zln (ts:=ts) KX G.T.g G.T.b G.T.builtins G.T.nolimit hg G.T.bmain hobj hints (QE hlen hn2) hr (λp hp=>⟨TX p hp,(hT p hp).1,?_⟩) hF hb (λH hS hTb=>hsp w H a ns hlen hS hTb) λH e s'=>hCX w H s₁ e s';obtain ⟨c,e⟩:=(hT p hp).2;exact ⟨c,codeHd_of_K KX e⟩
section
variable {X:Cx} {Zb:List (jo×Obj)} {σ:St} {H:Hp} {s:jn}
theorem Zql {xs:List V} {vs:List Value} (rv:ZA xs vs):∀l:List Nat,(∀i∈l,i<vs.length)->ZA (l.map λi=>xs.getD i .non) (l.map λi=>vs.getD i Qq):=by
 intro l;have lv:=rv.length
 induction l with
 |nil=>intro _;exact .nil
 |cons i r ih=>
  intro hi;have hi0:=hi i jY;refine .cons ?_ (ih λj hj=>hi j (jM _ hj));have hx:xs[i]?=some (xs.getD i .non):=by rw [Qb,Qd (by omega)];rfl
  obtain ⟨u,hu,r'⟩:=rv.get hx;have e:vs.getD i Qq=u:=by rw [Qb,hu];rfl
  show ZP (xs.getD i .non) (vs.getD i Qq);rw [e];exact r'
theorem ZfC {Q:VK} {E:Value->jn->Prop} {a:jo} {κ:uA} {O:ve} (hc:X.calm=true) (hh:X.A.handled=none)
 (hcoll:∀(A:Around) (E:Value->jn->Prop),A.handled=none->js (ju X.prog X.w) A (collect (.ref a)) (λvs s1=>∃(xs:List V) (key:Nat->O.α),Inv X Zb σ H s1/\ZA xs vs/\xs.length<=100000/\ZhH X.prog X.w key xs.length/\
  (∀s' vs (E:Value->jn->Prop) (Q':uA->jn->Prop),Inv X Zb σ H s'->ZA xs vs->2<=xs.length->Q' κ s'->js (ju X.prog X.w) X.A.in1.in1 (QaH vs.toArray) Q' E s')/\
  (∀s' vs,Inv X Zb σ H s'->ZA xs vs->LS.ZkT key xs.length (λt=>t=s') (Qac X.prog X.w X.A.in1.in1 κ vs))/\
  ∀l (p:Array Nat),H l=none->LS.Pm xs.length p->LS.Up key p xs.length->Q (.ref l) (upd H l (.lst (p.toList.map λi=>xs.getD i .non)))) E s):
 js (ju X.prog X.w) X.A (call (.builtin "sorted") [.ref a]) (EP X Zb σ Q) E s:=by
 have hsl:sizeLine=16777216:=jw;refine Calls.call_function_entry kind_sorted plain_sorted entry_sorted (args_sorted1 _) ?_
 unfold Builtin.«sorted»
 refine jm (m:=checkCount "sorted" 1 1 _) (jq ?_);refine jm (jW (hcoll _ _ hh) (λvs s1 ⟨xs,key,I,rv,h64,hS,hkind,hask,h⟩=>?_) λ_ _ z=>z);have lv:=rv.length;refine jm (Qag ?_ (by omega));have k2:∀b o,s1.heap.get? b=some o->(s1.heap.push {cls:=.type "list",data:=.seq vs.toArray}).get? b=some o:=λb o e=>Qe _ e;have I2:Inv X Zb σ H {s1 with heap:=s1.heap.push {cls:=.type "list",data:=.seq vs.toArray},toks:=s1.toks}:=I.kept k2;have I1:Inv X Zb σ H {s1 with heap:=s1.heap,toks:=s1.toks}:=I;have Wa:Own X Zb H s1.heap.objs.size:=Own.fresh I1 (Qf _);have ho:(s1.heap.push {cls:=.type "list",data:=.seq vs.toArray}).get? s1.heap.objs.size=some (ur "list" vs.toArray 0):=Qi _ rfl;refine jm (jU (jS slot_list_sort ⟨_,ho,rfl⟩ entry_list_sort ?_ (args_list_sort _)));rw [list_sort_plain];refine jm (listItems_at ho rfl ?_);refine jm (vm ho rfl ?_ (by rw [jI];omega) (Qu _));have hs1:=Heap.SameBut.update (s1.heap.push {cls:=.type "list",data:=.seq vs.toArray}) s1.heap.objs.size (Obj.mapSeq λ_=>(#[]:Array Value));obtain ⟨e1,ho1⟩:∃e1,((s1.heap.push {cls:=.type "list",data:=.seq vs.toArray}).update s1.heap.objs.size (Obj.mapSeq λ_=>(#[]:Array Value))).get? s1.heap.objs.size=some (ur "list" #[] e1):=⟨_,vt ho λ_=>#[]⟩;refine jm (Qax ho1 rfl ?_);refine jm (vT ?_ (by show vs.length<=_;omega));refine jm (Qag ?_ (Qu _));refine jU ?_
 have I3:Inv X Zb σ H {s1 with heap:=(s1.heap.push {cls:=.type "list",data:=.seq vs.toArray}).update s1.heap.objs.size (Obj.mapSeq λ_=>(#[]:Array Value)),toks:=s1.toks}:=
  I2.alter (s:= {s1 with heap:=s1.heap.push {cls:=.type "list",data:=.seq vs.toArray},toks:=s1.toks}) Wa ho (λv z=>by cases z) λb u hb z=>(hs1.2 b hb).trans z
 generalize hg4:(s1.heap.push {cls:=.type "list",data:=.seq vs.toArray}).update s1.heap.objs.size (Obj.mapSeq λ_=>(#[]:Array Value))=h4 at *
 have I5:Inv X Zb σ H {s1 with heap:=(h4.push {cls:=.type "tuple",data:=.seq vs.toArray}).push {cls:=.type "list",data:=.seq ([]:List Value).toArray},toks:=s1.toks}:=
  I3.kept (s:= {s1 with heap:=h4,toks:=s1.toks}) (t':=s1.toks) λb o e=>Qe _ (Qe _ e)
 have ha5:((h4.push {cls:=.type "tuple",data:=.seq vs.toArray}).push {cls:=.type "list",data:=.seq ([]:List Value).toArray}).get? s1.heap.objs.size=some (ur "list" #[] e1):=Qe _ (Qe _ ho1)
 have tail:∀(P:PySem.Fin->jn->Prop),(∀(p:Array Nat) s',LS.Pm vs.length p->LS.Up key p vs.length->Inv X Zb σ (upd H s1.heap.objs.size (.lst (p.toList.map λi=>xs.getD i .non))) s'->P (.done (.ret .none)) s')->∀(st:jH) (p:Array Nat),LS.Pm vs.length p->LS.Up key p vs.length->vR st=p.map (VF (vs.toArray.zip vs.toArray))->vD st=none->
  js (ju X.prog X.w) X.A.in1.in1 (do
   let sorted:=(vR st).map (·.2)
   let touched:=(<-seqEpoch s1.heap.objs.size) !=e1
   Builtin.List.listUpdate (.ref s1.heap.objs.size) λ_=>sorted
   if let some e:=vD st then rule "list.sort.comparison-raised";throw e
   if touched then rule "list.sort.modified";raiseError "ValueError" "list modified during sort"
   ret .none) P E
   {s1 with heap:=(h4.push {cls:=.type "tuple",data:=.seq vs.toArray}).push {cls:=.type "list",data:=.seq ([]:List Value).toArray},toks:=s1.toks}:=by
  intro P hP st p hp hu har hf;have hout:=kat_snds rfl har;have hps:=hp.size;dsimp only;rw [hout]
  generalize hg5:(h4.push {cls:=.type "tuple",data:=.seq vs.toArray}).push {cls:=.type "list",data:=.seq ([]:List Value).toArray}=h5 at *
  have hs2:=Heap.SameBut.update h5 s1.heap.objs.size (Obj.mapSeq λ_=>Qz (p.toList.map λi=>vs.getD i Qq));obtain ⟨c2,hg⟩:∃c2,(h5.update s1.heap.objs.size (Obj.mapSeq λ_=>Qz (p.toList.map λi=>vs.getD i Qq))).get? s1.heap.objs.size=some (ur "list" (Qz (p.toList.map λi=>vs.getD i Qq)) c2):=⟨_,vt ha5 (λ_=>Qz (p.toList.map λi=>vs.getD i Qq))⟩;refine jm (Qax ha5 rfl ?_);refine jm (vm ha5 rfl ?_ (Qu _) (by show (Qz _).size<=_;rw [jI,jr,Qp];omega));rw [hf];simp only [bne_self_eq_false,Q4,if_false];have I6:Inv X Zb σ H {s1 with heap:=h5.update s1.heap.objs.size (Obj.mapSeq λ_=>Qz (p.toList.map λi=>vs.getD i Qq)),toks:=s1.toks}:=I5.alter (s:= {s1 with heap:=h5,toks:=s1.toks}) Wa ha5 (λv z=>by cases z) λb u hb z=>(hs2.2 b hb).trans z;refine jq (hP p _ hp hu (I6.track Wa (I6.cellne hg λv z=>by cases z) ?_));refine ⟨by rw [jr,Qp];omega,p.toList.map λi=>vs.getD i Qq,c2,?_,hg⟩;exact Zql rv p.toList λi hi=>QB.mp (hp.mem_iff.mp hi)
 dsimp only;have fin:∀(p:Array Nat) s',LS.Pm vs.length p->LS.Up key p vs.length->Inv X Zb σ (upd H s1.heap.objs.size (.lst (p.toList.map λi=>xs.getD i .non))) s'->EP X Zb σ Q (.ref s1.heap.objs.size) s':=λp s' hp hu J=>⟨.ref s1.heap.objs.size,_,J,rfl,h _ p Wa.free (by rw [lv];exact hp) (by rw [lv];exact hu)⟩;by_cases h2:vs.toArray.size<2
 ·rw [if_pos h2,if_pos h2];refine jm (jq ?_);rw [StateT.run_pure];refine jm (jq ?_);rw [jI] at h2;refine tail _ (λp s' hp hu J=>⟨_,rfl,jq ⟨_,rfl,fin p s' hp hu J⟩⟩) _ (Qz (Qj vs.length)) (by unfold LS.Pm;simp) (λi j hij hj=>?_) ?_ rfl
  ·have:i=j:=by omega
   subst this;exact Q8 _
  ·have e:=Ww (vs.toArray.zip vs.toArray);rw [show (vs.toArray.zip vs.toArray).size=vs.length by simp] at e;exact e.symm
 ·rw [if_neg h2,if_neg h2];rw [jI] at h2;have hask':=hask _ vs I5 rv;rw [lv] at hask';refine jm (hkind _ vs _ _ I5 rv (by omega) ?_);rw [lv] at hS;refine jm (jW (hS _ E κ _ vs vs rfl rfl (by omega) hask') ?_ λ_ _ z=>z);rintro ⟨⟨⟩,st'⟩ s' ⟨rfl,p,q1,q2,q3,q4⟩;exact tail _ (λp s' hp hu J=>⟨_,rfl,jq ⟨_,rfl,fin p s' hp hu J⟩⟩) st' p q1 q2.1 q3 q4
theorem ZlQ {Q:VK} {E:Value->jn->Prop} {a:jo} {xs:List V} {κ:uA} {O:ve} {key:Nat->O.α} (hc:X.calm=true) (I:Inv X Zb σ H s) (hx:Src X.K H a xs) (h64:xs.length<=100000) (hS:ZhH X.prog X.w key xs.length)
 (hkind:∀s' vs (E:Value->jn->Prop) (Q':uA->jn->Prop),Inv X Zb σ H s'->ZA xs vs->2<=xs.length->Q' κ s'->js (ju X.prog X.w) X.A.in1.in1 (QaH vs.toArray) Q' E s')
 (hask:∀s' vs,Inv X Zb σ H s'->ZA xs vs->LS.ZkT key xs.length (λt=>t=s') (Qac X.prog X.w X.A.in1.in1 κ vs))
 (h:∀l (p:Array Nat),H l=none->LS.Pm xs.length p->LS.Up key p xs.length->Q (.ref l) (upd H l (.lst (p.toList.map λi=>xs.getD i .non)))):
 js (ju X.prog X.w) X.A (call (.builtin "sorted") [.ref a]) (EP X Zb σ Q) E s:=by
 exact ZfC (κ:=κ) (O:=O) hc (I.ok.hd hc) λA E hA=>ZeV I hA hx (by omega) λvs h1 tk rv k=>⟨xs,key,I.kept k,rv,h64,hS,hkind,hask,h⟩
theorem ZoQ {kL:List (List Nat)} {n:Nat} {p:Array Nat} (hp:LS.Pm n p) (hu:LS.Up (O:=strKind.toKeyOrd) (λi=>kL.getD i []) p n):p.toList.Pairwise (λi j=>kL.getD i []<=kL.getD j []):=by
 have hps:=hp.size;refine Ue.mpr λi j hi hj hij=>?_;rw [Qp] at hi hj;have:=hu i j (QT hij) (by omega);have gi:LS.gt p i=p.toList[i]:=by unfold LS.gt;rw [QJ];simp [hi]
 have gj:LS.gt p j=p.toList[j]:=by unfold LS.gt;rw [QJ];simp [hj]
 rw [gi,gj] at this;have this:decide (kL.getD p.toList[j] []<kL.getD p.toList[i] [])=false:=this;exact Uq.mp (of_decide_eq_false this)
end
section
variable {X:Cx}
theorem PFs.imp {ifs:List jL} {t t':TT} (h:PFs X ifs t) (hi:∀σ H Q,t' σ H Q->∃Q0:Bool->Hp->Prop,t σ H Q0/\∀b H',Q0 b H'->Q b H'):PFs X ifs t':=λZb s σ H Q I q=>by obtain ⟨Q0,h0,h1⟩:=hi σ H Q q;exact thn (h Zb s σ H Q0 I h0) λb s1 ⟨H1,I1,q⟩=>⟨H1,I1,h1 b H1 q⟩
noncomputable def Zf4 (tc:TT) (te:TE) (σ:St) (acc:List V) (N:Hp->List V->Prop) (H:Hp):Prop:=tc σ H λb H3=>if b=true then te σ H3 λy H4=>N H4 (acc++[y]) else N H3 acc
noncomputable def Zi6 (te:TE):TE:=λσ H Q=>∃Q0:VK,te σ H Q0/\∀v H',Q0 v H'->Q v H'
noncomputable def Zi7 (tc:TT):TT:=λσ H Q=>∃Q0:Bool->Hp->Prop,tc σ H Q0/\∀b H',Q0 b H'->Q b H'
theorem ZaF {tc:TT} {te:TE} {σ:St} {acc:List V} {N N':Hp->List V->Prop} {H:Hp} (hN:∀H a,a.length<=acc.length+1->N H a->N' H a) (h:Zf4 tc te σ acc N H):Zf4 (Zi7 tc) (Zi6 te) σ acc N' H:=by
 refine ⟨_,h,λb H3 q=>?_⟩
 cases b with
 |true=>exact ⟨_,q,λy H4 q4=>hN _ _ (by simp) q4⟩
 |false=>exact hN _ _ (by omega) q
noncomputable def tCR (n:Nat) (cp:List (Str×Nat)) (ta:TA) (tc:TT) (te:TE):TE:=λσ H Q=>ta σ H λvs H1=>match vs with
 |[.int j]=>(-(2 ^ 62)<=j/\j<16777216)/\∃Pv:Nat->Hp->List V->Prop,Pv 0 H1 []/\(∀i H2 acc,i<j.toNat->Pv i H2 acc->Zf4 tc te ((Zau n cp σ).set 0 (some (.int i))) acc (Pv (i+1)) H2)/\∀H2 acc,Pv j.toNat H2 acc->∀l,H2 l=none->Q (.ref l) (upd H2 l (.lst acc))
 |_=>False
theorem Zoa {elt a:jL} {ifs:List jL} {x:Str} {px p p':Pos} {scope:Scope} {pos:Pos} {cl:List (Str×jo)} {own:List Str} {cp:List (Str×Nat)} {ta:TA} {tc:TT} {te:TE}
 (hm:X.mg "range"=none) (hc:X.calm=true) (hcl:Ye scope.names X.env.cells []=some cl) (hk:scope.kind=.function) (hnc:∀y∈scope.names,y.2≠ .cell)
 (hnm:∀x∈scope.names,x.2=.local->scope.names.lookup x.1=some .local) (hcp:YT X scope cp) (ha:PA X [a] ta) (hn:0<own.length)
 (hg:∀fp C s H,PG (cxC X scope cl (own++cp.map (·.1)) fp C s H) (.Name x px) (Yg 0)) (ht:∀fp C s H,PFs (cxC X scope cl (own++cp.map (·.1)) fp C s H) ifs tc) (he:∀fp C s H,PE (cxC X scope cl (own++cp.map (·.1)) fp C s H) elt te)
 (hgl:Gl X "range":=by rfl) (hst:jA [a] X.env=[(false,eval a X.env)]:=by rfl)
 (hs:∀z,jK (.Call (.Name "range" p) [a] [] p') X.env z=pure z:=by intro _;rfl):PE X (.ListComp elt [⟨.Name x px,.Call (.Name "range" p) [a] [] p',ifs,0⟩] scope pos) (tCR own.length cp ta tc te):=by
 have ha':PA X [a] (λσ H Q=>∃Q0:List V->Hp->Prop,ta σ H Q0/\∀v H',Q0 v H'->Q v H'):=ha.imp λσ H Q h=>h;intro Zb s σ H Q I h;refine Zc3 hc hcl hk hnc hnm hcp (ZdL hgl hm ha' hst) (ZbQ hn) hg (λfp C s H=>(ht fp C s H).imp (t':=Zi7 tc) λ_ _ _ z=>z) (λfp C s H=>(he fp C s H).imp (t':=Zi6 te) λ_ _ _ z=>z) hs Zb s σ H Q I ?_;refine ⟨_,h,λvs H1 q=>?_⟩;split at q
 ·rename_i j;obtain ⟨⟨b1,b2⟩,Pv,p0,ps,pe⟩:=q;have hsl:sizeLine=16777216:=jw;refine ⟨j,rfl,b1,by omega,λi m H2 acc=>m=j.toNat-i/\i<=j.toNat/\acc.length<=i/\Pv i H2 acc,⟨j.toNat,by omega,Qu _,Qf _,p0⟩,?_⟩;rintro i m H2 acc ⟨rfl,hi,hl,pv'⟩;refine ⟨by omega,?_⟩;by_cases hlt:i<j.toNat
  ·refine .inr ⟨hlt,λy H3 ⟨e3,ey⟩=>?_⟩;subst e3 ey;rw [show (0:Int)+(i:Int)=(i:Int) from VM _];exact ZaF (N':=λH a=>∃m',m'<j.toNat-i/\(m'=j.toNat-(i+1)/\i+1<=j.toNat/\a.length<=i+1/\Pv (i+1) H a)) (λH a ha z=>⟨j.toNat-(i+1),by omega,rfl,hlt,by omega,z⟩) (ps i H3 acc hlt pv')
  ·have e:i=j.toNat:=by omega
   subst e;exact .inl ⟨Qf _,λl hl'=>pe H2 acc pv' l hl'⟩
 ·exact q.elim
noncomputable def tCL (K:Qa) (n:Nat) (cp:List (Str×Nat)) (tl:TE) (tc:TT) (te:TE):TE:=λσ H Q=>tl σ H λv H1=>match v with
 | .ref a=>∃xs,SqL K H1 a xs/\xs.length<16777216/\∃Pv:Nat->Hp->List V->Prop,Pv 0 H1 []/\(∀i H2 acc,i<=xs.length->Pv i H2 acc->SqL K H2 a xs)/\(∀i y H2 acc,xs[i]?=some y->Pv i H2 acc->Zf4 tc te ((Zau n cp σ).set 0 (some y)) acc (Pv (i+1)) H2)/\∀H2 acc,Pv xs.length H2 acc->∀l,H2 l=none->Q (.ref l) (upd H2 l (.lst acc))
 |_=>False
theorem ZiB {K:Qa} {elt iter:jL} {ifs:List jL} {x:Str} {px:Pos} {scope:Scope} {pos:Pos} {cl:List (Str×jo)} {own:List Str} {cp:List (Str×Nat)} {tl:TE} {tc:TT} {te:TE} (hK:X.K=K)
 (hc:X.calm=true) (hcl:Ye scope.names X.env.cells []=some cl) (hk:scope.kind=.function) (hnc:∀y∈scope.names,y.2≠ .cell)
 (hnm:∀x∈scope.names,x.2=.local->scope.names.lookup x.1=some .local) (hcp:YT X scope cp) (hl:PE X iter tl) (hn:0<own.length)
 (hg:∀fp C s H,PG (cxC X scope cl (own++cp.map (·.1)) fp C s H) (.Name x px) (Yg 0)) (ht:∀fp C s H,PFs (cxC X scope cl (own++cp.map (·.1)) fp C s H) ifs tc) (he:∀fp C s H,PE (cxC X scope cl (own++cp.map (·.1)) fp C s H) elt te)
 (hs:∀z,jK iter X.env z=pure z:=by intro _;rfl):PE X (.ListComp elt [⟨.Name x px,iter,ifs,0⟩] scope pos) (tCL K own.length cp tl tc te):=by
 subst hK;have hl':PE X iter (λσ H Q=>∃Q0:VK,tl σ H Q0/\∀v H',Q0 v H'->Q v H'):=hl.imp λσ H Q h=>h;intro Zb s σ H Q I h;refine Zc3 hc hcl hk hnc hnm hcp (Zey hl') (ZbQ hn) hg (λfp C s H=>(ht fp C s H).imp (t':=Zi7 tc) λ_ _ _ z=>z) (λfp C s H=>(he fp C s H).imp (t':=Zi6 te) λ_ _ _ z=>z) hs Zb s σ H Q I ?_;refine ⟨_,h,λv H1 q=>?_⟩
 cases v with
 |ref a=>
  obtain ⟨xs,hx,hz,Pv,p0,pl,ps,pe⟩:=q;have hsl:sizeLine=16777216:=jw;refine ⟨a,rfl,⟨xs,hx⟩,λi m H2 acc=>m=xs.length-i/\i<=xs.length/\acc.length<=i/\Pv i H2 acc,⟨xs.length,by omega,Qu _,Qf _,p0⟩,?_⟩;rintro i m H2 acc ⟨rfl,hi,hla,pv'⟩;refine ⟨by omega,?_⟩;have hx2:=pl i H2 acc hi pv';by_cases hlt:i<xs.length
  ·refine .inr ⟨⟨xs,xs[i],hx2,by simp [hlt]⟩,λy H3 ⟨e3,ey⟩=>?_⟩;subst e3;exact ZaF (N':=λH a=>∃m',m'<xs.length-i/\(m'=xs.length-(i+1)/\i+1<=xs.length/\a.length<=i+1/\Pv (i+1) H a)) (λH a ha z=>⟨xs.length-(i+1),by omega,rfl,hlt,by omega,z⟩) (ps i y H3 acc (ey xs hx2) pv')
  ·have e:i=xs.length:=by omega
   subst e;exact .inl ⟨⟨xs,hx2,Qf _⟩,λl hl'=>pe H2 acc pv' l hl'⟩
 |_=>exact False.elim q
end
theorem Zrl {z:Str} {i:Nat} (h:i<(L z).length):z.cps[i]?=some ((L z).getD i 0):=by
 unfold L at h ⊢
 rw [Qp] at h;rw [Qb,Uy,QZ h];rfl
section
variable {X:Cx} {tg:jL}
noncomputable def Zpl (z:Str) (g:TG) (tb:TS):TS:=λD σ H=>∃Pv:Nat->St->Hp->Prop,Pv 0 σ H/\(∀i σ H,i<(L z).length->Pv i σ H->g (.str (T [(L z).getD i 0])) σ H λσ2 H2=>tb {nx:=Pv (i+1),rt:=D.rt,bk:=D.nx,ct:=Pv (i+1)} σ2 H2)/\∀σ H,Pv (L z).length σ H->D.nx σ H
end
section
variable {κ:Type} [DecidableEq κ]
noncomputable def Z8 (kvs:List (κ×V)) (k:κ):Option V:=(kvs.find? λkv=>decide (kv.1=k)).map (·.2)
noncomputable def qX (kvs:List (κ×V)) (k:κ) (v:V):List (κ×V):=
 if (kvs.any λkv=>decide (kv.1=k))=true then kvs.map (λkv=>if kv.1=k then (kv.1,v) else kv) else kvs++[(k,v)]
noncomputable def ZeX (kvs:List (κ×V)) (k:κ):List (κ×V):=kvs.filter λkv=>decide (kv.1≠k)
theorem zk {p:κ×V} {r:List (κ×V)} {k:κ} (e:p.1=k):Z8 (p::r) k=some p.2:=by simp [Z8,QN,e]
theorem zj {p:κ×V} {r:List (κ×V)} {k:κ} (e:¬p.1=k):Z8 (p::r) k=Z8 r k:=by simp [Z8,QN,e]
theorem ZbM (k:κ):∀kvs:List (κ×V),(kvs.any λkv=>decide (kv.1=k))=(Z8 kvs k).isSome
 |[]=>rfl
 |p::r=>by
  rw [Vb];by_cases e:p.1=k
  ·simp only [zk e,decide_eq_true e,Bool.true_or,Option.isSome_some]
  ·rw [zj e,decide_eq_false e,Bool.false_or];exact ZbM k r
theorem ZiW (k j:κ) (y:V):∀kvs:List (κ×V),Z8 (kvs.map λkv=>if kv.1=k then (kv.1,y) else kv) j=(Z8 kvs j).map λx=>if j=k then y else x
 |[]=>rfl
 |p::r=>by
  have ih:=ZiW k j y r;rw [jV];by_cases h:p.1=k
  ·rw [if_pos h];by_cases e:p.1=j
   ·rw [zk (p:=(p.1,y)) e,zk e,UH,if_pos (e.symm.trans h)]
   ·rw [zj (p:=(p.1,y)) e,zj e,ih]
  ·rw [if_neg h];by_cases e:p.1=j
   ·rw [zk (p:=p) e,zk e,UH,if_neg (λz=>h (e.trans z))]
   ·rw [zj (p:=p) e,zj e,ih]
theorem ZgE (k j:κ) (y:V):∀kvs:List (κ×V),Z8 kvs k=none->Z8 (kvs++[(k,y)]) j=if j=k then some y else Z8 kvs j
 |[],_=>by
  by_cases e:k=j
  ·rw [if_pos e.symm];exact zk (p:=(k,y)) e
  ·rw [if_neg (λz=>e z.symm)];exact zj (p:=(k,y)) e
 |p::r,hn=>by
  rw [uN];have hk:¬p.1=k:=λz=>by rw [zk z] at hn;cases hn
  rw [zj hk] at hn;have ih:=ZgE k j y r hn;by_cases e:p.1=j
  ·rw [zk e,zk e,if_neg (λz=>hk (e.trans z))]
  ·rw [zj e,zj e,ih]
theorem ZoS (kvs:List (κ×V)) (k j:κ) (y:V):Z8 (qX kvs k y) j=if j=k then some y else Z8 kvs j:=by
 unfold qX;by_cases a:(kvs.any λkv=>decide (kv.1=k))=true
 ·rw [if_pos a,ZiW];rw [ZbM] at a;by_cases e:j=k
  ·obtain ⟨x,hx⟩:=U6.mp a;rw [if_pos e,e,hx,UH,if_pos rfl]
  ·rw [if_neg e]
   cases Z8 kvs j with
   |none=>rfl
   |some x=>rw [UH,if_neg e]
 ·rw [if_neg a];refine ZgE k j y kvs ?_;rw [ZbM] at a
  cases q:Z8 kvs k with
  |none=>rfl
  |some x=>rw [q] at a;exact (a rfl).elim
theorem Zd5 (kvs:List (κ×V)) (k:κ) (v:V):(qX kvs k v).length<=kvs.length+1:=by
 unfold qX;split
 ·rw [jr];omega
 ·rw [jv,jD,ua];omega
theorem Zom {kvs:List (κ×V)} {k:κ} (v:V) (h:Z8 kvs k=none):qX kvs k v=kvs++[(k,v)]:=by unfold qX;rw [ZbM,h];exact if_neg (by decide)
theorem Zbu.isSome_eq {o:Option V} {u:Option Value} (r:Zbu o u):o.isSome=u.isSome:=by
 cases o with
 |none=>cases u with
  |none=>rfl
  |some _=>exact (show False from r).elim
 |some _=>cases u with
  |none=>exact (show False from r).elim
  |some _=>rfl
theorem KV.val {kvs:List (κ×V)} {vs:List (κ×Value)} (r:KV kvs vs) (k:κ):Zbu (Z8 kvs k) (valueAt vs k):=by
 unfold KV at r
 induction r with
 |nil=>exact True.intro
 |@cons p q ps qs h t ih=>
  obtain ⟨h1,h2⟩:=h;by_cases e:p.1=k
  ·have e':q.1=k:=h1.symm.trans e;have b:valueAt (q::qs) k=some q.2:=by simp [valueAt,QN,e']
   rw [zk e,b];exact h2
  ·have e':¬q.1=k:=λz=>e (h1.trans z);have b:valueAt (q::qs) k=valueAt qs k:=by simp [valueAt,QN,e']
   rw [zj e,b];exact ih
theorem KV.any {kvs:List (κ×V)} {vs:List (κ×Value)} (r:KV kvs vs) (k:κ):(kvs.any λkv=>decide (kv.1=k))=vs.any λkv=>decide (kv.1=k):=by
 unfold KV at r
 induction r with
 |nil=>rfl
 |cons h t ih=>rw [Vb,Vb,ih,h.1]
theorem KV.repl {kvs:List (κ×V)} {vs:List (κ×Value)} (r:KV kvs vs) (k:κ) {y:V} {u:Value} (ry:ZP y u):
 KV (kvs.map λkv=>if kv.1=k then (kv.1,y) else kv) (vs.map λkv=>if kv.1=k then (kv.1,u) else kv):=by
 unfold KV at r ⊢
 induction r with
 |nil=>exact .nil
 |@cons p q ps qs h t ih=>
  rw [jV,jV];refine .cons ?_ ih;obtain ⟨h1,h2⟩:=h;by_cases e:p.1=k
  ·rw [if_pos e,if_pos (h1.symm.trans e)];exact ⟨h1,ry⟩
  ·rw [if_neg e,if_neg (λz=>e (h1.trans z))];exact ⟨h1,h2⟩
theorem KV.put {kvs:List (κ×V)} {vs:List (κ×Value)} (r:KV kvs vs) (k:κ) {y:V} {u:Value} (ry:ZP y u):KV (qX kvs k y) (stored vs k u):=by
 unfold qX stored;rw [r.any k];by_cases e:(vs.any λkv=>decide (kv.1=k))=true
 ·rw [if_pos e,if_pos e];exact r.repl k ry
 ·rw [if_neg e,if_neg e];exact Paired.snoc r ⟨rfl,ry⟩
theorem KV.drop {kvs:List (κ×V)} {vs:List (κ×Value)} (r:KV kvs vs) (k:κ):KV (ZeX kvs k) (without vs k):=by
 unfold KV at r ⊢
 unfold ZeX without
 induction r with
 |nil=>exact .nil
 |@cons p q ps qs h t ih=>
  obtain ⟨h1,h2⟩:=h;rw [UG,UG];by_cases e:p.1=k
  ·have a:¬decide (p.1≠k)=true:=by simp [e]
   have b:¬decide (q.1≠k)=true:=by simp [h1.symm.trans e]
   rw [if_neg a,if_neg b];exact ih
  ·have e':¬q.1=k:=λz=>e (h1.trans z);have a:decide (p.1≠k)=true:=by simp [e]
   have b:decide (q.1≠k)=true:=by simp [e']
   rw [if_pos a,if_pos b];exact .cons ⟨h1,h2⟩ ih
theorem KV.keys {kvs:List (κ×V)} {vs:List (κ×Value)} (r:KV kvs vs):kvs.map (·.1)=vs.map (·.1):=by
 unfold KV at r
 induction r with
 |nil=>rfl
 |cons h t ih=>rw [jV,jV,ih,h.1]
theorem KV.length {kvs:List (κ×V)} {vs:List (κ×Value)} (r:KV kvs vs):kvs.length=vs.length:=Paired.length r
theorem ZmZ (kvs:List (κ×V)) (k:κ):(ZeX kvs k).length<=kvs.length:=Wr _ _
end
theorem Ze8 {P:jx} {w:jG} {k:Key} {u:Value} (r:ZP (kV k) u):(zl P w).is k u=true:=by
 cases k with
 |inl i=>obtain ⟨t,e⟩:=(show ∃t,u=Vc i t from r);subst e;exact Zir P w i t
 |inr x=>obtain ⟨t,e⟩:=(show ∃t,u=US x t from r);subst e;exact Zis P w x t
theorem Zgr {P:jx} {w:jG}:∀{ks:List Key} {us:List Value},ZA (ks.map kV) us->ItemsAre (zl P w) ks us
 |[],_,r=>by rw [map_nil] at r;cases r;exact .nil
 |k::ks,_,r=>by
  rw [jV] at r
  cases r with
  |cons h t=>exact .cons (Ze8 h) (Zgr t)
noncomputable abbrev KT (H:Hp):List (List Key×V)->List (List Key×jo×Value)->Prop:=Paired λp q=>p.1=q.1/\H q.2.1=some (.tup (p.1.map kV))/\ZP p.2 q.2.2
theorem KT.val {H:Hp} {kvs:List (List Key×V)} {xs:List (List Key×jo×Value)} (r:KT H kvs xs) (k:List Key):Zbu (Z8 kvs k) ((atKey xs k).map (·.2)):=by
 induction r with
 |nil=>exact True.intro
 |@cons p q ps qs h t ih=>
  obtain ⟨h1,_,h2⟩:=h;by_cases e:p.1=k
  ·have e':q.1=k:=h1.symm.trans e;have b:atKey (q::qs) k=some q.2:=by simp [atKey,QN,e']
   rw [zk e,b];exact h2
  ·have e':¬q.1=k:=λz=>e (h1.trans z);have b:atKey (q::qs) k=atKey qs k:=by simp [atKey,QN,e']
   rw [zj e,b];exact ih
section
variable {P:jx} {w:jG} {H:Hp} {h:Heap} {a:jo}
theorem ZqI {u:HO} (ok:HOk P w H h) (e:Rd H a u):za P w H h a u:=e.ok ok
theorem Zgj {kvs:List (Key×V)} (ok:HOk P w H h) (e:Rd H a (.dK kvs)):kvs.length<=sizeLine/\(a==uW)=false/\∃vs,KV kvs vs/\h.DictOf (zl P w) a vs:=
 show za P w H h a (.dK kvs) from ZqI ok e
theorem Zqx {kvs:List (Key×V)} (ok:HOk P w H h) (e:H a=some (.dK kvs)):kvs.length<=sizeLine/\(a==uW)=false/\∃vs,KV kvs vs/\h.DictOf (zl P w) a vs:=Zgj ok (.inl e)
theorem Zji {ks:List Key} (ok:HOk P w H h) (e:H a=some (.tup (ks.map kV))):(tupleKind (zl P w)).is h ks a:=by obtain ⟨_,its,r,o,h1,h2,n,h3⟩:=(show za P w H h a (.tup (ks.map kV)) from ok a _ e);exact ⟨o,its.toArray,n,h1,h2,h3,by simpa using Zgr r⟩
theorem Zh1 {kvs:List (List Key×V)} (ok:HOk P w H h) (e:Rd H a (.dT kvs)):kvs.length<=sizeLine/\(a==uW)=false/\
 ∃xs,KT H kvs xs/\h.DictOfH (tupleKind (zl P w)) a xs:=by
 exact False.elim (show za P w H h a (.dT kvs) from ZqI ok e)
end
noncomputable def DGet (H:Hp) (a:jo) (y:V) (r:Option V):Prop:=
 (∃kvs k,Rd H a (.dK kvs)/\y=kV k/\r=Z8 kvs k)\/∃kvs k b,Rd H a (.dT kvs)/\y=.ref b/\H b=some (.tup (k.map kV))/\r=Z8 kvs k
noncomputable def Zl4 (H:Hp) (a:jo) (y v:V) (H':Hp):Prop:=
 (∃kvs k,H a=some (.dK kvs)/\y=kV k/\kvs.length<sizeLine/\H'=upd H a (.dK (qX kvs k v)))\/
 ∃kvs k b,H a=some (.dT kvs)/\y=.ref b/\H b=some (.tup (k.map kV))/\kvs.length<sizeLine/\H'=upd H a (.dT (qX kvs k v))
theorem DGet.k {H:Hp} {a:jo} {kvs:List (Key×V)} {k:Key} (e:H a=some (.dK kvs)):DGet H a (kV k) (Z8 kvs k):=.inl ⟨kvs,k,.inl e,rfl,rfl⟩
theorem Zl4.k {H:Hp} {a:jo} {kvs:List (Key×V)} {k:Key} {v:V} (e:H a=some (.dK kvs)) (hl:kvs.length<sizeLine):Zl4 H a (kV k) v (upd H a (.dK (qX kvs k v))):=.inl ⟨kvs,k,e,rfl,hl,rfl⟩
section
variable {X:Cx} {Zb:List (jo×Obj)} {σ:St} {H:Hp} {s:jn} {a:jo} {y v:V} {u r:Value} {o:Option V} {A:Around} {E:Value->jn->Prop}
theorem Inv.big (I:Inv X Zb σ H s):uW<s.heap.objs.size:=by have h:jy<s.heap.objs.size:=(I.mod.glob.keeps I.bk).lt;exact Wp (by decide) h
theorem ZkX {Q:Value->jn->Prop} (hu:A.units+1<cLine) (I:Inv X Zb σ H s) (g:DGet H a y (some v)) (ry:ZP y u) (h:∀w' s',Inv X Zb σ H s'->ZP v w'->Q w' s'):
 js (ju X.prog X.w) A (QaA (.ref a) u) Q E s:=by
 rcases g with ⟨kvs,k,e,ey,l⟩|⟨kvs,k,b,e,ey,eb,l⟩
 ·subst ey;obtain ⟨z,hd,vs,rel,dd⟩:=Zgj I.hok e;obtain ⟨w',hw,rw'⟩:=Zbu.some_of (v:=v) (o:=valueAt vs k) (by rw [l];exact rel.val k);exact wpAny_getItem_of (Ze8 ry) dd.mapOf hw (h w' _ (I.tok _) rw')
 ·subst ey;cases (show u=Value.ref b from ry);obtain ⟨z,hd,xs,rel,dd⟩:=Zh1 I.hok e;obtain ⟨w',hw,rw'⟩:=Zbu.some_of (v:=v) (o:=(atKey xs k).map (·.2)) (by rw [l];exact rel.val k);obtain ⟨p,hp,hp2⟩:=Qy.mp hw;refine wpAny_getItem_heap (Qah hu) (Zji I.hok eb) dd hp ?_;rw [hp2];exact h w' _ (I.tok _) rw'
theorem Zu0 {Q:Value->jn->Prop} (hu:A.units+1<cLine) (I:Inv X Zb σ H s) (g:DGet H a y o) (ry:ZP y u) (h:∀s',Inv X Zb σ H s'->Q (.bool o.isSome) s'):
 js (ju X.prog X.w) A (jZ .In u (.ref a)) Q E s:=by
 rcases g with ⟨kvs,k,e,ey,l⟩|⟨kvs,k,b,e,ey,eb,l⟩
 ·subst ey;obtain ⟨z,hd,vs,rel,dd⟩:=Zgj I.hok e;refine wpAny_in_of (Ze8 ry) hd dd.mapOf ?_;rw [<-(rel.val k).isSome_eq,<-l];exact h _ (I.tok _)
 ·subst ey;cases (show u=Value.ref b from ry);obtain ⟨z,hd,xs,rel,dd⟩:=Zh1 I.hok e;refine wpAny_in_heap (Qah hu) (Zji I.hok eb) hd dd ?_;have q:=(rel.val k).isSome_eq;rw [Ux] at q;rw [<-q,<-l];exact h _ (I.tok _)
theorem Zpe {Q:Value->jn->Prop} (hu:A.units+1<cLine) (I:Inv X Zb σ H s) (g:DGet H a y o) (ry:ZP y u) (h:∀s',Inv X Zb σ H s'->Q (.bool (!o.isSome)) s'):
 js (ju X.prog X.w) A (jZ .NotIn u (.ref a)) Q E s:=by
 rcases g with ⟨kvs,k,e,ey,l⟩|⟨kvs,k,b,e,ey,eb,l⟩
 ·subst ey;obtain ⟨z,hd,vs,rel,dd⟩:=Zgj I.hok e;refine wpAny_notIn_of (Ze8 ry) hd dd.mapOf ?_;rw [<-(rel.val k).isSome_eq,<-l];exact h _ (I.tok _)
 ·subst ey;cases (show u=Value.ref b from ry);obtain ⟨z,hd,xs,rel,dd⟩:=Zh1 I.hok e;refine wpAny_notIn_heap (Qah hu) (Zji I.hok eb) hd dd ?_;have q:=(rel.val k).isSome_eq;rw [Ux] at q;rw [<-q,<-l];exact h _ (I.tok _)
theorem Zkg {h':Heap} {t':Nat} {ob:HO} (I:Inv X Zb σ H s) (mu:Mut (H a)) (hs:Heap.SameBut a s.heap h') (he:∃q,h'.get? a=some q) (new:za X.prog X.w (upd H a ob) h' a ob):
 Inv X Zb σ (upd H a ob) {s with heap:=h',toks:=t'}:=
 I.write (x:=a) (e:=a) mu (.inl rfl) (λb q hb z=>(hs.2 b hb).trans z) he new
theorem ZmY {P:jx} {w:jG} {H':Hp} {h':Heap} {kvs:List (Key×V)} {vs:List (Key×Value)} (z:kvs.length<=sizeLine) (hd:(a==uW)=false) (rel:KV kvs vs) (dd:h'.DictOf (zl P w) a vs):
 za P w H' h' a (.dK kvs):=⟨z,hd,vs,rel,dd⟩
theorem ZkY {H':Hp} {Q:Unit->jn->Prop} (hu:A.units+1<cLine) (I:Inv X Zb σ H s) (g:Zl4 H a y v H') (ry:ZP y u) (rv:ZP v r) (h:∀s',Inv X Zb σ H' s'->Q () s'):
 js (ju X.prog X.w) A (setItem (.ref a) u r) Q E s:=by
 rcases g with ⟨kvs,k,e,ey,l,eH⟩|⟨kvs,k,b,e,ey,eb,l,eH⟩
 ·subst ey eH;obtain ⟨z,hd,vs,rel,dd⟩:=Zqx I.hok e;have hz:vs.length<=sizeLine:=by rw [<-rel.length];exact z
  have hl:(qX kvs k v).length<=sizeLine:=by have:=Zd5 kvs k v;omega
  refine wpAny_setItem_pairs (hsz:=hz) (Ze8 ry) dd λh' dd' hs=>h _ ?_;have he:∃q,h'.get? a=some q:=let ⟨q,_,_,hq,_⟩:=dd';⟨q,hq⟩;exact Zkg I (by rw [e];exact True.intro) hs he (ZmY hl hd (rel.put k rv) dd')
 ·exact False.elim (show za X.prog X.w H s.heap a (.dT kvs) from I.hok a _ e)
end
section
variable {X:Cx} {Zb:List (jo×Obj)} {σ:St} {H:Hp} {s:jn} {a:jo} {kvs:List (Key×V)} {k:Key} {u:Value} {A:Around} {E:Value->jn->Prop}
theorem Zt2 {v:V} {more:List Value} {Q:Value->jn->Prop} (I:Inv X Zb σ H s) (e:H a=some (.dK kvs)) (ry:ZP (kV k) u) (l:Z8 kvs k=some v) (hm:more=[]\/∃x,more=[x])
 (h:∀w' s',Inv X Zb σ (upd H a (.dK (ZeX kvs k))) s'->ZP v w'->Q w' s'):js (ju X.prog X.w) A (call (.builtin "dict.pop") (.ref a::u::more)) Q E s:=by
 obtain ⟨z,hd,vs,rel,dd⟩:=Zqx I.hok e;obtain ⟨w',hw,rw'⟩:=Zbu.some_of (v:=v) (o:=valueAt vs k) (by rw [<-l];exact rel.val k)
 have hp:(keyPart u).isSome=true:=by
  cases k with
  |inl i=>obtain ⟨t,q⟩:=(show ∃t,u=Vc i t from ry);subst q;rfl
  |inr x=>obtain ⟨t,q⟩:=(show ∃t,u=US x t from ry);subst q;rfl
 have ha:Qaj "dict.pop" ⟨.ref a::u::more,[]⟩:=by
  rcases hm with q|⟨x,q⟩
  ·subst q;exact PySem.F.args_dict_pop_2 _ _
  ·subst q;exact PySem.F.args_dict_pop_3 _ _ _
 refine call_meetsIn Wc dd.typeIs PySem.F.entry_dict_pop ha (meets_dict_pop_there (zl X.prog X.w) a (Ze8 ry) more hm hp)
  ⟨vs,w',dd,by rw [<-rel.length];exact z,hw,λh' dd' hs=>h w' _ ?_ rw'⟩
 have he:∃q,h'.get? a=some q:=let ⟨q,_,_,hq,_⟩:=dd';⟨q,hq⟩;exact Zkg I (by rw [e];exact True.intro) hs he (ZmY (QE (ZmZ kvs k) z) hd (rel.drop k) dd')
end
noncomputable def ZtQ (i:jL):Prop:=∀ov iv,Qaw i false ov iv=operate [ov,iv] (QaA ov iv)
theorem Zqc {prog:jx} {w:jG} {A:Around} {E:Value->jn->Prop} {s:jn} {env:Env} {value slice:jL} {pos:Pos} {T id:String} {Q:Value->jn->Prop}
 (hl:vM (.type T) "__getitem__"=pure (some (.builtin id))) (hs:ZtQ slice)
 (h:js (ju prog w) A (eval value env) (λo s₁=>js (ju prog w) A (eval slice env) (λi s₂=>s₂.TypeIs o T/\js (ju prog w) A (QaA o i) Q E s₂) E s₁) E s):
 js (ju prog w) A (eval (.Subscript value slice pos) env) Q E s:=by
 refine Subscript_ (jW h (λo s₁ h₁=>jW h₁ (λi s₂ h₂=>?_) λ_ _ x=>x) λ_ _ x=>x);obtain ⟨hT,h₂⟩:=h₂;unfold subscriptTail;refine jm ?_;rw [getitemInPython_of_ne hT.not_modules];refine jm (vO hT hl ?_);have fin:js (ju prog w) A (Qaw slice false o i) (λr s₃=>js (ju prog w) A (letTemporaryGo value o r >>=λ_=>pure r) Q E s₃) E s₂:=by rw [hs o i];exact wpAny_operating (jW h₂ (λr s₃ h₃=>jm (wpAny_letTemporaryGo (jq h₃))) λ_ _ x=>x)
 first
  |exact jq (jm fin)
  |exact jm (jq (jm fin))
  |exact jm fin
theorem ZhY {X:Cx} {Zb:List (jo×Obj)} {σ:St} {H:Hp} {s:jn} {a:jo} {y:V} {o:Option V} (I:Inv X Zb σ H s) (g:DGet H a y o):s.TypeIs (.ref a) "dict":=by
 rcases g with ⟨kvs,k,e,_,_⟩|⟨kvs,k,b,e,_,_,_⟩
 ·obtain ⟨_,_,vs,_,dd⟩:=Zgj I.hok e;exact dd.typeIs
 ·obtain ⟨_,_,xs,_,dd⟩:=Zh1 I.hok e;exact dd.typeIs
noncomputable def ZkM (td ty:TE):TE:=λσ H Q=>td σ H λx H1=>ty σ H1 λy H2=>∃a v,x=.ref a/\DGet H2 a y (some v)/\Q v H2
noncomputable def Zqd (ty td:TE):TE:=λσ H Q=>ty σ H λy H1=>td σ H1 λx H2=>∃a o,x=.ref a/\DGet H2 a y o/\Q (.bl o.isSome) H2
noncomputable def ZeD (ty td:TE):TE:=λσ H Q=>ty σ H λy H1=>td σ H1 λx H2=>∃a o,x=.ref a/\DGet H2 a y o/\Q (.bl (!o.isSome)) H2
noncomputable def ZkJ (td ty tv:TE):TS:=λD σ H=>tv σ H λv H1=>td σ H1 λx H2=>ty σ H2 λy H3=>∃a H4,x=.ref a/\Zl4 H3 a y v H4/\D.nx σ H4
section
variable {X:Cx} {o i e value:jL} {pos pos' tpos:Pos} {td ty tv:TE}
theorem ZU (hu:X.A.units+1<cLine) (ho:PE X o td) (hi:PE X i ty) (hs:ZtQ i):PE X (.Subscript o i pos) (ZkM td ty):=by intro Zb s σ H Q I h;refine Zqc PySem.F.slot_dict_getitem.lookup hs (thn (ho Zb s σ H _ I h) λu s1 ⟨x,H1,I1,rx,q1⟩=>thn (hi Zb s1 σ H1 _ I1 q1) λiv s2 ⟨y,H2,I2,ry,a,v,ex,g,q2⟩=>?_);subst ex;obtain rfl:u=Value.ref a:=rx;exact ⟨ZhY I2 g,ZkX hu I2 g ry λw' s3 I3 rw'=>⟨v,H2,I3,rw',q2⟩⟩
theorem ZdJ (hu:X.A.units+1<cLine) (hi:PE X i ty) (ho:PE X o td):PC X .In i o (Zqd ty td):=by intro Zb s σ H Q I h;refine thn (hi Zb s σ H _ I h) λiv s1 ⟨y,H1,I1,ry,q1⟩=>thn (ho Zb s1 σ H1 _ I1 q1) λu s2 ⟨x,H2,I2,rx,a,ov,ex,g,q2⟩=>?_;subst ex;obtain rfl:u=Value.ref a:=rx;exact Zu0 hu I2 g ry λs3 I3=>⟨.bl ov.isSome,H2,I3,rfl,q2⟩
theorem ZdK (hu:X.A.units+1<cLine) (hi:PE X i ty) (ho:PE X o td):PC X .NotIn i o (ZeD ty td):=by intro Zb s σ H Q I h;refine thn (hi Zb s σ H _ I h) λiv s1 ⟨y,H1,I1,ry,q1⟩=>thn (ho Zb s1 σ H1 _ I1 q1) λu s2 ⟨x,H2,I2,rx,a,ov,ex,g,q2⟩=>?_;subst ex;obtain rfl:u=Value.ref a:=rx;exact Zpe hu I2 g ry λs3 I3=>⟨.bl (!ov.isSome),H2,I3,rfl,q2⟩
theorem ZbU (hu:X.A.units+1<cLine) (ho:PE X o td) (hi:PE X i ty) (hv:PE X value tv) (hs:u7 value (some (.Subscript o i pos')) pos.line X.env=pure false):
 PS X (.Assign [.Subscript o i pos'] value pos) (ZkJ td ty tv):=by
 intro Zb s σ H D I h;refine wpAny_Assign_Subscript (thn (hv Zb s σ H _ I h) λr s1 ⟨v,H1,I1,rv,q1⟩=>thn (ho Zb s1 σ H1 _ I1 q1) λu s2 ⟨x,H2,I2,rx,q2⟩=>thn (hi Zb s2 σ H2 _ I2 q2) λiv s3 ⟨y,H3,I3,ry,a,H4,ex,g,q3⟩=>?_) hs;subst ex;obtain rfl:u=Value.ref a:=rx;exact ZkY hu I3 g ry rv λs4 I4=>⟨σ,H4,I4,q3⟩
end
theorem ZmX {P:jx} {w:jG} {H:Hp} (h:Heap) (hb:uW<h.objs.size):za P w H (h.push {cls:=.type "dict",data:=.dict #[]}) h.objs.size (.dK []):=
 ⟨Qu _,beq_eq_false_iff_ne.mpr (Ne.symm (Qo hb)),[],.nil,Heap.DictOf.new h⟩
noncomputable def ZhA:TE:=λ_ H Q=>∀p,H p=none->Q (.ref p) (upd H p (.dK []))
section
variable {X:Cx} {pos:Pos}
theorem Zfo:PE X (.Dict [] [] pos) ZhA:=λZb s σ H Q I h=>
 wpAny_Dict_empty ⟨.ref s.heap.objs.size,_,I.laid (a:=s.heap.objs.size) (o:=.dK []) (t':=s.toks) (λ_ _ q=>Qe _ q) (Qf _) (ZmX s.heap I.big),rfl,h _ (I.hok.fresh (Qf _))⟩
end
structure M1 (X:Cx) (o:jL) (m:Str) (apos:Pos) (e:jL) (cpos:Pos):Prop where
 base:vo o m X.env (eval o X.env)=eval o X.env
 few:((ut cpos (jA [e] X.env)).all (λx=> !x.1) && (v6 cpos (vq [] X.env)).all (λx=>x.1.isSome)
  && decide (([e]:List jL).length+([]:List QaB).length+(if ([]:List QaB).isEmpty then 0 else 1)<30))=true
 line:(apos.endLine==cpos.line)=true
 trees:ut cpos (jA [e] X.env)=[(false,eval e X.env)]
noncomputable def IsD (H:Hp) (a:jo):Prop:=(∃kvs,Rd H a (.dK kvs))\/∃kvs,Rd H a (.dT kvs)
theorem ZrC {X:Cx} {Zb:List (jo×Obj)} {σ:St} {H:Hp} {s:jn} {a:jo} (I:Inv X Zb σ H s) (d:IsD H a):
 s.TypeIs (.ref a) "dict"/\(∀b,Value.ref a=.ref b->∃ob,s.heap.get? b=some ob/\ob.dict=none)/\(a==uW)=false:=by
 rcases d with ⟨kvs,e⟩|⟨kvs,e⟩
 ·obtain ⟨_,hd,vs,_,dd⟩:=Zgj I.hok e;refine ⟨dd.typeIs,λb q=>?_,hd⟩;cases q;obtain ⟨ob,_,_,h1,h2,_⟩:=dd;exact ⟨ob,h1,h2.2.1⟩
 ·obtain ⟨_,hd,xs,_,dd⟩:=Zh1 I.hok e;refine ⟨dd.typeIs,λb q=>?_,hd⟩;cases q;obtain ⟨ob,_,_,h1,h2,_⟩:=dd;exact ⟨ob,h1,h2.2.1⟩
noncomputable def ZhB (td ty:TE):TE:=λσ H Q=>td σ H λx H1=>∃a,x=.ref a/\IsD H1 a/\ty σ H1 λy H2=>∃kvs k v,H2 a=some (.dK kvs)/\y=kV k/\Z8 kvs k=some v/\Q v (upd H2 a (.dK (ZeX kvs k)))
section
variable {X:Cx} {o e f:jL} {apos cpos:Pos} {td ty tx:TE}
theorem ZiC (ho:PE X o td) (he:PE X e ty) (m:M1 X o "pop" apos e cpos):PE X (.Call (.Attribute o "pop" apos) [e] [] cpos) (ZhB td ty):=by intro Zb s σ H Q I h;refine wpAny_Call_method m.base m.few m.line PySem.F.plainAttrs_dict Wc PySem.F.type_dict_pop (thn (ho Zb s σ H _ I h) λu s1 ⟨x,H1,I1,rx,a,ex,d,q1⟩=>?_);subst ex;obtain rfl:u=Value.ref a:=rx;obtain ⟨t1,t2,_⟩:=ZrC I1 d;refine ⟨t1,t2,?_⟩;rw [m.trees];refine Calls.callWith_builtin rfl (Calls.evalArgs_plain (Calls.spliced_cons (thn (he Zb s1 σ H1 _ I1 q1) λiv s2 ⟨y,H2,I2,ry,kvs,k,v,ea,ey,l,q2⟩=>Calls.spliced_nil ?_)));subst ey;exact Zt2 I2 ea ry l (.inl rfl) λw' s3 I3 rw'=>⟨v,_,I3,rw',q2⟩
end
end L2
namespace LP
open PySem L2
theorem ZcG {α:Type} (l:List α) (i:Nat):cut l (some (i:Int)) none=l.drop i:=by
 unfold cut;show (l.drop (if (i:Int)<0 then ((i:Int)+(l.length:Int)).toNat else min (i:Int).toNat l.length)).take (l.length-(if (i:Int)<0 then ((i:Int)+(l.length:Int)).toNat else min (i:Int).toNat l.length))=l.drop i;rw [if_neg (by omega),Qm];by_cases h:i<=l.length
 ·rw [Uh h,QD (by rw [jO];omega)]
 ·rw [Vj (by omega),Ua (Qf _),Ua (by omega)];simp
theorem ZaT {α:Type} (f:Nat->α) {m i:Nat} (d:α) (h:i<m):((Qj m).map f).getD i d=f i:=by rw [Qb,Qh,Um h];rfl
theorem Zp1 (n:Nat):Zc6 0 ((n:Int)+1)=(Qj (n+1)).map λj:Nat=>V.int j:=by unfold Zc6;rw [show (((n:Int)+1)-0).toNat=n+1 by omega];refine uF λj _=>?_;rw [VM]
end LP
namespace L2
open PySem PySem.Spec PyProof.Rows
structure Md (P:jx) (w:jG) (K:Qa) (mg:Str->Option Value) (base:Heap) (CX:CXT) (k:Nat) (C:jo) (m:Str) (ps:List Str) (dvs:List V) (sp:Sp):Prop where
 ex:∃f fd ds,ZQ P w K mg base CX k f fd ps sp/\Zq0 K C m f/\Jj K fd ps ds/\ZA dvs ds
 cls:Cls K C
structure Mkr (P:jx) (w:jG) (K:Qa) (mg:Str->Option Value) (base:Heap) (CX:CXT) (k:Nat) (x:Str) (C:jo) (ps:List Str) (dvs:List V) (sp:Sp):Prop where
 ex:∃f fd ds,ZQ P w K mg base CX k f fd ps sp/\Mk K C f/\Jj K fd ps ds/\ZA dvs ds
 at_:mg x=some (.ref C)
section
variable {P:jx} {w:jG} {K:Qa} {mg:Str->Option Value} {base:Heap} {CX:CXT} {j k:Nat} {C:jo} {x m:Str} {ps:List Str} {dvs:List V} {sp:Sp}
theorem Zoo {f:jo} {fd:j9} (F:ZQ P w K mg base (CX1 P w) k f fd ps sp):ZQ P w K mg base CX0 k f fd ps (λvs H Q _=>sp vs H Q E0):=by
 refine ⟨λvs H Q E h=>F.len vs H Q E0 h,λA outer s H args us vs Q E hr e0 hb rv h=>?_⟩;refine ud (F.run A outer s H args us vs Q E0 hr e0 hb rv h) λr s' q=>?_
 cases r with
 |error e=>exact (ZmU q).elim
 |ok fl=>cases fl<;>exact q
theorem Md.quiet (M:Md P w K mg base (CX1 P w) k C m ps dvs sp):Md P w K mg base CX0 k C m ps dvs (λvs H Q _=>sp vs H Q E0):=by obtain ⟨f,fd,ds,F,r⟩:=M.ex;exact ⟨⟨f,fd,ds,Zoo F,r⟩,M.cls⟩
theorem Mkr.quiet (M:Mkr P w K mg base (CX1 P w) k x C ps dvs sp):Mkr P w K mg base CX0 k x C ps dvs (λvs H Q _=>sp vs H Q E0):=by obtain ⟨f,fd,ds,F,r⟩:=M.ex;exact ⟨⟨f,fd,ds,Zoo F,r⟩,M.at_⟩
end
section
variable {X:Cx} {k:Nat} {C:jo} {x m:Str} {ps:List Str} {dvs:List V} {sp:Sp} {o e:jL} {es:List jL} {ta:TE} {t:TA} {p pos apos:Pos}
theorem ZiD {pl:Sem Bool} (M:Md X.prog X.w X.K X.mg X.base CX0 k C m ps dvs sp) (hr:zH k X.A) (he:PE X o ta) (ha:PA X (e::es) t)
 (hst:jA (e::es) X.env=(false,eval e X.env)::jA es X.env:=by rfl) (hpl:(ut pos (jA es X.env)).any (·.1)=false:=by rfl)
 (ht:eval (.Call (.Attribute o m apos) (e::es) [] pos) X.env=(do
  let ov <-eval o X.env
  standAt apos.atName
  let (f,first) <-vN [ov] (Qat ov m pl)
  callWith pos f first (ut pos (jA (e::es) X.env)) (v6 pos (vq [] X.env))):=by rfl):PE X (.Call (.Attribute o m apos) (e::es) [] pos) (ZoJ C m sp dvs E0 ta t):=by
 obtain ⟨f,fd,ds,F,hm,hb,hd⟩:=M.ex;exact ZpM he M.cls hm F hr hb hd Ziz ha hst hpl ht
theorem Zur (M:Mkr X.prog X.w X.K X.mg X.base CX0 k x C ps dvs sp) (hr:zH (k+1) X.A) (ha:PA X (e::es) t) (hg:Gl X x:=by rfl) (hdb:(x==("__debug__":Str))=false:=by decide)
 (he:jA (e::es) X.env=(false,eval e X.env)::jA es X.env:=by rfl) (hpl:(ut pos (jA es X.env)).any (·.1)=false:=by rfl):PE X (.Call (.Name x p) (e::es) [] pos) (ZiT C sp dvs E0 t):=by
 obtain ⟨f,fd,ds,F,hm,hb,hd⟩:=M.ex;exact ZpK hm F hr hg M.at_ hb hd Ziz ha hdb he hpl
variable {F:St->XK}
theorem Tk.at {σ:St} (T:Tk X F):∀(Zb:List (jo×Obj)) (H:Hp) (s:jn) (e:Value) (s':jn),Inv X Zb σ H s->CX1 X.prog X.w X.stack H s (F σ) e s'->X.xe e s':=λZb H s e s' I h=>T.pass Zb σ H s e s' I h
theorem Zp4 {Zb:List (jo×Obj)} {σ:St} {H:Hp} {s:jn} {Q:VK} {us:List Value} {vs:List V} {f:jo} {fd:j9} {ds:List Value} (T:Tk X F) (G:ZQ X.prog X.w X.K X.mg X.base (CX1 X.prog X.w) k f fd ps sp) (hr:zH k X.A) (hb:Jj X.K fd ps ds) (hd:ZA dvs ds)
 (I:Inv X Zb σ H s) (r:ZA vs us) (h:sp (vs++dvs) H Q (F σ)):js (ju X.prog X.w) X.A (call (.ref f) us) (EP X Zb σ Q) X.xe s:=by
 have r2:ZA (vs++dvs) (us++ds):=r.append hd;have hl:(us++ds).length=ps.length:=by rw [<-r2.length];exact G.len _ _ _ _ h
 refine uO (ud (G.run X.A X.stack s H ⟨us,[]⟩ (us++ds) (vs++dvs) Q (F σ) hr I.env0 (hb s us I.kIn hl) r2 h) λr s' hq=>?_)
 cases r with
 |error e=>exact T.pass Zb σ H s e s' I hq
 |ok fl=>
  cases fl with
  |ret u=>exact I.after hq
  |next=>exact False.elim hq
  |brk=>exact False.elim hq
  |cont=>exact False.elim hq
noncomputable def ZoK (F:St->XK) (C:jo) (m:Str) (sp:Sp) (dvs:List V) (ta:TE) (t:TA):TE:=λσ H Q=>ta σ H λx H1=>∃a dx fs,x=.ref a/\H1 a=some (.ins C dx fs)/\fs.lookup m=none/\t σ H1 λvs H2=>sp (x::(vs++dvs)) H2 Q (F σ)
theorem Zct {pl:Sem Bool} (T:Tk X F) (M:Md X.prog X.w X.K X.mg X.base (CX1 X.prog X.w) k C m ps dvs sp) (hr:zH k X.A) (he:PE X o ta) (ha:PA X (e::es) t)
 (hst:jA (e::es) X.env=(false,eval e X.env)::jA es X.env:=by rfl) (hpl:(ut pos (jA es X.env)).any (·.1)=false:=by rfl)
 (ht:eval (.Call (.Attribute o m apos) (e::es) [] pos) X.env=(do
  let ov <-eval o X.env
  standAt apos.atName
  let (f,first) <-vN [ov] (Qat ov m pl)
  callWith pos f first (ut pos (jA (e::es) X.env)) (v6 pos (vq [] X.env))):=by rfl):PE X (.Call (.Attribute o m apos) (e::es) [] pos) (ZoK F C m sp dvs ta t):=by
 obtain ⟨f,fd,ds,G,hm,hb,hd⟩:=M.ex;intro Zb s σ H Q I h;refine methodCall_KW (pl:=pl) (thn (he Zb s σ H _ I h) λu s1 ⟨x,H1,I1,rx,a,dx,fs,ex,ea,l,q⟩=>?_) ht;subst ex;obtain rfl:u=Value.ref a:=rx;refine Ze3 I1 ea M.cls hm l ?_;refine vj (first:=[.ref a]) (h₀:=X.base) I.ok.mod.kin hm.kp (thn (ha pos Zb s1 σ H1 _ I1 q) λus s2 ⟨vs,H2,I2,r,q2⟩=>⟨I2.kIn,?_⟩) hst hpl;exact Zp4 (us:=.ref a::us) (vs:=.ref a::vs) T G hr hb hd I2 (.cons rfl r) q2
noncomputable def ZoH (F:St->XK) (C:jo) (sp:Sp) (dvs:List V) (t:TA):TE:=λσ H Q=>t σ H λvs H1=>∀x dx,H1 x=none->H1 dx=none->dx≠x->
 sp (.ref x::(vs++dvs)) (upd (upd H1 dx (.own x)) x (.ins C dx [])) (λv H2=>v=.non/\Q (.ref x) H2) (F σ)
theorem Zsr (T:Tk X F) (M:Mkr X.prog X.w X.K X.mg X.base (CX1 X.prog X.w) k x C ps dvs sp) (hr:zH (k+1) X.A) (ha:PA X (e::es) t) (hg:Gl X x:=by rfl) (hdb:(x==("__debug__":Str))=false:=by decide)
 (he:jA (e::es) X.env=(false,eval e X.env)::jA es X.env:=by rfl) (hpl:(ut pos (jA es X.env)).any (·.1)=false:=by rfl):PE X (.Call (.Name x p) (e::es) [] pos) (ZoH F C sp dvs t):=by
 obtain ⟨f,fd,ds,G,hm,hb,hd⟩:=M.ex;intro Zb s σ H Q I h;refine j4 (Jf I hg M.at_ ?_ hdb);refine vj (h₀:=X.base) I.ok.mod.kin hm.kp (thn (ha pos Zb s σ H _ I h) λus s1 ⟨vs,H1,I1,r,q⟩=>⟨I1.kIn,?_⟩) he hpl;have hq:=q (s1.heap.objs.size+1) s1.heap.objs.size (I1.hok.fresh (Va _)) (I1.hok.fresh (Qf _)) (Qo (UV _));have I2:=Inv.made (C:=C) I1;have r2:ZA (V.ref (s1.heap.objs.size+1)::(vs++dvs)) (Value.ref (s1.heap.objs.size+1)::(us++ds)):=.cons rfl (r.append hd);have hl:(Value.ref (s1.heap.objs.size+1)::us++ds).length=ps.length:=by have e:=r2.length;rw [G.len _ _ _ _ hq] at e;exact e.symm
 refine uO (Zin (f:=f) I1.kIn hm.makes hm.init (beq_iff_eq.mp hm.fn) (ud (G.run _ X.stack _ _ ⟨Value.ref (s1.heap.objs.size+1)::us,[]⟩ (Value.ref (s1.heap.objs.size+1)::(us++ds)) _ _ (F σ) (hr.make C us [])
  (I2.env0.make C us []) (hb _ (Value.ref (s1.heap.objs.size+1)::us) I2.kIn hl) r2 hq) λr s' hq'=>?_))
 cases r with
 |error e=>exact T.pass Zb σ _ _ e s' I2 hq'
 |ok fl=>
  cases fl with
  |ret u=>
   obtain ⟨v,H',I3,rv,ev,q3⟩:=I2.after hq';subst ev;exact ⟨rv,⟨V.ref (s1.heap.objs.size+1),H',I3,rfl,q3⟩⟩
  |next=>exact False.elim hq'
  |brk=>exact False.elim hq'
  |cont=>exact False.elim hq'
end
structure ZaC (k:Nat) (A:Around):Prop where
 dp:A.depth+3 * k+5<recursionLimit
 un:A.units+16 * k+200<cLine
theorem zH.toW {k:Nat} {A:Around} (r:zH k A):ZaC k A:=⟨r.dp,r.un⟩
theorem ZaC.mono {j k:Nat} {A:Around} (r:ZaC k A) (h:j<=k):ZaC j A:=⟨by have:=r.dp;omega,by have:=r.un;omega⟩
theorem ZaC.deeper {k:Nat} {A:Around} (r:ZaC (k+1) A) (env:Env):ZaC k (A.deeper env):=
 ⟨by have:=r.dp;show A.depth+1+3 * k+5<_;omega,by have:=r.un;show A.units+3+16 * k+200<_;omega⟩
theorem ZaC.mark {k:Nat} {A:Around} (r:ZaC k A) (v:Option Value):ZaC k (A.mark v):=⟨r.dp,r.un⟩
noncomputable abbrev still (A:Around):Around:= {A with handled:=none}
noncomputable def cxW (P:jx) (w:jG) (K:Qa) (mg:Str->Option Value) (base:Heap) (N:List Str) (qual:Str) (scope:Scope) (f:jo) (cd:Value) (A:Around) (outer:List Env) (s:jn) (H:Hp):Cx:=
 {Jm CX0 P w K mg base N qual scope f cd A outer s H E0 with calm:=false,xe:=λ_ _=>False}
theorem Inv.toW {P:jx} {w:jG} {K:Qa} {mg:Str->Option Value} {base:Heap} {N:List Str} {qual:Str} {scope:Scope} {f:jo} {cd:Value} {A:Around} {outer:List Env} {s:jn} {H:Hp} {Zb:List (jo×Obj)} {σ:St} {H1:Hp} {s1:jn}
 (I:Inv (Jm CX0 P w K mg base N qual scope f cd (still A) outer s H E0) Zb σ H1 s1):Inv (cxW P w K mg base N qual scope f cd A outer s H) Zb σ H1 s1:=
 ⟨⟨I.ok.mod,I.ok.kind,I.ok.glob,I.ok.blt,I.ok.above,I.ok.inj,I.ok.has,I.ok.cab,λz=>absurd (show false=true from z) Qg,I.ok.frames,I.ok.stk,I.ok.exf,I.ok.bs,I.ok.bsz,I.ok.noex,I.ok.exfs,I.ok.funs,I.ok.frf⟩,I.os,I.bare,I.base,I.loc,I.cell,I.free,I.freeC,I.pin,I.hok,I.len⟩
theorem ZeG.still {P:jx} {w:jG} {K:Qa} {mg:Str->Option Value} {base:Heap} {A:Around} {outer:List Env} {s:jn} {H:Hp} (e:ZeG P w K mg base A outer s H):ZeG P w K mg base (still A) outer s H:=
 ⟨e.frames,e.mod,e.bs,e.bsz,e.funs,e.frf,e.hok,e.bare⟩
noncomputable def ZqL (t:TS):TS:=λD σ H=>∃N:St->Hp->Prop,t {nx:=N,rt:=D.rt,bk:=D.bk,ct:=D.ct} σ H/\∀σ' H',N σ' H'->D.nx σ' H'
theorem zD {t:TS} {D:Zap} {σ:St} {H:Hp} (N:St->Hp->Prop) (h1:t {nx:=N,rt:=D.rt,bk:=D.bk,ct:=D.ct} σ H) (h2:∀σ' H',N σ' H'->D.nx σ' H'):ZqL t D σ H:=⟨N,h1,h2⟩
theorem ZF {X:Cx} {st:Stmt} {t:TS} (h:PS X st t):PS X st (ZqL t):=by
 rintro Zb s σ H D I ⟨N,q,hn⟩;refine thn (h Zb s σ H _ I q) λf s1 z=>?_
 cases f with
 |next=>obtain ⟨σ1,H1,I1,q⟩:=z;exact ⟨σ1,H1,I1,hn _ _ q⟩
 |brk=>exact z
 |cont=>exact z
 |ret u=>exact z
end L2
namespace LP
open PySem L2
theorem Zpd {α:Type} (l:List α) (i m:Nat):cut l (some (i:Int)) (some ((i:Int)+(m:Int)))=(l.drop i).take m:=by
 unfold cut;show (l.drop (if (i:Int)<0 then ((i:Int)+(l.length:Int)).toNat else min (i:Int).toNat l.length)).take ((if (i:Int)+(m:Int)<0 then ((i:Int)+(m:Int)+(l.length:Int)).toNat else min ((i:Int)+(m:Int)).toNat l.length)-(if (i:Int)<0 then ((i:Int)+(l.length:Int)).toNat else min (i:Int).toNat l.length))=(l.drop i).take m;rw [if_neg (by omega),if_neg (by omega),Qm,show ((i:Int)+(m:Int)).toNat=i+m by omega];by_cases h:i<=l.length
 ·rw [Uh h];by_cases h2:i+m<=l.length
  ·rw [Uh h2,UL]
  ·rw [Vj (by omega),QD (by rw [jO];omega),QD (by rw [jO];omega)]
 ·have e1:min i l.length=l.length:=by omega
  rw [e1,Ua (Qf _),Ua (by omega)];simp
noncomputable def plc (l p:List Nat):List Nat:=(Qj ((l.length:Int)-(p.length:Int)+1).toNat).filter λi=>decide ((l.drop i).take p.length=p)
end LP
namespace L2
open PySem PySem.Spec PyProof.Rows
section
variable {X:Cx}
theorem ZiG {Cd:Cx->Prop} {elt iter target:jL} {i₀:Nat} {y₀:Str} {p₀ p₁:Pos} {ifs:List jL} {scope:Scope} {pos:Pos} {cl:List (Str×jo)} {own:List Str} {cp:List (Str×Nat)} {wi:TI} {g:TG} {tc:TT} {te:TE}
 (hc:∀fp c s H,Cd (cxC X scope cl (own++cp.map (·.1)) fp c s H)) (hcl:Ye scope.names X.env.cells []=some cl) (hk:scope.kind=.function) (hnc:∀y∈scope.names,y.2≠ .cell)
 (hnm:∀x∈scope.names,x.2=.local->scope.names.lookup x.1=some .local) (hcp:YT X scope cp) (hi:PIG Cd X target iter wi) (gk:ZeH own.length g)
 (hg:∀fp C s H,PG (cxC X scope cl (own++cp.map (·.1)) fp C s H) target g) (ht:∀fp C s H,PFs (cxC X scope cl (own++cp.map (·.1)) fp C s H) ifs tc) (he:∀fp C s H,PE (cxC X scope cl (own++cp.map (·.1)) fp C s H) elt te)
 (hN:X.N.Nodup) (hi₀:X.N[i₀]?=some y₀) (hx₀:X.env.scope.names.lookup y₀=some .local) (hsw:u7 (.ListComp elt [⟨target,iter,ifs,0⟩] scope pos) (some (.Name y₀ p₀)) p₁.line X.env=pure true)
 (hs:∀x,jK iter X.env x=pure x:=by intro _;rfl):PS X (.Assign [.Name y₀ p₀] (.ListComp elt [⟨target,iter,ifs,0⟩] scope pos) p₁) (Zhz (ZiS own.length cp wi g tc te) (Yg i₀)):=by
 intro Zb s σ H D I h;rw [exec_Assign_Name_used _ _ _ _ hsw];refine jm (wpAny_standAt (jm ?_));show js _ _ (comprehension (.ListComp elt [⟨target,iter,ifs,0⟩] scope pos) scope X.env (firstIterPos [⟨target,iter,ifs,0⟩] pos) (newList []) false (eval iter X.env) (some (v7 (.Name y₀ p₀) X.env)) >>=λ_=>pure ()) _ _ s;refine jm ?_;refine Zgi hc hcl hk hnc hnm hcp hi gk hg ht he hs I h λ{s2 s5 C fp H2 H' acc its k} I2 f2 hC I5 rv hz fin=>?_;obtain ⟨mm,hmm,_⟩:=I5.loc;have hmm:s5.heap.Ns C mm:=hmm;obtain ⟨hn,I6⟩:=ZhW (h'':=s5.heap) I2 f2 rfl hC I5 rv hz ⟨rfl,λ_ _=>rfl⟩;obtain ⟨oC,eC,pC,g1,g2,g3⟩:=id hmm;have hC2:s2.heap.objs.size<=C:=QT hC;have fC:ZbX X Zb (upd H' s2.heap.objs.size (.lst acc)) C:=I2.fpOk hC2 (by rw [Zi (Q5 hC)];exact I5.free)
 have I7:Inv X (Zb++[(C,oC)]) σ (upd H' s2.heap.objs.size (.lst acc)) s5:=I6.pins_of λp hp=>by
  rcases jN.mp hp with hp|hp
  ·exact I6.pin p (jB _ hp)
  ·cases jC.mp hp;exact ⟨g1,fC.1,fC.2.1,fC.2.2.1,λv z=>by rw [g2] at z;cases z⟩
 refine wpAny_assign_Name (ZbJ I7 hN hi₀ (.inl hx₀) (show ZP (.ref s2.heap.objs.size) (.ref s2.heap.objs.size) from rfl) (λs6 I8=>?_) (.inr hx₀));have e6:=(I8.pin (C,oC) (jB _ (jB _ (jC.mpr rfl)))).1;refine ⟨mm,⟨oC,eC,pC,e6,g2,g3⟩,λh'' hs''=>jq (jq ⟨_,_,I8.unpinned.turned (t':=s6.toks) (it:=C) (λb o hb e=>(hs''.2 b hb).trans e) fC.1 fC.2.1 fC.2.2.2.1 fC.2.2.2.2.1 fC.2.2.2.2.2,fin hn⟩)⟩
theorem ZpS {elt iter target:jL} {i₀:Nat} {y₀:Str} {p₀ p₁:Pos} {ifs:List jL} {scope:Scope} {pos:Pos} {cl:List (Str×jo)} {own:List Str} {cp:List (Str×Nat)} {wi:TI} {g:TG} {tc:TT} {te:TE}
 (hc:X.calm=true) (hcl:Ye scope.names X.env.cells []=some cl) (hk:scope.kind=.function) (hnc:∀y∈scope.names,y.2≠ .cell)
 (hnm:∀x∈scope.names,x.2=.local->scope.names.lookup x.1=some .local) (hcp:YT X scope cp) (hi:PI X target iter wi) (gk:ZeH own.length g)
 (hg:∀fp C s H,PG (cxC X scope cl (own++cp.map (·.1)) fp C s H) target g) (ht:∀fp C s H,PFs (cxC X scope cl (own++cp.map (·.1)) fp C s H) ifs tc) (he:∀fp C s H,PE (cxC X scope cl (own++cp.map (·.1)) fp C s H) elt te)
 (hN:X.N.Nodup) (hi₀:X.N[i₀]?=some y₀) (hx₀:X.env.scope.names.lookup y₀=some .local) (hsw:u7 (.ListComp elt [⟨target,iter,ifs,0⟩] scope pos) (some (.Name y₀ p₀)) p₁.line X.env=pure true)
 (hs:∀x,jK iter X.env x=pure x:=by intro _;rfl):PS X (.Assign [.Name y₀ p₀] (.ListComp elt [⟨target,iter,ifs,0⟩] scope pos) p₁) (Zhz (ZiS own.length cp wi g tc te) (Yg i₀)):=
 ZiG (Cd:=λX=>X.calm=true) (λ_ _ _ _=>hc) hcl hk hnc hnm hcp hi.toG gk hg ht he hN hi₀ hx₀ hsw hs
theorem Zok {i₀:Nat} {y₀:Str} {p₀ p₁:Pos} {elt a:jL} {ifs:List jL} {x:Str} {px p p':Pos} {scope:Scope} {pos:Pos} {cl:List (Str×jo)} {own:List Str} {cp:List (Str×Nat)} {ta:TA} {tc:TT} {te:TE}
 (hm:X.mg "range"=none) (hc:X.calm=true) (hcl:Ye scope.names X.env.cells []=some cl) (hk:scope.kind=.function) (hnc:∀y∈scope.names,y.2≠ .cell)
 (hnm:∀x∈scope.names,x.2=.local->scope.names.lookup x.1=some .local) (hcp:YT X scope cp) (ha:PA X [a] ta) (hn:0<own.length)
 (hg:∀fp C s H,PG (cxC X scope cl (own++cp.map (·.1)) fp C s H) (.Name x px) (Yg 0)) (ht:∀fp C s H,PFs (cxC X scope cl (own++cp.map (·.1)) fp C s H) ifs tc) (he:∀fp C s H,PE (cxC X scope cl (own++cp.map (·.1)) fp C s H) elt te)
 (hN:X.N.Nodup) (hi₀:X.N[i₀]?=some y₀) (hx₀:X.env.scope.names.lookup y₀=some .local) (hsw:u7 (.ListComp elt [⟨.Name x px,.Call (.Name "range" p) [a] [] p',ifs,0⟩] scope pos) (some (.Name y₀ p₀)) p₁.line X.env=pure true:=by rfl)
 (hgl:Gl X "range":=by rfl) (hst:jA [a] X.env=[(false,eval a X.env)]:=by rfl)
 (hs:∀z,jK (.Call (.Name "range" p) [a] [] p') X.env z=pure z:=by intro _;rfl):PS X (.Assign [.Name y₀ p₀] (.ListComp elt [⟨.Name x px,.Call (.Name "range" p) [a] [] p',ifs,0⟩] scope pos) p₁) (Zhz (tCR own.length cp ta tc te) (Yg i₀)):=by
 have ha':PA X [a] (λσ H Q=>∃Q0:List V->Hp->Prop,ta σ H Q0/\∀v H',Q0 v H'->Q v H'):=ha.imp λσ H Q h=>h;intro Zb s σ H D I h;refine ZpS hc hcl hk hnc hnm hcp (ZdL hgl hm ha' hst) (ZbQ hn) hg (λfp C s H=>(ht fp C s H).imp (t':=Zi7 tc) λ_ _ _ z=>z) (λfp C s H=>(he fp C s H).imp (t':=Zi6 te) λ_ _ _ z=>z) hN hi₀ hx₀ hsw hs Zb s σ H D I ?_;refine ⟨_,h,λvs H1 q=>?_⟩;split at q
 ·rename_i j;obtain ⟨⟨b1,b2⟩,Pv,p0,ps,pe⟩:=q;have hsl:sizeLine=16777216:=jw;refine ⟨j,rfl,b1,by omega,λi m H2 acc=>m=j.toNat-i/\i<=j.toNat/\acc.length<=i/\Pv i H2 acc,⟨j.toNat,by omega,Qu _,Qf _,p0⟩,?_⟩;rintro i m H2 acc ⟨rfl,hi,hl,pv'⟩;refine ⟨by omega,?_⟩;by_cases hlt:i<j.toNat
  ·refine .inr ⟨hlt,λy H3 ⟨e3,ey⟩=>?_⟩;subst e3 ey;rw [show (0:Int)+(i:Int)=(i:Int) from VM _];exact ZaF (N':=λH a=>∃m',m'<j.toNat-i/\(m'=j.toNat-(i+1)/\i+1<=j.toNat/\a.length<=i+1/\Pv (i+1) H a)) (λH a ha z=>⟨j.toNat-(i+1),by omega,rfl,hlt,by omega,z⟩) (ps i H3 acc hlt pv')
  ·have e:i=j.toNat:=by omega
   subst e;exact .inl ⟨Qf _,λl hl'=>pe H2 acc pv' l hl'⟩
 ·exact q.elim
end
end L2
namespace LO
noncomputable def ltk (t:List Nat) (k:Nat):List Nat:=((ord t).take k).filterMap (zI t)
theorem Zku (t:List Nat) {n:Nat} (h:t.length+1<=n):ltk t n=ze t:=by unfold ltk ze;rw [QD (by rw [YD];exact h)]
theorem ZnR {t:List Nat} {k:Nat} (h:(ord t)[k]?=some 0):ltk t (k+1)=ltk t k:=by unfold ltk;rw [Ub,h,Vq];simp [zI]
theorem ZnS {t:List Nat} {k j:Nat} (h:(ord t)[k]?=some j) (hj:0<j):ltk t (k+1)=ltk t k++[t.getD (j-1) 0]:=by
 have hm:j<=t.length:=JS.mp (QF h);have e:zI t j=some (t.getD (j-1) 0):=by unfold zI;rw [if_neg (by omega),Qb,Qd (by omega)];rfl
 unfold ltk;rw [Ub,h,Vq];simp [e]
theorem Zpz (t:List Nat) (k:Nat):(ltk t k).length<=k:=by unfold ltk;exact QE (List.length_filterMap_le _ _) (by rw [jF];omega)
theorem ZpG (t:List Nat):((ord t).map λi:Nat=>L2.V.int i)=((ord t).map λi:Nat=>(i:Int)).map L2.V.int:=by rw [uM];rfl
theorem Zib (t:List Nat):(0:Int)∈(ord t).map λi:Nat=>(i:Int):=UF.mpr ⟨0,JS.mpr (Qu _),rfl⟩
theorem Zns (t:List Nat):((ord t).map λi:Nat=>(i:Int)).idxOf 0=Zdt t:=by
 have hlt:=VX (Zib t);have hk:=List.getElem_idxOf hlt;rw [VN] at hk;refine (ZeB (l:=t) (k:=((ord t).map λi:Nat=>(i:Int)).idxOf 0) (j:=0) ?_).symm;rw [Qd (by simpa using hlt)]
 congr 1
 omega
theorem Zo1 (t:List Nat):(ord t)[Zdt t]?=some 0:=ZaG (Qu _)
theorem Zpr (t:List Nat):Zdt t<t.length+1:=Zhm (Qu _)
end LO
namespace L2
open PySem PySem.Spec PyProof.Rows
inductive EqT (K:Qa) (H:Hp):Nat->V->V->Prop
 |flat {n:Nat} {x y:V} (hx:JO x=true) (hy:JO y=true) (h:eqV x y=true):EqT K H n x y
 |same {n:Nat} (a:jo):EqT K H n (.ref a) (.ref a)
 |tup {n:Nat} {a b:jo} {xs ys:List V} (ha:SqT K H a xs) (hb:SqT K H b ys) (hl:xs.length=ys.length) (h:∀(j:Nat) (x y:V),xs[j]?=some x->ys[j]?=some y->EqT K H n x y):EqT K H (n+1) (.ref a) (.ref b)
 |lst {n:Nat} {a b:jo} {xs ys:List V} (ha:SqL K H a xs) (hb:SqL K H b ys) (hl:xs.length=ys.length) (h:∀(j:Nat) (x y:V),xs[j]?=some x->ys[j]?=some y->EqT K H n x y):EqT K H (n+1) (.ref a) (.ref b)
section
variable {X:Cx} {Zb:List (jo×Obj)} {σ:St} {H:Hp} {s:jn}
theorem ZbW {xs ys:List V} {us vs:List Value} (r1:ZA xs us) (r2:ZA ys vs) (j:Nat) (h1:j<us.length) (h2:j<vs.length):∃x y,xs[j]?=some x/\ys[j]?=some y/\ZP x us[j]/\ZP y vs[j]:=by
 have l1:=r1.length;have l2:=r2.length;have e1:xs[j]?=some xs[j]:=by simp [l1,h1]
 have e2:ys[j]?=some ys[j]:=by simp [l2,h2]
 obtain ⟨u,hu,ru⟩:=r1.get e1;obtain ⟨v,hv,rv⟩:=r2.get e2;rw [Qd h1] at hu;rw [Qd h2] at hv;have hu:=Option.some.inj hu;have hv:=Option.some.inj hv;subst hu hv;exact ⟨_,_,e1,e2,ru,rv⟩
theorem ZcE (n:Nat):(Qj n).all (λ_=>true)=true:=by rw [List.all_eq_true];intro _ _;rfl
theorem EqT.at (I:Inv X Zb σ H s) {n:Nat} {x y:V} (h:EqT X.K H n x y):∀{A:Around} {u v:Value},ZP x u->ZP y v->A.units+n<cLine->SeqAt.EqAt A s u v true:=by
 induction h with
 |flat hx hy h=>
  intro A u v ru rv _;have:=Zm7 (A:=A) (s:=s) ru rv hx hy;rwa [h] at this
 |same a=>
  intro A u v ru rv _;obtain rfl:u=Value.ref a:=ru;obtain rfl:v=Value.ref a:=rv;exact SeqAt.EqAt.same _
 |@tup n a b xs ys ha hb hl h ih=>
  intro A u v ru rv hu;obtain rfl:u=Value.ref a:=ru;obtain rfl:v=Value.ref b:=rv;by_cases hab:a=b
  ·subst hab;exact SeqAt.EqAt.same _
  obtain ⟨its,r1,p1,z1⟩:=I.tuple ha;obtain ⟨ist,r2,p2,z2⟩:=I.tuple hb;have l1:=r1.length;have l2:=r2.length;have:=SeqAt.RcAt.tuples (A:=A) (e:=λ_=>true) p1 p2 (by omega) λj h1 h2=>by obtain ⟨x,y,e1,e2,rx,ry⟩:=ZbW r1 r2 j (by simpa using h1) (by simpa using h2);exact ih j x y e1 e2 rx ry (by rw [Around.in1_units];omega)
  rw [ZcE,show (its.toArray.size==ist.toArray.size)=true by simp;omega] at this;exact SeqAt.EqAt.of_refs hab this
 |@lst n a b xs ys ha hb hl h ih=>
  intro A u v ru rv hu;obtain rfl:u=Value.ref a:=ru;obtain rfl:v=Value.ref b:=rv;by_cases hab:a=b
  ·subst hab;exact SeqAt.EqAt.same _
  obtain ⟨its,r1,p1,z1⟩:=I.list ha;obtain ⟨ist,r2,p2,z2⟩:=I.list hb;have l1:=r1.length;have l2:=r2.length;have:=SeqAt.RcAt.lists (A:=A) (e:=λ_=>true) p1.isList p2.isList (by simp;omega) (by omega) λj h1 h2=>by obtain ⟨x,y,e1,e2,rx,ry⟩:=ZbW r1 r2 j (by simpa using h1) (by simpa using h2);exact ih j x y e1 e2 rx ry (by rw [Around.in1_units];omega)
  rw [ZcE] at this;exact SeqAt.EqAt.of_refs hab this
end
noncomputable def ZjW (K:Qa) (H:Hp) (a b:jo):Prop:=∃xs ys,((SqL K H a xs/\SqL K H b ys)\/(SqT K H a xs/\SqT K H b ys))/\xs.length=ys.length/\∀(j:Nat) (x y:V),xs[j]?=some x->ys[j]?=some y->EqT K H 4 x y
noncomputable def Zmz (K:Qa) (neg:Bool):R2:=λx y H Q=>match x,y with
 | .ref a,.ref b=>ZjW K H a b/\Q (.bl (!neg)) H
 |_,_=>False
section
variable {X:Cx}
theorem Zkx {K:Qa} {k:Nat} (hK:X.K=K) (hr:zH k X.A):OpR X (jZ .Eq) (Zmz K false):=by
 subst hK;intro Zb s σ H x y v u Q I rx ry h;unfold Zmz at h;split at h
 ·rename_i a b;obtain ⟨⟨xs,ys,q12,hl,ha⟩,q⟩:=h;cases rx;cases ry;have hu:X.A.units+20<cLine:=by have:=hr.un;omega
  rcases q12 with ⟨q1,q2⟩|⟨q1,q2⟩
  ·obtain ⟨its,r1,p1,z1⟩:=I.list q1;obtain ⟨ist,r2,p2,z2⟩:=I.list q2;have l1:=r1.length;have l2:=r2.length;refine SeqAt.eq_listAt (e:=λ_=>true) p1.isList p2.isList (by simp;omega) (by omega) (λj h1 h2=>?_) ?_
   ·obtain ⟨x,y,e1,e2,rx,ry⟩:=ZbW r1 r2 j (by simpa using h1) (by simpa using h2);exact (ha j x y e1 e2).at I rx ry (by rw [Around.in1_units];omega)
   ·rw [ZcE];exact ZO I q rfl
  ·obtain ⟨its,r1,p1,z1⟩:=I.tuple q1;obtain ⟨ist,r2,p2,z2⟩:=I.tuple q2;have l1:=r1.length;have l2:=r2.length;refine SeqAt.eq_tupleAt (e:=λ_=>true) p1 p2 (by omega) (λj h1 h2=>?_) ?_
   ·obtain ⟨x,y,e1,e2,rx,ry⟩:=ZbW r1 r2 j (by simpa using h1) (by simpa using h2);exact (ha j x y e1 e2).at I rx ry (by rw [Around.in1_units];omega)
   ·rw [ZcE,show (its.toArray.size==ist.toArray.size)=true by simp;omega];exact ZO I q rfl
 ·exact h.elim
end
end L2
namespace LP
open PySem L2
noncomputable def flat (rs:List (Nat×Nat)):List Nat:=(rs.map λr=>Qv r.2 r.1).flatten
noncomputable def Zqs (H H':Hp):Prop:=∀t xs,H t=some (.tup xs)->H' t=some (.tup xs)
theorem ZiL {H H':Hp} (sm:Zt H H'):Zqs H H':=λt xs h=>sm t _ h
end LP
namespace L2
open PySem PySem.Spec PyProof.Rows
theorem zG {x y:Nat} (h:x≠y):@Ne jo x y:=h
theorem Zl1 {n a b:Nat} (la:a<n) (lb:b<n):@v8 (n+4:Nat) (n+2:Nat) (n+3:Nat) n (n+1:Nat) a b:=
 ⟨zG (by omega),zG (by omega),zG (by omega),zG (by omega),zG (by omega),zG (by omega),zG (by omega),zG (by omega),zG (by omega),
  zG (by omega),zG (by omega),zG (by omega),zG (by omega),zG (by omega),zG (by omega),zG (by omega),zG (by omega),zG (by omega)⟩
section
variable {X:Cx} {es:List jL} {k:Nat} {tp:Pos}
noncomputable abbrev g2 (K:Qa) (i j:Nat):TG:=Zlb K 2 (Zgn (Yg i) (Zgn (Yg j) Znk))
theorem Zu1 {K:Qa} {n i j:Nat} (hi:i<n) (hj:j<n):ZeH n (g2 K i j):=by intro x σ H Q q;obtain ⟨a,xs,e1,e2,e3,v,vr,e4,v',vr',e5,e6,q⟩:=q;refine ⟨a,xs,e1,e2,e3,v,vr,e4,v',vr',e5,e6,q,λk hk=>?_⟩;rw [Uj (by omega),Uj (by omega)]
section
variable {elt iter:jL} {ifs:List jL} {u v:Str} {pu pv:Pos} {scope:Scope} {pos:Pos} {cl:List (Str×jo)} {own:List Str} {cp:List (Str×Nat)} {ta:TA} {tl:TE} {tc:TT} {te:TE}
theorem Zu7 {hc:X.calm=true} {N:List Str} (gu:∀fp C s H,PG (cxC X scope cl N fp C s H) (.Name u pu) (Yg 0)) (gv:∀fp C s H,PG (cxC X scope cl N fp C s H) (.Name v pv) (Yg 1))
 (h1:∀C,(jR [.Name u pu,.Name v pv] (um scope cl C X.env)).map (·.2)=v7 (.Name u pu) (um scope cl C X.env)::(jR [.Name v pv] (um scope cl C X.env)).map (·.2)) (h2:∀C,(jR [.Name v pv] (um scope cl C X.env)).map (·.2)=v7 (.Name v pv) (um scope cl C X.env)::(jR [] (um scope cl C X.env)).map (·.2))
 (h3:∀C,(jR [.Name u pu,.Name v pv] (um scope cl C X.env)).length=2) (h4:∀C,(jR [.Name u pu,.Name v pv] (um scope cl C X.env)).findIdx? (·.1)=none) (fp:List jo) (C:jo) (s:jn) (H:Hp):PG (cxC X scope cl N fp C s H) (.Tuple [.Name u pu,.Name v pv] k tp) (g2 X.K 0 1):=
 ZjC (X:=cxC X scope cl N fp C s H) hc (ZaH (gu fp C s H) (ZaH (gv fp C s H) Zhj (h2 C)) (h1 C)) (h3 C) (h4 C)
noncomputable def tCP (K:Qa) (n:Nat) (cp:List (Str×Nat)) (tl:TE) (tc:TT) (te:TE):TE:=λσ H Q=>tl σ H λv H1=>match v with
 | .ref a=>∃xs,SqL K H1 a xs/\xs.length<16777216/\∃Pv:Nat->Hp->List V->Prop,Pv 0 H1 []/\(∀i H2 acc,i<=xs.length->Pv i H2 acc->SqL K H2 a xs)/\
  (∀i r H2 acc,xs[i]?=some r->Pv i H2 acc->∃t x y,r=.ref t/\SqT K H2 t [x,y]/\Zf4 tc te (((Zau n cp σ).set 0 (some x)).set 1 (some y)) acc (Pv (i+1)) H2)/\∀H2 acc,Pv xs.length H2 acc->∀l,H2 l=none->Q (.ref l) (upd H2 l (.lst acc))
 |_=>False
theorem Zn9 {K:Qa} (hK:X.K=K) (hc:X.calm=true) (hcl:Ye scope.names X.env.cells []=some cl) (hk:scope.kind=.function) (hnc:∀y∈scope.names,y.2≠ .cell)
 (hnm:∀x∈scope.names,x.2=.local->scope.names.lookup x.1=some .local) (hcp:YT X scope cp) (hl:PE X iter tl) (hn:1<own.length)
 (gu:∀fp C s H,PG (cxC X scope cl (own++cp.map (·.1)) fp C s H) (.Name u pu) (Yg 0)) (gv:∀fp C s H,PG (cxC X scope cl (own++cp.map (·.1)) fp C s H) (.Name v pv) (Yg 1))
 (ht:∀fp C s H,PFs (cxC X scope cl (own++cp.map (·.1)) fp C s H) ifs tc) (he:∀fp C s H,PE (cxC X scope cl (own++cp.map (·.1)) fp C s H) elt te)
 (hs:∀z,jK iter X.env z=pure z:=by intro _;rfl)
 (h1:∀C,(jR [.Name u pu,.Name v pv] (um scope cl C X.env)).map (·.2)=v7 (.Name u pu) (um scope cl C X.env)::(jR [.Name v pv] (um scope cl C X.env)).map (·.2):=by intro _;rfl) (h2:∀C,(jR [.Name v pv] (um scope cl C X.env)).map (·.2)=v7 (.Name v pv) (um scope cl C X.env)::(jR [] (um scope cl C X.env)).map (·.2):=by intro _;rfl)
 (h3:∀C,(jR [.Name u pu,.Name v pv] (um scope cl C X.env)).length=2:=by intro _;rfl) (h4:∀C,(jR [.Name u pu,.Name v pv] (um scope cl C X.env)).findIdx? (·.1)=none:=by intro _;rfl):
 PE X (.ListComp elt [⟨.Tuple [.Name u pu,.Name v pv] k tp,iter,ifs,0⟩] scope pos) (tCP K own.length cp tl tc te):=by
 subst hK;have hl':PE X iter (λσ H Q=>∃Q0:VK,tl σ H Q0/\∀v H',Q0 v H'->Q v H'):=hl.imp λσ H Q h=>h;intro Zb s σ H Q I h;refine Zc3 hc hcl hk hnc hnm hcp (Zey hl') (Zu1 (i:=0) (j:=1) (by omega) (by omega)) (Zu7 (hc:=hc) gu gv h1 h2 h3 h4) (λfp C s H=>(ht fp C s H).imp (t':=Zi7 tc) λ_ _ _ z=>z) (λfp C s H=>(he fp C s H).imp (t':=Zi6 te) λ_ _ _ z=>z) hs Zb s σ H Q I ?_;refine ⟨_,h,λv H1 q=>?_⟩
 cases v with
 |ref a=>
  obtain ⟨xs,hx,hz,Pv,p0,pl,ps,pe⟩:=q;have hsl:sizeLine=16777216:=jw;refine ⟨a,rfl,⟨xs,hx⟩,λi m H2 acc=>m=xs.length-i/\i<=xs.length/\acc.length<=i/\Pv i H2 acc,⟨xs.length,by omega,Qu _,Qf _,p0⟩,?_⟩;rintro i m H2 acc ⟨rfl,hi,hla,pv'⟩;refine ⟨by omega,?_⟩;have hx2:=pl i H2 acc hi pv';by_cases hlt:i<xs.length
  ·refine .inr ⟨⟨xs,xs[i],hx2,by simp [hlt]⟩,λy H3 ⟨e3,ey⟩=>?_⟩;subst e3;obtain ⟨t,x0,y0,e4,e5,q1⟩:=ps i y H3 acc (ey xs hx2) pv';subst e4;refine ⟨t,_,rfl,e5,rfl,_,_,rfl,_,_,rfl,rfl,?_⟩;exact ZaF (N':=λH a=>∃m',m'<xs.length-i/\(m'=xs.length-(i+1)/\i+1<=xs.length/\a.length<=i+1/\Pv (i+1) H a)) (λH a ha z=>⟨xs.length-(i+1),by omega,rfl,hlt,by omega,z⟩) q1
  ·have e:i=xs.length:=by omega
   subst e;exact .inl ⟨⟨xs,hx2,Qf _⟩,λl hl'=>pe H2 acc pv' l hl'⟩
 |_=>exact False.elim q
end
end
section
variable {X:Cx}
noncomputable def ZoD (K:Qa):List V->Hp->VK->Prop:=λvs H Q=>match vs with
 |[.ref a]=>∃ns:List Int,SqL K H a (ns.map V.int)/\Q (.int ns.sum) H
 |_=>False
theorem Zt0 {K:Qa} (hK:X.K=K) (hc:X.calm=true):qk X (.builtin "sum") (ZoD K):=by
 subst hK;intro Zb s σ H vs us Q I r h;unfold ZoD at h;split at h
 ·rename_i a;obtain ⟨ns,hx,q⟩:=h;obtain ⟨u,rfl,ru⟩:=qN r;cases ru;obtain ⟨its,r1,p1,z1⟩:=I.list hx;have hi:=Ze4 r1;obtain ⟨xs,e⟩:=hi.allInts.items;have hl:=p1.isList;have hn:=hi.numsOf;rw [e] at hl;refine sum_intListG (I.ok.hd hc) hl λh' tk t' hk=>?_;have e2:preSum (numAt xs) xs.size=ns.sum:=by rw [preSum_eq,QD (by simp),<-nums_intItems,<-e];exact congrArg List.sum hn
  rw [e2];exact ⟨.int ns.sum,H,I.kept (t':=tk) hk,⟨_,rfl⟩,q⟩
 ·exact h.elim
end
theorem Zre:jT "sum"=some (.builtin "sum"):=by rfl'
theorem Zrd:jT "set"=some (.type "set"):=by rfl'
theorem qx {P:jo} {pos:Pos} {q:Str} {H H':Hp} (h:Bk P pos q H) (sm:Zt H H'):Bk P pos q H':=by
 rcases h with h|⟨c',h1,h2⟩
 ·exact .inl (sm _ _ h)
 ·exact .inr ⟨c',sm _ _ h1,sm _ _ h2⟩
end L2
namespace LO
theorem Zpb {a b:Nat} {x y:List Nat} (h:a::x<=b::y):a<b\/(a=b/\x<=y):=by
 have h':¬(b::y<a::x):=Uq.mpr h;rw [QK] at h';by_cases hab:a=b
 ·exact .inr ⟨hab,Uq.mp λz=>h' (.inr ⟨hab.symm,z⟩)⟩
 ·exact .inl (Nat.lt_of_le_of_ne (VQ λz=>h' (.inl z)) hab)
theorem Zev {α:Type} [DecidableEq α]:∀{ks ps:List α},ks.Nodup->(∀x∈ks,x∈ps)->ks.length<=ps.length
 |[],_,_,_=>Qu _
 |x::r,ps,nd,h=>by
  have hx:=h x (jY ..);obtain ⟨n1,n2⟩:=Uu.mp nd
  have:=Zev (ks:=r) (ps:=ps.erase x) n2 λy hy=>by
   have hne:y≠x:=by rintro rfl;exact n1 hy
   exact (Wy hne).mpr (h y (jM _ hy))
  rw [Wd hx] at this;have:=List.length_pos_of_mem hx;rw [jD];omega
noncomputable def cms (t:List Nat):List Nat:=0::(Qj t.length).map λk=>LW.com (t.drop ((ord t).getD k 0)) (t.drop ((ord t).getD (k+1) 0))
open LW L2
noncomputable def en (t:List Nat) (k:Nat):List Nat:=t.drop ((ord t).getD k 0)
noncomputable def cmx (t:List Nat) (k:Nat):Nat:=(cms t++[0]).getD k 0
noncomputable def Zvo (t:List Nat) (p:Nat):Option Nat:=if p+(1+max (cmx t (JC t p)) (cmx t (JC t p+1)))<=t.length then some (1+max (cmx t (JC t p)) (cmx t (JC t p+1))) else none
theorem Zkw {l q:List Nat} {i:Nat}:i∈LP.plc l q↔i+q.length<=l.length/\(l.drop i).take q.length=q:=by unfold LP.plc;rw [UY,QB,decide_eq_true_eq];refine ⟨λ⟨h1,h2⟩=>⟨by omega,h2⟩,λ⟨h1,h2⟩=>⟨by omega,h2⟩⟩
end LO
namespace L2
end L2
namespace LO
open LW L2
noncomputable def Zug (t:List Nat) (k:Nat):List (List Nat):=(Qj ((en t k).length-cmx t k)).map λj=>(en t k).take (cmx t k+1+j)
noncomputable def pcs (t:List Nat):List (List Nat):=[]::(Qj (t.length+1)).flatMap (Zug t)
noncomputable def Zvn (t:List Nat):Nat:=(pcs t).length
end LO
namespace L2
open PySem
open PySem.Spec PyProof.Rows
noncomputable def ZhI (w:jG) (t:uX) (n:Nat):Prop:=(w.params.followText "set-order"=false->t.led=true)/\(0<n->t.plain=false)
noncomputable abbrev Y7 (es:Array (Int×Value)) (ep:Nat) (t:uX):Obj:= {cls:=.type "set",dict:=none,data:=.set es ep t}
noncomputable def Y5 (prog:jx) (w:jG) (h:Heap) (a:jo) (S:Str->Bool) (n:Nat):Prop:=
 ∃es ep t,h.get? a=some (Y7 es ep t)/\ElemsOf (PySem.strKind prog w) es.toList/\(∀k,S k=true↔∃e∈es.toList,(PySem.strKind prog w).is k e.2=true)/\es.size<vh/\t.fits es.size=true/\es.size=n/\ZhI w t es.size
theorem Ziy (t:uX) (n:Nat):(t.orStandIn n).led=t.led/\(t.plain=false->(t.orStandIn n).plain=false):=by
 unfold SetTable.orStandIn;split
 ·exact ⟨rfl,id⟩
 ·exact ⟨rfl,λ_=>rfl⟩
theorem Zpx (t:uX) (es:Array (Int×Value)) (h:Int) (x:Value):(layNew t es h x).2.1.led=t.led/\(t.plain=false->(layNew t es h x).2.1.plain=false):=by
 unfold layNew;split
 ·rename_i slot wd _;have:=Ziy (t.put slot).1 (SetTable.insertAt es (t.put slot).2 (h,x)).size;exact ⟨this.1.trans rfl,λz=>this.2 z⟩
 ·exact ⟨rfl,λ_=>rfl⟩
theorem ZjH {t t':uX} {hs:Array Int} {n:Nat} {order:Array Nat} (h:t.relaid hs n=some (t',order)):t'.led=t.led/\t'.plain=t.plain:=by unfold SetTable.relaid SetTable.laid at h;simp only [Option.bind_eq_bind,Option.bind_eq_some_iff,Option.pure_def,Option.some.injEq,Prod.mk.injEq] at h;obtain ⟨_,_,e,_⟩:=h;rw [<-e];exact ⟨rfl,rfl⟩
theorem ZlJ (t:uX) (es:Array (Int×Value)) (n:Nat):(vV t es n).2.1.led=t.led/\(t.plain=false->(vV t es n).2.1.plain=false):=by
 unfold vV;split
 ·rename_i t' order e;have:=ZjH e;dsimp only;split
  ·exact ⟨this.1,λz=>this.2.trans z⟩
  ·exact ⟨rfl,λ_=>rfl⟩
 ·exact ⟨rfl,λ_=>rfl⟩
section
variable {prog:jx} {w:jG} {A:Around} {E:Value->jn->Prop} {s:jn}
theorem ZiP {h:Heap} {a:jo} {es es':Array (Int×Value)} {ep:Nat} {t t':uX} (ho:h.get? a=some (Y7 es ep t)):(h.update a (Obj.putSet es' t')).get? a=some (Y7 es' (ep+1) t'):=by have e:=putSet_of (o:=Y7 es ep t) es' t' rfl;have g:=Q3 (Obj.putSet es' t') ho (by rw [e];rfl);rw [e] at g;exact g
theorem ZiU {g:Bool->Sem Unit} (gok:∀(b:Bool) (z:jn) (R:Unit->jn->Prop),R () z->js (ju prog w) A (g b) R E z) {a:jo} {es:Array (Int×Value)} {ep:Nat} {t:uX} (ho:s.heap.get? a=some (Y7 es ep t))
 {fs:Array (Int×Value)} {u:uX} {S':Str->Bool} (el:ElemsOf (PySem.strKind prog w) fs.toList) (mem:∀k,S' k=true↔∃e∈fs.toList,(PySem.strKind prog w).is k e.2=true) (small:fs.size<vh) (fit:u.fits fs.size=true) (tab:ZhI w u fs.size)
 {wd:Bool} {R:Option Bool->jn->Prop} (fin:∀h',Heap.SameBut a s.heap h'->Y5 prog w h' a S' fs.size->R (some true) {s with heap:=h'}):
 js (ju prog w) A (do
  storeSet a fs u
  if (!wd && u.tooFull)=true then do
      g (vV u fs (SetTable.grown fs.size)).2.2
      storeSet a (vV u fs (SetTable.grown fs.size)).1 (vV u fs (SetTable.grown fs.size)).2.1
      pure (some true)
   else pure (some true)) R E s:=by
 refine jm (wpAny_storeSet_of ho rfl ?_ (fits_of_scanBound small));have o1:=ZiP (es':=fs) (t':=u) ho;have b1:=Heap.SameBut.update s.heap a (Obj.putSet fs u);split
 ·have pm:=relayAll_perm u fs (SetTable.grown fs.size);have ft:=relayAll_fits u fs (SetTable.grown fs.size);have ld:=ZlJ u fs (SetTable.grown fs.size)
  generalize vV u fs (SetTable.grown fs.size)=rl at pm ft ld ⊢
  obtain ⟨gs,v,gv⟩:=rl
  dsimp only at pm ft ld ⊢
  have sz:gs.size=fs.size:=by rw [<-Qp,pm.length_eq,Qp]
  refine jm (gok _ _ _ (jm (wpAny_storeSet_of o1 rfl ?_ (fits_of_scanBound (by rw [sz];exact small)))));have o2:=ZiP (es':=gs) (t':=v) o1;refine jq (fin _ (b1.trans (Heap.SameBut.update _ a _)) ⟨gs,_,v,o2,el.perm pm,λk=>(mem k).trans ⟨λ⟨e,he,q⟩=>⟨e,pm.mem_iff.mpr he,q⟩,λ⟨e,he,q⟩=>⟨e,pm.mem_iff.mp he,q⟩⟩,by rw [sz];exact small,ft,sz,?_⟩);rw [sz];exact ⟨λz=>ld.1.trans (tab.1 z),λz=>ld.2 (tab.2 z)⟩
 ·exact jq (fin _ b1 ⟨fs,_,u,o1,el,mem,small,fit,rfl,tab⟩)
theorem add_str {a:jo} {S:Str->Bool} {n:Nat} {x:Str} {tk:Tok} {Q:Bool->jn->Prop} (st:Y5 prog w s.heap a S n) (room:n+1<vh)
 (fin:∀h',Heap.SameBut a s.heap h'->Y5 prog w h' a (λk=>S k || decide (k=x)) (if S x then n else n+1)->Q (!S x) {s with heap:=h'}):
 js (ju prog w) A (setAddHashed a (.str x tk) ((PySem.strKind prog w).hash x)) Q E s:=by
 obtain ⟨es,ep,t,ho,el,mem,small,fit,rfl,tab⟩:=st;have key:(PySem.strKind prog w).is x (.str x tk)=true:=by show QV x (.str x tk)=true;simp [QV,W9]
 unfold setAddHashed setAddHashedIn;refine jU (jm (uh ho rfl fit ?_));dsimp only;rw [byScan_of (knd:=PySem.strKind prog w) (x:=.str x tk) rfl small el];simp only [↓reduceIte];unfold setAddByScan;refine jm (jm (uD (jm (wpAny_setScan_of (knd:=PySem.strKind prog w) key ho rfl fit el ?_))))
 cases found:List.findIdx? (λe=>(PySem.strKind prog w).is x e.2) es.toList with
 |some j=>
  dsimp only;obtain ⟨hj,at_,_⟩:=List.findIdx?_eq_some_iff_getElem.mp found;have yes:S x=true:=(mem x).mpr ⟨es.toList[j],QU hj,at_⟩;refine jq (jq ?_);have f:=fin s.heap (Heap.SameBut.refl a s.heap) ⟨es,ep,t,ho,el,λk=>?_,small,fit,by rw [yes];rfl,tab⟩
  ·rw [yes] at f;exact f
  ·rw [QS,decide_eq_true_eq,<-mem k];exact ⟨λz=>z.elim id λe=>e▸yes,.inl⟩
 |none=>
  dsimp only
  have no:S x=false:=by
   cases hx:S x with
   |false=>rfl
   |true=>
    obtain ⟨e,he,q⟩:=(mem x).mp hx;have:=List.findIdx?_eq_none_iff.mp found e he;rw [q] at this;cases this
  have pm:=layNew_perm t es ((PySem.strKind prog w).hash x) (.str x tk);have ft:=layNew_fits t es ((PySem.strKind prog w).hash x) (.str x tk);have ld:=Zpx t es ((PySem.strKind prog w).hash x) (.str x tk)
  generalize layNew t es ((PySem.strKind prog w).hash x) (.str x tk)=ly at pm ft ld ⊢
  obtain ⟨fs,u,wd,gave⟩:=ly
  dsimp only at pm ft ld ⊢
  rw [Array.toList_push] at pm;have el':ElemsOf (PySem.strKind prog w) fs.toList:=(el.push key rfl).perm pm;have mem':=mem_push_iff (knd:=PySem.strKind prog w) key mem pm;have sz:fs.size=es.size+1:=by rw [<-Qp,pm.length_eq,jv,Qp];rfl
  have gok:∀(b:Bool) (z:jn) (R:Unit->jn->Prop),R () z->js (ju prog w) A (match b with|true=>rule "set.scan.the-table-gave-way"|false=>pure ()) R E z:=λb z R q=>by
   cases b
   ·exact jq q
   ·exact uD q
  refine jm (gok _ _ _ ?_);have last:∀h',Heap.SameBut a s.heap h'->Y5 prog w h' a (λk=>S k || decide (k=x)) fs.size->Q true {s with heap:=h'}:=λh' sb q=>by have f:=fin h' sb;rw [no,if_neg Qg] at f;rw [sz] at q;exact f q
  split
  ·rename_i pl;refine jm ?_;rw [hashByValue_scannable 8 (x:=.str x tk) rfl];refine jq ?_;show js _ _ _ _ _ _;refine ZiU (w:=w) (λb z R q=>gok b z R q) ho el' mem' (by omega) (u:= {u with plain:=false}) (SetTable.fits_plain_off ft) ⟨λz=>ld.1.trans (tab.1 z),λ_=>rfl⟩ λh' sb q=>?_;exact jq (last h' sb q)
  ·rename_i pl;refine jm (jq ?_);simp only [↓reduceIte];refine ZiU (w:=w) (λb z R q=>gok b z R q) ho el' mem' (by omega) ft ⟨λz=>ld.1.trans (tab.1 z),λ_=>by simpa using pl⟩ λh' sb q=>?_;exact jq (last h' sb q)
end
noncomputable def Zem (ds:List Nat):Str->Bool:=λk=>ds.any λc=>decide (k=T [c])
theorem Zjq (ds:List Nat) (c:Nat):Zem ds (T [c])=decide (c∈ds):=by unfold Zem;rw [Ug,VP,decide_eq_true_eq];refine ⟨λ⟨d,hd,e⟩=>?_,λh=>⟨c,h,by simp⟩⟩;have:=Zb4.mp (of_decide_eq_true e);rw [Vf this];exact hd
theorem Zhw {prog:jx} {w:jG} {h:Heap} {a:jo} {S S':Str->Bool} {n n':Nat} (x:Y5 prog w h a S n) (e:∀k,S k=S' k) (en:n=n'):Y5 prog w h a S' n':=by have:S=S':=funext e;subst this en;exact x
section
variable {prog:jx} {w:jG} {A:Around} {E:Value->jn->Prop} {s:jn}
theorem Znf {R:Qav->jn->Prop} {I:jo} {fp wr:List jo} {G:Array Qaq->Array Qaq->Prop} {n:Nat} {P:Nat->Value->Prop} {St:Nat->jn->Prop} (W:WalksS prog w A.in1 I fp wr G n P St) (a:jo) (out:a∉fp) (ys:List Nat) (hn:n=ys.length)
 (hP:∀i v,P i v->∃c u,ys[i]?=some c/\v=.str (T [c]) u) (room:n+1<vh):∀(k i:Nat) (s:jn) (ds:List Nat),n-i=k->i<=n->St i s->ds.Nodup->(∀c,c∈ds↔c∈ys.take i)->ds.length<=i->Y5 prog w s.heap a (Zem ds) ds.length->
  (∀s' ds,Moved (a::wr) G s s'->ds.Nodup->(∀c,c∈ds↔c∈ys)->Y5 prog w s'.heap a (Zem ds) ds.length->R (.ok (.ret .none)) s')->u6 (ju prog w) A (.builtin "set.update.loop" ⟨[.ref a,.ref I],[]⟩) R s:=by
 have aw:a∉wr:=λh=>out (W.sub _ h);have more:∀b∈wr,b∈a::wr:=λb hb=>jM _ hb;have stay:∀{s s':jn} {S:Str->Bool} {m:Nat},Y5 prog w s.heap a S m->Moved wr G s s'->Y5 prog w s'.heap a S m:=λ{s s' S m} x mv=>by obtain ⟨es,ep,t,ho,r⟩:=x;exact ⟨es,ep,t,mv.heap a _ aw ho,r⟩
 intro k
 induction k with
 |zero=>
  intro i s ds hk hi st nd mem len set fin;have:i=n:=by omega
  subst this;refine ub F.entry_set_update_loop ?_;rw [Around.under_plainId F.plain_set_update_loop _];show js _ A.in1 (uf (.ref I) >>=_) _ _ s;refine jm (W.done s _ _ st λs' mv=>?_);exact jq (fin s' ds (mv.mono more) nd (λc=>by rw [mem c,QD (by omega)]) (stay set mv))
 |succ k ih=>
  intro i s ds hk hi st nd mem len set fin;have lt:i<n:=by omega
  refine ub F.entry_set_update_loop ?_;rw [Around.under_plainId F.plain_set_update_loop _];show js _ A.in1 (uf (.ref I) >>=_) _ _ s;refine jm (W.item i s _ _ lt st λv s' hv st' mv=>?_);obtain ⟨c,u,hc,rfl⟩:=hP i v hv;show js _ A.in1 (vN [US (T [c]) u] (setAdd a (.str (T [c]) u)) >>=_) _ _ s';refine jm (jU ?_);unfold setAdd;have key:(PySem.strKind prog w).is (T [c]) (.str (T [c]) u)=true:=by show QV (T [c]) (.str (T [c]) u)=true;simp [QV,W9]
  refine jU (jm ((PySem.strKind prog w).pyHash (k:=T [c]) key ?_));refine add_str (s:= {s' with toks:=s'.toks+1}) (show Y5 prog w s'.heap a _ _ from stay set mv) (by omega) λh' sb set2=>?_
  have mem2:∀d,d∈(if c∈ds then ds else ds++[c])↔d∈ys.take (i+1):=λd=>by
   rw [Ub,hc,jN,<-mem d];split
   ·rename_i h
    exact ⟨.inl,fun z=>z.elim id fun e=>by have:d=c:=by simpa using e
                                           rw [this];exact h⟩
   ·simp
  have nd2:(if c∈ds then ds else ds++[c]).Nodup:=by
   split
   ·exact nd
   ·rename_i h;rw [List.nodup_append];exact ⟨nd,by simp,λx hx y hy e=>h (by rw [<-jC.mp hy,<-e];exact hx)⟩
  have len2:(if c∈ds then ds else ds++[c]).length<=i+1:=by
   split
   ·omega
   ·rw [jv,jJ];omega
  have set3:Y5 prog w h' a (Zem (if c∈ds then ds else ds++[c])) (if c∈ds then ds else ds++[c]).length:=by
   refine Zhw set2 (λk=>?_) ?_
   ·split
    ·rename_i h;rw [Ug,QS,decide_eq_true_eq];refine ⟨λz=>z.elim id λe=>?_,.inl⟩;rw [e,Zjq];exact decide_eq_true h
    ·unfold Zem;rw [List.any_append];simp
   ·rw [Zjq];by_cases h:c∈ds
    ·simp [h]
    ·simp [h]
  refine jq ⟨u0 F.plain_set_update_loop _,ih (i+1) _ _ (by omega) lt (W.frame _ s' _ _ st' (Va _) λb hb o e=>?_) nd2 mem2 len2 set3 λs2 ds' mv2 nd' mem' set'=>?_⟩
  ·rw [sb.2 b (λz:b=a=>out (z▸hb))];exact e
  ·refine fin s2 ds' (Moved.trans W.gtrans ((mv.mono more).then_heap (Va _) λb o hb e=>?_) mv2) nd' mem' set';rw [sb.2 b (λz:b=a=>hb (z▸jY))];exact e
end
theorem ZiQ:isSubtype (.type "str") (.type "set")=pure false:=by rw [uG];kernel_rfl
theorem ZfI:isSubtype (.type "str") (.type "frozenset")=pure false:=by rw [uG];kernel_rfl
section
variable {prog:jx} {w:jG} {A:Around} {E:Value->jn->Prop} {s:jn}
theorem ZiN (v:Value) {Q₁:Value->jn->Prop} (h:Q₁ (.ref s.heap.objs.size) {s with heap:=s.heap.push (Y7 #[] 0 (.fresh 0 0 (!w.params.followText "set-order")))}):
 u6 (ju prog w) A (.call (.builtin "set.__new__") ⟨[.type "set",v],[]⟩) (wants Q₁ E) s:=by
 refine codeAny_of_tree ?_;show js _ A.in1 (do Qau "set.__new__" ⟨[.type "set",v],[]⟩;again (.builtin "set.__new__" ⟨[.type "set",v],[]⟩)) _ _ s;refine jm (uV (F.newCall_set_1 v) (jq ⟨u0 F.plain_set_new _,ub F.entry_set_new ?_⟩));rw [Around.under_plainId F.plain_set_new _];unfold Builtin.«set.__new__» Builtin.Frozenset.newClass;have sub:=sub_set_self;obtain ⟨hp,g,d,tk,os⟩:=s;dsimp only
 wp_walk
 refine ue (jq ?_);dsimp only;simp only [newObj];exact jm (wpAny_alloc (jq (jq h)))
set_option maxHeartbeats 3200000 in
theorem ZgV {x:Str} {tk:Tok} {Q:Value->jn->Prop} (hh:A.handled=none) (small:(L x).length+1<vh)
 (h:∀(h':Heap) (tk':Nat) (ds:List Nat),Y5 prog w h' s.heap.objs.size (Zem ds) ds.length->ds.Nodup->(∀c,c∈ds↔c∈L x)->(∀b o,b<s.heap.objs.size->s.heap.get? b=some o->h'.get? b=some o)->Q (.ref s.heap.objs.size) {s with heap:=h',toks:=tk'}):
 js (ju prog w) A (call (.type "set") [.str x tk]) Q E s:=by
 obtain ⟨c,tl,hmro⟩:=F.called_set.mro;have hmade:=F.called_set.made;have hsub:=F.called_set.sub;refine uO (codeAny_of_tree ?_);show js _ _ (callAny (.type "set") _) _ _ _;refine jq ⟨Code.quiet_builtin _ (by rfl'),ub F.entry_type_call ?_⟩;rw [Around.under_plain (weight_type_call_type "set" [.str x tk] []) rfl];have h1:=F.called_set.notType;have h2:=F.called_set.canCreate;have hct:=F.typeCall_set_1 (.str x tk)
 repeat (any_goals (first|assumption|wp_step))
 refine ud (ZiN (.str x tk) (E:=E) (Q₁:=λobj z=>obj=.ref s.heap.objs.size/\z= {s with heap:=s.heap.push (Y7 #[] 0 (.fresh 0 0 (!w.params.followText "set-order")))}) ⟨rfl,rfl⟩) λr z hr=>?_
 cases r with
 |error e=>exact hr
 |ok fl=>
  cases fl with
  |ret obj=>
   obtain ⟨rfl,rfl⟩:=hr;generalize hled:(!w.params.followText "set-order")=led;have own:(s.heap.push (Y7 #[] 0 (.fresh 0 0 led))).get? s.heap.objs.size=some (Y7 #[] 0 (.fresh 0 0 led)):=Qi _ rfl;have hT:Shared.TypeIs {s with heap:=s.heap.push (Y7 #[] 0 (.fresh 0 0 led))} (.ref s.heap.objs.size) "set":=⟨_,own,rfl⟩;have hli:=F.called_set.init.lookup;have hbi:=F.called_set.init.bind (.ref s.heap.objs.size)
   repeat (any_goals (first|assumption|wp_step))
   refine ud (v5 (R:=wants (λr z=>r=.none/\∃h' tk' ds,z= {s with heap:=h',toks:=tk'}/\Y5 prog w h' s.heap.objs.size (Zem ds) ds.length/\ds.Nodup/\(∀c,c∈ds↔c∈L x)/\
    (∀b o,b<s.heap.objs.size->s.heap.get? b=some o->h'.get? b=some o)) E) F.called_set.init.plain F.entry_set_init (check_set_init_1 hT ?_)) λr₂ z₂ hr₂=>?_
   ·have hsls:=ZiQ;have hslf:=ZfI;have hne:(UA "str"==UA "dict")=false:=by decide
    have hts:Shared.TypeIs {s with heap:=s.heap.push (Y7 #[] 0 (.fresh 0 0 led))} (.str x tk) "str":=ui _ _ _;unfold Builtin.«set.__init__» noKeywords Builtin.Frozenset.updateFrom;generalize hPI:Qai=PI
    wp_walk
    subst hPI;refine wpAny_pyIter_str λo St W st=>?_;refine jm (vS ?_);have hh3:A.in1.in1.in1.handled=none:=by simp [hh]
    have hsz:(s.heap.push (Y7 #[] 0 (.fresh 0 0 led))).objs.size=s.heap.objs.size+1:=UE ..
    have hlx:x.cps.size=(L x).length:=by unfold L;simp
    have out:s.heap.objs.size∉[(s.heap.push (Y7 #[] 0 (.fresh 0 0 led))).objs.size]:=by rw [hsz,jC];exact Qo (UV _)
    refine Znf ((W _ hh3).toS) s.heap.objs.size out (L x) hlx (λi v hv=>?_) (by rw [hlx];exact small) (x.cps.size-0) 0 _ [] (by omega) (Qu _) st List.nodup_nil (λc=>by simp) (Qu _) ?_ λz ds mv nd mem set=>?_
    ·obtain ⟨d,u,e1,e2⟩:=hv;refine ⟨d,u,?_,e2⟩;unfold L;rw [Uy];exact e1
    ·refine ⟨#[],0,_,Qe _ own,λe he=>by simp at he,λk=>?_,by decide,rfl,rfl,λz=>?_,λz=>absurd z (QW _)⟩
     ·simp [Zem]
     ·rw [<-hled,z];rfl
    ·obtain ⟨h',g',d',tk',os'⟩:=z;have eg:g'=s.gens:=mv.gens;have ed:d'=s.drawn:=mv.drawn;have eo:os'=s.os:=mv.os;subst eg ed eo;refine jq (jq ⟨rfl,h',tk',ds,rfl,set,nd,mem,λb o hb e=>?_⟩);refine mv.heap b o ?_ (Qe _ (Qe _ e));rw [hsz];simp only [jQ,jC,QL,or_false,not_or];exact ⟨Qo hb,Qo (UR hb)⟩
   ·cases r₂ with
    |error e=>exact hr₂
    |ok fl₂=>
     cases fl₂ with
     |ret r=>
      obtain ⟨rfl,h',tk',ds,rfl,q1,q2,q3,q4⟩:=hr₂
      repeat (any_goals (first|assumption|wp_step))
      exact h _ _ _ q1 q2 q3 q4
     |_=>exact hr₂.elim
  |_=>exact hr.elim
end
noncomputable def ZgM (w:jG) (h:Heap) (a:jo) (cs:List Nat):Prop:=∃es ep t,h.get? a=some (Y7 es ep t)/\ZA (cs.map λc=>V.str (T [c])) (es.toList.map (·.2))/\t.fits es.size=true/\es.size<vh/\ZhI w t es.size
theorem ZiE {α:Type} [DecidableEq α]:∀{ds cs:List α},ds.Nodup->(∀x∈ds,x∈cs)->cs.length=ds.length->cs.Perm ds
 |[],cs,_,_,h=>by rw [uQ.mp h]
 |d::r,cs,nd,sub,h=>by
  obtain ⟨n1,n2⟩:=Uu.mp nd;have hd:=sub d (jY ..);have p1:cs.Perm (d::cs.erase d):=List.perm_cons_erase hd;refine p1.trans (List.Perm.cons d (ZiE n2 (λx hx=>?_) ?_))
  ·have hne:x≠d:=by rintro rfl;exact n1 hx
   exact (Wy hne).mpr (sub x (jM _ hx))
  ·rw [Wd hd,h,jD];omega
theorem ZiO {prog:jx} {w:jG} {ds:List Nat}:∀{es:List (Int×Value)},ElemsOf (PySem.strKind prog w) es->(∀e∈es,∀k,(PySem.strKind prog w).is k e.2=true->Zem ds k=true)->
 ∃cs:List Nat,ZA (cs.map λc=>V.str (T [c])) (es.map (·.2))/\(∀c∈cs,c∈ds)/\∀c,(∃e∈es,(PySem.strKind prog w).is (T [c]) e.2=true)->c∈cs
 |[],_,_=>⟨[],.nil,λc h=>(QL h).elim,λc ⟨e,h,_⟩=>(QL h).elim⟩
 |e::r,el,mem=>by
  obtain ⟨cs,v1,m1,m2⟩:=ZiO (ds:=ds) el.tail λx hx=>mem x (jM _ hx);obtain ⟨⟨k,hk,_⟩,_⟩:=el.head;obtain ⟨t,ht⟩:=Wv hk;have hm:=mem e (jY ..) k hk;unfold Zem at hm;rw [VP] at hm;obtain ⟨c,hc,ec⟩:=hm;have ec:=of_decide_eq_true ec;subst ec;refine ⟨c::cs,.cons ⟨t,ht⟩ v1,λd hd=>?_,λd ⟨x,hx,hk2⟩=>?_⟩
  ·rcases jQ.mp hd with rfl|hd
   ·exact hc
   ·exact m1 d hd
  ·rcases jQ.mp hx with rfl|hx
   ·have:T [d]=T [c]:=(PySem.strKind prog w).inj _ _ _ hk2 hk;rw [Vf (Zb4.mp this)]
    exact jY ..
   ·exact jM _ (m2 d ⟨x,hx,hk2⟩)
theorem ZlS {prog:jx} {w:jG} {h:Heap} {a:jo} {ds:List Nat} (st:Y5 prog w h a (Zem ds) ds.length) (nd:ds.Nodup):∃cs,cs.Perm ds/\ZgM w h a cs:=by obtain ⟨es,ep,t,ho,el,mem,small,fit,sz,tab⟩:=st;obtain ⟨cs,v1,m1,m2⟩:=ZiO (ds:=ds) el λe he k hk=>(mem k).mpr ⟨e,he,hk⟩;have hl:=v1.length;rw [jr,jr] at hl;have hl:cs.length=ds.length:=hl.trans (Qp.trans sz);refine ⟨cs,ZiE nd (λc hc=>m2 c ((mem (T [c])).mp ?_)) hl,es,ep,t,ho,v1,fit,small,tab⟩;rw [Zjq];exact decide_eq_true hc
noncomputable def ZeM (w:jG) (a:jo) (cs:List Nat):HO:=.ext λh=>ZgM w h a cs
section
variable {X:Cx}
noncomputable def ZsN (w:jG):List V->Hp->VK->Prop:=λvs H Q=>match vs with
 |[.str z]=>(L z).length<=1000/\∀p cs,H p=none->cs.Nodup->(∀c,c∈cs↔c∈L z)->Q (.ref p) (upd H p (ZeM w p cs))
 |_=>False
theorem Zrj {w:jG} (hw:X.w=w) (hc:X.calm=true):qk X (.type "set") (ZsN w):=by
 subst hw;intro Zb s σ H vs us Q I r h;unfold ZsN at h;split at h
 ·rename_i z;obtain ⟨hl,q⟩:=h;obtain ⟨u,rfl,ru⟩:=qN r;obtain ⟨t,rfl⟩:=ru;refine ZgV (prog:=X.prog) (w:=X.w) (I.ok.hd hc) (by unfold vh;omega) λh' tk ds set nd mem kp=>?_;obtain ⟨cs,pm,ss⟩:=ZlS set nd;have hn:=I.hok.fresh (Qf s.heap.objs.size);refine ⟨.ref s.heap.objs.size,_,I.laid (o:=ZeM X.w s.heap.objs.size cs) (t':=tk) (λb o e=>kp b o (Qk e) e) (Qf _) ⟨ss,?_,?_⟩,rfl,q _ cs hn (pm.nodup_iff.mpr nd) λc=>(pm.mem_iff).trans (mem c)⟩
  ·obtain ⟨es,ep,t,ho,_⟩:=ss;exact ⟨_,ho⟩
  ·rintro h1 h2 ⟨es,ep,t,ho,r⟩ k;exact ⟨es,ep,t,k _ ho,r⟩
 ·exact h.elim
end
theorem ZG:Slot "set_iterator" "__next__" "set_iterator.__next__":=
 .of (owner:="set_iterator") (n:="__next__") (by rw [uT,uo];kernel_rfl) (by rfl') (by rfl') (by rfl') (by first|exact .inl (by rfl')|exact .inr (by rfl')) (by rw [uG];kernel_rfl)
theorem zO:vK table "set_iterator.__next__"=some Builtin.«set_iterator.__next__»:=vJ (by kernel_rfl)
theorem z7 (v:Value):Qaj "set_iterator.__next__" ⟨[v],[]⟩:=by unfold Qaj;kernel_rfl
theorem ZbI:Slot "set_iterator" "__iter__" "set_iterator.__iter__":=
 .of (owner:="set_iterator") (n:="__iter__") (by rw [uT,uo];kernel_rfl) (by rfl') (by rfl') (by rfl') (by first|exact .inl (by rfl')|exact .inr (by rfl')) (by rw [uG];kernel_rfl)
theorem Zee:vK table "set_iterator.__iter__"=some Builtin.«dict_keyiterator.__iter__»:=
 v4 (id':="dict_keyiterator.__iter__") (by kernel_rfl) (by first|rfl|rfl') (by rfl') (by kernel_rfl)
theorem ZeP (v:Value):Qaj "set_iterator.__iter__" ⟨[v],[]⟩:=by unfold Qaj;kernel_rfl
theorem Zed:vK table "set.__iter__"=some Builtin.«frozenset.__iter__»:=
 v4 (id':="frozenset.__iter__") (by kernel_rfl) (by first|rfl|rfl') (by rfl') (by kernel_rfl)
noncomputable def Zcf (h:Heap) (I:jo) (first:Value) (i:Nat) (a:jo) (n ep:Nat):Prop:=h.get? I=some {cls:=.type "set_iterator",data:=.fields #[first,.int i 0,.ref a,.int n 0,.int ep 0]}
section
variable {prog:jx} {w:jG} {A:Around} {E:Value->jn->Prop} {s:jn} {I Fr a:jo} {i n ep:Nat} {es:Array (Int×Value)} {t:uX}
theorem Zjs {pl:Array Value} {m p:Nat} {hx:Int} {x:Value} {Q:Option Value->jn->Prop} (hI:Zcf s.heap I (.ref Fr) i a n ep) (hF:s.heap.get? Fr=some {cls:=.type "tuple",data:=.seq pl m}) (hS:s.heap.get? a=some (Y7 es ep t)) (fit:t.fits es.size=true) (hn:es.size=n)
 (hp:pl[i]?=some (uc p)) (he:es[p]?=some (hx,x)) (hQ:∀h',Zcf h' I (.ref Fr) (i+1) a n ep->Heap.SameBut I s.heap h'->Q (some x) {s with heap:=h'}):js (ju prog w) A (uf (.ref I)) Q E s:=by
 have hT:s.TypeIs (.ref I) "set_iterator":=⟨_,hI,rfl⟩;unfold uf;refine jm (jX (jP (name:=Qc "__next__") hT ZG (jS ZG hT zO ?_ (z7 _))))
 unfold Builtin.«set_iterator.__next__»
 refine jm (m:=vU _ _ _) (jq ?_);refine jm (vb hI rfl ?_);dsimp only;refine jm (uz hS rfl fit ?_);rw [if_neg (by rw [hn];simp)];refine jm (va hF rfl ?_);dsimp only;rw [Qm,hp];show js _ _ (setNextDrawn a (p:Int).toNat (ep:Int).toNat >>=_) _ _ s;rw [Qm,Qm];refine jm ?_;unfold setNextDrawn;refine jm (uh hS rfl fit ?_);dsimp only;rw [if_neg (by simp),he];dsimp only;refine jq (jm (uq hI (by simp) λh' hI' sb=>jq ⟨x,rfl,jq (hQ h' ?_ sb)⟩));show h'.get? I=_;rw [hI'];simp [uc]
theorem ZfG {Q:Option Value->jn->Prop} {h0:Heap} {o:Obj} {vs:Array Value} (hh:A.handled=none) (ho:h0.get? I=some {cls:=.type "set_iterator",data:=.fields vs}) (h2:2<vs.size)
 (sb0:∀b o,b≠I->s.heap.get? b=some o->h0.get? b=some o) (hQ:∀h',(∀b o,b≠I->s.heap.get? b=some o->h'.get? b=some o)->Q none {s with heap:=h'}):
 js (ju prog w) A.in1 (do
  QaF (.ref I) 2 Qq
  let e <-newExc (UA "StopIteration") []
  raiseNew e:Sem PySem.Fin) (λfin s'=>∃v,fin=Fin.done (Flow.ret v)/\js (ju prog w) A (pure (some v)) Q E s')
  (λe s'=>js (ju prog w) A (do
   let b <-isInstance e (UA "StopIteration")
   if b=true then pure none else throw e) Q E s') {s with heap:=h0}:=by
 refine jm (uq (s:= {s with heap:=h0}) ho (by simpa using h2) λh1 h1' sb=>?_);refine jm ?_;simp only [newExc,newTuple];refine jm (j8 ?_ (by size_fits));refine jm (m:=vd _ _) (uV (a:=Qq) (by first|rfl|(simp only [vd];rfl)) ?_);refine j8 ?_ (by size_fits);simp only [raiseNew];refine jm (wpAny_handled ?_);rw [show A.in1.handled=none from hh];refine jm (jq (wpAny_throw ?_));refine jm (vg (T:="StopIteration") (b:=true) ⟨_,Qi _ rfl,rfl⟩ vZ ?_);exact jq (hQ _ λb o hb e=>Qe _ (Qe _ ((sb.2 b hb).trans (sb0 b o hb e))))
theorem Zk2 {pl:Array Value} {m:Nat} {Q:Option Value->jn->Prop} (hh:A.handled=none) (hI:Zcf s.heap I (.ref Fr) i a n ep) (hF:s.heap.get? Fr=some {cls:=.type "tuple",data:=.seq pl m}) (hS:s.heap.get? a=some (Y7 es ep t)) (fit:t.fits es.size=true) (hn:es.size=n)
 (hp:pl[i]?=none) (hQ:∀h',(∀b o,b≠I->s.heap.get? b=some o->h'.get? b=some o)->Q none {s with heap:=h'}):js (ju prog w) A (uf (.ref I)) Q E s:=by
 have hT:s.TypeIs (.ref I) "set_iterator":=⟨_,hI,rfl⟩;unfold uf;refine jm (jX (jP (name:=Qc "__next__") hT ZG (jS ZG hT zO ?_ (z7 _))))
 unfold Builtin.«set_iterator.__next__»
 refine jm (m:=vU _ _ _) (jq ?_);refine jm (vb hI rfl ?_);dsimp only;refine jm (uz hS rfl fit ?_);rw [if_neg (by rw [hn];simp)];refine jm (va hF rfl ?_);dsimp only;rw [Qm,hp];refine jm (uq hI (by simp) λh' hI' sb=>?_);exact ZfG (o:=Y7 es ep t) hh hI' (by simp) (λb o hb e=>(sb.2 b hb).trans e) hQ
theorem Zlu {hx:Int} {x:Value} {Q:Option Value->jn->Prop} (bt:w.params.followText "set-order"=true) (hI:Zcf s.heap I (.int 0 0) i a n ep) (hS:s.heap.get? a=some (Y7 es ep t)) (fit:t.fits es.size=true) (hn:es.size=n)
 (he:(u8 (w.params.setOrder a ep) es)[i]?=some (hx,x)) (hQ:∀h',Zcf h' I (.int 0 0) (i+1) a n ep->Heap.SameBut I s.heap h'->Q (some x) {s with heap:=h'}):js (ju prog w) A (uf (.ref I)) Q E s:=by
 have hT:s.TypeIs (.ref I) "set_iterator":=⟨_,hI,rfl⟩;unfold uf;refine jm (jX (jP (name:=Qc "__next__") hT ZG (jS ZG hT zO ?_ (z7 _))))
 unfold Builtin.«set_iterator.__next__»
 refine jm (m:=vU _ _ _) (jq ?_);refine jm (vb hI rfl ?_);dsimp only;refine jm (uz hS rfl fit ?_);rw [if_neg (by rw [hn];simp)];refine jm ?_;unfold setNext vC;rw [Qm,Qm];refine jm (uh hS rfl fit ?_);dsimp only;refine jm (jm (ue (jq ?_)));show js _ _ (if w.params.followText "set-order"=true then _ else _) _ _ s;rw [if_pos bt,if_neg (by simp)];unfold setWalk vC;refine jm (jm (uh hS rfl fit ?_));dsimp only;refine jm (jm (ue (jq ?_)));show js _ _ (if w.params.followText "set-order"=true then _ else _) _ _ s;rw [if_pos bt];refine jm (ue (jq ?_));show js _ _ (pure (Vx _ (u8 (w.params.setOrder a ep) es)[i]?)) _ _ s;rw [he];refine jq ?_;dsimp only [Vx];refine jm (uq hI (by simp) λh1 hI1 sb1=>?_);refine jm (uq (s:= {s with heap:=h1}) hI1 (by simp) λh2 hI2 sb2=>jq ⟨x,rfl,jq (hQ h2 ?_ (sb1.trans sb2))⟩);show h2.get? I=_;rw [hI2];simp [uc]
theorem Zm6 {Q:Option Value->jn->Prop} (bt:w.params.followText "set-order"=true) (hh:A.handled=none) (hI:Zcf s.heap I (.int 0 0) i a n ep) (hS:s.heap.get? a=some (Y7 es ep t)) (fit:t.fits es.size=true) (hn:es.size=n)
 (he:(u8 (w.params.setOrder a ep) es)[i]?=none) (hQ:∀h',(∀b o,b≠I->s.heap.get? b=some o->h'.get? b=some o)->Q none {s with heap:=h'}):js (ju prog w) A (uf (.ref I)) Q E s:=by
 have hT:s.TypeIs (.ref I) "set_iterator":=⟨_,hI,rfl⟩;unfold uf;refine jm (jX (jP (name:=Qc "__next__") hT ZG (jS ZG hT zO ?_ (z7 _))))
 unfold Builtin.«set_iterator.__next__»
 refine jm (m:=vU _ _ _) (jq ?_);refine jm (vb hI rfl ?_);dsimp only;refine jm (uz hS rfl fit ?_);rw [if_neg (by rw [hn];simp)];refine jm ?_;unfold setNext vC;rw [Qm,Qm];refine jm (uh hS rfl fit ?_);dsimp only;refine jm (jm (ue (jq ?_)));show js _ _ (if w.params.followText "set-order"=true then _ else _) _ _ s;rw [if_pos bt,if_neg (by simp)];unfold setWalk vC;refine jm (jm (uh hS rfl fit ?_));dsimp only;refine jm (jm (ue (jq ?_)));show js _ _ (if w.params.followText "set-order"=true then _ else _) _ _ s;rw [if_pos bt];refine jm (ue (jq ?_));show js _ _ (pure (Vx _ (u8 (w.params.setOrder a ep) es)[i]?)) _ _ s;rw [he];refine jq ?_;dsimp only [Vx];exact ZfG (h0:=s.heap) (o:=Y7 es ep t) hh hI (by simp) (λb o hb e=>e) hQ
end
theorem Zcl {α:Type}:∀(l:List α) (i:Nat) (h:i<l.length),(l[i]::l.eraseIdx i).Perm l
 |x::r,0,_=>List.Perm.refl _
 |x::r,i+1,h=>by
  have h':i<r.length:=by simpa using h
  exact (List.Perm.swap x r[i] (r.eraseIdx i)).trans (List.Perm.cons x (Zcl r i h'))
theorem ZkB {α:Type} (next:Nat->Nat):∀(f k:Nat) (left:List α) (out:Array α),left.length=f->∃r:List α,(pickOrder.go next f k left out).toList=out.toList++r/\r.Perm left
 |0,k,left,out,h=>by rw [uQ.mp h];exact ⟨[],by simp [pickOrder.go],List.Perm.refl _⟩
 |f+1,k,left,out,h=>by
  have hlt:next k%left.length<left.length:=jl _ (by omega)
  unfold pickOrder.go;rw [Qd hlt];dsimp only;obtain ⟨r,e,p⟩:=ZkB next f (k+1) (left.eraseIdx (next k%left.length)) (out.push left[next k%left.length]) (by rw [V1 hlt,h];rfl)
  refine ⟨left[next k%left.length]::r,by rw [e];simp,(List.Perm.cons _ p).trans ?_⟩;exact Zcl left _ hlt
theorem ZdM {α:Type} (next:Nat->Nat) (xs:Array α):(u8 next xs).toList.Perm xs.toList:=by
 obtain ⟨r,e,p⟩:=ZkB next xs.size 0 xs.toList #[] (by simp)
 unfold u8;rw [e];simpa using p
section
variable {prog:jx} {w:jG} {A:Around} {E:Value->jn->Prop}
theorem Zd1 {src:Source} {n:Nat} {Q:Nat->jn->Prop} {s:jn} (hn:0<n) (h:∀i d,i<n->Q i {s with drawn:=d}):js (ju prog w) A (choose src n) Q E s:=by intro Γ p hΓ;unfold choose;rw [Sem.wp_choose];exact ⟨by omega,h _ _ (jl _ hn)⟩
theorem ZhZ {α:Type}:∀(n:Nat) (xs:List α) (s:jn) (Q:List α->jn->Prop),xs.length=n->(∀r d,r.Perm xs->Q r {s with drawn:=d})->js (ju prog w) A (drawOrder n xs) Q E s
 |0,xs,s,Q,h,q=>by rw [uQ.mp h];unfold drawOrder;exact jq (by have:=q [] s.drawn (by rw [uQ.mp h]);exact this)
 |n+1,[],s,Q,h,q=>by simp at h
 |n+1,x::xs,s,Q,h,q=>by unfold drawOrder;refine jm (Zd1 (by simp) λi d hi=>?_);rw [Qd hi];dsimp only;refine jm (ZhZ n ((x::xs).eraseIdx i) _ _ (by rw [V1 hi,h];rfl) λr d' p=>?_);exact jq (q _ d' ((List.Perm.cons _ p).trans (Zcl _ i hi)))
end
section
variable {prog:jx} {w:jG} {A:Around} {E:Value->jn->Prop} {s:jn} {I a:jo} {i n ep sl:Nat} {es:Array (Int×Value)} {t:uX}
theorem Zjt {hx:Int} {x:Value} {j:Nat} {Q:Option Value->jn->Prop} (bt:w.params.followText "set-order"=false) (hI:Zcf s.heap I (.int sl 0) i a n ep) (hS:s.heap.get? a=some (Y7 es ep t)) (fit:t.fits es.size=true) (hn:es.size=n) (one:n<=1) (led:t.led=true)
 (he:es[SetTable.below t.place sl]?=some (hx,x)) (hp:t.place[SetTable.below t.place sl]?=some j) (hQ:∀h',Zcf h' I (.int (j+1:Nat) 0) (i+1) a n ep->Heap.SameBut I s.heap h'->Q (some x) {s with heap:=h'}):js (ju prog w) A (uf (.ref I)) Q E s:=by
 have hT:s.TypeIs (.ref I) "set_iterator":=⟨_,hI,rfl⟩;unfold uf;refine jm (jX (jP (name:=Qc "__next__") hT ZG (jS ZG hT zO ?_ (z7 _))))
 unfold Builtin.«set_iterator.__next__»
 refine jm (m:=vU _ _ _) (jq ?_);refine jm (vb hI rfl ?_);dsimp only;refine jm (uz hS rfl fit ?_);rw [if_neg (by rw [hn];simp)];refine jm ?_;unfold setNext vC;rw [Qm,Qm,Qm];refine jm (uh hS rfl fit ?_);dsimp only;refine jm (jm (ue (jq ?_)));show js _ _ (if w.params.followText "set-order"=true then _ else _) _ _ s;rw [if_neg (by rw [bt];exact Qg)];show js _ _ (if (!t.plain && decide (es.size>1))=true then _ else _) _ _ s;rw [if_neg (by rw [decide_eq_false (by omega),Vv];exact Qg)];refine jm ?_;show js _ _ (if (!t.led && !es.isEmpty)=true then _ else _) _ _ s;rw [if_neg (by rw [led];exact Qg)];refine jq ?_;rw [he,hp];refine jq ?_;dsimp only;refine jm (uq hI (by simp) λh1 hI1 sb1=>?_);refine jm (uq (s:= {s with heap:=h1}) hI1 (by simp) λh2 hI2 sb2=>jq ⟨x,rfl,jq (hQ h2 ?_ (sb1.trans sb2))⟩);show h2.get? I=_;rw [hI2];simp [uc]
theorem Zgk {Q:Option Value->jn->Prop} (bt:w.params.followText "set-order"=false) (hh:A.handled=none) (hI:Zcf s.heap I (.int sl 0) i a n ep) (hS:s.heap.get? a=some (Y7 es ep t)) (fit:t.fits es.size=true) (hn:es.size=n) (one:n<=1) (led:t.led=true)
 (he:es[SetTable.below t.place sl]?=none) (hQ:∀h',(∀b o,b≠I->s.heap.get? b=some o->h'.get? b=some o)->Q none {s with heap:=h'}):js (ju prog w) A (uf (.ref I)) Q E s:=by
 have hT:s.TypeIs (.ref I) "set_iterator":=⟨_,hI,rfl⟩;unfold uf;refine jm (jX (jP (name:=Qc "__next__") hT ZG (jS ZG hT zO ?_ (z7 _))))
 unfold Builtin.«set_iterator.__next__»
 refine jm (m:=vU _ _ _) (jq ?_);refine jm (vb hI rfl ?_);dsimp only;refine jm (uz hS rfl fit ?_);rw [if_neg (by rw [hn];simp)];refine jm ?_;unfold setNext vC;rw [Qm,Qm,Qm];refine jm (uh hS rfl fit ?_);dsimp only;refine jm (jm (ue (jq ?_)));show js _ _ (if w.params.followText "set-order"=true then _ else _) _ _ s;rw [if_neg (by rw [bt];exact Qg)];show js _ _ (if (!t.plain && decide (es.size>1))=true then _ else _) _ _ s;rw [if_neg (by rw [decide_eq_false (by omega),Vv];exact Qg)];refine jm ?_;show js _ _ (if (!t.led && !es.isEmpty)=true then _ else _) _ _ s;rw [if_neg (by rw [led];exact Qg)];refine jq ?_;rw [he];refine jq ?_;dsimp only;exact ZfG (h0:=s.heap) (o:=Y7 es ep t) hh hI (by simp) (λb o hb e=>e) hQ
theorem ZbR {first:Value} {Q:Value->jn->Prop} (hI:Zcf s.heap I first i a n ep) (h:Q (.ref I) s):js (ju prog w) A (Qai (.ref I)) Q E s:=by have hT:s.TypeIs (.ref I) "set_iterator":=⟨_,hI,rfl⟩;refine Qal hT ZbI (jS ZbI hT Zee ?_ (ZeP _));show js _ _ (ret (.ref I)) _ _ s;exact jq ⟨_,rfl,"set_iterator",_,hT,ZG.lookup,h⟩
theorem Znv {Q:Value->jn->Prop} (hS:s.heap.get? a=some (Y7 es ep t)) (fit:t.fits es.size=true) (tab:ZhI w t es.size)
 (hA:¬(w.params.followText "set-order"=false/\1<es.size)->Q (.ref s.heap.objs.size) {s with heap:=s.heap.push {cls:=.type "set_iterator",data:=.fields #[.int 0 0,.int 0 0,.ref a,.int es.size 0,.int ep 0]} })
 (hB:w.params.followText "set-order"=false->∀(r:List Nat) d,r.Perm (Qj es.size)->Q (.ref (s.heap.objs.size+1)) {s with heap:=(s.heap.push {cls:=.type "tuple",data:=.seq (r.map λi:Nat=>uc i).toArray}).push {cls:=.type "set_iterator",data:=.fields #[.ref s.heap.objs.size,.int 0 0,.ref a,.int es.size 0,.int ep 0]},drawn:=d})
 (small:es.size<=sizeLine):js (ju prog w) A (Qai (.ref a)) Q E s:=by
 have hT:s.TypeIs (.ref a) "set":=⟨_,hS,rfl⟩;refine Qal hT F.slot_set_iter (jS F.slot_set_iter hT Zed ?_ (F.args_set_iter_1 _))
 unfold Builtin.«frozenset.__iter__»
 refine jm (m:=Builtin.Frozenset.slot0 _ _) (jm (m:=vU _ _ _) (jq ?_));refine jq ?_;dsimp only;unfold Builtin.Frozenset.sizeOf;refine jm (jm (uz hS rfl fit (jq ?_)));unfold setDrawn vC;refine jm (jm (uh hS rfl fit ?_));dsimp only;refine jm (jm (ue (jq (jq ?_))));show js _ _ (if (!w.params.followText "set-order" && (!t.plain && decide (es.size>1)))=true then _ else _) _ _ s;have hep:∀(s':jn) (Q':Nat->jn->Prop),s'.heap.get? a=some (Y7 es ep t)->Q' ep s'->js (ju prog w) A.in1 (setEpoch a) Q' E s':=λs' Q' h1 h2=>wpAny_setEpoch_of h1 rfl fit h2;refine wpAny_ite_split (λc=>?_) λc=>?_
 ·have c1:w.params.followText "set-order"=false:=by
   cases e:w.params.followText "set-order" with
   |false=>rfl
   |true=>rw [e] at c;simp at c
  refine jm (ZhZ es.size (Qj es.size) s _ (by simp) λr d pm=>?_);refine jm (vT ?_ (by rw [jr,pm.length_eq,uP];exact small));refine jm (hep _ _ (Qe _ hS) ?_);refine jm (j8 (jq ⟨_,rfl,"set_iterator",_,⟨_,Qi _ rfl,rfl⟩,ZG.lookup,?_⟩));have:=hB c1 r d pm;simpa [UE,uc] using this
 ·refine jm (jq ?_);refine jm (hep _ _ hS ?_);refine jm (j8 (jq ⟨_,rfl,"set_iterator",_,⟨_,Qi _ rfl,rfl⟩,ZG.lookup,?_⟩));refine hA λ⟨e1,e2⟩=>c ?_;rw [e1,tab.2 (by omega),decide_eq_true (by omega)];rfl
end
noncomputable abbrev vals (es:Array (Int×Value)):List Value:=es.toList.map (·.2)
theorem ZoT {es:Array (Int×Value)} {p:Nat} {v:Value} (h:(vals es)[p]?=some v):∃hx,es[p]?=some (hx,v):=by rw [Qh] at h;obtain ⟨⟨hx,x⟩,e,rfl⟩:=Qy.mp h;exact ⟨hx,by rw [<-Uy];exact e⟩
theorem Zn7 {α:Type} {l:List α} {n:Nat} (h:l.length<=n):l.toArray[n]?=none:=by rw [Q9];simpa using h
section
variable {prog:jx} {w:jG} {A:Around} {I Fr a:jo} {es:Array (Int×Value)} {t:uX} {ep:Nat}
theorem ZjT (hh:A.handled=none) (nIF:Fr≠I) (nIa:a≠I) (fit:t.fits es.size=true) {r:List Nat} (hr:r.Perm (Qj es.size)):
 WalksS prog w A I [I,Fr,a] [I] (λx y=>y=x) es.size (λi v=>(r.map λp=>(vals es).getD p Qq)[i]?=some v)
  (λi s=>Zcf s.heap I (.ref Fr) i a es.size ep/\s.heap.get? Fr=some {cls:=.type "tuple",data:=.seq (r.map λi:Nat=>uc i).toArray}/\s.heap.get? a=some (Y7 es ep t)) where
 sub:=λb hb=>by rw [jC.mp hb];simp
 grefl:=λ_=>rfl
 gtrans:=λ_ _ _ h1 h2=>h2.trans h1
 frame:=λi s h' tk st _ k=>⟨k I (by simp) _ st.1,k Fr (by simp) _ st.2.1,k a (by simp) _ st.2.2⟩
 item:=λi s Q E hi st hQ=>by
  have hl:=hr.length_eq;rw [uP] at hl;have hri:i<r.length:=by omega
  have hp:r[i]<es.size:=QB.mp (hr.mem_iff.mp (QU hri));have hv:(vals es)[r[i]]?=some ((vals es).getD r[i] Qq):=by rw [Qb,Qd (by simpa using hp)];rfl
  obtain ⟨hx,he⟩:=ZoT hv;refine Zjs st.1 st.2.1 st.2.2 fit rfl (p:=r[i]) (by simp [hri]) he λh' hI sb=>hQ _ _ ?_ ⟨hI,(sb.2 Fr nIF).trans st.2.1,(sb.2 a nIa).trans st.2.2⟩ ⟨λb o hb e=>(sb.2 b (λz=>hb (by simp [z]))).trans e,rfl,rfl,rfl,Qf _⟩;rw [Qh,Qd hri];rfl
 done:=λs Q E st hQ=>by have hl:=hr.length_eq;rw [uP] at hl;exact Zk2 hh st.1 st.2.1 st.2.2 fit rfl (Zn7 (by rw [jr];omega)) λh' k=>hQ _ ⟨λb o hb e=>k b o (λz=>hb (by simp [z])) e,rfl,rfl,rfl,Qf _⟩
 self:=λi s Q E st hQ=>ZbR st.1 hQ
theorem Zl0 (bt:w.params.followText "set-order"=true) (hh:A.handled=none) (nIa:a≠I) (fit:t.fits es.size=true):
 WalksS prog w A I [I,a] [I] (λx y=>y=x) es.size (λi v=>((u8 (w.params.setOrder a ep) es).toList.map (·.2))[i]?=some v)
  (λi s=>Zcf s.heap I (.int 0 0) i a es.size ep/\s.heap.get? a=some (Y7 es ep t)) where
 sub:=λb hb=>by rw [jC.mp hb];simp
 grefl:=λ_=>rfl
 gtrans:=λ_ _ _ h1 h2=>h2.trans h1
 frame:=λi s h' tk st _ k=>⟨k I (by simp) _ st.1,k a (by simp) _ st.2⟩
 item:=λi s Q E hi st hQ=>by
  have hl:=(ZdM (w.params.setOrder a ep) es).length_eq;rw [Qp,Qp] at hl;have hi':i<(u8 (w.params.setOrder a ep) es).size:=by omega
  refine Zlu bt st.1 st.2 fit rfl (hx:=(u8 (w.params.setOrder a ep) es)[i].1) (x:=(u8 (w.params.setOrder a ep) es)[i].2) (by rw [QZ hi']) λh' hI sb=>hQ _ _ ?_ ⟨hI,(sb.2 a nIa).trans st.2⟩ ⟨λb o hb e=>(sb.2 b (λz=>hb (by simp [z]))).trans e,rfl,rfl,rfl,Qf _⟩;rw [Qh,Uy,QZ hi'];rfl
 done:=λs Q E st hQ=>by have hl:=(ZdM (w.params.setOrder a ep) es).length_eq;rw [Qp,Qp] at hl;exact Zm6 bt hh st.1 st.2 fit rfl (by rw [Q9];omega) λh' k=>hQ _ ⟨λb o hb e=>k b o (λz=>hb (by simp [z])) e,rfl,rfl,rfl,Qf _⟩
 self:=λi s Q E st hQ=>ZbR st.1 hQ
theorem ZeR (j:Nat):SetTable.below #[j] 0=0:=by simp [SetTable.below,SetTable.below.go]
theorem Zi3 (j:Nat):SetTable.below #[j] (j+1)=1:=by simp [SetTable.below,SetTable.below.go]
theorem ZjU (bt:w.params.followText "set-order"=false) (hh:A.handled=none) (nIa:a≠I) (fit:t.fits es.size=true) (one:es.size<=1) (led:t.led=true):
 ∃g:Nat->Nat,g 0=0/\WalksS prog w A I [I,a] [I] (λx y=>y=x) es.size (λi v=>(vals es)[i]?=some v)
  (λi s=>Zcf s.heap I (.int (g i:Nat) 0) i a es.size ep/\s.heap.get? a=some (Y7 es ep t)):=by
 have hps:t.place.size=es.size:=by unfold SetTable.fits at fit;rw [QM] at fit;exact eq_of_beq fit.1
 by_cases h0:es.size=0
 ·have e0:es=#[]:=Array.eq_empty_of_size_eq_zero h0;refine ⟨λ_=>0,rfl,λb hb=>by rw [jC.mp hb];simp,λ_=>rfl,λ_ _ _ h1 h2=>h2.trans h1,λi s h' tk st _ k=>⟨k I (by simp) _ st.1,k a (by simp) _ st.2⟩,λi s Q E hi st hQ=>by omega,λs Q E st hQ=>?_,λi s Q E st hQ=>ZbR st.1 hQ⟩;exact Zgk bt hh st.1 st.2 fit rfl one led (by rw [e0];simp) λh' k=>hQ _ ⟨λb o hb e=>k b o (λz=>hb (by simp [z])) e,rfl,rfl,rfl,Qf _⟩
 ·have h1:es.size=1:=by omega
  obtain ⟨j,hj⟩:∃j,t.place=#[j]:=by
   have:t.place.size=1:=hps.trans h1
   exact ⟨t.place[0],by
    apply Array.ext
    ·simpa using this
    ·intro i hi1 hi2;have:i=0:=by simp at hi2;omega
     subst this;rfl⟩
  have hle:(vals es).length=1:=by simpa using h1
  have hv:(vals es)[0]?=some ((vals es).getD 0 Qq):=by rw [Qb,Qd (by omega)];rfl
  obtain ⟨hx,he⟩:=ZoT hv;refine ⟨λi=>if i=0 then 0 else j+1,rfl,λb hb=>by rw [jC.mp hb];simp,λ_=>rfl,λ_ _ _ h1 h2=>h2.trans h1,λi s h' tk st _ k=>⟨k I (by simp) _ st.1,k a (by simp) _ st.2⟩,λi s Q E hi st hQ=>?_,λs Q E st hQ=>?_,λi s Q E st hQ=>ZbR st.1 hQ⟩
  ·have:i=0:=by omega
   subst this;refine Zjt bt st.1 st.2 fit rfl one led (hx:=hx) (j:=j) ?_ ?_ λh' hI sb=>hQ _ _ hv ⟨hI,(sb.2 a nIa).trans st.2⟩ ⟨λb o hb e=>(sb.2 b (λz=>hb (by simp [z]))).trans e,rfl,rfl,rfl,Qf _⟩
   ·rw [hj];show es[SetTable.below #[j] 0]?=_;rw [ZeR];exact he
   ·rw [hj];show (#[j]:Array Nat)[SetTable.below #[j] 0]?=_;rw [ZeR];rfl
  ·have st1:=st.1;rw [h1] at st1;have st1':Zcf s.heap I (.int (j+1:Nat) 0) 1 a es.size ep:=by rw [h1];exact st1
   exact Zgk bt hh st1' st.2 fit rfl one led (by rw [hj,Zi3];exact Q9 (by omega)) λh' k=>hQ _ ⟨λb o hb e=>k b o (λz=>hb (by simp [z])) e,rfl,rfl,rfl,Qf _⟩
end
section
variable {prog:jx} {w:jG} {A:Around} {E:Value->jn->Prop} {s:jn} {a:jo} {es:Array (Int×Value)} {t:uX} {ep:Nat}
theorem Zia {Q:Bool->jn->Prop} (hS:s.heap.get? a=some (Y7 es ep t)) (h:Q false s):js (ju prog w) A (Builtin.List.listLengthHint (.ref a)) Q E s:=by
 have hT:s.TypeIs (.ref a) "set":=⟨_,hS,rfl⟩;unfold Builtin.List.listLengthHint;refine jm (vO hT F.slot_set_len.lookup ?_)
 wp_delta
 refine jm (vg (T:="set") (b:=true) hT sub_set_self ?_);show js _ _ (typeOf (Value.ref a) >>=_) _ _ _;refine jm (Qak (T:="set") hT ?_);exact jq h
theorem Ze6 {acc:Array Value} {n:Nat} {qs:List Value} (h:QaC (λi v=>qs[i]?=some v) acc n) (hn:qs.length=n):acc.toList=qs:=by
 obtain ⟨h1,h2⟩:=h;refine WO λi=>?_;rw [Uy];by_cases hi:i<acc.size
 ·have:=h2 i acc[i] (by rw [QZ hi]);rw [QZ hi,this]
 ·rw [Q9 (by omega),Vp (by omega)]
theorem Znm {R:Qav->jn->Prop} {G:Array Qaq->Array Qaq->Prop} {n c0:Nat} {P:Nat->Value->Prop} {St:Nat->jn->Prop} {I S:jo} {fp:List jo} {res:Value} {z:jn} (W:WalksS prog w A.in1 I fp [I] G n P St) (out:S∉fp) (st:St 0 z) (hn:n<=sizeLine)
 (h0:z.heap.get? S=some {cls:=.type "list",data:=.seq #[] c0}) (fin:∀s' acc c',Moved (S::[I]) G z s'->s'.heap.get? S=some {cls:=.type "list",dict:=none,data:=.seq acc c',slots:=#[]}->QaC P acc n->R (.ok (.ret res)) s'):
 js (ju prog w) A.in1 (do
  rule "list.extend.makes-room"
  Builtin.List.listTouch (.ref S)
  again (.builtin "list.extend.loop" ⟨[.ref S,.ref I,res],[]⟩))
  (λfin s'=>match fin with| .done f=>R (.ok f) s'| .again c'=>c'.quiet=true/\u6 (ju prog w) A c' R s') (λe s'=>R (.error e) s') z:=by
 refine jm (uD ?_);refine jm ?_;show js _ _ (updateSeq S (·.push .none) >>=λ_=>updateSeq S (·.pop)) _ _ _;refine jm (wpAny_updateSeq h0 rfl ?_);have g1:=Q3 (Obj.mapSeq (·.push Qq)) h0 rfl;refine wpAny_updateSeq (hz:=by seq_fits) g1 rfl ?_;have g2:=Q3 (Obj.mapSeq (·.pop)) g1 rfl
 have oth:∀b o,b≠S->z.heap.get? b=some o->((z.heap.update S (Obj.mapSeq (·.push Qq))).update S (Obj.mapSeq (·.pop))).get? b=some o:=λb o hb e=>
  (QX _ _ (Ne.symm hb)).trans ((QX _ _ (Ne.symm hb)).trans e)
 refine jq ⟨u0 F.plain_extend_loop _,codeAny_extend_loopS W hn _ out _ n 0 _ #[] _ rfl (Qu _) (W.frame 0 z _ z.toks st (Qf _) λb hb o e=>oth b o (λy=>out (y▸hb)) e) g2 (ItemsOf.nil _) λs' acc c' mv hS' it=>?_⟩;refine fin s' acc c' ⟨λb o hb e=>mv.heap b o hb (oth b o (λy=>hb (by simp [y])) e),mv.gens,mv.drawn,mv.os,mv.toks⟩ hS' it
theorem Zjc {R:Qav->jn->Prop} (hh:A.handled=none) {S:jo} {c0:Nat} {res:Value} (h0:s.heap.get? S=some {cls:=.type "list",data:=.seq #[] c0}) (hS:s.heap.get? a=some (Y7 es ep t)) (fit:t.fits es.size=true) (tab:ZhI w t es.size) (small:es.size<vh)
 (hR:∀s' acc c',s'.gens=s.gens->s'.os=s.os->(∀b o,b≠S->s.heap.get? b=some o->s'.heap.get? b=some o)->s'.heap.get? S=some {cls:=.type "list",dict:=none,data:=.seq acc c',slots:=#[]}->acc.toList.Perm (vals es)->R (.ok (.ret res)) s'):
 js (ju prog w) A.in1 (Builtin.List.listExtendWith (.ref S) (.ref a) res)
  (λfin s'=>match fin with| .done f=>R (.ok f) s'| .again c'=>c'.quiet=true/\u6 (ju prog w) A c' R s') (λe s'=>R (.error e) s') s:=by
 have hsl:sizeLine=16777216:=jw;have sm:es.size<=sizeLine:=by unfold vh at small;omega
 have nSa:S≠a:=λz=>by rw [z,hS] at h0;simp [Y7] at h0
 have lS:S<s.heap.objs.size:=Qk h0;have la:a<s.heap.objs.size:=Qk hS;have vl:(vals es).length=es.size:=by simp
 unfold Builtin.List.listExtendWith;refine jm (Qak (T:="set") ⟨_,hS,rfl⟩ ?_);have e1:Builtin.List.listSameRef (.ref S) (.ref a)=false:=by simp [Builtin.List.listSameRef,nSa]
 have e2:(UA "set"==UA "list")=false:=by decide
 have e3:(UA "set"==UA "tuple")=false:=by decide
 simp only [e1,e2,e3,Wf,Q4,if_false];refine jm (Znv hS fit tab (λno=>?_) (λbt r d pm=>?_) sm)
 ·have nI:a≠s.heap.objs.size:=Qo la;have kept:∀b o,s.heap.get? b=some o->(s.heap.push {cls:=.type "set_iterator",data:=.fields #[.int 0 0,.int 0 0,.ref a,.int es.size 0,.int ep 0]}).get? b=some o:=λb o e=>Qe _ e;have new:Zcf (s.heap.push {cls:=.type "set_iterator",data:=.fields #[.int 0 0,.int 0 0,.ref a,.int es.size 0,.int ep 0]}) s.heap.objs.size (.int 0 0) 0 a es.size ep:=Qi _ rfl;refine jm (jU (Zia (kept _ _ hS) ?_));rw [if_pos (by decide)];have out:S∉[s.heap.objs.size,a]:=by simp only [jQ,QL,or_false,not_or];exact ⟨Qo lS,nSa⟩
  have fin:∀(qs:List Value),qs.Perm (vals es)->∀(s':jn) (acc:Array Value) (c':Nat),Moved (S::[s.heap.objs.size]) (λx y=>y=x) {s with heap:=s.heap.push {cls:=.type "set_iterator",data:=.fields #[.int 0 0,.int 0 0,.ref a,.int es.size 0,.int ep 0]} } s'->
   s'.heap.get? S=some {cls:=.type "list",dict:=none,data:=.seq acc c',slots:=#[]}->QaC (λi v=>qs[i]?=some v) acc es.size->R (.ok (.ret res)) s':=λqs pm s' acc c' mv hS' it=>by
   refine hR s' acc c' mv.gens mv.os (λb o hb e=>mv.heap b o ?_ (kept b o e)) hS' (by rw [Ze6 it (by rw [pm.length_eq,vl])];exact pm);simp only [jQ,QL,or_false,not_or];exact ⟨hb,Qo (Qk e)⟩
  cases bt:w.params.followText "set-order" with
  |true=>
   have W:=Zl0 (prog:=prog) (w:=w) (A:=A.in1) (I:=s.heap.objs.size) (a:=a) (es:=es) (t:=t) (ep:=ep) bt hh nI fit;exact Znm W out ⟨new,kept _ _ hS⟩ (by omega) (kept _ _ h0) λs' acc c' mv hS' it=>fin _ ((ZdM _ es).map _) s' acc c' mv hS' it
  |false=>
   have one:es.size<=1:=VQ λz=>no ⟨bt,z⟩;obtain ⟨g,g0,W⟩:=ZjU (prog:=prog) (w:=w) (A:=A.in1) (I:=s.heap.objs.size) (a:=a) (es:=es) (t:=t) (ep:=ep) bt hh nI fit one (tab.1 bt);exact Znm W out ⟨by rw [g0];exact new,kept _ _ hS⟩ (by omega) (kept _ _ h0) λs' acc c' mv hS' it=>fin _ (List.Perm.refl _) s' acc c' mv hS' it
 ·generalize hF:({cls:=.type "tuple",data:=.seq (r.map λi:Nat=>uc i).toArray}:Obj)=oF;generalize hO:({cls:=.type "set_iterator",data:=.fields #[.ref s.heap.objs.size,.int 0 0,.ref a,.int es.size 0,.int ep 0]}:Obj)=oI;have kept:∀b o,s.heap.get? b=some o->((s.heap.push oF).push oI).get? b=some o:=λb o e=>Qe _ (Qe _ e)
  have sz:(s.heap.push oF).objs.size=s.heap.objs.size+1:=UE ..
  have new:((s.heap.push oF).push oI).get? (s.heap.objs.size+1)=some oI:=by have:=Qi (s.heap.push oF) (o:=oI) (by rw [<-hO];rfl);rwa [sz] at this
  have newF:((s.heap.push oF).push oI).get? s.heap.objs.size=some oF:=Qe _ (Qi _ (by rw [<-hF];rfl));refine jm (jU (Zia (kept _ _ hS) ?_));rw [if_pos (by decide)];have nF:@Ne jo s.heap.objs.size (s.heap.objs.size+1):=Qo (UV _);have nI:@Ne jo a (s.heap.objs.size+1):=Qo (UR la);have W:=ZjT (prog:=prog) (w:=w) (A:=A.in1) (I:=s.heap.objs.size+1) (Fr:=s.heap.objs.size) (a:=a) (es:=es) (t:=t) (ep:=ep) hh nF nI fit pm;have out:S∉[s.heap.objs.size+1,s.heap.objs.size,a]:=by simp only [jQ,QL,or_false,not_or];exact ⟨Qo (UR lS),Qo lS,nSa⟩
  refine Znm W out ⟨new.trans (by rw [<-hO];rfl),newF.trans (by rw [<-hF]),kept _ _ hS⟩ (by omega) (kept _ _ h0) λs' acc c' mv hS' it=>?_
  have pq:(r.map λp=>(vals es).getD p Qq).Perm (vals es):=by
   have h1:=pm.map λp=>(vals es).getD p Qq;have h2:((Qj es.size).map λp=>(vals es).getD p Qq)=vals es:=by refine VO (by simp) λi hi1 hi2=>?_;rw [VN,WK,Qb,Qd hi2];rfl
   rw [h2] at h1;exact h1
  refine hR s' acc c' mv.gens mv.os (λb o hb e=>mv.heap b o ?_ (kept b o e)) hS' (by rw [Ze6 it (by rw [pq.length_eq,vl])];exact pq);simp only [jQ,QL,or_false,not_or];exact ⟨hb,Qo (UR (Qk e))⟩
end
section
variable {prog:jx} {w:jG} {A:Around} {E:Value->jn->Prop} {s:jn} {a:jo}
theorem ZlZ {xs:List V} {us vs:List Value} (h:ZA xs us) (p:vs.Perm us):∃ys,ys.Perm xs/\ZA ys vs:=by
 induction p generalizing xs with
 |nil=>exact ⟨xs,List.Perm.refl _,h⟩
 |cons v p ih=>
  cases h with
  |cons r h=>
   obtain ⟨ys,q1,q2⟩:=ih h;exact ⟨_::ys,List.Perm.cons _ q1,.cons r q2⟩
 |swap x y l=>
  cases h with
  |cons r1 h=>
   cases h with
   |cons r2 h=>exact ⟨_,List.Perm.swap _ _ _,.cons r2 (.cons r1 h)⟩
 |trans p1 p2 ih1 ih2=>
  obtain ⟨ys,q1,q2⟩:=ih2 h;obtain ⟨zs,q3,q4⟩:=ih1 q2;exact ⟨zs,q3.trans q1,q4⟩
theorem ZhV {cs:List Nat} {Q:List Value->jn->Prop} (hh:A.handled=none) (st:ZgM w s.heap a cs)
 (h:∀vs s' (ds:List Nat),ds.Perm cs->ZA (ds.map λc=>V.str (T [c])) vs->s'.gens=s.gens->s'.os=s.os->(∀b o,s.heap.get? b=some o->s'.heap.get? b=some o)->Q vs s'):js (ju prog w) A (collect (.ref a)) Q E s:=by
 obtain ⟨es,ep,t,ho,vl,fit,small,tab⟩:=st;have hsl:sizeLine=16777216:=jw;unfold collect;refine jm (vS (ub F.entry_proto_collect ?_));rw [Around.under_plainId F.plain_proto_collect _];show js _ A.in1 (newList [] >>=λl=>again (.builtin "list.__iadd__" ⟨[l,.ref a],[]⟩)) _ _ s;refine jm (j8 ?_);refine jq ⟨u0 F.plain_list_iadd _,ub F.entry_list_iadd ?_⟩;rw [Around.under_plainId F.plain_list_iadd _];show js _ A.in1 (Builtin.List.listExtendWith (.ref s.heap.objs.size) (.ref a) (.ref s.heap.objs.size)) _ _ _
 let ZqZ:jn->Prop:=λs'=>∃acc c',s'.gens=s.gens/\s'.os=s.os/\(∀b o,s.heap.get? b=some o->s'.heap.get? b=some o)/\s'.heap.get? s.heap.objs.size=some {cls:=.type "list",dict:=none,data:=.seq acc c',slots:=#[]}/\acc.toList.Perm (vals es)
 have fin:∀s':jn,ZqZ s'->js (ju prog w) A (match Value.ref s.heap.objs.size with
  |Value.ref a=>do
   match (<-load a).data with
    |Data.seq xs _=>pure xs.toList
    |_=>unsupported "internal:collect"
  |_=>unsupported "internal:collect") Q E s':=by
  rintro s' ⟨acc,c',g1,g2,g3,g4,g5⟩;show js _ A (load s.heap.objs.size >>=_) _ _ _;refine jm (wpAny_load g4 ?_);obtain ⟨ys,q1,q2⟩:=ZlZ vl g5
  obtain ⟨ds,hd,rfl⟩:∃ds:List Nat,ds.Perm cs/\(ds.map λc=>V.str (T [c]))=ys:=by
   have back:∀{ys zs:List V},ys.Perm zs->∀cs:List Nat,zs=(cs.map λc=>V.str (T [c]))->∃ds:List Nat,ds.Perm cs/\(ds.map λc=>V.str (T [c]))=ys:=by
    intro ys zs p
    induction p with
    |nil=>
     intro cs e;exact ⟨[],by rw [show cs=[] by simpa using e.symm],rfl⟩
    |cons v p ih=>
     intro cs e
     cases cs with
     |nil=>cases e
     |cons c r=>
      rw [jV] at e;obtain ⟨e1,e2⟩:=List.cons.inj e;obtain ⟨ds,q1,q2⟩:=ih r e2;exact ⟨c::ds,List.Perm.cons _ q1,by rw [jV,q2,e1]⟩
    |swap x y l=>
     intro cs e
     match cs,e with
     |c::d::r,e=>
      rw [jV,jV] at e;obtain ⟨e1,e2⟩:=List.cons.inj e;obtain ⟨e3,e4⟩:=List.cons.inj e2;exact ⟨d::c::r,List.Perm.swap _ _ _,by rw [jV,jV,e1,e3,e4]⟩
    |trans p1 p2 ih1 ih2=>
     intro cs e;obtain ⟨ds,q1,q2⟩:=ih2 cs e;obtain ⟨fs,q3,q4⟩:=ih1 ds q2.symm;exact ⟨fs,q3.trans q1,q4⟩
   exact back q1 cs rfl
  exact jq (h _ s' ds hd q2 g1 g2 g3)
 refine jW (Zjc (s:= {s with heap:=s.heap.push {cls:=.type "list",data:=.seq ([]:List Value).toArray} }) (R:=λr s'=>r=.ok (.ret (.ref s.heap.objs.size))/\ZqZ s') hh (Qi _ rfl) (Qe _ ho) fit tab small λs' acc c' g1 g2 g3 g4 g5=>⟨rfl,acc,c',g1,g2,λb o e=>g3 b o (Qo (Qk e)) (Qe _ e),g4,g5⟩) (λfn s' hf=>?_) λe s' he=>?_
 ·cases fn with
  |done fl=>
   obtain ⟨e,hf⟩:=hf;cases e;exact fin s' hf
  |again c'=>
   refine ⟨hf.1,ud hf.2 λr s2 hr=>?_⟩;obtain ⟨e,hr⟩:=hr;subst e;exact fin s2 hr
 ·exact absurd he.1 (by intro z;cases z)
end
theorem Zfh (x y:Str) (hi limit:Nat) (hy:y.length=1):∀(l:List Nat) (st:Array Nat×Nat),(∀i∈l,st.2<=i)->l.Pairwise (· <·)->st.1.size+l.length<=limit->
 (forIn l st (StrLaws.occBody x y hi limit)).run.fst.size=st.1.size+l.countP λi=>decide (i+1<=hi) && Builtin.Str.subAt x y i
 |[],st,_,_,_=>rfl
 |a::l,st,hf,pw,hl=>by
  rw [Uv];unfold StrLaws.occBody;obtain ⟨p1,p2⟩:=QI.mp pw;rw [jD] at hl;by_cases hc:a+y.length<=hi/\Builtin.Str.subAt x y a=true
  ·rw [if_pos ⟨⟨⟨by omega,hf a (jY ..)⟩,hc.1⟩,hc.2⟩];have:=Zfh x y hi limit hy l (st.1.push a,a+y.length) (λi h=>by have:=p1 i h;show a+y.length<=i;omega) p2 (by rw [Vm];omega);rw [Vm] at this;refine this.trans ?_;rw [Qw,if_pos (by rw [hc.2,Bool.and_true,decide_eq_true_eq];omega)];omega
  ·rw [if_neg λz=>hc ⟨z.1.2,z.2⟩];have:=Zfh x y hi limit hy l st (λi h=>hf i (jM _ h)) p2 (by omega);refine this.trans ?_;rw [Qw,if_neg]
   ·rfl
   ·intro z;rw [QM,decide_eq_true_eq] at z;exact hc ⟨by omega,z.2⟩
theorem ZeW (l:List Nat) (c:Nat):∀hi,hi<=l.length->(Qj hi).countP (λi=>decide (l[i]?=some c))=(l.take hi).count c
 |0,_=>rfl
 |hi+1,h=>by rw [Ut,Us,ZeW l c hi (by omega),Ub,List.count_append,Qd (by omega)];have e:l[hi]?=some l[hi]:=Qd (by omega);simp [WW,Qw,e]
theorem Ziw (x y:Str) (c hi:Nat) (hy:L y=[c]) (hh:hi<=(L x).length):(Builtin.Str.occurrences x y 0 hi (x.length+1)).length=((L x).take hi).count c:=by
 have ly:y.length=1:=by rw [<-Z0,hy];rfl
 rw [StrLaws.occ_eq,Qp,Zfh x y hi _ ly _ _ (λi _=>Qu _) (List.pairwise_lt_range' ..) (by rw [List.length_range',<-Z0];simp;omega)];rw [<-List.range_eq_range',<-ZeW (L x) c hi hh];show 0+_=_;rw [VH,VI,Ut,Us];have e0:[hi].countP (λi=>decide (i+1<=hi) && Builtin.Str.subAt x y i)=0:=by rw [QY];intro i h;rw [jC.mp h,decide_eq_false (by omega)];exact Qg
 rw [e0,Ul];refine List.countP_congr λi h=>?_;have h:=QB.mp h;rw [QM,decide_eq_true_eq,decide_eq_true_eq];have e:=Zuy x y i;unfold ZsU at e;rw [hy] at e;have hl:i+y.length<=x.length:=by rw [ly,<-Z0];omega
 rw [decide_eq_true hl,W7] at e;rw [e,decide_eq_true_eq];constructor
 ·rintro ⟨_,_,e2⟩;have:=congrArg (λl:List Nat=>l[0]?) e2;simpa using this
 ·intro e2;refine ⟨by omega,by show i+1<=_;omega,?_⟩;refine VO (by simp;omega) λk h1 h2=>?_;have:k=0:=by simp at h2;omega
  subst this;rw [Qd (by omega)] at e2;simpa using Option.some.inj e2
theorem Zg4 (x y:Str) (i j:Int) (t u v v':Tok):Gives (Builtin.«str.count» ⟨[.str x t,.str y u,.int i v,.int j v'],[]⟩) (.int (Builtin.Str.occurrences x y (PySem.fromIndex x.length i) (min (PySem.fromIndex x.length j) x.length) (x.length+1)).length):=by show Gives (retInt (Builtin.Str.occurrences x y (PySem.fromIndex x.length i) (min (PySem.fromIndex x.length j) x.length) (x.length+1)).length) _;exact .of_eq rfl
section
variable {X:Cx}
noncomputable def Zrk:V->List V->Hp->VK->Prop:=λx vs H Q=>match x,vs with
 | .str z,[.str y]=>∃c,L y=[c]/\Q (.int ((L z).count c:Nat)) H
 | .str z,[.str y,.int i,.int j]=>∃c,L y=[c]/\i=0/\0<=j/\Q (.int (((L z).take j.toNat).count c:Nat)) H
 |_,_=>False
theorem Zil:MtR X "str.count" Zrk:=by
 intro Zb s σ H x vs v us Q I rx rv h;unfold Zrk at h;split at h
 ·rename_i z y;obtain ⟨c,hy,q⟩:=h;obtain ⟨t,rfl⟩:=rx;obtain ⟨u,rfl,t',rfl⟩:=qN rv;refine call_gives F.slot_str_count (ui _ _ _) F.entry_str_count (F.args_str_count_2 _ _) (gives_str_count z y t t') ?_;have:=Ziw z y c (L z).length hy (Qf _);rw [QG,Z0] at this;rw [this];exact ⟨.int ((L z).count c:Nat),H,I.tok _,⟨_,rfl⟩,q⟩
 ·rename_i z y i j;obtain ⟨c,hy,hi,hj,q⟩:=h;subst hi;obtain ⟨t,rfl⟩:=rx
  obtain ⟨t',t'',t3,rfl⟩:∃t' t'' t3,us=[.str y t',.int 0 t'',.int j t3]:=by
   cases rv with
   |cons r1 rv=>
    cases rv with
    |cons r2 rv=>
     cases rv with
     |cons r3 rv=>
      cases rv;obtain ⟨t',rfl⟩:=r1;obtain ⟨t'',rfl⟩:=r2;obtain ⟨t3,rfl⟩:=r3;exact ⟨t',t'',t3,rfl⟩
  refine call_gives F.slot_str_count (ui _ _ _) F.entry_str_count (F.args_str_count_4 _ _ _ _) (Zg4 z y 0 j t t' t'' t3) ?_;have e1:PySem.fromIndex z.length 0=0:=rfl;have e2:PySem.fromIndex z.length j=j.toNat:=by unfold PySem.fromIndex;rw [if_neg (by omega)];omega
  rw [e1,e2];have:=Ziw z y c (min j.toNat z.length) hy (by rw [Z0];omega);rw [this,<-Z0]
  have e3:(L z).take (min j.toNat (L z).length)=(L z).take j.toNat:=by
   by_cases h:j.toNat<=(L z).length
   ·rw [Uh h]
   ·rw [Vj (by omega),QG,QD (by omega)]
  rw [e3];exact ⟨.int (((L z).take j.toNat).count c:Nat),H,I.tok _,⟨_,rfl⟩,q⟩
 ·exact h.elim
end
noncomputable def YJ:Stmt->List Stmt
 | .ClassDef _ _ _ b _ _ _ _ _ _ _=>b
 |_=>[]
section
variable {P:jx} {w:jG} {K:Qa} {mg:Str->Option Value} {base:Heap}
theorem Fun.okLX {x qual:Str} {st:Stmt} {f c:jo} {fd:j9} {N ps:List Str} {k:Nat} {sp:Sp} (F:Fun K x qual st f fd) (hc:fd.code=.ref c) (S:Zv N ps (Zk st)) (len:∀vs H Q E,sp vs H Q E->vs.length=ps.length)
 (hbody:∀(A:Around) (outer:List Env) (s:jn) (H:Hp) (vs:List V) (Q:VK) (E:XK),zH k (A.deeper (uk qual (Zk st) s.heap.objs.size f (.ref c)))->sp vs H Q E->
  ∃t,PSs (Jm (CX1 P w) P w K mg base N qual (Zk st) f (.ref c) A outer s H E) (ZV st) t/\t {nx:=λ_ H'=>Q .non H',rt:=Q} (qh N vs) H):ZQ P w K mg base (CX1 P w) (k+1) f fd ps sp:=by
 obtain ⟨oc,od,kV,doc,pm,an,cdv,ct,osl,rfl,lk,hcd⟩:=F.ex;have hc:cdv=.ref c:=hc;subst hc;exact Zh5 lk hcd S len λA outer s H vs Q E hr hsp=>hbody A outer s H vs Q E hr hsp
end
section
variable {X:Cx} {K:Qa} {o e value:jL} {f:Str} {pos pos':Pos} {ta tv:TE}
noncomputable def Zuw (C:jo) (ta:TE) (f:Str):TE:=λσ H Q=>ta σ H λx H1=>match x with
 | .ref a=>∃dx fs v,H1 a=some (.ins C dx fs)/\fs.lookup f=some v/\Q v H1
 |_=>False
theorem zV {C:jo} (hK:X.K=K) (c:Cls K C) (n:YC K C f) (he:PE X e ta) (hb:vo e f X.env (eval e X.env)=eval e X.env:=by rfl):PE X (.Attribute e f pos) (Zuw C ta f):=by
 subst hK;have he':PE X e (λσ H Q=>∃Q0:VK,ta σ H Q0/\∀v H',Q0 v H'->Q v H'):=he.imp λσ H Q h=>h;intro Zb s σ H Q I h;refine Zsn (pos:=pos) he' hb Zb s σ H Q I ⟨_,h,λv H' q=>?_⟩
 cases v with
 |ref a=>
  obtain ⟨dx,fs,v,q1,q2,q3⟩:=q;exact ⟨a,C,dx,fs,v,rfl,q1,c,n,q2,q3⟩
 |_=>exact False.elim q
noncomputable def ZuK (C:jo) (ta tv:TE) (f:Str):TS:=λD σ H=>tv σ H λy H1=>ta σ H1 λx H2=>match x with
 | .ref a=>∃dx fs,H2 a=some (.ins C dx fs)/\fs.length<1000/\D.nx σ (upd H2 a (.ins C dx (Ya f y fs)))
 |_=>False
theorem JU {C:jo} (hK:X.K=K) (c:Cls K C) (n:YC K C f) (ha:PE X o ta) (hv:PE X value tv) (hs:u7 value (some (.Attribute o f pos')) pos.line X.env=pure false):PS X (.Assign [.Attribute o f pos'] value pos) (ZuK C ta tv f):=by
 subst hK;have ha':PE X o (λσ H Q=>∃Q0:VK,ta σ H Q0/\∀v H',Q0 v H'->Q v H'):=ha.imp λσ H Q h=>h;have hv':PE X value (λσ H Q=>∃Q0:VK,tv σ H Q0/\∀v H',Q0 v H'->Q v H'):=hv.imp λσ H Q h=>h;intro Zb s σ H D I h;refine ZsE (pos':=pos') (pos:=pos) ha' hv' hs Zb s σ H D I ⟨_,h,λy H1 q1=>⟨_,q1,λx H2 q=>?_⟩⟩
 cases x with
 |ref a=>
  obtain ⟨dx,fs,q1,q2,q3⟩:=q;exact ⟨a,C,dx,fs,rfl,q1,c,n,q2,q3⟩
 |_=>exact False.elim q
end
section
variable {X:Cx} {x:Str} {pos:Pos}
theorem Zod {z:Str} (hg:Gl X x) (hm:∃t,X.mg x=some (.str z t)) (hd:(x==("__debug__":Str))=false:=by decide):PE X (.Name x pos) (tC (.str z)):=by obtain ⟨t,hm⟩:=hm;exact zZ hg hm ⟨t,rfl⟩ hd
theorem Zoc {z:Int} (hg:Gl X x) (hm:∃t,X.mg x=some (.int z t)) (hd:(x==("__debug__":Str))=false:=by decide):PE X (.Name x pos) (tC (.int z)):=by obtain ⟨t,hm⟩:=hm;exact zZ hg hm ⟨t,rfl⟩ hd
end
noncomputable def z8 (cs:List Nat) (h:Nat):List Nat:=cs.take h++10::cs.drop h
theorem ZhU {cs:List Nat} {h:Nat} (hh:h<=cs.length):(z8 cs h).length=cs.length+1:=by unfold z8;rw [jv,jD,jF,jO];omega
noncomputable def fsL (cs:List Nat) (h:Nat) (tot fo:jo):List (Str×V):=[("column",.str (T (z8 cs h))),("home",.int h),("last",.int cs.length),("totals",.ref tot),("forths",.ref fo)]
noncomputable def Tot (H:Hp) (tot:jo) (cs:List Nat):Prop:=∃(ts:List jo) (ds:List Nat),H tot=some (.lst (ts.map V.ref))/\ts.length=ds.length/\(∀(j d:Nat),ds[j]?=some d->∃t,ts[j]?=some t/\H t=some (.tup [.str (T [d]),.int (cs.count d:Nat)]))/\ds.Nodup/\(∀c,c∈ds↔c∈cs)
noncomputable def Fo (H:Hp) (fo:jo) (cs:List Nat) (h:Nat):Prop:=∃p:List Nat,H fo=some (.lst (p.map λi:Nat=>V.int i))/\p.Perm (Qj (cs.length+1))/\p.Pairwise (λi j=>[(z8 cs h).getD i 0]<=[(z8 cs h).getD j 0]/\([(z8 cs h).getD i 0]=[(z8 cs h).getD j 0]->i<j))
noncomputable def qt (C:jo) (H:Hp) (a:jo) (cs:List Nat) (h:Nat):Prop:=∃dx tot fo,H a=some (.ins C dx (fsL cs h tot fo))/\(Tot H tot cs/\Fo H fo cs h)/\h<=cs.length
theorem Tot.same {H H':Hp} {tot:jo} {cs:List Nat} (x:Tot H tot cs) (sm:∀b o,H b=some o->(∀ps,o≠ .tbl ps)->H' b=some o):Tot H' tot cs:=by obtain ⟨ts,ds,h1,h2,h3,h4⟩:=x;refine ⟨ts,ds,sm _ _ h1 (by nofun),h2,λj d e=>?_,h4⟩;obtain ⟨t,e1,e2⟩:=h3 j d e;exact ⟨t,e1,sm _ _ e2 (by nofun)⟩
theorem qt.same {C:jo} {H H':Hp} {a:jo} {cs:List Nat} {h:Nat} (x:qt C H a cs h) (sm:∀b o,H b=some o->(∀ps,o≠ .tbl ps)->H' b=some o):qt C H' a cs h:=by obtain ⟨dx,tot,fo,h1,h2,h3⟩:=x;obtain ⟨p,p1,p2⟩:=h2.2;exact ⟨dx,tot,fo,sm _ _ h1 (by nofun),⟨h2.1.same sm,p,sm _ _ p1 (by nofun),p2⟩,h3⟩
theorem ZiR (c:Nat):∀(cs ds:List Nat),ds.Nodup->(∀x∈cs,x∈ds)->((ds.filter λd=>decide (d<c)).map λd=>(cs.count d:Int)).sum=(cs.countP λx=>decide (x<c):Nat)
 |[],ds,_,_=>by
  have:(ds.filter λd=>decide (d<c)).map (λd=>(([]:List Nat).count d:Int))=(ds.filter λd=>decide (d<c)).map λ_=>0:=uF λ_ _=>rfl;rw [this]
  induction (ds.filter λd=>decide (d<c)) with
  |nil=>rfl
  |cons a r ih=>simpa using ih
 |x::cs,ds,nd,sub=>by
  have ih:=ZiR c cs ds nd λy hy=>sub y (jM _ hy);have hx:=sub x (jY ..)
  have one:∀(es:List Nat),es.Nodup->(es.map λd=>((x::cs).count d:Int)).sum=(es.map λd=>(cs.count d:Int)).sum+if x∈es then 1 else 0:=by
   intro es
   induction es with
   |nil=>intro _;rfl
   |cons a r ihe=>
    intro nde;obtain ⟨n1,n2⟩:=Uu.mp nde;have:=ihe n2;rw [jV,jV,Vz,Vz,this,WW];by_cases e:x=a
    ·subst e;simp [n1];omega
    ·have:(x==a)=false:=by simpa using e
     simp [this,e];omega
  rw [one _ (nd.sublist Vy),ih,Qw];by_cases hl:x<c
  ·rw [if_pos (UY.mpr ⟨hx,by simpa using hl⟩),if_pos (by simpa using hl)];rfl
  ·rw [if_neg λz=>hl (by simpa using (UY.mp z).2),if_neg (by simpa using hl)];simp
theorem Znj (cs:List Nat) (h:Nat) (tot fo:jo):Ya "forths" (.ref fo) (Ya "totals" (.ref tot) (Ya "last" (.int cs.length) (Ya "home" (.int h) (Ya "column" (.str (T (z8 cs h))) []))))=fsL cs h tot fo:=by unfold fsL;rfl
theorem ZgX {α:Type} (l:List α) (m:Nat):cut l none (some (m:Int))=l.take m:=by
 unfold cut;show (l.drop 0).take ((if (m:Int)<0 then ((m:Int)+(l.length:Int)).toNat else min (m:Int).toNat l.length)-0)=l.take m;rw [if_neg (by omega),Qm,Uc,VI];by_cases h:m<=l.length
 ·rw [Uh h]
 ·rw [Vj (by omega),QD (Qf _),QD (by omega)]
theorem ZmP (cs:List Nat) (m:Nat):cut cs none (some (m:Int))++L (Qc "\n")++cut cs (some (m:Int)) none=z8 cs m:=by
 have e:L (Qc "\n")=[10]:=by rfl'
 rw [ZgX,LP.ZcG,e];unfold z8;simp
noncomputable def Prs (H:Hp) (ts:List jo) (ds cs:List Nat):Prop:=ts.length=ds.length/\∀(j d:Nat),ds[j]?=some d->∃t,ts[j]?=some t/\H t=some (.tup [.str (T [d]),.int (cs.count d:Nat)])
theorem Prs.same {H H':Hp} {ts:List jo} {ds cs:List Nat} (x:Prs H ts ds cs) (sm:LP.Zqs H H'):Prs H' ts ds cs:=⟨x.1,λj d e=>by
 obtain ⟨t,e1,e2⟩:=x.2 j d e;exact ⟨t,e1,sm _ _ e2⟩⟩
theorem Prs.snoc {H:Hp} {ts:List jo} {ds cs:List Nat} {t:jo} {d:Nat} (x:Prs H ts ds cs) (ht:H t=some (.tup [.str (T [d]),.int (cs.count d:Nat)])):Prs H (ts++[t]) (ds++[d]) cs:=by
 refine ⟨by simp [x.1],λj e hj=>?_⟩;by_cases h:j<ds.length
 ·rw [QA h] at hj;obtain ⟨u,e1,e2⟩:=x.2 j e hj;exact ⟨u,by rw [QA (by rw [x.1];exact h)];exact e1,e2⟩
 ·have hl:=(Qn.mp hj).1;rw [jv,jJ] at hl;have ej:j=ds.length:=by omega
  subst ej;rw [Qt (Qf _),UQ] at hj;have hj:d=e:=by simpa using hj
  subst hj;exact ⟨t,by rw [<-x.1,Qt (Qf _),UQ];rfl,ht⟩
theorem Zbw {P:jo} {pos:Pos} {q:Str} {H:Hp} {a C dx:jo} {fs:List (Str×V)} {o:HO} (h:Bk P pos q H) (hl:H a=some (.ins C dx fs)):Bk P pos q (upd H a o):=by
 rcases h with h|⟨c',h1,h2⟩
 ·have:P≠a:=by rintro rfl;rw [h] at hl;cases hl
  exact .inl ((Zi this).trans h)
 ·have n1:P≠a:=by rintro rfl;rw [h1] at hl;cases hl
  have n2:c'≠a:=by rintro rfl;rw [h2] at hl;cases hl
  exact .inr ⟨c',(Zi n1).trans h1,(Zi n2).trans h2⟩
theorem Zou (n:Nat):Zc6 0 (n:Int)=(Qj n).map λj:Nat=>V.int j:=by unfold Zc6;rw [show ((n:Int)-0).toNat=n by omega];refine uF λj _=>?_;rw [VM]
theorem Zkf {cs:List Nat} {h i:Nat} (hh:h<=cs.length):(z8 cs h)[i]?=if i<h then cs[i]? else if i=h then some 10 else cs[i-1]?:=by
 unfold z8;by_cases h1:i<h
 ·rw [if_pos h1,QA (by rw [jF];omega),U5,if_pos h1]
 ·rw [if_neg h1,Qt (by rw [jF];omega),jF,Uh hh];by_cases h2:i=h
  ·subst h2;simp
  ·rw [if_neg h2,show i-h=(i-h-1)+1 by omega,Vh,Ur]
   congr 1
   omega
theorem Zo9 {cs:List Nat} {h i:Nat} (hh:h<=cs.length) (h10:∀c∈cs,c≠10) (hi:i<cs.length+1) (hn:i≠h):(z8 cs h).getD i 0≠10:=by
 rw [Qb,Zkf hh];by_cases h1:i<h
 ·rw [if_pos h1,Qd (by omega)];exact h10 _ (QU _)
 ·rw [if_neg h1,if_neg hn,Qd (by omega)];exact h10 _ (QU _)
open Builtin Builtin.Str
end L2
namespace LO
open L2
noncomputable def rsL (cs:List Nat) (h:Nat):Rs:=(cs.take h).map some++none::(cs.drop h).map some
theorem Zox {cs:List Nat} {h:Nat} (hh:h<=cs.length):(rsL cs h)[h]?=some none:=by unfold rsL;rw [Qt (by rw [jr,jF];omega),jr,jF,Uh hh,UQ];rfl
theorem ZsJ {cs:List Nat} {h i:Nat} (hh:h<=cs.length) (hi:i<cs.length+1) (hn:i≠h):(rsL cs h)[i]?=some (some ((z8 cs h).getD i 0)):=by
 rw [Qb,Zkf hh];unfold rsL;by_cases h1:i<h
 ·rw [if_pos h1,QA (by rw [jr,jF];omega),Qh,We h1,Qd (by omega)];rfl
 ·rw [if_neg h1,if_neg hn,Qt (by rw [jr,jF];omega),jr,jF,Uh hh];obtain ⟨k,rfl⟩:∃k,i=h+k+1:=⟨i-h-1,by omega⟩;rw [show h+k+1-h=k+1 by omega,Vh,Qh,Ur,show h+k+1-1=h+k by omega,Qd (by omega)];rfl
theorem Zfb (cs:List Nat) (h d:Nat):less (rsL cs h) d=cs.countP λx=>decide (x<d):=by unfold less rsL;rw [Us,Qw,Uw,Uw];have e:(ZcR d∘some)=λx=>decide (x<d):=rfl;rw [e];show _+(_+if (false:Bool)=true then 1 else 0)=_;rw [if_neg (by decide),Ul,<-Us,QP]
theorem Zcj {cs:List Nat} {h d:Nat} (r:Nat) (hd:d≠10):J2 (rsL cs h) d r=((z8 cs h).take r).count d:=by
 unfold J2 rsL z8 List.count
 have key:∀(a b:List Nat) (r:Nat),((a.map some++none::b.map some).take r).countP (λo=>o==some d)=((a++10::b).take r).countP (λx=>x==d):=by
  intro a b;have kb:∀(b:List Nat) (r:Nat),((b.map some).take r).countP (λo=>o==some d)=(b.take r).countP (λx=>x==d):=by intro b r;rw [<-QaG,Uw];rfl
  induction a with
  |nil=>
   intro r
   cases r with
   |zero=>rfl
   |succ r=>
    rw [map_nil,uJ,uJ,QO,QO,Qw,Qw,kb];have:((10:Nat)==d)=false:=by simpa using Ne.symm hd
    rw [this];rfl
  |cons x t ih=>
   intro r
   cases r with
   |zero=>rfl
   |succ r=>
    rw [jV,uN,uN,QO,QO,Qw,Qw,ih];rfl
 exact key _ _ _
theorem Zo4 {cs:List Nat} {h:Nat} (hh:h<=cs.length):bk (rsL cs h) h=none:=by unfold bk;rw [Zox hh]
theorem Zrc {cs:List Nat} {h i:Nat} (hh:h<=cs.length) (h10:∀c∈cs,c≠10) (hi:i<cs.length+1) (hn:i≠h):bk (rsL cs h) i=some (1+cs.countP (λx=>decide (x<(z8 cs h).getD i 0))+((z8 cs h).take i).count ((z8 cs h).getD i 0)):=by rw [Zkb (ZsJ hh hi hn),Zfb,Zcj i (Zo9 hh h10 hi hn)]
theorem Zkp (l:List Nat):Zdt l<=l.length:=by have:=Zpr l;omega
theorem Zc7 (l:List Nat):JD l=rsL (ze l) (Zdt l):=by
 have key:∀(xs:List (Option Nat)) (h:Nat),xs[h]?=some none->(∀i,xs[i]?=some none->i=h)->xs=rsL (xs.filterMap id) h:=by
  intro xs
  induction xs with
  |nil=>intro h e;simp at e
  |cons x t ih=>
   intro h e u
   cases h with
   |zero=>
    have:x=none:=by simpa using e
    subst this
    have al:∀t:List (Option Nat),(∀i:Nat,t[i]?≠some none)->(t.filterMap id).map some=t:=by
     intro t
     induction t with
     |nil=>intro _;rfl
     |cons y t ih=>
      intro hn
      cases y with
      |none=>exact absurd rfl (hn 0)
      |some y=>
       rw [Uo];show some y::(t.filterMap id).map some=_;rw [ih λi=>hn (i+1)]
    unfold rsL;rw [Uo];show none::t=[]++none::((t.filterMap id)).map some;rw [al t λi z=>absurd (u (i+1) z) (by omega)];rfl
   |succ h=>
    cases x with
    |none=>exact absurd (u 0 rfl) (by omega)
    |some y=>
     have:=ih h (by simpa using e) λi z=>by have:=u (i+1) (by simpa using z);omega
     rw [Uo];show some y::t=rsL (y::t.filterMap id) (h+1);unfold rsL;rw [QO,WE,jV,uN]
     congr 1
 have e1:ze l=(JD l).filterMap id:=by unfold ze JD;rw [List.filterMap_map];rfl
 rw [e1];refine key _ _ ?_ λi z=>?_
 ·rw [Zhp (Zo1 l)];rfl
 ·have hi:i<(ord l).length:=by have:=(Qn.mp z).1;rwa [Zd9,<-YD] at this
  have e2:=Qd hi;rw [Zhp e2] at z;have z:zI l (ord l)[i]=none:=by simpa using z
  have hm:=JS.mp (QU hi);unfold zI at z;by_cases e0:(ord l)[i]=0
  ·rw [e0] at e2;exact (ZeB e2).symm
  ·rw [if_neg e0,Qd (by omega)] at z;cases z
theorem ZbB (l:List Nat):(ze l).length=l.length:=by have h1:=Zd9 l;rw [Zc7] at h1;unfold rsL at h1;rw [jv,jD,jr,jr,jF,jO] at h1;have:=Zkp l;omega
theorem Ziq {l:List Nat} {c:Nat} (h:c∈ze l):c∈l:=by
 obtain ⟨i,_,e⟩:=UZ.mp h;unfold zI at e;split at e
 ·cases e
 ·exact QF e
end LO
namespace L2
open PySem
noncomputable def Zvl:Option Nat->V
 |some b=>.int b
 |none=>.non
theorem ZaB {H:Hp} {a b:jo} {o:HO} (h:H b≠none):upd H a o b≠none:=by
 unfold upd;split
 ·simp
 ·exact h
theorem Zt.nn {H H':Hp} (s:Zt H H') {b:jo} (h:H b≠none):H' b≠none:=by
 cases e:H b with
 |none=>exact absurd e h
 |some o=>rw [s b o e];simp
theorem zp.nn {H H':Hp} (s:zp H H') {b:jo} (h:H b≠none):H' b≠none:=by
 cases e:H b with
 |none=>exact absurd e h
 |some o=>exact (s b o e).1
theorem Zgt {H H':Hp} {x dx:jo} {o1 o2:HO} (hx:H x=none) (hdx:H dx=none) (kp:∀b o,b≠x->upd (upd H dx o1) x o2 b=some o->(∀ps,o≠ .tbl ps)->H' b=some o)
 (nn:∀b,upd (upd H dx o1) x o2 b≠none->H' b≠none):zp H H':=λb o e=>by
 have n1:=Zj e hx;have e2:upd (upd H dx o1) x o2 b=some o:=(Zi n1).trans ((Zi (Zj e hdx)).trans e);exact ⟨nn b (by rw [e2];simp),λn=>kp b o n1 e2 n⟩
theorem Zjn {P:jo} {H H':Hp} {x dx:jo} {o1 o2:HO} (hx:H x=none) (hdx:H dx=none) (kp:∀b o,b≠x->b≠P->upd (upd H dx o1) x o2 b=some o->H' b=some o):Jl P H H':=λb o n e=>by have n1:=Zj e hx;exact kp b o n1 n ((Zi n1).trans ((Zi (Zj e hdx)).trans e))
noncomputable def Zec (ps:List (Int×V)):List (Key×V):=ps.map λp=>(.inl p.1,p.2)
theorem ZfK (k:Int):∀ps:List (Int×V),Z8 (Zec ps) (.inl k)=ps.lookup k
 |[]=>rfl
 |x::r=>by
  by_cases e:k=x.1
  ·have e1:(x::r).lookup k=some x.2:=by rw [QH,show (k==x.1)=true by simpa using e]
   rw [e1];exact zk (p:=((.inl x.1:Key),x.2)) (r:=Zec r) (by rw [e])
  ·have e1:Z8 (Zec (x::r)) (.inl k)=Z8 (Zec r) (.inl k):=zj (p:=((.inl x.1:Key),x.2)) (r:=Zec r) λz=>e (Sum.inl.inj z).symm;rw [e1,ZfK k r,QH,show (k==x.1)=false by simpa using e]
theorem Zon {k:Int} {ps:List (Int×V)} (v:V) (h:ps.lookup k=none):qX (Zec ps) (.inl k) v=Zec (ps++[(k,v)]):=by rw [Zom _ (by rw [ZfK,h])];unfold Zec;rw [ux];rfl
theorem Zd7 (k j:Int) (v:V):∀ps:List (Int×V),(ps++[(k,v)]).lookup j=(ps.lookup j).or (if j=k then some v else none)
 |[]=>by
  rw [uJ,QH];by_cases e:j=k
  ·rw [if_pos e,show (j==k)=true by simpa using e];rfl
  ·rw [if_neg e,show (j==k)=false by simpa using e];rfl
 |x::r=>by
  rw [uN,QH,QH]
  cases (j==x.1) with
  |true=>rfl
  |false=>exact Zd7 k j v r
end L2
namespace LO
theorem Zo5 {l:List Nat} {p:Nat} (hp:p<l.length):bk (JD l) (JC l (p+1))=some (JC l p):=by
 have e:(JD l)[JC l (p+1)]?=some (some l[p]):=by rw [Zhp (ZaG (show p+1<=l.length by omega)),Zci,Qd hp]
 rw [Zkb e,ZmC hp (Qd hp)]
end LO
namespace L2
open PySem
theorem Zgg {P:jo} {pos:Pos} {q:Str} {H:Hp} {a:jo} {kvs:List (Key×V)} {o:HO} (h:Bk P pos q H) (hl:H a=some (.dK kvs)):Bk P pos q (upd H a o):=by
 rcases h with h|⟨c',h,g⟩
 ·exact .inl ((Zi (ZcU h hl (by intro z;cases z))).trans h)
 ·exact .inr ⟨c',(Zi (ZcU h hl (by intro z;cases z))).trans h,(Zi (ZcU g hl (by intro z;cases z))).trans g⟩
open PySem.Spec PyProof.Rows
section
variable {X:Cx} {pos:Pos} {K:Qa}
theorem ZpN {es:List jL} {k:Nat} {t:TGs} {n:Nat} (hK:X.K=K) (hc:X.calm=true) (h:PGs X es t)
 (hn:(jR es X.env).length=n:=by rfl) (hst:(jR es X.env).findIdx? (·.1)=none:=by rfl):PG X (.Tuple es k pos) (Zlb K n t):=by
 subst hK;exact ZjC hc h hn hst
noncomputable def b2i (b:Bool):Int:=if b then 1 else 0
noncomputable def Zic:List V->Hp->VK->Prop:=λxs H Q=>match xs with
 |[.bl b]=>Q (.int (b2i b)) H
 |[.int i]=>Q (.int i) H
 |_=>False
theorem ZhS:qk X (.type "int") Zic:=by
 intro Zb s σ H xs us Q I r h;unfold Zic at h;split at h
 ·rename_i b;obtain ⟨u,rfl,rfl⟩:=qN r;exact call_int_bool ⟨.int (b2i b),H,I.tok _,⟨_,rfl⟩,h⟩
 ·rename_i i;obtain ⟨u,rfl,t,rfl⟩:=qN r;exact call_int_int ⟨.int i,H,I,⟨_,rfl⟩,h⟩
 ·exact h.elim
noncomputable def Zrw (K:Qa) (a:jo) (xs:List V) (g:TG) (tb:TS):TS:=λD σ H=>∃Pv:Nat->St->Hp->Prop,Pv 0 σ H/\(∀i σ H,i<=xs.length->Pv i σ H->SqT K H a xs)/\
 (∀i x σ H,xs[i]?=some x->Pv i σ H->g x σ H λσ2 H2=>tb {nx:=Pv (i+1),rt:=D.rt,bk:=D.nx,ct:=Pv (i+1)} σ2 H2)/\∀σ H,Pv xs.length σ H->D.nx σ H
noncomputable def ZqN (K:Qa) (tl:TE) (g:TG) (tb:TS):TS:=λD σ H=>tl σ H λv H1=>match v with
 | .ref a=>∃xs,SqT K H1 a xs/\Zrw K a xs g tb D σ H1
 |_=>False
theorem ZpW {l tg:jL} {body:List Stmt} {tl:TE} {g:TG} {tb:TS} (hK:X.K=K) (hp:u9 (ju X.prog X.w) X.A X.env X.xe) (hc:X.calm=true) (hl:PE X l tl) (hg:PG X tg g) (hb:PSs X body tb)
 (hf:∀x,jK l X.env x=pure x:=by intro _;rfl):PS X (.For tg l body [] pos) (ZqN K tl g tb):=by
 subst hK;have hl':PE X l (λσ H Q=>∃Q0:VK,tl σ H Q0/\∀v H',Q0 v H'->Q v H'):=hl.imp λσ H Q h=>h;intro Zb s σ H D I h;refine Zfp hp hc (Zsv hl') hg hb hf Zb s σ H D I ⟨_,h,λv H1 q=>?_⟩
 cases v with
 |ref a=>
  obtain ⟨xs,hx,Pv,h0,hs,h1,hd⟩:=q;exact ⟨a,rfl,⟨xs,hx⟩,Zpm Pv h0 hs h1 hd⟩
 |_=>exact False.elim q
end
end L2
namespace LO
end LO
namespace L2
open PySem
end L2
namespace LO
end LO
namespace L2
open PySem PySem.Spec PyProof.Rows
theorem Zm9:∀{x:V},JO x=true->eqV x x=true:=by intro x h;cases x<;>first|(simp [eqV];done)|(simp [JO] at h;done)
theorem ZeO {K:Qa} {H:Hp} {a b:jo} {xs:List V} (hf:∀x∈xs,JO x=true) (h1:H a=some (.tup xs)) (h2:H b=some (.tup xs)):ZjW K H a b:=by refine ⟨_,_,.inr ⟨SqT.of h1,SqT.of h2⟩,rfl,λj x y ex ey=>?_⟩;rw [ex] at ey;cases Option.some.inj ey;have:=hf x (QF ex);exact .flat this this (Zm9 this)
theorem Zqz {x y:V} (hx:JO x=true) (hy:JO y=true):∀v∈[x,y],JO v=true:=by
 intro v hv;rcases jQ.mp hv with rfl|hv
 ·exact hx
 ·cases jC.mp hv;exact hy
theorem ZiK:Manifest.owners.lookup (String.ofList ['d','e','s','r','e','v','e','r'].reverse)=some Manifest.sig_reversed:=by kernel_rfl
theorem qC:Slot "reversed" "__next__" "reversed.__next__":=
 .of (owner:="reversed") (n:="__next__") (by rw [uT,uo];kernel_rfl) (by rfl') (by rfl') (by rfl')
  (by first|exact .inl (by rfl')|exact .inr (by rfl')) (by rw [uG];kernel_rfl)
theorem Zca:vK table "reversed.__next__"=some Builtin.«reversed.__next__»:=vJ (by kernel_rfl)
theorem Zc8 (a:Value):Qaj "reversed.__next__" ⟨[a],[]⟩:=by unfold Qaj;rw [signature?_of (id:="reversed.__next__") (n:=['_','_','t','x','e','n','_','_']) (o:=['d','e','s','r','e','v','e','r']) (by kernel_rfl) ZiK];kernel_rfl
theorem Zc9:Slot "reversed" "__iter__" "reversed.__iter__":=
 .of (owner:="reversed") (n:="__iter__") (by rw [uT,uo];kernel_rfl) (by rfl') (by rfl') (by rfl')
  (by first|exact .inl (by rfl')|exact .inr (by rfl')) (by rw [uG];kernel_rfl)
theorem Zhq (a:Value):Qaj "reversed.__iter__" ⟨[a],[]⟩:=by unfold Qaj;rw [signature?_of (id:="reversed.__iter__") (n:=['_','_','r','e','t','i','_','_']) (o:=['d','e','s','r','e','v','e','r']) (by kernel_rfl) ZiK];kernel_rfl
theorem Zf6:vK table "reversed.__iter__"=some Builtin.«dict_keyiterator.__iter__»:=
 v4 (id':="dict_keyiterator.__iter__") (by kernel_rfl) (by first|rfl|rfl'|(unfold String.splitOn;simp +decide [String.splitOnAux])) (by rfl') (by kernel_rfl)
theorem Zhr:Slot "reversed" "__init__" "object.__init__":=
 .of (owner:="object") (n:="__init__") (by rw [uT,uo];kernel_rfl) (by rfl') (by rfl') (by rfl')
  (by first|exact .inl (by rfl')|exact .inr (by rfl')) (by rw [uG];kernel_rfl)
theorem ZlK:TypeCalled "reversed" "reversed.__new__" "object.__init__":=
 ⟨by rfl',by rfl',⟨_,_,F.mro_reversed⟩,madeBy_type F.mro_reversed F.lookup_reversed_new (by rfl'),by rfl',by rw [uG];kernel_rfl,Zhr⟩
theorem Zp7:vM (.type "str") "__reversed__"=pure none:=by rw [uT,uo];kernel_rfl
theorem Zp5:isSubtype (.type "str") (.type "dict")=pure false:=by rw [uG];kernel_rfl
noncomputable def Zgz (z:Str) (t:Tok) (i:Int):Obj:= {cls:=.type "reversed",data:=.fields #[.str z t,uc i]}
theorem ZsL (z:Str) (t:Tok) (hz:z.length<2 ^ 63):Meets (Builtin.«reversed.__new__» ⟨[.type "reversed",.str z t],[]⟩) (λ_ R s=>
 R (.ok (.ret (.ref s.heap.objs.size))) {s with heap:=s.heap.push (Zgz z t ((z.length:Int)-1)),toks:=s.toks+1+1}):=
 .of_wp λprog w A R s h=>by
  unfold Builtin.«reversed.__new__»
  refine jm (uV (newClass_reversed _) ?_)
  try dsimp only
  refine jm (uV (a:=()) (by first|rfl|kernel_rfl) ?_);refine jm (uV (a:=()) (by first|rfl|kernel_rfl) ?_)
  try dsimp only
  refine jm (vO (ui _ _ _) Zp7 ?_)
  try dsimp only
  have hT:s.TypeIs (.str z t) "str":=ui _ _ _;have hd:=Zp5;have hg:=F.slot_str_getitem.lookup;have hl:¬(z.length:Int) ≥ 2 ^ 63:=by omega
  obtain ⟨hp,g,d,tk,os⟩:=s
  wp_walk using len_str hl
  exact ⟨_,rfl,h⟩
theorem ZkW {prog:jx} {w:jG} {A:Around} {E:Value->jn->Prop} {s:jn} {z:Str} {t:Tok} {Q:Value->jn->Prop} (hz:z.length<2 ^ 63)
 (h:Q (.ref s.heap.objs.size) {s with heap:=s.heap.push (Zgz z t ((z.length:Int)-1)),toks:=s.toks+1+1}):js (ju prog w) A (call (.type "reversed") [.str z t]) Q E s:=by
 refine callType_new ZlK (by decide) (F.typeCall_reversed_1 _) (F.newCall_reversed_1 _) (λobj=>F.args_object_init_2 obj _) F.entry_reversed_new (ZsL z t hz) ?_;exact ⟨⟨_,Qi _ rfl,rfl⟩,h⟩
noncomputable def Zd2 (h:Heap) (a:jo) (z:Str) (t:Tok) (i:Int):Prop:=∃o,h.get? a=some o/\o.cls=.type "reversed"/\o.data=.fields #[.str z t,uc i]
section
variable {prog:jx} {w:jG} {A:Around} {E:Value->jn->Prop} {s:jn}
theorem Zd2.typeIs {a:jo} {z:Str} {t:Tok} {i:Int} (x:Zd2 s.heap a z t i):s.TypeIs (.ref a) "reversed":=let ⟨o,ho,hc,_⟩:=x;⟨o,ho,hc⟩
theorem ZkI {it:jo} {z:Str} {t:Tok} {i:Int} {Q:Value->jn->Prop} (hit:Zd2 s.heap it z t i) (h:Q (.ref it) s):js (ju prog w) A (Qai (.ref it)) Q E s:=by refine Qal hit.typeIs Zc9 (jS Zc9 hit.typeIs Zf6 ?_ (Zhq _));show js _ _ (ret (.ref it)) _ _ s;exact jq ⟨_,rfl,"reversed",_,hit.typeIs,qC.lookup,h⟩
theorem Zp6 {it:jo} {z:Str} {t:Tok} {i c:Nat} {Q:Option Value->jn->Prop} (hit:Zd2 s.heap it z t (i:Int)) (hz:z.length<2 ^ 63) (hi:i<z.length) (hx:z.cps[i]?=some c)
 (hQ:∀h',Zd2 h' it z t ((i:Int)-1)->Heap.SameBut it s.heap h'->Q (some (.str ⟨#[c]⟩ (s.toks+1))) {s with heap:=h',toks:=s.toks+1+1}):js (ju prog w) A (uf (.ref it)) Q E s:=by
 obtain ⟨o,ho,hc,hd⟩:=id hit;unfold uf
 refine jm (jX (jP (name:=Qc "__next__") hit.typeIs qC
  (jS qC hit.typeIs Zca ?_ (Zc8 _))))
 unfold Builtin.«reversed.__next__»
 refine jm (uV (a:=(Value.ref it,[])) rfl ?_)
 try dsimp only
 refine jm (uj ho hd (x:=.str z t) rfl ?_);refine jm (uj ho hd (x:=uc (i:Int)) rfl ?_);show js _ _ (if (i:Int)<0 then _ else _) _ _ s;rw [if_neg (by omega)];refine jm (vO (ui _ _ _) F.slot_str_getitem.lookup ?_);rw [if_neg (show ¬((some (V4 "str.__getitem__")).isNone=true) from Qg)];refine jm (wpAny_mkInt (jm (jX (PyProof.Rows.getItem_str (c:=c) ?_ ?_ ?_))))
 ·rw [decide_eq_false (by omega),decide_eq_false (by omega)];rfl
 ·have:seqIndex? (i:Int) z.length=some i:=by unfold seqIndex?;simp;omega
  rw [this];exact hx
 refine jm (uj ho hd (x:=uc (i:Int)) rfl (jm (vB ho hd (by simp) (jq ⟨_,rfl,jq (hQ _ ?_ (Heap.SameBut.update ..))⟩))));exact ⟨_,Q3 _ ho (Obj.isFreed_of_fields (Obj.data_mapFields hd _)),(Obj.cls_mapFields ..).trans hc,by rw [Obj.data_mapFields hd];simp⟩
theorem ZsK {it:jo} {z:Str} {t:Tok} {Q:Option Value->jn->Prop} (hh:A.handled=none) (hit:Zd2 s.heap it z t (-1))
 (hQ:∀h',Wz it s.heap h'->Q none {s with heap:=h'}):js (ju prog w) A (uf (.ref it)) Q E s:=by
 obtain ⟨o,ho,hc,hd⟩:=id hit;unfold uf
 refine jm (jX (jP (name:=Qc "__next__") hit.typeIs qC
  (jS qC hit.typeIs Zca ?_ (Zc8 _))))
 unfold Builtin.«reversed.__next__»
 refine jm (uV (a:=(Value.ref it,[])) rfl ?_)
 try dsimp only
 refine jm (uj ho hd (x:=.str z t) rfl ?_);refine jm (uj ho hd (x:=uc (-1)) rfl ?_);show js _ _ (if (-1:Int)<0 then _ else _) _ _ s;rw [if_pos (by decide)];refine jm (uD ?_);refine jm ?_;show js _ _ (QaF (.ref it) 1 (uc (-1)) >>=λ_=>QaF (.ref it) 0 .none) _ _ _;refine jm (vB ho hd (by simp) ?_);have ho1:=Q3 (Obj.mapFields λx=>x.setIfInBounds 1 (uc (-1))) ho (Obj.isFreed_of_fields (Obj.data_mapFields hd _));refine vB ho1 (Obj.data_mapFields hd _) (by simp) ?_
 have hb:Wz it s.heap ((s.heap.update it (Obj.mapFields λx=>x.setIfInBounds 1 (uc (-1)))).update it (Obj.mapFields λx=>x.setIfInBounds 0 .none)):=λb o hb e=>
  (Heap.SameBut.update ..).extBut b o hb ((Heap.SameBut.update ..).extBut b o hb e)
 generalize (s.heap.update it (Obj.mapFields λx=>x.setIfInBounds 1 (uc (-1)))).update it (Obj.mapFields λx=>x.setIfInBounds 0 .none)=h1 at hb ⊢
 refine jm ?_;show js _ _ (newExc (.type "StopIteration") [] >>=_) _ _ _;refine jm ?_;simp only [newExc,newTuple];refine jm (j8 ?_ (by size_fits));refine jm (m:=vd _ _) (uV (a:=Qq) (by first|rfl|(simp only [vd];rfl)) (j8 ?_ (by size_fits)));simp only [raiseNew];refine jm (wpAny_handled ?_);rw [show A.in1.handled=none from hh];refine jm (jq (wpAny_throw ?_));refine jm (vg (T:="StopIteration") (b:=true) ⟨_,Qi _ rfl,rfl⟩ vZ (jq (hQ _ ((hb.push _).push _))))
end
noncomputable def ZtO (z:Str):It:=⟨λi _=>i<(L z).length,λi H x H'=>H'=H/\x=.str (T [(L z).getD ((L z).length-1-i) 0]),λi _=>(L z).length<=i⟩
section
variable {P:jx} {w:jG} {K:Qa} {tg:jL}
theorem ZlY (z:Str) (t:Tok) (it:jo) (hz:z.length<2 ^ 63):ZkV P w K tg (ZtO z) [it] it (λi h=>i<=(L z).length/\Zd2 h it z t (((L z).length:Int)-1-(i:Int))) where
 mem:=by simp
 obj:=λi h st b hb=>by
  have e:b=it:=by simpa using hb
  subst e;obtain ⟨_,o,e,c,d⟩:=st;exact ⟨o,e,λv y=>by rw [d] at y;cases y⟩
 keep:=λi h h' st k=>by obtain ⟨hi,o,e,c,d⟩:=st;exact ⟨hi,o,k it (by simp) o e,c,d⟩
 item:=by intro X hP hw hK hc i Zb s σ H E I hf st hg;subst hP hw hK;obtain ⟨f0,f1,f2,f3,f4,f5⟩:=hf it (by simp);have hg:i<(L z).length:=hg;obtain ⟨_,st⟩:=st;rw [show ((L z).length:Int)-1-(i:Int)=(((L z).length-1-i:Nat):Int) by omega] at st;refine Zp6 st hz (by rw [<-Z0];omega) (Zrl (show (L z).length-1-i<(L z).length by omega)) λh' st' sb=>?_;have I1:Inv X Zb σ H {s with heap:=h',toks:=s.toks+1+1}:=I.turned (t':=s.toks+1+1) (λb o hb e=>(sb.2 b hb).trans e) f0 f1 f3 f4 f5;rw [show (((L z).length-1-i:Nat):Int)-1=((L z).length:Int)-1-((i+1:Nat):Int) by omega] at st';obtain ⟨o,e,c,d⟩:=id st';exact ⟨_,rfl,Zh8 (s:= {s with heap:=h',toks:=s.toks+1+1}) e c d (by decide) ⟨.str (T [(L z).getD ((L z).length-1-i) 0]),H,I1,⟨_,rfl⟩,⟨rfl,rfl⟩,⟨hg,st'⟩,λb hb=>(hf b hb).1⟩⟩
 done:=by intro X hP hw hK hc i Zb s σ H E I hf st hg;subst hP hw hK;obtain ⟨f0,f1,f2,f3,f4,f5⟩:=hf it (by simp);have hg:(L z).length<=i:=hg;obtain ⟨h1,st⟩:=st;rw [show ((L z).length:Int)-1-(i:Int)= -1 by omega] at st;exact ZsK (I.ok.hd hc) st λh' eb=>⟨rfl,I.turned (t':=s.toks) (λb o hb e=>eb b o hb e) f0 f1 f3 f4 f5⟩
 self:=λ_ _ _ _ _ st h=>ZkI st.2 h
end
section
variable {X:Cx} {tg:jL}
noncomputable def Zt9 (ta:TA):TI:=λσ H R=>ta σ H λvs H1=>∃z,vs=[.str z]/\(L z).length<=sizeLine/\R (ZtO z) H1
theorem ZpP {a:jL} {ta:TA} {p pos:Pos} (hm:X.mg "reversed"=none) (ha:PA X [a] ta) (hg:Gl X "reversed":=by rfl) (hs:jA [a] X.env=[(false,eval a X.env)]:=by rfl):PI X tg (.Call (.Name "reversed" p) [a] [] pos) (Zt9 ta):=by
 intro Zb s σ H R I h;refine Call_ (Zav I hg hm ZhN (PyProof.Rows.callWith_type1 (thn (ha pos Zb s σ H _ I h) λus s1 ⟨vs,H1,I1,r1,z,e,hz,q⟩=>?_) hs rfl));subst e;obtain ⟨u,rfl,t,rfl⟩:=qN r1;have hn:=Zcp;have hz2:z.length<2 ^ 63:=by rw [<-Z0];omega
 refine ZkW hz2 ?_;have I2:Inv X Zb σ H1 {s1 with heap:=s1.heap.push (Zgz z t ((z.length:Int)-1)),toks:=s1.toks+1+1}:=I1.kept (t':=s1.toks+1+1) λb o e=>Qe _ e
 have hit:Zd2 (s1.heap.push (Zgz z t ((z.length:Int)-1))) s1.heap.objs.size z t (((L z).length:Int)-1-((0:Nat):Int)):=
  ⟨_,Qi _ rfl,rfl,by rw [Z0];simp [Zgz]⟩
 refine ZkI (s:= {s1 with heap:=s1.heap.push (Zgz z t ((z.length:Int)-1)),toks:=s1.toks+1+1}) hit ?_;refine ⟨s1.heap.objs.size,[s1.heap.objs.size],_,_,H1,rfl,I2,ZlY z t _ hz2,⟨Qu _,hit⟩,λb hb=>?_,q⟩;have e:b=s1.heap.objs.size:=by simpa using hb
 subst e;exact I1.fpOk (Qf _) (I1.hok.fresh (Qf _))
noncomputable def ZqM (ta:TA) (g:TG) (tb:TS):TS:=λD σ H=>ta σ H λvs H1=>match vs with
 |[.str z]=>(L z).length<=sizeLine/\Zpl (T (L z).reverse) g tb D σ H1
 |_=>False
theorem ZpU {l tg:jL} {body:List Stmt} {ta:TA} {g:TG} {tb:TS} {p pos pos':Pos} (hp:u9 (ju X.prog X.w) X.A X.env X.xe) (hc:X.calm=true) (hm:X.mg "reversed"=none) (ha:PA X [l] ta) (hg:PG X tg g) (hb:PSs X body tb)
 (hgl:Gl X "reversed":=by rfl) (hs:jA [l] X.env=[(false,eval l X.env)]:=by rfl) (hf:∀x,jK (.Call (.Name "reversed" p) [l] [] pos') X.env x=pure x:=by intro _;rfl):
 PS X (.For tg (.Call (.Name "reversed" p) [l] [] pos') body [] pos) (ZqM ta g tb):=by
 have ha':PA X [l] (λσ H Q=>∃Q0:List V->Hp->Prop,ta σ H Q0/\∀v H',Q0 v H'->Q v H'):=ha.imp λσ H Q h=>h;intro Zb s σ H D I h;refine Zfp hp hc (ZpP hm ha' hgl hs) hg hb hf Zb s σ H D I ⟨_,h,λvs H1 q=>?_⟩;split at q
 ·rename_i z;obtain ⟨hz,Pv,p0,ps,pe⟩:=q;rw [L_T,vc] at ps pe;refine ⟨z,rfl,hz,λn m σ H=>m=(L z).length-n/\n<=(L z).length/\Pv n σ H,⟨(L z).length,by simp,Qu _,p0⟩,?_⟩;rintro n m σ2 H2 ⟨rfl,hn,pv'⟩;by_cases hlt:n<(L z).length
  ·refine .inr ⟨hlt,Pv (n+1),λσ' H' p'=>⟨(L z).length-(n+1),by omega,rfl,hlt,p'⟩,λy H' ⟨e1,e2⟩=>?_⟩;subst e1 e2;have e3:(L z).reverse.getD n 0=(L z).getD ((L z).length-1-n) 0:=by rw [Qb,Qb,Vo hlt]
   have:=ps n σ2 H' hlt pv';rw [e3] at this;exact this
  ·have e:n=(L z).length:=by omega
   exact .inl ⟨by show (L z).length<=n;omega,by subst e;exact pe σ2 H2 pv'⟩
 ·exact q.elim
end
structure ZkU (K:Qa) (x qual:Str) (st:Stmt) (f T:jo) (fd:j9):Prop where
 ex:∃(oc:Value) (od:Option jo) (kV doc pm:Value) (an:Option jo) (cdv ct:Value) (osl:Array (Option Value)),
  fd=vI x qual (zd st) (ZV st) (Zk st) (.ref T) kV doc pm an cdv ct/\K.lookup f=some ⟨oc,od,.func fd,osl⟩/\vF K cdv qual=true
 kp:uR K (.ref f)=true
section
variable {P:jx} {w:jG} {K:Qa} {mg:Str->Option Value} {base:Heap} {x qual:Str} {st:Stmt} {f T:jo} {fd:j9} {N ps:List Str} {k:Nat} {sp:Sp}
theorem Zpo {oc:Value} {od an:Option jo} {osl:Array (Option Value)} {kV doc pm cdv ct:Value} (l:K.lookup f=some ⟨oc,od,.func (vI x qual (zd st) (ZV st) (Zk st) (.ref T) kV doc pm an cdv ct),osl⟩)
 (c:vF K cdv qual=true) (k:uR K (.ref f)=true):ZkU K x qual st f T (vI x qual (zd st) (ZV st) (Zk st) (.ref T) kV doc pm an cdv ct):=⟨⟨oc,od,kV,doc,pm,an,cdv,ct,osl,rfl,l,c⟩,k⟩
theorem ZkU.okX (F:ZkU K x qual st f T fd) (S:Zv N ps (Zk st)) (len:∀vs H Q E,sp vs H Q E->vs.length=ps.length)
 (hbody:∀(cdv:Value) (A:Around) (outer:List Env) (s:jn) (H:Hp) (vs:List V) (Q:VK) (E:XK),zH k (A.deeper (uk qual (Zk st) s.heap.objs.size f cdv))->sp vs H Q E->
  ∃t,PSs (Jm (CX1 P w) P w K mg base N qual (Zk st) f cdv A outer s H E) (ZV st) t/\t {nx:=λ_ H'=>Q .non H',rt:=Q} (qh N vs) H):ZQ P w K mg base (CX1 P w) (k+1) f fd ps sp:=by
 obtain ⟨oc,od,kV,doc,pm,an,cdv,ct,osl,rfl,lk,hcd⟩:=F.ex;exact Zh5 lk hcd S len λA outer s H vs Q E hr hsp=>hbody cdv A outer s H vs Q E hr hsp
theorem ZkU.binds {ds:List Value} {items:Array Value} {n:Nat} {qc:Value} {qo:Option jo} {qs:Array (Option Value)} (F:ZkU K x qual st f T fd) (hT:K.lookup T=some ⟨qc,qo,.seq items n,qs⟩)
 (h:∀(kV doc pm:Value) (an:Option jo) (cdv ct:Value) (us:List Value),us.length+ds.length=ps.length->
  ∃g:Option (Array Value)->Sem (List (Str×Value)),vE (vI x qual (zd st) (ZV st) (Zk st) (.ref T) kV doc pm an cdv ct) ⟨us,[]⟩=seqItems? (.ref T) >>=g/\g (some items)=pure (ps.zip (us++ds))):Jj K fd ps ds:=by
 obtain ⟨oc,od,kV,doc,pm,an,cdv,ct,osl,rfl,lk,hcd⟩:=F.ex;intro s us hin hl;obtain ⟨g,h1,h2⟩:=h kV doc pm an cdv ct us (by rw [<-jv];exact hl);exact PySem.W.binds_K hin rfl hT rfl h1 h2
end
theorem ZiY:∀{xs:List V} {us:List Value},xs.length=us.length->(∀(i:Nat) x u,xs[i]?=some x->us[i]?=some u->ZP x u)->ZA xs us
 |[],[],_,_=>.nil
 |x::xs,u::us,hl,h=>.cons (h 0 x u rfl rfl) (ZiY (by simpa using hl) λi x u h1 h2=>h (i+1) x u (by simpa using h1) (by simpa using h2))
theorem qt.same2 {C:jo} {H H':Hp} {a:jo} {cs:List Nat} {h:Nat} (x:qt C H a cs h) (sm:∀b o,H b=some o->(∀ps,o≠ .tbl ps)->(∀kvs,o≠ .dK kvs)->(∀C' dx fs,o=.ins C' dx fs->fs.length=5)->H' b=some o):qt C H' a cs h:=by obtain ⟨dx,tot,fo,h1,⟨⟨ts,ds,t1,t2,t3,t4⟩,p,p1,p2⟩,h3⟩:=x;refine ⟨dx,tot,fo,sm _ _ h1 (by nofun) (by nofun) (by intro C' dx' fs z;cases z;rfl),⟨⟨ts,ds,sm _ _ t1 (by nofun) (by nofun) (by intro C' dx' fs z;cases z),t2,λj d e=>?_,t4⟩,p,sm _ _ p1 (by nofun) (by nofun) (by intro C' dx' fs z;cases z),p2⟩,h3⟩;obtain ⟨t,e1,e2⟩:=t3 j d e;exact ⟨t,e1,sm _ _ e2 (by nofun) (by nofun) (by intro C' dx' fs z;cases z)⟩
noncomputable def qM (x d:jo) (H H':Hp):Prop:=(∀b o,b≠x->b≠d->H b=some o->(∀ps,o≠ .tbl ps)->H' b=some o)/\∀b,H b≠none->H' b≠none
theorem qM.ofN {x d:jo} {H H':Hp} (s:zp H H'):qM x d H H':=⟨λ_ _ _ _ e n=>s.at e n,λ_ e=>s.nn e⟩
theorem qM.trans {x d:jo} {H H1 H2:Hp} (a:qM x d H H1) (b:qM x d H1 H2):qM x d H H2:=⟨λc o h1 h2 e n=>b.1 c o h1 h2 (a.1 c o h1 h2 e n) n,λc e=>b.2 c (a.2 c e)⟩
theorem qM.updX {x d:jo} {H H1:Hp} {o:HO} (a:qM x d H H1):qM x d H (upd H1 x o):=⟨λb u h1 h2 e n=>(Zi h1).trans (a.1 b u h1 h2 e n),λb e=>ZaB (a.2 b e)⟩
theorem qM.updD {x d:jo} {H H1:Hp} {o:HO} (a:qM x d H H1):qM x d H (upd H1 d o):=⟨λb u h1 h2 e n=>(Zi h2).trans (a.1 b u h1 h2 e n),λb e=>ZaB (a.2 b e)⟩
noncomputable def qg (l:List Nat) (r:Nat):Nat:=(LO.ord l).getD r 0
noncomputable def Zad (ps:List (Int×V)) (l:List Nat) (g:Int) (k:Nat):Prop:=∀r:Int,ps.lookup r=if 0<=r/\r<k/\(qg l r.toNat:Int)%g=0 then some (.int (qg l r.toNat:Nat)) else none
noncomputable def fsF (h d:jo) (g:Int):List (Str×V):=[("held",.ref h),("gap",.int g),("known",.ref d)]
noncomputable def ZeJ (C CL:jo) (H:Hp) (x:jo) (l:List Nat) (g:Int):Prop:=∃dx h d ps,H x=some (.ins C dx (fsF h d g))/\qt CL H h (LO.ze l) (LO.Zdt l)/\H d=some (.dK (Zec ps))/\Zad ps l g (l.length+1)/\1<=g
theorem ZeJ.same {C CL:jo} {H H':Hp} {x:jo} {l:List Nat} {g:Int} (f:ZeJ C CL H x l g) (sm:∀b o,H b=some o->(∀ps,o≠ .tbl ps)->H' b=some o):ZeJ C CL H' x l g:=by obtain ⟨dx,h,d,ps,h1,h2,h3,h4⟩:=f;exact ⟨dx,h,d,ps,sm _ _ h1 (by nofun),h2.same sm,sm _ _ h3 (by nofun),h4⟩
theorem Zad.step {ps:List (Int×V)} {l:List Nat} {g:Int} {k j:Nat} (h:Zad ps l g k) (e:(LO.ord l)[k]?=some j):((j:Int)%g=0->ps.lookup (k:Int)=none/\Zad (ps++[((k:Int),.int (j:Int))]) l g (k+1))/\(¬(j:Int)%g=0->Zad ps l g (k+1)):=by
 have ej:qg l k=j:=by unfold qg;rw [Qb,e];rfl
 refine ⟨λhz=>⟨by rw [h,if_neg λz=>by omega],λr=>?_⟩,λhz r=>?_⟩
 ·rw [Zd7,h r];by_cases er:r=(k:Int)
  ·subst er;rw [if_neg λz=>by omega,if_pos rfl,Qm,ej,if_pos ⟨by omega,by omega,hz⟩];rfl
  ·rw [if_neg er,Option.or_none];by_cases hr:0<=r/\r<k/\(qg l r.toNat:Int)%g=0
   ·rw [if_pos hr,if_pos ⟨hr.1,by omega,hr.2.2⟩]
   ·rw [if_neg hr,if_neg λz=>hr ⟨z.1,by omega,z.2.2⟩]
 ·rw [h r];by_cases er:r=(k:Int)
  ·subst er;rw [if_neg λz=>by omega,if_neg λz=>hz (by rw [Qm,ej] at z;exact z.2.2)]
  ·by_cases hr:0<=r/\r<k/\(qg l r.toNat:Int)%g=0
   ·rw [if_pos hr,if_pos ⟨hr.1,by omega,hr.2.2⟩]
   ·rw [if_neg hr,if_neg λz=>hr ⟨z.1,by omega,z.2.2⟩]
end L2
namespace LO
theorem ZrS (l t:List Nat):low l t<=l.length+1:=by unfold low;exact QE Wt (by simp)
theorem ZcM (l t:List Nat):Zbj l t<=l.length+1:=by rw [Zet];exact QE Wt (by simp)
theorem Zp2 {l:List Nat} {c:Nat} (t:List Nat) (hc:c≠10):(1+((ze l).countP λx=>decide (x<c):Nat)+(((L2.z8 (ze l) (Zdt l)).take (low l t)).count c:Nat):Int)=((low l (c::t):Nat):Int):=by rw [ZnQ,Zc7,Zfb,Zcj _ hc];omega
theorem Zow {l:List Nat} {c:Nat} (t:List Nat) (hc:c≠10):(1+((ze l).countP λx=>decide (x<c):Nat)+(((L2.z8 (ze l) (Zdt l)).take (Zbj l t)).count c:Nat):Int)=((Zbj l (c::t):Nat):Int):=by rw [Zlf,Zc7,Zfb,Zcj _ hc];omega
end LO
namespace L2
open PySem
theorem ZoC {p s g:Int} (hg:1<=g) (h0:0<=s) (h1:s<=p%g):(p-s)%g=p%g-s:=by
 have h2:=Ud p (show 0<g by omega);have e:p-s=(p%g-s)+g * (p/g):=by have:=Int.emod_add_mul_ediv p g;omega
 rw [e,Int.add_mul_emod_self_left,Int.emod_eq_of_lt (by omega) (by omega)]
theorem Zfn {l:List Nat} {j:Nat} (h:j<=l.length):qg l (LO.JC l j)=j:=by unfold qg;rw [Qb,LO.ZaG h];rfl
theorem Zc2 {l:List Nat} {r:Nat} (h:r<=l.length):qg l r<=l.length/\LO.JC l (qg l r)=r:=by
 have hl:=LO.YD l;have e:(LO.ord l)[r]?=some (LO.ord l)[r]:=Qd (by omega);have e2:qg l r=(LO.ord l)[r]:=by unfold qg;rw [Qb,e];rfl
 rw [e2];exact ⟨LO.JS.mp (QU _),LO.ZeB e⟩
theorem Zad.at {ps:List (Int×V)} {l:List Nat} {g:Int} {j:Nat} (h:Zad ps l g (l.length+1)) (hj:j<=l.length):ps.lookup ((LO.JC l j:Nat):Int)=if (j:Int)%g=0 then some (.int (j:Int)) else none:=by
 have hr:=LO.Zhm (l:=l) (j:=j) hj;rw [h,Qm,Zfn hj];by_cases z:(j:Int)%g=0
 ·rw [if_pos ⟨by omega,by omega,z⟩,if_pos z]
 ·rw [if_neg λw=>z w.2.2,if_neg z]
open PySem.Spec PyProof.Rows
section
variable {X:Cx}
noncomputable def ZuD (n:Nat) (cp:List (Str×Nat)) (ta:TA) (tc:TT) (te:TE):TE:=λσ H Q=>ta σ H λvs H1=>match vs with
 |[.int a,.int b]=>(-(2 ^ 62)<=a/\a<2 ^ 62/\ -(2 ^ 62)<=b/\b<2 ^ 62/\b-a<16777216)/\∃Pv:Nat->Hp->List V->Prop,Pv 0 H1 []/\(∀i H2 acc,i<(b-a).toNat->Pv i H2 acc->Zf4 tc te ((Zau n cp σ).set 0 (some (.int (a+(i:Int))))) acc (Pv (i+1)) H2)/\∀H2 acc,Pv (b-a).toNat H2 acc->∀l,H2 l=none->Q (.ref l) (upd H2 l (.lst acc))
 |_=>False
theorem ZlD {elt a b:jL} {ifs:List jL} {x:Str} {px p p':Pos} {scope:Scope} {pos:Pos} {cl:List (Str×jo)} {own:List Str} {cp:List (Str×Nat)} {ta:TA} {tc:TT} {te:TE}
 (hm:X.mg "range"=none) (hc:X.calm=true) (hcl:Ye scope.names X.env.cells []=some cl) (hk:scope.kind=.function) (hnc:∀y∈scope.names,y.2≠ .cell)
 (hnm:∀x∈scope.names,x.2=.local->scope.names.lookup x.1=some .local) (hcp:YT X scope cp) (ha:PA X [a,b] ta) (hn:0<own.length)
 (hg:∀fp C s H,PG (cxC X scope cl (own++cp.map (·.1)) fp C s H) (.Name x px) (Yg 0)) (ht:∀fp C s H,PFs (cxC X scope cl (own++cp.map (·.1)) fp C s H) ifs tc) (he:∀fp C s H,PE (cxC X scope cl (own++cp.map (·.1)) fp C s H) elt te)
 (hgl:Gl X "range":=by rfl) (hst:jA [a,b] X.env=[(false,eval a X.env),(false,eval b X.env)]:=by rfl) (hst2:jA [b] X.env=[(false,eval b X.env)]:=by rfl)
 (hs:∀z,jK (.Call (.Name "range" p) [a,b] [] p') X.env z=pure z:=by intro _;rfl):PE X (.ListComp elt [⟨.Name x px,.Call (.Name "range" p) [a,b] [] p',ifs,0⟩] scope pos) (ZuD own.length cp ta tc te):=by
 have ha':PA X [a,b] (λσ H Q=>∃Q0:List V->Hp->Prop,ta σ H Q0/\∀v H',Q0 v H'->Q v H'):=ha.imp λσ H Q h=>h;intro Zb s σ H Q I h;refine Zc3 hc hcl hk hnc hnm hcp (ZlF hgl hm ha' hst hst2) (ZbQ hn) hg (λfp C s H=>(ht fp C s H).imp (t':=Zi7 tc) λ_ _ _ z=>z) (λfp C s H=>(he fp C s H).imp (t':=Zi6 te) λ_ _ _ z=>z) hs Zb s σ H Q I ?_;refine ⟨_,h,λvs H1 q=>?_⟩;split at q
 ·rename_i a b;obtain ⟨⟨b1,b2,b3,b4,b5⟩,Pv,p0,ps,pe⟩:=q;have hsl:sizeLine=16777216:=jw;refine ⟨a,b,rfl,⟨b1,b2,b3,b4⟩,λi m H2 acc=>m=(b-a).toNat-i/\i<=(b-a).toNat/\acc.length<=i/\Pv i H2 acc,⟨(b-a).toNat,by omega,Qu _,Qf _,p0⟩,?_⟩;rintro i m H2 acc ⟨rfl,hi,hl,pv'⟩;refine ⟨by omega,?_⟩;by_cases hlt:i<(b-a).toNat
  ·refine .inr ⟨hlt,λy H3 ⟨e3,ey⟩=>?_⟩;subst e3 ey;exact ZaF (N':=λH z=>∃m',m'<(b-a).toNat-i/\(m'=(b-a).toNat-(i+1)/\i+1<=(b-a).toNat/\z.length<=i+1/\Pv (i+1) H z)) (λH z hz w=>⟨(b-a).toNat-(i+1),by omega,rfl,hlt,by omega,w⟩) (ps i H3 acc hlt pv')
  ·have e:i=(b-a).toNat:=by omega
   subst e;exact .inl ⟨Qf _,λl hl'=>pe H2 acc pv' l hl'⟩
 ·exact q.elim
noncomputable def Zg5:ve where
 α:=Int
 blt:=λa b=>decide (a<b)
 irrefl:=λa=>decide_eq_false (Int.lt_irrefl a)
 trans:=λa b c h1 h2=>by have:=of_decide_eq_true h1;have:=of_decide_eq_true h2;exact decide_eq_true (by omega)
 negTrans:=λa b c h=>by
  have:=of_decide_eq_true h;by_cases h2:a<b
  ·exact .inl (decide_eq_true h2)
  ·exact .inr (decide_eq_true (by omega))
 total:=λa b h1 h2=>by have:=of_decide_eq_false h1;have:=of_decide_eq_false h2;omega
theorem Zjg {ns:List Int} {ks:List Value} (r:ZA (ns.map V.int) ks) {i:Nat} (hi:i<ns.length):∃t,ks.getD i Qq=.int (ns.getD i 0) t:=by
 have e:(ns.map V.int)[i]?=some (V.int (ns.getD i 0)):=by rw [Qh,Qb,Qd hi];rfl
 obtain ⟨u,hu,t,rfl⟩:=r.get e;exact ⟨t,by rw [Qb,hu];rfl⟩
theorem Zo0 {prog:jx} {w:jG} {A:Around} {s:jn} {ns:List Int} {ks:List Value} (r:ZA (ns.map V.int) ks):LS.ZkT (O:=Zg5) (λi=>ns.getD i (0:Int)) ns.length (λs'=>s'=s) (Qac prog w A vX ks):=by refine ⟨λi j C s1 hi hj e h=>?_⟩;subst e;unfold Qac;obtain ⟨t,e1⟩:=Zjg r hi;obtain ⟨t',e2⟩:=Zjg r hj;rw [e1,e2,keyLt'_oneType];exact oneLt_int (h s1 rfl)
theorem ZnC {M:uI} {A:Around} {E:Value->jn->Prop} {s:jn} {ns:List Int} {ks:List Value} (r:ZA (ns.map V.int) ks) (h2:2<=ns.length) {Q:uA->jn->Prop} (h:Q vX s):js M A (QaH (Qz ks)) Q E s:=by
 have hl:=r.length;rw [jr] at hl;refine kas_kind (T:=.type "int") (by omega) (λv hv=>?_) (by decide) (by decide) h;obtain ⟨i,hi⟩:=Vu hv;have hlt:i<ns.length:=by have:=(Qn.mp hi).1;omega
 obtain ⟨t,e⟩:=Zjg r hlt;rw [Qb,hi] at e;have e:v=.int (ns.getD i 0) t:=e;rw [e];exact PySem.W.Looks.of_pure rfl
theorem Zqj {ns:List Int} {n:Nat} {p:Array Nat} (hp:LS.Pm n p) (hu:LS.Up (O:=Zg5) (λi=>ns.getD i (0:Int)) p n):p.toList.Pairwise (λi j=>ns.getD i 0<=ns.getD j 0):=by
 have hps:=hp.size;refine Ue.mpr λi j hi hj hij=>?_;rw [Qp] at hi hj;have:=hu i j (QT hij) (by omega);have gi:LS.gt p i=p.toList[i]:=by unfold LS.gt;rw [QJ];simp [hi]
 have gj:LS.gt p j=p.toList[j]:=by unfold LS.gt;rw [QJ];simp [hj]
 rw [gi,gj] at this;have this:decide (ns.getD p.toList[j] 0<ns.getD p.toList[i] 0)=false:=this;have:=of_decide_eq_false this;omega
theorem Zfd (ns:List Int):(Qj ns.length).map (λi=>ns.getD i 0)=ns:=by
 refine WO λi=>?_;rw [Qh];by_cases h:i<ns.length
 ·rw [Um h,Qd h,UH,Qb,Qd h];rfl
 ·rw [Vp (by simpa using h),Vp (by omega)];rfl
end
end L2
namespace LO
open L2
theorem Zh9 {l t:List Nat} {i:Nat}:Zah l t i=true↔(l.drop i).take t.length=t:=by unfold Zah;rw [U0,List.prefix_iff_eq_take];exact ⟨λh=>h.symm,λh=>h.symm⟩
theorem ZiF (l t:List Nat):((Qj (Zbj l t-low l t)).map λk=>qg l (low l t+k)).Perm (LP.plc l t):=by
 have hh:=ZcM l t;have ol:=YD l;refine (List.perm_ext_iff_of_nodup ?_ (List.nodup_range.sublist Vy)).mpr λi=>?_
 ·rw [V0,U7];refine List.Pairwise.imp_of_mem (R:=λa b=>a≠b) (λ{a b} ha hb hab e=>hab ?_) (V0.mp List.nodup_range);have ha:=QB.mp ha;have hb:=QB.mp hb;obtain ⟨_,e1⟩:=Zc2 (l:=l) (r:=low l t+a) (by omega);obtain ⟨_,e2⟩:=Zc2 (l:=l) (r:=low l t+b) (by omega);rw [e] at e1;omega
 ·refine Iff.trans ?_ (Zkw (l:=l) (q:=t) (i:=i)).symm;rw [UF];constructor
  ·rintro ⟨k,hk,rfl⟩;have hk:=QB.mp hk;obtain ⟨h1,e1⟩:=Zc2 (l:=l) (r:=low l t+k) (by omega);have:=(ZkG (t:=t) h1).mpr (by omega);have h2:=Zh9.mp this;refine ⟨?_,h2⟩;have:=congrArg Ui h2;rw [jF,jO] at this;omega
  ·rintro ⟨h1,h2⟩;have hi:i<=l.length:=by omega
   have hr:=(ZkG (t:=t) hi).mp (Zh9.mpr h2);refine ⟨JC l i-low l t,QB.mpr (by omega),?_⟩;rw [show low l t+(JC l i-low l t)=JC l i by omega];exact Zfn hi
theorem Zsw (l t:List Nat):(LP.plc l t).Pairwise (· <=·):=by refine List.Pairwise.sublist Vy ?_;exact (List.pairwise_lt_range).imp λh=>QT h
theorem ZjD {l t:List Nat} {ms:List Int} (hp:ms.Perm ((Qj (Zbj l t-low l t)).map λk=>((qg l (low l t+k):Nat):Int))) (hs:ms.Pairwise (· <=·)):ms=(LP.plc l t).map λi:Nat=>(i:Int):=by
 refine List.Perm.eq_of_pairwise (le:=(· <=·)) (λa b _ _ h1 h2=>Int.le_antisymm h1 h2) hs ?_ (hp.trans ?_)
 ·rw [U7];exact (Zsw l t).imp λh=>Int.ofNat_le.mpr h
 ·have:=(ZiF l t).map λi:Nat=>(i:Int);rw [uM] at this;exact this
theorem Zfc (l t:List Nat):(LP.plc l t).length=Zbj l t-low l t:=by rw [<-(ZiF l t).length_eq,jr,uP]
theorem ZkC {l t:List Nat} {i:Nat} (h:i∈LP.plc l t):i+t.length<=l.length:=(Zkw.mp h).1
end LO
namespace L2
open PySem PySem.Spec PyProof.Rows
end L2
namespace LO
open LW L2
noncomputable def sz (l:List Nat) (m r:Nat):Nat:=com (l.drop (qg l r)) (l.drop (qg l (r+(m-1))))
end LO
namespace L2
open PySem PySem.Spec PyProof.Rows
open Builtin Builtin.Str
end L2
namespace LG
open LO
theorem Zko {l t:List Nat} {i:Nat}:Zah l t i=true↔∃u,l.drop i=t++u:=by unfold Zah;rw [U0];exact ⟨λ⟨u,h⟩=>⟨u,h.symm⟩,λ⟨u,h⟩=>⟨u,h.symm⟩⟩
theorem ZoN {l t:List Nat} {i:Nat}:((l.drop i).take t.length=t)↔Zah l t i=true:=by
 rw [Zko];constructor
 ·intro h;exact ⟨(l.drop i).drop t.length,by conv=>lhs;rw [<-QP t.length (l.drop i),h]⟩
 ·rintro ⟨u,h⟩;rw [h,List.take_left]
theorem Zfc (l t:List Nat):(LP.plc l t).length=ZnV l t:=by
 unfold LP.plc ZnV;rw [<-List.countP_eq_length_filter]
 have e:(λi=>decide ((l.drop i).take t.length=t))=λi=>Zah l t i:=by
  funext i
  rw [Ug,decide_eq_true_iff];exact ZoN
 rw [e];obtain ⟨k,hk⟩:∃k,l.length+1=((l.length:Int)-(t.length:Int)+1).toNat+k:=⟨l.length+1-((l.length:Int)-(t.length:Int)+1).toNat,by omega⟩;rw [hk,List.range_add,Us];have z:((Qj k).map (((l.length:Int)-(t.length:Int)+1).toNat+·)).countP (λi=>Zah l t i)=0:=by rw [QY];intro i hi h;obtain ⟨j,hj,rfl⟩:=UF.mp hi;have hj:=QB.mp hj;obtain ⟨u,hu⟩:=Zko.mp h;have:=congrArg Ui hu;rw [jO,jv] at this;omega
 rw [z,Ul]
open L2
end LG
namespace L2
open PySem
open PySem.Spec PyProof.Rows
theorem Zfm {y:Str} {c:Nat} (h:L y=[c]):y=⟨#[c]⟩:=by have:=T_L y;rw [h] at this;exact this.symm
theorem ZfH (z:Str) (i j:Nat):Builtin.Str.strSub z i j=T (((L z).take j).drop i):=by
 have e:L (Builtin.Str.strSub z i j)=((L z).take j).drop i:=by show (z.cps.extract i j).toList=_;rw [Array.toList_extract];show ((z.cps.toList).drop i).take (j-i)=_;rw [List.drop_take];rfl
 rw [<-e,T_L]
theorem ZbK {f:Nat->Bool}:∀{l:List Nat},(∀c∈l,f c=true)->l.takeWhile f=l
 |[],_=>rfl
 |c::r,h=>by rw [VZ (h c (jY ..)),ZbK λd hd=>h d (jM _ hd)]
theorem ZaA {f:Nat->Bool}:∀{l:List Nat} {c:Nat},c∈l->f c=false->(l.takeWhile f).length<l.length
 |d::r,c,hc,h=>by
  rw [WB];split
  ·rename_i hd;rcases jQ.mp hc with e|hc
   ·rw [e,hd] at h;cases h
   ·have:=ZaA hc h;rw [jD,jD];omega
  ·rw [jD,ua];omega
theorem Zba {f:Nat->Bool}:∀{l:List Nat} {c:Nat},c∈l->f c=false->∃d∈l.drop (l.takeWhile f).length,f d=false
 |d::r,c,hc,h=>by
  rw [WB];split
  ·rename_i hd;rcases jQ.mp hc with e|hc
   ·rw [e,hd] at h;cases h
   ·obtain ⟨x,h1,h2⟩:=Zba hc h;exact ⟨x,by rw [jD,WE];exact h1,h2⟩
  ·rename_i hd;exact ⟨d,jY ..,by simpa using hd⟩
theorem ZlT (z y:Str):L (Txt.stripChars z y)=[]↔∀c∈L z,y.cps.contains c=true:=by
 have e0:Txt.stripChars z y=T (((L z).take (stripHi y.cps.contains true z (stripLo y.cps.contains true z))).drop (stripLo y.cps.contains true z)):=by
  unfold Txt.stripChars Txt.stripBy;by_cases hs:stripSame y.cps.contains true true z=true
  ·rw [if_pos hs];unfold stripSame at hs;rw [QM] at hs;rw [eq_of_beq hs.1];have h2:=eq_of_beq hs.2;rw [eq_of_beq hs.1] at h2;rw [h2,<-Z0,QG];exact (T_L z).symm
  ·rw [if_neg hs];unfold stripped
   exact ZfH ..
 have elo:stripLo y.cps.contains true z=((L z).takeWhile y.cps.contains).length:=rfl;have ehi:∀lo,stripHi y.cps.contains true z lo=(L z).length-(((L z).drop lo).reverse.takeWhile y.cps.contains).length:=λlo=>by rw [Z0];rfl
 rw [e0,L_T,ehi,elo];constructor
 ·intro h c hc
  cases hg:y.cps.contains c with
  |true=>rfl
  |false=>
   exfalso;obtain ⟨d,hd,hd2⟩:=Zba hc hg;have l1:=ZaA hc hg;have l2:=ZaA (f:=y.cps.contains) (List.mem_reverse.mpr hd) hd2;rw [vc,jO] at l2;have:=congrArg Ui h;rw [jO,jF,ua] at this;omega
 ·intro h;rw [ZbK h,Ua];rw [jF];omega
section
variable {X:Cx}
noncomputable def ZjL:List V->Hp->VK->Prop:=λxs H Q=>match xs with
 |[.int i]=>i.natAbs.log2<1920/\Q (.str (T (qj i))) H
 |_=>False
theorem Zke:qk X (.type "str") ZjL:=by
 intro Zb s σ H xs us Q I r h;unfold ZjL at h;split at h
 ·rename_i i;obtain ⟨hi,q⟩:=h;obtain ⟨u,rfl,t,rfl⟩:=qN r;have e:T (qj i)=(toString i:Str):=T_L _;rw [e] at q;exact PySem.P.str_of_int hi ⟨.str _,H,I.tok _,⟨_,rfl⟩,q⟩
 ·exact h.elim
noncomputable def ZrB:List V->Hp->VK->Prop:=λxs H Q=>match xs with
 |[.bl b]=>Q (.int (b2i b)) H
 |[.int i]=>Q (.int i) H
 |[.str z]=>(L z).length<=640/\L z≠[]/\(∀c∈L z,48<=c/\c<=57)/\Q (.int (NumText.digitsVal (L z):Nat)) H
 |_=>False
theorem Zrh:qk X (.type "int") ZrB:=by
 intro Zb s σ H xs us Q I r h;unfold ZrB at h;split at h
 ·exact ZhS Zb s σ H _ us Q I r h
 ·exact ZhS Zb s σ H _ us Q I r h
 ·rename_i z;obtain ⟨hl,h0,hd,q⟩:=h;obtain ⟨u,rfl,t,rfl⟩:=qN r;rw [Z0] at hl;exact PySem.W.KIN.call_text (intText_digits (x:=z) hd h0 (by omega)) hl ⟨.int _,H,I.tok _,⟨_,rfl⟩,q⟩
 ·exact h.elim
noncomputable def ZsB:V->List V->Hp->VK->Prop:=λx vs H Q=>match x,vs with
 | .str z,[.str y]=>∃c,L y=[c]/\(L z).length<=sizeLine/\(∀k:Nat,(L z)[k]?=some c->(∀v,v<k->(L z)[v]?≠some c)->∀p,H p=none->Q (.ref p) (upd H p (.tup [.str (T ((L z).take k)),.str (T [c]),.str (T ((L z).drop (k+1)))])))/\
   ((∀v:Nat,(L z)[v]?≠some c)->∀p,H p=none->Q (.ref p) (upd H p (.tup [.str z,.str (T []),.str (T [])])))
 |_,_=>False
theorem Zim:MtR X "str.partition" ZsB:=by
 intro Zb s σ H x vs v us Q I rx rv h;unfold ZsB at h;split at h
 ·rename_i z y;obtain ⟨c,hy,hl,q1,q2⟩:=h;obtain ⟨t,rfl⟩:=rx;obtain ⟨u,rfl,t',rfl⟩:=qN rv;have hy2:=Zfm hy;subst hy2;rw [Z0] at hl;have hn:=I.hok.fresh (Qf s.heap.objs.size);refine uK F.slot_str_partition (ui _ _ _) F.entry_str_partition (F.args_str_partition_2 _ _) (meets_str_partition z ⟨#[c]⟩ t t' rfl hl) ?_;rcases StrLaws.occ_head z ⟨#[c]⟩ 1 (Qf 1) with ⟨h0,h1⟩|⟨k,r,h0,hk,h1⟩
  ·rw [h0];refine ⟨.ref s.heap.objs.size,_,?_,rfl,q2 (λv e=>h1 v ((StrLaws.subAt_one z c v).mpr e)) _ hn⟩;refine I.laid (λb o e=>Qe _ e) (Qf _) ⟨by simp only [jD,ua];rw [jw];decide,[.str z t,.str Vw s.toks,.str Vw s.toks],.cons ⟨_,rfl⟩ (.cons ⟨_,rfl⟩ (.cons ⟨_,rfl⟩ .nil)),?_⟩;exact ⟨_,Qi s.heap rfl,rfl,0,rfl⟩
  ·rw [h0];have hm:=(StrLaws.subAt_one z c k).mp hk;refine ⟨.ref s.heap.objs.size,_,?_,rfl,q1 k hm (λv h2 e=>h1 v h2 ((StrLaws.subAt_one z c v).mpr e)) _ hn⟩;refine I.laid (λb o e=>Qe _ e) (Qf _) ⟨by simp only [jD,ua];rw [jw];decide,[.str (Builtin.Str.strSub z 0 k) s.toks,.str ⟨#[c]⟩ t',.str (Builtin.Str.strSub z (k+1) z.length) (s.toks+1)],.cons ⟨s.toks,?_⟩ (.cons ⟨_,rfl⟩ (.cons ⟨s.toks+1,?_⟩ .nil)),?_⟩
   ·rw [ZfH];rfl
   ·rw [ZfH,<-Z0,QG]
   ·exact ⟨_,Qi s.heap rfl,rfl,0,rfl⟩
 ·exact h.elim
noncomputable def ZsV:V->List V->Hp->VK->Prop:=λx vs H Q=>match x,vs with
 | .str z,[.str y]=>(L z).length<=sizeLine/\∀l:List Nat,(l=[]↔∀c∈L z,c∈L y)->Q (.str (T l)) H
 |_,_=>False
theorem Zkv:MtR X "str.strip" ZsV:=by
 intro Zb s σ H x vs v us Q I rx rv h;unfold ZsV at h;split at h
 ·rename_i z y;obtain ⟨hl,q⟩:=h;obtain ⟨t,rfl⟩:=rx;obtain ⟨u,rfl,t',rfl⟩:=qN rv;rw [Z0] at hl;refine SC.stripChars (λt2 k=>⟨.str (T (L (Txt.stripChars z y))),H,I.tok _,⟨_,by rw [T_L]⟩,q _ ?_⟩) hl;rw [ZlT];refine forall_congr' λc=>forall_congr' λ_=>?_;show (y.cps.contains c=true)↔c∈y.cps.toList;rw [Array.contains_iff,Wu]
 ·exact h.elim
end
end L2
namespace LP
open PySem L2
noncomputable def wr (rs:List (Nat×Nat)):List Nat:=(rs.map λr=>r.1::(qj (r.2:Nat)++[59])).flatten
end LP
namespace L2
open PySem PySem.Spec PyProof.Rows
section
variable {X:Cx}
noncomputable def inT (neg:Bool):R2:=λx y H Q=>match x,y with
 | .str i,.str j=>∃c,L i=[c]/\Q (.bl (neg !=decide (c∈L j))) H
 |_,_=>False
end
end L2
namespace LP
open PySem L2 NumText
noncomputable def qL (l:List Nat):Prop:=1<=l.length/\l.length<=9/\(∀c∈l,48<=c/\c<=57)/\(l.getD 0 0=48->l=[48])
theorem Zai (n:Nat):qj (n:Int)=(Nat.toDigits 10 n).map Char.toNat:=PySem.W.KIN.signs_num n
theorem ZcV (n:Nat):digitsVal (qj (n:Int))=n:=by rw [Zai];exact PySem.W.KIN.val_back n
theorem Ziu (n:Nat):∀c∈qj (n:Int),48<=c/\c<=57:=by intro c hc;rw [Zai] at hc;obtain ⟨ch,hch,e⟩:=UF.mp hc;have r:=PyProof.Rows.digit_range (Nat.isDigit_of_mem_toDigits (by decide) (by decide) hch);rw [<-e];exact r
end LP
namespace L2
open PySem PySem.Spec PyProof.Rows
theorem Zlj {k:Key} {v:Value} (h:ZcP k v=true):ZP (kV k) v:=by
 rcases zq h with ⟨i,t,rfl,rfl⟩|⟨x,t,rfl,rfl⟩
 ·exact ⟨t,rfl⟩
 ·exact ⟨t,rfl⟩
theorem qz:vK table "dict.update.loop"=some Builtin.«dict.update.loop»:=vJ (by kernel_rfl)
theorem zm:plainId "dict.update.loop"=true:=by rfl'
noncomputable def Zkk (vs:List (Key×Value)) (ps:List (Key×Value)):List (Key×Value):=ps.foldl (λacc p=>stored acc p.1 p.2) vs
section
variable {prog:jx} {w:jG} {A:Around} {R:Qav->jn->Prop} {I o D:jo} {its:List Value} {ps:List (Key×Value)}
theorem Zjm (vs:List (Key×Value)) (k:Key) (u:Value):(stored vs k u).length<=vs.length+1:=by
 unfold stored;split
 ·rw [jr];omega
 ·rw [jv,jJ];omega
end
noncomputable def Zbf (ps:List (Key×V)) (acc:List (Key×V)):List (Key×V):=ps.foldl (λacc p=>qX acc p.1 p.2) acc
theorem KV.fill:∀{ps:List (Key×V)} {us:List (Key×Value)} {acc:List (Key×V)} {bcc:List (Key×Value)},KV ps us->KV acc bcc->KV (Zbf ps acc) (Zkk bcc us)
 |_,_,_,_,.nil,h=>h
 |p::ps,q::us,_,_,.cons e t,h=>by obtain ⟨e1,e2⟩:=e;show KV (Zbf ps (qX _ p.1 p.2)) (Zkk (stored _ q.1 q.2) us);refine KV.fill t ?_;rw [<-e1];exact KV.put h _ e2
theorem Zih:∀(ps:List (Key×V)) (acc:List (Key×V)),(Zbf ps acc).length<=acc.length+ps.length
 |[],acc=>Qf _
 |p::ps,acc=>by have h1:=Zih ps (qX acc p.1 p.2);have h2:=Zd5 acc p.1 p.2;rw [jD];show (Zbf ps (qX acc p.1 p.2)).length<=_;omega
theorem Zuh {X:Cx} {K:Qa} (hK:X.K=K):OpR X (jZ .In) (rIn K false):=by subst hK;exact Zlz
theorem ZfQ:vK table "proto.unchain"=some Builtin.«proto.unchain»:=vJ (by kernel_rfl)
theorem Zf5:plainId "proto.unchain"=true:=by rfl'
section
variable {prog:jx} {w:jG} {A:Around} {E:Value->jn->Prop} {s:jn}
theorem ZoP {e a:jo} {Q:Value->jn->Prop} (c:Zbm a s.heap) (q:Q .none s):js (ju prog w) A (runValue (.builtin "proto.unchain" ⟨[.ref e,.ref a,.ref a,.bool false],[]⟩)) Q E s:=by obtain ⟨o,vs,h1,h2,h3⟩:=c;refine vS (ub ZfQ ?_);rw [Around.under_plainId Zf5 _];show js _ _ (field (.ref a) 2 >>=_) _ _ s;refine jm (uj h1 h2 h3 ?_);exact jq q
theorem Zlp {it l xa:jo} {i:Nat} {its:Array Value} {Q:Option Value->jn->Prop} (hh:A.handled=some (.ref xa)) (c:Zbm xa s.heap) (hit:s.heap.IsListIter it l i) (hl:s.heap.IsList l its) (hx:its[i]?=none) (hne:xa≠it)
 (hQ:∀h',Wz it s.heap h'->Q none {s with heap:=h'}):js (ju prog w) A (uf (.ref it)) Q E s:=by
 obtain ⟨o1,k1,kc,kd⟩:=id hit;obtain ⟨o2,l1,lc,n2,l2⟩:=hl;unfold uf;refine jm (jX (jP (name:=Qc "__next__") hit.typeIs slot_listiter_next (jS slot_listiter_next hit.typeIs entry_listiter_next ?_ (args_listiter_next _))));show js _ _ (field (.ref it) 0 >>=_) _ _ s;refine jm (uj k1 kd (x:=.ref l) rfl ?_);show js _ _ (if (Value.ref l==Qq)=true then _ else _) _ _ s;rw [if_neg (by exact Qg)];show js _ _ (field (.ref it) 1 >>=_) _ _ s;refine jm (uj k1 kd (x:=.int i 0) rfl ?_);show js _ _ (seqItems? (.ref l) >>=_) _ _ s;refine jm (va l1 l2 ?_);dsimp only;rw [Qm,hx];refine jm (uD (jm (vB k1 kd (by simp) ?_)));have c1:Zbm xa (s.heap.update it (Obj.mapFields (·.setIfInBounds 0 Qq))):=by obtain ⟨o,vs,h1,h2,h3⟩:=c;exact ⟨o,vs,(QX _ _ (Ne.symm hne)).trans h1,h2,h3⟩
 show js _ _ (newExc (.type "StopIteration") [] >>=_) _ _ _;refine jm ?_;simp only [newExc,newTuple];refine jm (j8 ?_ (by size_fits));refine jm (m:=vd _ _) (uV (a:=Qq) (by first|rfl|(simp only [vd];rfl)) ?_);refine j8 ?_ (by size_fits);simp only [raiseNew];refine jm (wpAny_handled ?_);rw [show A.in1.handled=some (.ref xa) from hh];have l0:xa<(s.heap.update it (Obj.mapFields (·.setIfInBounds 0 Qq))).objs.size:=by obtain ⟨o,vs,h1,_⟩:=c1;exact Qk h1
 have ek:∀b o,b≠it->s.heap.get? b=some o->(s.heap.update it (Obj.mapFields (·.setIfInBounds 0 Qq))).get? b=some o:=λb o hb e=>(QX _ _ (Ne.symm hb)).trans e
 generalize s.heap.update it (Obj.mapFields (·.setIfInBounds 0 Qq))=hA at c1 l0 ek ⊢
 have c2:=c1.push {cls:=.type "tuple",dict:=none,data:=.seq ([]:List Value).toArray};have l1:xa<(hA.push {cls:=.type "tuple",dict:=none,data:=.seq ([]:List Value).toArray}).objs.size:=by rw [UE];exact UR l0
 have ek2:∀b o,b≠it->s.heap.get? b=some o->(hA.push {cls:=.type "tuple",dict:=none,data:=.seq ([]:List Value).toArray}).get? b=some o:=λb o hb e=>Qe _ (ek b o hb e)
 generalize hA.push {cls:=.type "tuple",dict:=none,data:=.seq ([]:List Value).toArray}=hB at c2 l1 ek2 ⊢
 show js _ _ (if (Value.ref xa !=Value.ref hB.objs.size)=true then _ else _) _ _ _;have nx:(Value.ref xa !=Value.ref hB.objs.size)=true:=by rw [bne_iff_ne];intro z;injection z with z;exact QW _ (z▸l1)
 rw [if_pos nx];refine jm (jU (ZoP (c2.push _) ?_));show js _ _ (QaF (.ref hB.objs.size) 2 (.ref xa) >>=_) _ _ _;refine jm (vB (Qi _ rfl) rfl (by simp;omega) ?_);refine wpAny_throw ?_;refine jm (vg (T:="StopIteration") (b:=true) ⟨_,Q3 _ (Qi _ rfl) (Obj.isFreed_of_fields (Obj.data_mapFields rfl _)),rfl⟩ vZ ?_);refine jq (hQ _ λb o hb e=>?_);have e2:=ek2 b o hb e;rw [QX _ _ (λz=>QW _ (z▸Qk e2))];exact Qe _ e2
end
noncomputable abbrev HdX (xa:jo):Cx->Prop:=λX=>X.A.handled=some (.ref xa)
noncomputable def ZtN (xa:jo) (K:Qa) (a:jo):It:=⟨(Itl K a).go,(Itl K a).yld,λi H=>(∃C,H xa=some (ZgJ xa C))/\(Itl K a).stop i H⟩
theorem ZjQ {xa:jo} {P:jx} {w:jG} {K:Qa} {tg:jL} (a it:jo):Zqt (HdX xa) P w K tg (ZtN xa K a) [it] it (λi h=>h.IsListIter it a i) where
 mem:=(ZaK (P:=P) (w:=w) (K:=K) (tg:=tg) a it).mem
 obj:=(ZaK (P:=P) (w:=w) (K:=K) (tg:=tg) a it).obj
 keep:=(ZaK (P:=P) (w:=w) (K:=K) (tg:=tg) a it).keep
 item:=by intro X hP hw hK hh i Zb s σ H E I hf st hg;subst hP hw hK;obtain ⟨xs,x,hq,hx⟩:=hg;obtain ⟨its,rv,p,hz⟩:=I.list hq;obtain ⟨u,hu,ru⟩:=rv.get hx;obtain ⟨f0,f1,f2,f3,f4,f5⟩:=hf it (by simp);refine wpAny_pyNext_list_item st p.isList (x:=u) (by simpa using hu) λh1 st1 sb=>?_;obtain ⟨o,e,c,d⟩:=id st1;exact ⟨u,rfl,Zh8 (s:= {s with heap:=h1}) e c d (by decide) ⟨x,H,I.turned (t':=s.toks) (λb o hb e=>(sb.2 b hb).trans e) f0 f1 f3 f4 f5,ru,⟨rfl,λys hy=>by rw [I.list_inj hy hq];exact hx⟩,st1,λb hb=>(hf b hb).1⟩⟩
 done:=by intro X hP hw hK hh i Zb s σ H E I hf st hg;subst hP hw hK;obtain ⟨⟨C,hxa⟩,xs,hq,hx⟩:=hg;obtain ⟨its,rv,p,hz⟩:=I.list hq;obtain ⟨f0,f1,f2,f3,f4,f5⟩:=hf it (by simp);have hl:=rv.length;obtain ⟨⟨o0,v0,z1,z2,z3,z4⟩,_,_⟩:=I.hok xa _ hxa;exact Zlp hh ⟨o0,v0,z1,z3,z4⟩ st p.isList (by simp;omega) (λz=>by rw [z,f0] at hxa;cases hxa) λh1 eb=>⟨rfl,I.turned (t':=s.toks) (λb o hb e=>eb b o hb e) f0 f1 f3 f4 f5⟩
 self:=(ZaK (P:=P) (w:=w) (K:=K) (tg:=tg) a it).self
noncomputable def Zrz (xa:jo) (K:Qa) (tl:TE):TI:=λσ H R=>tl σ H λv H1=>∃a,v=.ref a/\(∃xs,SqL K H1 a xs)/\R (ZtN xa K a) H1
section
variable {X:Cx}
theorem Zog {tg l:jL} {tl:TE} (xa:jo) (hl:PE X l tl):PIG (HdX xa) X tg l (Zrz xa X.K tl):=by
 intro Zb s σ H R I h;refine thn (hl Zb s σ H _ I h) λv s1 ⟨x,H1,I1,r1,q1⟩=>?_;obtain ⟨a,e,⟨xs,hq⟩,q⟩:=q1;subst e;cases r1;obtain ⟨its,rv,p,hz⟩:=I1.list hq;refine wpAny_pyIter_list p.isList ?_;have hb:∀b∈[s1.heap.objs.size],ZbX X Zb H1 b:=λb hb=>by cases jC.mp hb;exact I1.fpOk (Qf _) (I1.hok.fresh (Qf _))
 exact ⟨s1.heap.objs.size,[s1.heap.objs.size],_,_,H1,rfl,I1.kept (t':=s1.toks) λb o e=>Qe _ e,ZjQ a _,⟨_,Qi _ rfl,rfl,rfl⟩,hb,q⟩
theorem Zoj {elt iter target:jL} {i₀:Nat} {y₀:Str} {p₀ p₁:Pos} {ifs:List jL} {scope:Scope} {pos:Pos} {cl:List (Str×jo)} {own:List Str} {cp:List (Str×Nat)} {wi:TI} {g:TG} {tc:TT} {te:TE}
 {xa:jo} (hh:X.A.handled=some (.ref xa)) (hcl:Ye scope.names X.env.cells []=some cl) (hk:scope.kind=.function) (hnc:∀y∈scope.names,y.2≠ .cell)
 (hnm:∀x∈scope.names,x.2=.local->scope.names.lookup x.1=some .local) (hcp:YT X scope cp) (hi:PIG (HdX xa) X target iter wi) (gk:ZeH own.length g)
 (hg:∀fp C s H,PG (cxC X scope cl (own++cp.map (·.1)) fp C s H) target g) (ht:∀fp C s H,PFs (cxC X scope cl (own++cp.map (·.1)) fp C s H) ifs tc) (he:∀fp C s H,PE (cxC X scope cl (own++cp.map (·.1)) fp C s H) elt te)
 (hN:X.N.Nodup) (hi₀:X.N[i₀]?=some y₀) (hx₀:X.env.scope.names.lookup y₀=some .local) (hsw:u7 (.ListComp elt [⟨target,iter,ifs,0⟩] scope pos) (some (.Name y₀ p₀)) p₁.line X.env=pure true)
 (hs:∀x,jK iter X.env x=pure x:=by intro _;rfl):PS X (.Assign [.Name y₀ p₀] (.ListComp elt [⟨target,iter,ifs,0⟩] scope pos) p₁) (Zhz (ZiS own.length cp wi g tc te) (Yg i₀)):=
 ZiG (Cd:=HdX xa) (λ_ _ _ _=>hh) hcl hk hnc hnm hcp hi gk hg ht he hN hi₀ hx₀ hsw hs
noncomputable def ZuC (K:Qa) (xa:jo) (n:Nat) (cp:List (Str×Nat)) (tl:TE) (tc:TT) (te:TE):TE:=λσ H Q=>tl σ H λv H1=>match v with
 | .ref a=>∃xs,SqL K H1 a xs/\xs.length<16777216/\∃Pv:Nat->Hp->List V->Prop,Pv 0 H1 []/\(∀i H2 acc,i<=xs.length->Pv i H2 acc->SqL K H2 a xs/\∃C,H2 xa=some (ZgJ xa C))/\(∀i y H2 acc,xs[i]?=some y->Pv i H2 acc->Zf4 tc te ((Zau n cp σ).set 0 (some y)) acc (Pv (i+1)) H2)/\∀H2 acc,Pv xs.length H2 acc->∀l,H2 l=none->Q (.ref l) (upd H2 l (.lst acc))
 |_=>False
theorem ZlI {i₀:Nat} {y₀:Str} {p₀ p₁:Pos} {K:Qa} {elt iter:jL} {ifs:List jL} {x:Str} {px:Pos} {scope:Scope} {pos:Pos} {cl:List (Str×jo)} {own:List Str} {cp:List (Str×Nat)} {tl:TE} {tc:TT} {te:TE} (hK:X.K=K)
 {xa:jo} (hh:X.A.handled=some (.ref xa)) (hcl:Ye scope.names X.env.cells []=some cl) (hk:scope.kind=.function) (hnc:∀y∈scope.names,y.2≠ .cell)
 (hnm:∀x∈scope.names,x.2=.local->scope.names.lookup x.1=some .local) (hcp:YT X scope cp) (hl:PE X iter tl) (hn:0<own.length)
 (hg:∀fp C s H,PG (cxC X scope cl (own++cp.map (·.1)) fp C s H) (.Name x px) (Yg 0)) (ht:∀fp C s H,PFs (cxC X scope cl (own++cp.map (·.1)) fp C s H) ifs tc) (he:∀fp C s H,PE (cxC X scope cl (own++cp.map (·.1)) fp C s H) elt te)
 (hN:X.N.Nodup) (hi₀:X.N[i₀]?=some y₀) (hx₀:X.env.scope.names.lookup y₀=some .local) (hsw:u7 (.ListComp elt [⟨.Name x px,iter,ifs,0⟩] scope pos) (some (.Name y₀ p₀)) p₁.line X.env=pure true:=by rfl)
 (hs:∀z,jK iter X.env z=pure z:=by intro _;rfl):PS X (.Assign [.Name y₀ p₀] (.ListComp elt [⟨.Name x px,iter,ifs,0⟩] scope pos) p₁) (Zhz (ZuC K xa own.length cp tl tc te) (Yg i₀)):=by
 subst hK;have hl':PE X iter (λσ H Q=>∃Q0:VK,tl σ H Q0/\∀v H',Q0 v H'->Q v H'):=hl.imp λσ H Q h=>h;intro Zb s σ H D I h;refine Zoj hh hcl hk hnc hnm hcp (Zog xa hl') (ZbQ hn) hg (λfp C s H=>(ht fp C s H).imp (t':=Zi7 tc) λ_ _ _ z=>z) (λfp C s H=>(he fp C s H).imp (t':=Zi6 te) λ_ _ _ z=>z) hN hi₀ hx₀ hsw hs Zb s σ H D I ?_;refine ⟨_,h,λv H1 q=>?_⟩
 cases v with
 |ref a=>
  obtain ⟨xs,hx,hz,Pv,p0,pl,ps,pe⟩:=q;have hsl:sizeLine=16777216:=jw;refine ⟨a,rfl,⟨xs,hx⟩,λi m H2 acc=>m=xs.length-i/\i<=xs.length/\acc.length<=i/\Pv i H2 acc,⟨xs.length,by omega,Qu _,Qf _,p0⟩,?_⟩;rintro i m H2 acc ⟨rfl,hi,hla,pv'⟩;refine ⟨by omega,?_⟩;obtain ⟨hx2,hxa⟩:=pl i H2 acc hi pv';by_cases hlt:i<xs.length
  ·refine .inr ⟨⟨xs,xs[i],hx2,by simp [hlt]⟩,λy H3 ⟨e3,ey⟩=>?_⟩;subst e3;exact ZaF (N':=λH a=>∃m',m'<xs.length-i/\(m'=xs.length-(i+1)/\i+1<=xs.length/\a.length<=i+1/\Pv (i+1) H a)) (λH a ha z=>⟨xs.length-(i+1),by omega,rfl,hlt,by omega,z⟩) (ps i y H3 acc (ey xs hx2) pv')
  ·have e:i=xs.length:=by omega
   subst e;exact .inl ⟨⟨hxa,xs,hx2,Qf _⟩,λl hl'=>pe H2 acc pv' l hl'⟩
 |_=>exact False.elim q
end
end L2
namespace LP
noncomputable def ahd (p:List Nat):List (List Nat)->List (List Nat)
 |[]=>[p]
 |w::r=>(p++w)::r
noncomputable def spl (c:Nat):Nat->List Nat->List (List Nat)
 |_,[]=>[[]]
 |0,x::r=>[x::r]
 |n+1,x::r=>if x=c then []::spl c n r else ahd [x] (spl c (n+1) r)
noncomputable def Zc4 (c:Nat):Nat->List Nat->List Nat
 |_,[]=>[]
 |i,x::r=>if x=c then i::Zc4 c (i+1) r else Zc4 c (i+1) r
theorem ZfD (c n:Nat):∀l,spl c n l≠[]
 |[]=>by simp [spl]
 |x::r=>by
  cases n with
  |zero=>simp [spl]
  |succ n=>
   unfold spl;split
   ·simp
   ·cases spl c (n+1) r<;>simp [ahd]
theorem ZoY (p q:List Nat):∀{ws:List (List Nat)},ws≠[]->ahd p (ahd q ws)=ahd (p++q) ws
 |[],h=>absurd rfl h
 |w::r,_=>by simp [ahd]
theorem ZfF (c:Nat):∀l,spl c 0 l=[l]
 |[]=>rfl
 |_::_=>rfl
theorem qK {c:Nat} (n:Nat) (r:List Nat):∀{p:List Nat},c∉p->spl c (n+1) (p++c::r)=p::spl c n r
 |[],_=>by simp [spl]
 |x::p,h=>by have hx:x≠c:=λe=>h (by simp [e]);have hp:c∉p:=λe=>h (by simp [e]);show (if x=c then _ else ahd [x] (spl c (n+1) (p++c::r)))=_;rw [if_neg hx,qK n r hp];rfl
theorem ZfE {c:Nat} (n:Nat):∀{p:List Nat},c∉p->spl c n p=[p]
 |[],_=>rfl
 |x::p,h=>by
  cases n with
  |zero=>rfl
  |succ n=>
   have hx:x≠c:=λe=>h (by simp [e]);have hp:c∉p:=λe=>h (by simp [e]);show (if x=c then _ else ahd [x] (spl c (n+1) p))=_;rw [if_neg hx,ZfE (n+1) hp];rfl
theorem Zde (c:Nat):∀(n:Nat) (l:List Nat),(spl c n l).length<=l.length+1
 |n,[]=>by simp [spl]
 |0,x::r=>by simp [spl]
 |n+1,x::r=>by
  unfold spl;split
  ·have:=Zde c n r;simp only [jD];omega
  ·have:=Zde c (n+1) r
   have e:(ahd [x] (spl c (n+1) r)).length=(spl c (n+1) r).length:=by
    have:=ZfD c (n+1) r
    cases h:spl c (n+1) r with
    |nil=>exact absurd h this
    |cons w ws=>rfl
   rw [e];simp only [jD];omega
end LP
namespace L2
open PySem PySem.Spec PyProof.Rows Builtin.Str LP
theorem ZcW (z:Str) (c:Nat) (lim:Nat):∀(l:List Nat) (i:Nat) (acc:Array Nat) (free:Nat),(L z).drop i=l->free<=i->i<=z.length->
 (forIn (UB i (l.length+1)) (acc,free) (StrLaws.occBody z ⟨#[c]⟩ z.length lim)).run.fst.toList=acc.toList++(Zc4 c i l).take (lim-acc.size)
 |[],i,acc,free,hl,hf,hi=>by
  rw [ua,WR,Uv];unfold StrLaws.occBody;have hn:(L z)[i]?=none:=by have:=congrArg (·[0]?) hl;simpa using this
  rw [if_neg (λh=>by
   have:=(StrLaws.subAt_one z c i).mp ⟨h.1.2,h.2⟩;have h2:(L z)[i]?=some c:=this;rw [hn] at h2;cases h2)]
  show (forIn (UB (i+1) 0) (acc,free) (StrLaws.occBody z ⟨#[c]⟩ z.length lim)).run.fst.toList=_;simp [Zc4]
 |x::r,i,acc,free,hl,hf,hi=>by
  have hx:(L z)[i]?=some x:=by have:=congrArg (·[0]?) hl;simpa using this
  have hlt:i<z.length:=by have:=(Qn.mp hx).1;rw [Z0] at this;exact this
  have hr:(L z).drop (i+1)=r:=by rw [<-UP,hl];rfl
  rw [jD,WR,Uv];unfold StrLaws.occBody;by_cases e:x=c
  ·by_cases hs:acc.size<lim
   ·have st:=(StrLaws.subAt_one z c i).mpr (show (L z)[i]?=some c by rw [hx,e]);rw [if_pos ⟨⟨⟨hs,hf⟩,st.1⟩,st.2⟩];show (forIn (UB (i+1) (r.length+1)) (acc.push i,i+1) (StrLaws.occBody z ⟨#[c]⟩ z.length lim)).run.fst.toList=_;rw [ZcW z c lim r (i+1) _ _ hr (Qf _) hlt];rw [show Zc4 c i (x::r)=i::Zc4 c (i+1) r from if_pos e,Vm];obtain ⟨d,hd⟩:∃d,lim-acc.size=d+1:=⟨lim-acc.size-1,by omega⟩;rw [hd,show lim-(acc.size+1)=d by omega,QO];simp
   ·rw [if_neg (λh=>hs h.1.1.1)];show (forIn (UB (i+1) (r.length+1)) (acc,free) (StrLaws.occBody z ⟨#[c]⟩ z.length lim)).run.fst.toList=_;rw [ZcW z c lim r (i+1) _ _ hr (VJ hf) hlt,show lim-acc.size=0 by omega];simp
  ·rw [if_neg (λh=>by
    have:=(StrLaws.subAt_one z c i).mp ⟨h.1.2,h.2⟩;have h2:(L z)[i]?=some c:=this;rw [hx] at h2;exact e (Option.some.inj h2))]
   show (forIn (UB (i+1) (r.length+1)) (acc,free) (StrLaws.occBody z ⟨#[c]⟩ z.length lim)).run.fst.toList=_;rw [ZcW z c lim r (i+1) _ _ hr (VJ hf) hlt];rw [show Zc4 c i (x::r)=Zc4 c (i+1) r from if_neg e]
theorem ZpD (z:Str) (c lim:Nat):occurrences z ⟨#[c]⟩ 0 z.length lim=(Zc4 c 0 (L z)).take lim:=by rw [StrLaws.occ_eq];have:=ZcW z c lim (L z) 0 #[] 0 rfl (Qf _) (Qu _);rw [Z0] at this;simpa using this
theorem ZdH (z:Str) (c:Nat):∀(l:List Nat) (n:Nat) (A P:List Nat),L z=A++P++l->StrLaws.partsFrom z 1 A.length ((Zc4 c (A.length+P.length) l).take n)=(ahd P (spl c n l)).map T
 |[],n,A,P,h=>by
  have e:strSub z A.length z.length=T P:=by rw [ZfH,<-Z0,QG,h];simp
  show StrLaws.partsFrom z 1 A.length (([]:List Nat).take n)=_;rw [List.take_nil];show [strSub z A.length z.length]=_;rw [e];simp [spl,ahd]
 |x::r,0,A,P,h=>by rw [Q6,ZfF];show [strSub z A.length z.length]=_;rw [ZfH,<-Z0,QG,h];simp [ahd]
 |x::r,n+1,A,P,h=>by
  by_cases e:x=c
  ·rw [show Zc4 c (A.length+P.length) (x::r)=(A.length+P.length)::Zc4 c (A.length+P.length+1) r from if_pos e,show spl c (n+1) (x::r)=[]::spl c n r from if_pos e,QO];show strSub z A.length (A.length+P.length)::StrLaws.partsFrom z 1 (A.length+P.length+1) _=_;have ih:=ZdH z c r n (A++P++[x]) [] (by rw [h];simp);simp only [jv,jJ,ua,Ul] at ih;rw [ih,ZfH,h];have e2:List.drop A.length (List.take (A.length+P.length) (A++P++x::r))=P:=by rw [VS (by simp),QD (by simp)];simp
   rw [e2]
   cases hs:spl c n r with
   |nil=>exact absurd hs (ZfD c n r)
   |cons w ws=>simp [ahd]
  ·rw [show Zc4 c (A.length+P.length) (x::r)=Zc4 c (A.length+P.length+1) r from if_neg e,show spl c (n+1) (x::r)=ahd [x] (spl c (n+1) r) from if_neg e];have ih:=ZdH z c r (n+1) A (P++[x]) (by rw [h];simp);rw [jv,jJ,<-Wg] at ih;rw [ih,ZoY _ _ (ZfD c (n+1) r)]
theorem ZdI (z:Str) (c lim:Nat):partsBetween z (occurrences z ⟨#[c]⟩ 0 z.length lim) 1=(spl c lim (L z)).map T:=by
 rw [StrLaws.partsBetween_eq,ZpD];have:=ZdH z c (L z) lim [] [] rfl;simp only [ua,Ul] at this;rw [this]
 cases hs:spl c lim (L z) with
 |nil=>exact absurd hs (ZfD c lim (L z))
 |cons w ws=>simp [ahd]
theorem Ze7 {z:Str} {c lim:Nat} (h:(occurrences z ⟨#[c]⟩ 0 z.length lim).isEmpty=true):(spl c lim (L z)).map T=[z]:=by rw [<-ZdI,List.isEmpty_iff.mp h];show [strSub z 0 z.length]=_;rw [ZfH,<-Z0,QG,Uc,T_L]
theorem Zd0:∀(xs:List Str) (tk:Nat),ZA (xs.map V.str) (strsFrom tk xs)
 |[],_=>.nil
 |x::r,tk=>.cons ⟨tk,rfl⟩ (Zd0 r (tk+1))
theorem ZnD (z:Str):1<=Builtin.Str.strKind z:=by
 unfold Builtin.Str.strKind;split
 ·exact Qf _
 ·split<;>decide
section
variable {X:Cx}
noncomputable def ZsT:V->List V->Hp->VK->Prop:=λx vs H Q=>match x,vs with
 | .str z,[.str y]=>∃c,L y=[c]/\c<256/\(L z).length+2<=sizeLine/\∀a,H a=none->Q (.ref a) (upd H a (.lst ((spl c ((L z).length+1) (L z)).map λw=>V.str (T w))))
 | .str z,[.str y,.int k]=>∃c,L y=[c]/\c<256/\(L z).length+2<=sizeLine/\0<=k/\k<1000/\∀a,H a=none->Q (.ref a) (upd H a (.lst ((spl c k.toNat (L z)).map λw=>V.str (T w))))
 |_,_=>False
theorem Zg9:MtR X "str.split" ZsT:=by
 intro Zb s σ H x vs v us Q I rx rv h
 have fin:∀(c lim:Nat) (z:Str) (tk:Nat) (its:List Value),(L z).length+2<=sizeLine->ZA (((spl c lim (L z)).map T).map V.str) its->(∀a,H a=none->Q (.ref a) (upd H a (.lst ((spl c lim (L z)).map λw=>V.str (T w)))))->
  EP X Zb σ Q (.ref s.heap.objs.size) {s with toks:=tk,heap:=s.heap.push {cls:=.type "list",data:=.seq its.toArray} }:=λc lim z tk its hz r q=>by
  have hn:=I.hok.fresh (Qf s.heap.objs.size);have em:((spl c lim (L z)).map T).map V.str=(spl c lim (L z)).map λw=>V.str (T w):=by rw [uM];rfl
  have hl:=Zde c lim (L z);refine ⟨.ref s.heap.objs.size,_,I.laid (o:=.lst ((spl c lim (L z)).map λw=>V.str (T w))) (t':=tk) (λb o e=>Qe _ e) (Qf _) ⟨by rw [jr];omega,its,0,em▸r,Qi _ rfl⟩,rfl,q _ hn⟩
 have kd:∀(z:Str) (c:Nat),c<256->z.length≠0->(decide (z.length<(⟨#[c]⟩:Str).length) || decide (Builtin.Str.strKind z<Builtin.Str.strKind ⟨#[c]⟩))=false:=λz c hc hz=>by
  have h1:Builtin.Str.strKind ⟨#[c]⟩=1:=by unfold Builtin.Str.strKind;rw [if_pos (by simpa using hc)]
  have h2:=ZnD z;rw [h1,show (⟨#[c]⟩:Str).length=1 from rfl,decide_eq_false (by omega),decide_eq_false (by omega)];rfl
 have mt:∀(z:Str) (c:Nat),z.length=0->(decide (z.length<(⟨#[c]⟩:Str).length) || decide (Builtin.Str.strKind z<Builtin.Str.strKind ⟨#[c]⟩))=true:=λz c hz=>by rw [hz];rfl
 have one:∀(z:Str) (c lim:Nat) (t:Tok),(spl c lim (L z)).map T=[z]->ZA (((spl c lim (L z)).map T).map V.str) [.str z t]:=λz c lim t e=>by rw [e];exact .cons ⟨t,rfl⟩ .nil
 have nil:∀(z:Str) (c lim:Nat),z.length=0->(spl c lim (L z)).map T=[z]:=λz c lim hz=>by
  have e:L z=[]:=by rw [<-Z0] at hz;exact uQ.mp hz
  rw [e];have:=T_L z;rw [e] at this;simp [spl,this]
 unfold ZsT at h;split at h
 ·rename_i z y;obtain ⟨c,hy,hc,hz,q⟩:=h;obtain ⟨t,rfl⟩:=rx;obtain ⟨u,rfl,t',rfl⟩:=qN rv;have hy2:=Zfm hy;subst hy2;have hl:=Zde c ((L z).length+1) (L z);by_cases h0:z.length=0
  ·exact uK F.slot_str_split (ui _ _ _) F.entry_str_split (F.args_str_split_2 _ _) (meets_str_split_cannot_occur z ⟨#[c]⟩ t t' (mt z c h0)) (fin c _ z _ _ hz (one z c _ t (nil z c _ h0)) q)
  ·cases hf:(occurrences z ⟨#[c]⟩ 0 z.length (z.length+1)).isEmpty with
   |true=>exact uK F.slot_str_split (ui _ _ _) F.entry_str_split (F.args_str_split_2 _ _) (meets_str_split_not_found z ⟨#[c]⟩ t t' (kd z c hc h0) rfl hf) (fin c _ z _ _ hz (one z c _ t (by rw [Z0];exact Ze7 hf)) q)
   |false=>
    have e:=ZdI z c (z.length+1);refine uK F.slot_str_split (ui _ _ _) F.entry_str_split (F.args_str_split_2 _ _) (meets_str_split_sep z ⟨#[c]⟩ t t' (kd z c hc h0) rfl hf (by rw [<-Z0];omega) (by show (partsBetween z _ 1).length<=_;rw [e,jr,<-Z0];omega)) ?_;exact fin c _ z _ _ hz (by show ZA _ (strsFrom _ (partsBetween z _ 1));rw [e,Z0];exact Zd0 _ _) q
 ·rename_i z y k;obtain ⟨c,hy,hc,hz,k0,k1,q⟩:=h;obtain ⟨t,rfl⟩:=rx;obtain ⟨u,u2,rfl,⟨t',rfl⟩,⟨t2,rfl⟩⟩:=ZfN rv;have hy2:=Zfm hy;subst hy2;have hk:(decide (k < -(2 ^ 63:Int)) || decide (k ≥ 2 ^ 63))=false:=by rw [decide_eq_false (by omega),decide_eq_false (by omega)];rfl
  have hlim:limitOf z k=k.toNat:=if_neg (by omega);have hl:=Zde c k.toNat (L z);by_cases h0:z.length=0
  ·exact uK F.slot_str_split (ui _ _ _) F.entry_str_split (F.args_str_split_3 _ _ _) (meets_str_split_max_cannot_occur z ⟨#[c]⟩ k t t' t2 hk (mt z c h0)) (fin c _ z _ _ hz (one z c _ t (nil z c _ h0)) q)
  ·cases hf:(occurrences z ⟨#[c]⟩ 0 z.length (limitOf z k)).isEmpty with
   |true=>exact uK F.slot_str_split (ui _ _ _) F.entry_str_split (F.args_str_split_3 _ _ _) (meets_str_split_max_not_found z ⟨#[c]⟩ k t t' t2 hk (kd z c hc h0) rfl hf) (fin c _ z _ _ hz (one z c _ t (by rw [hlim] at hf;exact Ze7 hf)) q)
   |false=>
    have e:=ZdI z c (limitOf z k);have e':partsBetween z (occurrences z ⟨#[c]⟩ 0 z.length (limitOf z k)) (⟨#[c]⟩:Str).length=(spl c k.toNat (L z)).map T:=by rw [hlim] at e ⊢;exact e
    refine uK F.slot_str_split (ui _ _ _) F.entry_str_split (F.args_str_split_3 _ _ _) (meets_str_split_sep_max z ⟨#[c]⟩ k t t' t2 hk (kd z c hc h0) rfl hf (by rw [<-Z0];omega) (by rw [e',jr];omega)) ?_;exact fin c _ z _ _ hz (by rw [e'];exact Zd0 _ _) q
 ·exact h.elim
end
section
variable {X:Cx}
noncomputable def ZoR (r1 r2:R2) (ta tb tc:TE):TE:=λσ H Q=>ta σ H λx H1=>tb σ H1 λy H2=>r1 x y H2 λz H3=>match z with
 | .bl k=>if k=true then tc σ H3 λu H4=>r2 y u H4 Q else Q (.bl false) H3
 |_=>False
theorem ZlC {op1 op2:CmpOp} {r1 r2:R2} {a b c:jL} {ta tb tc:TE} {pos:Pos} (h1:OpR X (jZ op1) r1) (h2:OpR X (jZ op2) r2) (ha:PE X a ta) (hb:PE X b tb) (hc:PE X c tc) (hm:lastMarks [op1,op2] [b,c]=false:=by with_unfolding_all rfl):PE X (.Compare a [op1,op2] [b,c] pos) (ZoR r1 r2 ta tb tc):=by
 intro Zb s σ H Q I h;refine Compare_chain (thn (ha Zb s σ H _ I h) λv s1 ⟨x,H1,I1,rx,q1⟩=>chain_link (thn (hb Zb s1 σ H1 _ I1 q1) λu s2 ⟨y,H2,I2,ry,q2⟩=>thn (h1 Zb s2 σ H2 x y v u _ I2 rx ry q2) λk s3 ⟨z,H3,I3,rz,q3⟩=>?_)) hm
 cases z with
 |bl k=>
  cases rz;refine uU ?_
  cases k with
  |true=>exact chain_last (thn (hc Zb s3 σ H3 _ I3 q3) λt s4 ⟨w',H4,I4,rw',q4⟩=>h2 Zb s4 σ H4 y w' u t _ I4 ry rw' q4)
  |false=>exact ⟨.bl false,H3,I3,rfl,q3⟩
 |_=>exact False.elim q3
noncomputable def ZqY:List DictEntry->List (Str×V)->Prop
 |[],[]=>True
 |e::es,p::ps=>(∃t,e.key=.str p.1 t)/\ZP p.2 e.val/\ZqY es ps
 |_,_=>False
noncomputable def Zcy:List (Str×V)->Str->Option V
 |[],_=>none
 |p::r,z=>if p.1=z then some p.2 else Zcy r z
structure ZeN (K:Qa) (P:v9) (a:jo) (kvs:List (Str×V)):Prop where
 ex:∃es n,K.lookup a=some ⟨.type "dict",none,.dict es n,#[]⟩/\PySem.W.KeysLit P es.toList/\ZqY es.toList kvs
 ns:(a==uW)=false
theorem Zgl {z:Str}:∀{es:List DictEntry} {kvs:List (Str×V)},ZqY es kvs->(∃u v,(es.find? λd=>QV z d.key).map (·.val)=some u/\Zcy kvs z=some v/\ZP v u)\/((es.find? λd=>QV z d.key).map (·.val)=none/\Zcy kvs z=none)
 |[],[],_=>.inr ⟨rfl,rfl⟩
 |e::es,p::ps,⟨⟨t,hk⟩,hv,r⟩=>by
  unfold Zcy;rw [QN,hk];by_cases q:p.1=z
  ·have:QV z (.str p.1 t)=true:=by subst q;simp [QV]
   rw [this,if_pos q];exact .inl ⟨_,_,rfl,rfl,hv⟩
  ·have:QV z (.str p.1 t)=false:=by simp [QV,q]
   rw [this,if_neg q];exact Zgl r
 |[],_::_,h=>h.elim
 |_::_,[],h=>h.elim
theorem ZeN.map {P:jx} {w:jG} {K:Qa} {a:jo} {kvs:List (Str×V)} {h:Heap} (D:ZeN K w.params a kvs) (KX:K.In h):∃f,h.MapOf (strKind P w) a f/\∀z,(∃u v,f z=some u/\Zcy kvs z=some v/\ZP v u)\/(f z=none/\Zcy kvs z=none):=by obtain ⟨es,n,hl,hk,he⟩:=D.ex;refine ⟨_,PySem.W.mapOf_K (prog:=P) KX hl hk,λz=>?_⟩;have:=Zgl (z:=z) he;obtain ⟨l⟩:=es;unfold findBy;rw [List.find?_toArray];exact this
noncomputable def Zhl (neg:Bool) (A:jo) (kvs:List (Str×V)):R2:=λx y H Q=>match x,y with
 | .str z,.ref a=>a=A/\Q (.bl (neg !=(Zcy kvs z).isSome)) H
 |_,_=>False
noncomputable def ZdO (A:jo) (kvs:List (Str×V)):R2:=λx y H Q=>match x,y with
 | .ref a,.str z=>a=A/\∃v,Zcy kvs z=some v/\Q v H
 |_,_=>False
theorem Zn3 {A:jo} {kvs:List (Str×V)} (D:ZeN X.K X.w.params A kvs):OpR X (jZ .NotIn) (Zhl true A kvs):=by
 intro Zb s σ H x y v u Q I rx ry h;unfold Zhl at h;split at h
 ·rename_i z a;obtain ⟨rfl,q⟩:=h;obtain ⟨t,rfl⟩:=rx;cases ry;obtain ⟨f,hm,hf⟩:=D.map (P:=X.prog) (w:=X.w) I.kIn;refine wpAny_notIn_of (strKind_is X.prog X.w z t) D.ns hm ⟨.bl _,H,I.kept (t':=s.toks+1) λb o e=>e,rfl,?_⟩;have e:(f z).isSome=(Zcy kvs z).isSome:=by rcases hf z with ⟨_,_,e1,e2,_⟩|⟨e1,e2⟩<;>rw [e1,e2]<;>rfl
  rw [e];simpa using q
 ·exact h.elim
theorem Znr {A:jo} {kvs:List (Str×V)} (D:ZeN X.K X.w.params A kvs):IxR X (ZdO A kvs):=by
 intro value slice Zb s σ H x y v u Q I rx ry h hs;unfold ZdO at h;split at h
 ·rename_i a z;obtain ⟨rfl,v',hv,q⟩:=h;obtain ⟨t,rfl⟩:=ry;cases rx;obtain ⟨f,hm,hf⟩:=D.map (P:=X.prog) (w:=X.w) I.kIn;rcases hf z with ⟨u',v2,e1,e2,r⟩|⟨_,e2⟩
  ·rw [hv] at e2;cases e2;exact tail_any hm.typeIs slot_dict_getitem.lookup (wpAny_getItem_of (strKind_is X.prog X.w z t) hm e1 ⟨v',H,I.kept (t':=s.toks+1) λb o e=>e,r,q⟩) hs
  ·rw [hv] at e2;cases e2
 ·exact h.elim
structure ZoX (K:Qa) (a:jo) (xs:List V):Prop where
 ex:∃(o:Obj) (its:Array Value) (n:Nat),K.lookup a=some o/\o.cls=.type "tuple"/\o.data=.seq its n/\its.size<=sizeLine/\ZA xs its.toList
theorem ZoX.sq {K:Qa} {a:jo} {xs:List V} (T:ZoX K a xs) (H:Hp):SqT K H a xs:=.inr T.ex
structure Zq1 (K:Qa) (P:v9) (mg:Str->Option Value) (a:jo) (kns:List (Str×Str)):Prop where
 ex:∃kvs,ZeN K P a kvs/\∀z nm,(kns.find? λp=>p.1=z).map (·.2)=some nm->∃f,mg nm=some (.ref f)/\Zcy kvs z=some (.ref f)
noncomputable def ZuA (kns:List (Str×Str)) (G:Str->Sp->Prop) (F:St->XK) (tk:TE) (t:TA):TE:=λσ H Q=>tk σ H λkv H1=>match kv with
 | .str z=>∃nm sp,(kns.find? λp=>p.1=z).map (·.2)=some nm/\G nm sp/\t σ H1 λvs H2=>sp vs H2 Q (F σ)
 |_=>False
theorem ZpH {F:St->XK} {A:jo} {kns:List (Str×Str)} {G:Str->Sp->Prop} {k:Nat} {x:Str} {ke e:jL} {es:List jL} {tk:TE} {t:TA} {p p' pos:Pos} (T:Tk X F) (D:Zq1 X.K X.w.params X.mg A kns) (hA:X.mg x=some (.ref A)) (hG:∀nm sp,G nm sp->∃j ps,j<=k/\FnX X.prog X.w X.K X.mg X.base j nm ps sp) (hr:zH k X.A) (hk:PE X ke tk) (ha:PA X (e::es) t) (hs:Zj6 ke) (hg:Gl X x:=by rfl) (hdb:(x==("__debug__":Str))=false:=by decide)
 (he:jA (e::es) X.env=(false,eval e X.env)::jA es X.env:=by rfl) (hpl:(ut pos (jA es X.env)).any (·.1)=false:=by rfl)
 (hev:eval (.Call (.Subscript (.Name x p) ke p') (e::es) [] pos) X.env=(do callWith pos (<-eval (.Subscript (.Name x p) ke p') X.env) [] (ut pos (jA (e::es) X.env)) (v6 pos (vq [] X.env))):=by rfl):
 PE X (.Call (.Subscript (.Name x p) ke p') (e::es) [] pos) (ZuA kns G F tk t):=by
 intro Zb s σ H Q I h;obtain ⟨kvs,D,hD⟩:=D.ex;refine Call_ ?_ hev;have hsub:PE X (.Subscript (.Name x p) ke p') (tOp (ZdO A kvs) (tC (.ref A)) tk):=Z9 (Znr D) (zZ (v:=.ref A) hg hA rfl hdb) hk hs
 have h0:∃Q0:VK,tk σ H Q0/\∀kv H1,Q0 kv H1->match kv with
  | .str z=>∃nm sp,(kns.find? λp=>p.1=z).map (·.2)=some nm/\G nm sp/\t σ H1 λvs H2=>sp vs H2 Q (F σ)
  |_=>False:=⟨_,h,λ_ _ z=>z⟩
 have hk':PE X ke (λσ H Q=>∃Q0:VK,tk σ H Q0/\∀v H',Q0 v H'->Q v H'):=hk.imp λσ H Q h=>h;have hsub:PE X (.Subscript (.Name x p) ke p') (tOp (ZdO A kvs) (tC (.ref A)) (λσ H Q=>∃Q0:VK,tk σ H Q0/\∀v H',Q0 v H'->Q v H')):=Z9 (Znr D) (zZ (v:=.ref A) hg hA rfl hdb) hk' hs;refine thn (hsub Zb s σ H (λv H1=>∃nm sp f,v=.ref f/\X.mg nm=some (.ref f)/\G nm sp/\t σ H1 λvs H2=>sp vs H2 Q (F σ)) I ?_) λv s1 ⟨v',H1,I1,rv,nm,sp,f,ev,hf,hg1,q1⟩=>?_
 ·obtain ⟨Q0,a1,a2⟩:=h0;refine ⟨Q0,a1,λkv H1 q=>?_⟩;have q:=a2 kv H1 q
  cases kv with
  |str z=>
   obtain ⟨nm,sp,e1,e2,e3⟩:=q;obtain ⟨f,f1,f2⟩:=hD z nm e1;exact ⟨rfl,_,f2,nm,sp,f,rfl,f1,e2,e3⟩
  |_=>exact q.elim
 ·subst ev;cases rv;obtain ⟨j,ps,hj,G1⟩:=hG nm sp hg1;obtain ⟨f',fd,G1,hm,hkp,hb⟩:=G1.ex;rw [hf] at hm;cases hm;refine vj (h₀:=X.base) I1.ok.mod.kin hkp (thn (ha pos Zb s1 σ H1 _ I1 q1) λus s2 ⟨vs,H2,I2,r,q⟩=>⟨I2.kIn,?_⟩) he hpl;have hl:us.length=ps.length:=by rw [<-r.length];exact G1.len _ _ _ _ q
  refine uO (ud (G1.run X.A X.stack s2 H2 ⟨us,[]⟩ us vs Q (F σ) (hr.mono hj) I2.env0 (by simpa using hb s2 us I2.kIn (by simpa using hl)) r q) λr s' hq=>?_)
  cases r with
  |error e=>exact T.pass Zb σ H2 s2 e s' I2 hq
  |ok fl=>
   cases fl with
   |ret u=>exact I2.after hq
   |next=>exact False.elim hq
   |brk=>exact False.elim hq
   |cont=>exact False.elim hq
end
structure ZoW (P:jx) (w:jG) (K:Qa) (mg:Str->Option Value) (base:Heap) (k:Nat) (f:jo) (fd:j9) (ps:List Str) (sp:jo->Sp):Prop where
 len:∀xa vs H Q E,sp xa vs H Q E->vs.length=ps.length
 run:∀(A:Around) (outer:List Env) (s:jn) (H:Hp) (args:Args) (us:List Value) (vs:List V) (Q:VK) (xa:jo),A.handled=some (.ref xa)->ZaC k A->ZeG P w K mg base A outer s H->Qar s fd args (ps.zip us)->ZA vs us->sp xa vs H Q E0->
  u6 (ju P w) A (.call (.ref f) args) (CR CX0 outer P w H s Q E0) s
structure FnZ (P:jx) (w:jG) (K:Qa) (mg:Str->Option Value) (base:Heap) (k:Nat) (x:Str) (ps:List Str) (sp:jo->Sp):Prop where
 ex:∃f fd,ZoW P w K mg base k f fd ps sp/\mg x=some (.ref f)/\uR K (.ref f)=true/\Jj K fd ps []
section
variable {P:jx} {w:jG} {K:Qa} {mg:Str->Option Value} {base:Heap}
theorem Fun.okZ {x qual:Str} {st:Stmt} {f:jo} {fd:j9} {N ps:List Str} {k:Nat} {sp:jo->Sp} (F:Fun K x qual st f fd) (S:Zv N ps (Zk st)) (len:∀xa vs H Q E,sp xa vs H Q E->vs.length=ps.length)
 (hbody:∀(xa:jo) (cdv:Value) (A:Around) (outer:List Env) (s:jn) (H:Hp) (vs:List V) (Q:VK),(A.deeper (uk qual (Zk st) s.heap.objs.size f cdv)).handled=some (.ref xa)->ZaC k (A.deeper (uk qual (Zk st) s.heap.objs.size f cdv))->sp xa vs H Q E0->
  ∃t,PSs (cxW P w K mg base N qual (Zk st) f cdv A outer s H) (ZV st) t/\t {nx:=λ_ H'=>Q .non H',rt:=Q} (qh N vs) H):ZoW P w K mg base (k+1) f fd ps sp:=by
 obtain ⟨oc,od,kV,doc,pm,an,cdv,ct,osl,rfl,lk,hcd⟩:=F.ex;refine ⟨len,λA outer s H args us vs Q xa hh hr e0 hb r hsp=>?_⟩;have hl:=len _ _ _ _ _ hsp;have KX:K.In s.heap:=e0.mod.kin.keeps λb o e=>(e0.bs b o e).1;have lim:s.heap.NoLimit:=e0.mod.nolimit.keeps λb o e=>(e0.bs b o e).1
 have hkind:∀y∈ps.zip us,(Zk st).names.lookup y.1=some .local\/((Zk st).names.lookup y.1=some .cell/\((cellsFrom (s.heap.objs.size+1) (Zk st).names []).lookup y.1).isSome=true):=λ⟨n,v⟩ hy=>by
  rcases S.par n (Vn hy).1 with q|q
  ·exact .inl q
  ·exact .inr ⟨q,QaK _ _ _ (.inl q)⟩
 refine codeAny_call_function (by have:=hr.dp;omega) (KX _ _ lk) rfl S.co S.gen rfl (codeRec_of KX hcd) (hb _ _ _ _ ?_);refine QaD S.kind hkind λenv he s1 x=>?_;subst he;refine ⟨lim.keeps x.toInCall.keep,codeAny_func ?_⟩;obtain ⟨t,ht,hq⟩:=hbody xa cdv A outer s H vs Q hh (hr.deeper _) hsp;have I0:Inv (Jm CX0 P w K mg base N qual (Zk st) f cdv (still A) outer s H E0) [] (qh N vs) H s1:=Zgp S rfl e0.still hl r x;refine jW (ht [] s1 (qh N vs) H _ I0.toW hq) (λfl s' hs=>?_) λe s' hs=>False.elim hs
 have fin:∀{σ':St} {H':Hp} {v:V} {u:Value},Inv (cxW P w K mg base N qual (Zk st) f cdv A outer s H) [] σ' H' s'->ZP v u->Q v H'->CE outer P w H s Q u s':=
  λ{σ' H' v u} J rv q=>⟨v,H',J.os,J.bare,J.base,J.hok,rv,q⟩
 cases fl with
 |ret u=>
  obtain ⟨v,σ',H',J,rv,q⟩:=hs;exact fin J rv q
 |next=>
  obtain ⟨σ',H',J,q⟩:=hs;exact fin (v:=V.non) (u:=Qq) J rfl q
 |brk=>
  obtain ⟨_,_,_,q⟩:=hs;exact False.elim q
 |cont=>
  obtain ⟨_,_,_,q⟩:=hs;exact False.elim q
end
section
variable {X:Cx} {k:Nat} {x:Str} {ps:List Str} {sp:jo->Sp} {p pos:Pos} {e:jL} {es:List jL} {t:TA}
noncomputable def ZuE (xa:jo) (sp:jo->Sp) (t:TA):TE:=λσ H Q=>t σ H λvs H1=>sp xa vs H1 Q E0
theorem Zsp {xa:jo} (hh:X.A.handled=some (.ref xa)) (G:FnZ X.prog X.w X.K X.mg X.base k x ps sp) (hr:ZaC k X.A) (ha:PA X (e::es) t) (hg:Gl X x:=by rfl) (hdb:(x==("__debug__":Str))=false:=by decide)
 (he:jA (e::es) X.env=(false,eval e X.env)::jA es X.env:=by rfl) (hpl:(ut pos (jA es X.env)).any (·.1)=false:=by rfl):PE X (.Call (.Name x p) (e::es) [] pos) (ZuE xa sp t):=by
 obtain ⟨f,fd,G,hm,hk,hb⟩:=G.ex;intro Zb s σ H Q I h;refine j4 (Jf I hg hm ?_ hdb);refine vj (h₀:=X.base) I.ok.mod.kin hk (thn (ha pos Zb s σ H _ I h) λus s1 ⟨vs,H1,I1,r,q⟩=>⟨I1.kIn,?_⟩) he hpl;have hl:us.length=ps.length:=by rw [<-r.length];exact G.len _ _ _ _ _ q
 refine uO (ud (G.run X.A X.stack s1 H1 ⟨us,[]⟩ us vs Q xa hh hr I1.env0 (by simpa using hb s1 us I1.kIn (by simpa using hl)) r q) λr s' hq=>?_)
 cases r with
 |error e=>exact False.elim hq
 |ok fl=>
  cases fl with
  |ret u=>exact I1.after hq
  |next=>exact False.elim hq
  |brk=>exact False.elim hq
  |cont=>exact False.elim hq
end
noncomputable def Zqf (K:Qa) (C0:jo) (i:Nat) (ts:jo->TS) (th:Zap->St->XK):Zap->St->XK:=λD σ cls d H=>match cls with
 | .ref C=>ExC K C/\if (JA K C).contains (.ref C0)=true then ∀a,H a=none->ts a (unb i D) (σ.set i (some (.ref a))) (upd H a (ZgJ a C)) else th D σ (.ref C) d H
 |_=>False
theorem ZlE {X:Cx} {x n:Str} {C0:jo} {i:Nat} {np pos:Pos} {b₀:Stmt} {suite:List Stmt} {qB:List vG} {ts:jo->TS} {th:Zap->St->XK} (hex:X.ex=[]) (hC0:ExC X.K C0) (hg:Gl X x) (hm:X.mg x=some (.ref C0)) (hN:X.N.Nodup) (hi:X.N[i]?=some n) (hk:X.env.kindOf n=some .local) (hb:∀a,PSs (cxH X a (λ_ _=>False)) (b₀::suite) (ts a)) (hr:PHs X qB th) (hdb:(x==("__debug__":Str))=false:=by decide):
 PHs X (.ExceptHandler (some (.Name x np)) (some n) (b₀::suite) pos::qB) (Zqf X.K C0 i ts th):=by
 intro Zb σ H1 s1 a C a0 B H s2 h D c hfl hup q;have I:=c.inv hfl hup;have hd:X.calm=true->X.A.handled=none:=c.inv1.ok.hd;obtain ⟨hC,q⟩:=q;obtain ⟨ob,hob,hobc⟩:=hfl.1.there;refine wpAny_handleBy_cons (codeAny_handlers_test (Jf (X:=cxH X a (notedBy (ju X.prog X.w) (X.A.mark (some (.ref a))) X.env (cameBackBy (ju X.prog X.w) X.A X.env X.xe))) (I.marked a _) hg hm ?_ hdb)) (by intro z;cases z);refine Zio (s:= {s2 with heap:=h}) I.kIn hC hC0 hob hobc ?_
 cases e:(JA X.K C).contains (.ref C0) with
 |true=>
  rw [e] at q;refine codeAny_handlers_suite_as (Zg6 hfl λh3 hfl3 hup3=>?_);obtain ⟨ha,I3⟩:=c.held hex hfl3 (hup.trans hup3);refine ZbJ I3 hN hi (.inl hk) (show ZP (.ref a) (.ref a) from rfl) (λs4 I4=>?_) (.inr hk);refine jW (hb a Zb _ _ _ _ (I4.marked a _) (q a ha)) (λf s' z=>?_) λ_ _ z=>False.elim z;have z:=z.unmarked hd
  cases f with
  |next=>obtain ⟨σ',H',J,w'⟩:=z;exact Zes J hN hi hk λs5 J5=>⟨_,H',J5,w'⟩
  |brk=>obtain ⟨σ',H',J,w'⟩:=z;exact Zes J hN hi hk λs5 J5=>⟨_,H',J5,w'⟩
  |cont=>obtain ⟨σ',H',J,w'⟩:=z;exact Zes J hN hi hk λs5 J5=>⟨_,H',J5,w'⟩
  |ret u=>obtain ⟨v,σ',H',J,r,w'⟩:=z;exact Zes J hN hi hk λs5 J5=>⟨v,_,H',J5,r,w'⟩
 |false=>
  rw [e] at q;exact hr Zb σ H1 s1 a C a0 B H s2 h D c hfl hup q
noncomputable def ZhJ (h:Heap) (z TI TO:jo):Prop:=∃(t:jo) (b:Bool) (o:Obj),h.get? z=some {cls:=.type "zip",dict:=none,data:=.fields #[uc t,.bool b,.bool false,.ref TI,.ref TO],slots:=#[]}/\h.get? t=some o/\t≠z
section
variable {prog:jx} {w:jG} {A:Around} {E:Value->jn->Prop} {s:jn} {z TI TO i1 i2 l1 l2:jo} {k1 k2:Nat} {xs ys:Array Value}
theorem Zkc {Q:Bool->jn->Prop} (hz:ZhJ s.heap z TI TO) (hQ:∀h',ZhJ h' z TI TO->Heap.SameBut z s.heap h'->Q false {s with heap:=h'}):js (ju prog w) A (Builtin.SmallTypes.ownedTupleIsFree (.ref z)) Q E s:=by
 obtain ⟨t,b,o,g,ht,ne⟩:=hz;unfold Builtin.SmallTypes.ownedTupleIsFree;refine jm (uj g rfl (x:=uc t) rfl ?_);show js _ _ (loadIfAlive ((t:Int).toNat) >>=_) _ _ _;rw [Qm];refine jm ?_;have la:∀(Q':Option Obj->jn->Prop),Q' (s.heap.get? t) s->js (ju prog w) A (loadIfAlive t) Q' E s:=λQ' q Γ p hΓ=>by show Sem.wp _ _ (Sem.loadIfAlive t Sem.pure) _ _ _ _;rw [Sem.wp_loadIfAlive,Sem.wp_pure];exact q
 refine la _ ?_;rw [ht];show js _ _ (field (.ref z) 1 >>=_) _ _ _;refine jm (uj g rfl (x:=.bool b) rfl ?_)
 cases b with
 |true=>
  refine jq (hQ s.heap ⟨t,true,o,g,ht,ne⟩ ⟨rfl,λ_ _=>rfl⟩)
 |false=>
  show js _ _ (QaF (.ref z) 1 (.bool true) >>=_) _ _ _;refine jm (uq g (by simp) λh' hz' hs'=>jq (hQ h' ⟨t,true,o,hz',(hs'.2 t ne).trans ht,ne⟩ hs'))
theorem Zqn {x y:Value} {Q:Option Value->jn->Prop} (D:v8 z TI TO i1 i2 l1 l2) (hz:ZhJ s.heap z TI TO) (hTI:Qaa s.heap TI (.ref i1) (.ref i2))
 (h1:s.heap.IsListIter i1 l1 k1) (h2:s.heap.IsListIter i2 l2 k2) (hl1:s.heap.IsList l1 xs) (hl2:s.heap.IsList l2 ys) (hx:xs[k1]?=some x) (hy:ys[k2]?=some y)
 (hQ:∀h',ZhJ h' z TI TO->h'.IsListIter i1 l1 (k1+1)->h'.IsListIter i2 l2 (k2+1)->Qaa h' s.heap.objs.size x y->(∀c o,c≠z->c≠i1->c≠i2->s.heap.get? c=some o->h'.get? c=some o)->Q (some (.ref s.heap.objs.size)) {s with heap:=h'}):
 js (ju prog w) A (uf (.ref z)) Q E s:=by
 have hT:s.TypeIs (.ref z) "zip":=by obtain ⟨t,b,o,g,_⟩:=hz;exact ⟨_,g,rfl⟩
 obtain ⟨t,b,o,g,ht,ne⟩:=id hz;unfold uf;refine jm (jX (jP (name:=Qc "__next__") hT F.slot_zip_next (jS F.slot_zip_next hT F.entry_zip_next ?_ (F.args_zip_next_1 _))));show js _ _ (field (.ref z) 2 >>=_) _ _ _;refine jm (uj g rfl (x:=.bool false) rfl ?_);show js _ _ (field (.ref z) 3 >>=_) _ _ _;refine jm (uj g rfl (x:=.ref TI) rfl (jm (va hTI rfl ?_)));show js _ _ (Builtin.SmallTypes.ownedTupleIsFree (.ref z) >>=_) _ _ _;refine jm (Zkc hz λha hza hsa=>?_);rw [if_neg Qg];dsimp only;refine jm ?_;rw [<-VB];show js _ _ (forIn [Value.ref i1,Value.ref i2] _ _) _ _ _;rw [Uv];refine jm (jm (jU ?_));show js _ _ (Builtin.SmallTypes.nextOf (.ref i1) >>=_) _ _ _;refine jm (wpAny_nextOf_list_item (h1.extBut hsa.extBut D.i1z) (hl1.extBut hsa.extBut D.l1z) hx λhb b1 hsb=>jq (jq ?_));dsimp only;rw [Uv];refine jm (jm (jU ?_));show js _ _ (Builtin.SmallTypes.nextOf (.ref i2) >>=_) _ _ _;refine jm (wpAny_nextOf_list_item ((h2.extBut hsa.extBut D.i2z).extBut hsb.extBut D.i12.symm) ((hl2.extBut hsa.extBut D.l2z).extBut hsb.extBut D.l2i1) hy λhc c1 hsc=>jq (jq ?_));dsimp only;rw [List.forIn_nil];refine jq ?_;dsimp only;refine jm (vT ?_ (by show 2<=sizeLine;rw [jw];decide));have esz:hc.objs.size=s.heap.objs.size:=by rw [hsc.1,hsb.1,hsa.1]
 refine jq ⟨_,rfl,jq ?_⟩;have up:∀c o,c≠i1->c≠i2->ha.get? c=some o->hc.get? c=some o:=λc o n1 n2 e=>(hsc.2 c n2).trans ((hsb.2 c n1).trans e)
 have hzc:ZhJ hc z TI TO:=by
  obtain ⟨t',b',o',g',ht',ne'⟩:=hza
  have:∃o2,hc.get? t'=some o2:=by
   by_cases n1:t'=i1
   ·subst n1;obtain ⟨oo,e,_⟩:=b1;exact ⟨oo,(hsc.2 _ D.i12).trans e⟩
   ·by_cases n2:t'=i2
    ·subst n2;obtain ⟨oo,e,_⟩:=c1;exact ⟨oo,e⟩
    ·exact ⟨o',up t' o' n1 n2 ht'⟩
  obtain ⟨o2,e2⟩:=this;exact ⟨t',b',o2,up z _ D.i1z.symm D.i2z.symm g',e2,ne'⟩
 have r:=hQ (hc.push {cls:=.type "tuple",data:=.seq #[x,y]}) ?_ ?_ ?_ ?_ ?_
 ·rw [<-esz] at r;exact r
 ·obtain ⟨t',b',o',g',ht',ne'⟩:=hzc;exact ⟨t',b',o',Qe _ g',Qe _ ht',ne'⟩
 ·exact (b1.at λo e=>(hsc.2 _ D.i12).trans e).at λo e=>Qe _ e
 ·exact c1.at λo e=>Qe _ e
 ·rw [<-esz];exact Qi _ rfl
 ·exact λc o n0 n1 n2 e=>Qe _ (up c o n1 n2 ((hsa.2 c n0).trans e))
theorem Zta {Q:Option Value->jn->Prop} (hh:A.handled=none) (D:v8 z TI TO i1 i2 l1 l2) (hz:ZhJ s.heap z TI TO) (hTI:Qaa s.heap TI (.ref i1) (.ref i2))
 (h1:s.heap.IsListIter i1 l1 k1) (hl1:s.heap.IsList l1 xs) (hx:xs[k1]?=none)
 (hQ:∀h',(∀c o,c≠z->c≠i1->c≠i2->s.heap.get? c=some o->h'.get? c=some o)->Q none {s with heap:=h'}):
 js (ju prog w) A (uf (.ref z)) Q E s:=by
 have hT:s.TypeIs (.ref z) "zip":=by obtain ⟨t,b,o,g,_⟩:=hz;exact ⟨_,g,rfl⟩
 obtain ⟨t,b,o,g,ht,ne⟩:=id hz;unfold uf;refine jm (jX (jP (name:=Qc "__next__") hT F.slot_zip_next (jS F.slot_zip_next hT F.entry_zip_next ?_ (F.args_zip_next_1 _))));show js _ _ (field (.ref z) 2 >>=_) _ _ _;refine jm (uj g rfl (x:=.bool false) rfl ?_);show js _ _ (field (.ref z) 3 >>=_) _ _ _;refine jm (uj g rfl (x:=.ref TI) rfl (jm (va hTI rfl ?_)));show js _ _ (Builtin.SmallTypes.ownedTupleIsFree (.ref z) >>=_) _ _ _;refine jm (Zkc hz λha hza hsa=>?_);rw [if_neg Qg];dsimp only;refine jm ?_;rw [<-VB];show js _ _ (forIn [Value.ref i1,Value.ref i2] _ _) _ _ _;rw [Uv];refine jm (jm (jU ?_));show js _ _ (Builtin.SmallTypes.nextOf (.ref i1) >>=_) _ _ _;refine jm (wpAny_nextOf_list_end hh (h1.extBut hsa.extBut D.i1z) (hl1.extBut hsa.extBut D.l1z) hx λhb e hsb he=>?_);obtain ⟨oe,hoe,hce⟩:=he;refine jm (vg (T:="StopIteration") (b:=true) ⟨oe,hoe,hce⟩ vZ ?_);exact jq (hQ _ λc o n0 n1 n2 q=>hsb _ _ n1 ((hsa.2 c n0).trans q))
noncomputable def Zq2 (h:Heap) (z TI TO:jo):Prop:=(IsZip h z TI TO .none/\∃a b,Qaa h TO a b)\/ZhJ h z TI TO
theorem Zqo {x y:Value} {Q:Option Value->jn->Prop} (D:v8 z TI TO i1 i2 l1 l2) (hz:Zq2 s.heap z TI TO) (hTI:Qaa s.heap TI (.ref i1) (.ref i2))
 (h1:s.heap.IsListIter i1 l1 k1) (h2:s.heap.IsListIter i2 l2 k2) (hl1:s.heap.IsList l1 xs) (hl2:s.heap.IsList l2 ys) (hx:xs[k1]?=some x) (hy:ys[k2]?=some y)
 (hQ:∀h',ZhJ h' z TI TO->h'.IsListIter i1 l1 (k1+1)->h'.IsListIter i2 l2 (k2+1)->Qaa h' s.heap.objs.size x y->(∀c o,c≠z->c≠TO->c≠i1->c≠i2->s.heap.get? c=some o->h'.get? c=some o)->Q (some (.ref s.heap.objs.size)) {s with heap:=h'}):
 js (ju prog w) A (uf (.ref z)) Q E s:=by
 rcases hz with ⟨g,a,b,gT⟩|hz
 ·have lz:=Qk g;exact wpAny_pyNext_zip_item D g hTI gT h1 h2 hl1 hl2 hx hy λh' a1 a2 a3 a4 a5 a6 a7=>hQ h' ⟨_,false,_,a1,a5,Q5 lz⟩ a3 a4 a5 a7
 ·exact Zqn D hz hTI h1 h2 hl1 hl2 hx hy λh' a1 a2 a3 a4 a5=>hQ h' a1 a2 a3 a4 λc o n0 _ n1 n2 e=>a5 c o n0 n1 n2 e
theorem Ztb {Q:Option Value->jn->Prop} (hh:A.handled=none) (D:v8 z TI TO i1 i2 l1 l2) (hz:Zq2 s.heap z TI TO) (hTI:Qaa s.heap TI (.ref i1) (.ref i2))
 (h1:s.heap.IsListIter i1 l1 k1) (h2:s.heap.IsListIter i2 l2 k2) (hl1:s.heap.IsList l1 xs) (hl2:s.heap.IsList l2 ys) (hx:xs[k1]?=none)
 (hQ:∀h',(∀c o,c≠z->c≠TO->c≠i1->c≠i2->s.heap.get? c=some o->h'.get? c=some o)->Q none {s with heap:=h'}):
 js (ju prog w) A (uf (.ref z)) Q E s:=by
 rcases hz with ⟨g,a,b,gT⟩|hz
 ·exact wpAny_pyNext_zip_end hh D g hTI gT h1 h2 hl1 hl2 (.inl hx) hQ
 ·exact Zta hh D hz hTI h1 hl1 hx λh' a=>hQ h' λc o n0 _ n1 n2 e=>a c o n0 n1 n2 e
theorem ZnP {R:Qav->jn->Prop} {Dd:jo} {its ist:List Value} {ps:List (Key×Value)} (hh:A.handled=none) (D:v8 z TI TO i1 i2 l1 l2) (nz:Dd≠z) (nTI:Dd≠TI) (nTO:Dd≠TO) (n1:Dd≠i1) (n2:Dd≠i2) (nl1:Dd≠l1) (nl2:Dd≠l2)
 (e1:its.length=ps.length) (e2:ist.length=ps.length) (hz:ps.length<=sizeLine) (hk:∀(j:Nat) u (p:Key×Value),its[j]?=some u->ps[j]?=some p->ZcP p.1 u=true) (hv:∀(j:Nat) v (p:Key×Value),ist[j]?=some v->ps[j]?=some p->v=p.2):
 ∀(n i:Nat) (s:jn) (vs:List (Key×Value)),ps.length-i=n->i<=ps.length->vs.length<=i->Zq2 s.heap z TI TO->Qaa s.heap TI (.ref i1) (.ref i2)->s.heap.IsListIter i1 l1 i->s.heap.IsListIter i2 l2 i->s.heap.IsList l1 its.toArray->s.heap.IsList l2 ist.toArray->s.heap.DictOf (zl prog w) Dd vs->
  (∀h' tk,(∀c o,c≠Dd->c≠z->c≠TO->c≠i1->c≠i2->s.heap.get? c=some o->h'.get? c=some o)->h'.DictOf (zl prog w) Dd (Zkk vs (ps.drop i))->R (.ok (.ret .none)) {s with heap:=h',toks:=tk})->
  u6 (ju prog w) A (.builtin "dict.update.loop" ⟨[.ref Dd,.ref z,uc (i:Int),.none],[]⟩) R s:=by
 intro n
 induction n with
 |zero=>
  intro i s vs hn hi hvs zs pTI q1 q2 g1 g2 dd fin;refine ub qz ?_;rw [Around.under_plainId zm _];show js _ A.in1 (uf (.ref z) >>=_) _ _ s;refine jm (Ztb hh D zs pTI q1 q2 g1 g2 (by simp;omega) λh' eb=>jm (jq (jq (fin h' s.toks (λc o _ c1 c2 c3 c4 e=>eb c o c1 c2 c3 c4 e) ?_))));rw [List.drop_of_length_le (by omega)];obtain ⟨ob,es,ep,e,r⟩:=dd;exact ⟨ob,es,ep,eb _ _ nz nTO n1 n2 e,r⟩
 |succ n ih=>
  intro i s vs hn hi hvs zs pTI q1 q2 g1 g2 dd fin;have lt:i<ps.length:=by omega
  have hx:its[i]?=some (its[i]'(by omega)):=Qd _;have hy:ist[i]?=some (ist[i]'(by omega)):=Qd _;have ep:ps[i]?=some ps[i]:=Qd _;have ku:=hk i _ _ hx ep;have ev:=hv i _ _ hy ep;generalize its[i]'(by omega)=u at hx ku;generalize ist[i]'(by omega)=v at hy ev;subst ev;generalize hp:ps[i]=p at ep ku hy;refine ub qz ?_;rw [Around.under_plainId zm _];show js _ A.in1 (uf (.ref z) >>=_) _ _ s;refine jm (Zqo D zs pTI q1 q2 g1 g2 (x:=u) (y:=p.2) (by simpa using hx) (by simpa using hy) λh' a1 a2 a3 a4 a5=>?_);show js _ A.in1 (vN [Value.ref s.heap.objs.size] _ >>=_) _ _ _;refine jm (jU (jm ?_));have hpi:∀(Q:List Value->jn->Prop) (E:Value->jn->Prop),Q [u,p.2] {s with heap:=h'}->js (ju prog w) A.in1 (Builtin.Dict.pairItems (Value.ref s.heap.objs.size)) Q E {s with heap:=h'}:=λQ E q=>by have hT:({s with heap:=h'}:jn).TypeIs (.ref s.heap.objs.size) "tuple":=⟨_,a4,rfl⟩;unfold Builtin.Dict.pairItems;refine jm (Qak hT ?_);rw [if_pos (by decide)];exact jm (va a4 rfl (jq q))
  refine wpAny_tryCatch (hpi _ _ ?_);show js _ _ (vN [u,p.2] (dictSet Dd u p.2)) _ _ _;have dd':h'.DictOf (zl prog w) Dd vs:=by obtain ⟨ob,es,epp,e,r⟩:=dd;exact ⟨ob,es,epp,a5 _ _ nz nTO n1 n2 e,r⟩
  refine jU (wpAny_dictSet_pairs (s:= {s with heap:=h'}) (knd:=zl prog w) ku dd' (λh2 dd2 sb2=>?_) (by omega));refine jq ⟨u0 zm _,?_⟩;have er:uc ((i:Int)+1)=uc ((i+1:Nat):Int):=by rw [Int.natCast_add];rfl
  rw [er];have keep:∀c o,c≠Dd->c≠z->c≠TO->c≠i1->c≠i2->s.heap.get? c=some o->h2.get? c=some o:=λc o c0 c1 c2 c3 c4 e=>(sb2.2 c c0).trans (a5 c o c1 c2 c3 c4 e);refine ih (i+1) {s with heap:=h2,toks:=s.toks+1} _ (by omega) (by omega) (by have:=Zjm vs p.1 p.2;omega) (.inr ?_) ?_ (a2.at λo e=>(sb2.2 _ (Ne.symm n1)).trans e) (a3.at λo e=>(sb2.2 _ (Ne.symm n2)).trans e) (g1.at λo e=>keep _ o (Ne.symm nl1) D.l1z D.l1TO D.l1i1 D.l1i2 e) (g2.at λo e=>keep _ o (Ne.symm nl2) D.l2z D.l2TO D.l2i1 D.l2i2 e) dd2 λh3 tk keep3 dd3=>?_
  ·obtain ⟨t,b,o,w1,w2,w3⟩:=a1;by_cases c0:t=Dd
   ·subst c0;obtain ⟨ob,es,epp,e,r⟩:=dd2;exact ⟨t,b,ob,(sb2.2 _ (Ne.symm nz)).trans w1,e,w3⟩
   ·exact ⟨t,b,o,(sb2.2 _ (Ne.symm nz)).trans w1,(sb2.2 _ c0).trans w2,w3⟩
  ·exact keep _ _ (Ne.symm nTI) D.TIz D.TITO D.TIi1 D.TIi2 pTI
  ·refine fin h3 tk (λc o c0 c1 c2 c3 c4 e=>keep3 c o c0 c1 c2 c3 c4 (keep c o c0 c1 c2 c3 c4 e)) ?_;rw [Q1 lt,hp];exact dd3
end
theorem ZfV:vM (.type "zip") "keys"=pure none:=am_miss_of_fast (by rfl')
theorem ZfO:vM (.type "zip") "__getattr__"=pure none:=by rw [uT,uo];kernel_rfl
theorem Zb3:vK table "zip.__getattribute__"=some Builtin.«object.__getattribute__»:=v4 (id':="object.__getattribute__") (by kernel_rfl) (by rfl') (by rfl') (by kernel_rfl)
theorem ZiZ (z:jo) (ws:Array Value) (name:Str) (u:Tok) (hmiss:vM (.type "zip") name=pure none) (hname:(["__module__","__name__","__qualname__","__doc__","__annotations__"]:List Str).contains name=false) (hsz:name.length+100<=sizeLine):
 Meets (Builtin.«object.__getattribute__» ⟨[.ref z,.str name u],[]⟩) (λA R s=>s.heap.get? z=some {cls:=.type "zip",dict:=none,data:=.fields ws,slots:=#[]}/\raisesAttr (.ref z) name A R s):=
 Meets.of_wp λprog w A R s hs=>by
  obtain ⟨hp,g,d,tk,os⟩:=s;obtain ⟨hx,hs⟩:=hs;have hT:(⟨hp,g,d,tk,os⟩:jn).TypeIs (.ref z) "zip":=⟨_,hx,rfl⟩
  unfold Builtin.«object.__getattribute__»
  repeat (any_goals (first|assumption|wp_step))
  simp only [hname,Q4,if_false];repeat (any_goals (first|assumption|wp_step))
  exact wpAny_raiseAttrError hs.1 hs.2 (attrMsg_fits (by rfl') hsz)
theorem Zga {prog:jx} {w:jG} {A:Around} {E:Value->jn->Prop} {s:jn} {z:jo} {ws:Array Value} {Q:Option Value->jn->Prop}
 (hx:s.heap.get? z=some {cls:=.type "zip",dict:=none,data:=.fields ws,slots:=#[]}) (hA:A.handled=none) (h:∀h' tk,(∀b ob,s.heap.get? b=some ob->h'.get? b=some ob)->Q none {s with heap:=h',toks:=tk}):
 js (ju prog w) A (getAttr? (.ref z) "keys") Q E s:=by
 obtain ⟨hp,g,d,tk,os⟩:=s;have hT:∀tk',(⟨hp,g,d,tk',os⟩:jn).TypeIs (.ref z) "zip":=λ_=>⟨_,hx,rfl⟩;have f1:=sub_AttributeError;have f3:=F.slot_zip_getattribute.lookup;have f4:=F.slot_zip_getattribute.bind (.ref z);have f5:=ZfO;unfold getAttr? getAttrBy? getAttrBy
 repeat (any_goals (first|assumption|exact hT _|((with_reducible show js _ _ (call (V4 "zip.__getattribute__") _ _) _ _ _);refine uK F.slot_zip_getattribute (hT _) Zb3 (F.args_zip_getattribute_2 _ _) (ZiZ z ws _ _ ZfV (by rfl') (by size_fits)) ⟨hx,hA,λh' tk' e hx'=>?_⟩)|wp_step))
 obtain ⟨t',u',he⟩:=hx'.there;show js _ _ (getattributeRaised _ _ _ _ _ _ _) _ _ _;unfold getattributeRaised;repeat (any_goals (first|assumption|wp_step))
 exact h _ _ hx'.keeps
section
variable {prog:jx} {w:jG} {A:Around} {E:Value->jn->Prop} {s:jn} {z TI TO i1 i2 l1 l2:jo} {its ist:List Value} {ps:List (Key×Value)} {Q:Value->jn->Prop}
theorem ZgS (hh:A.handled=none) (D:v8 z TI TO i1 i2 l1 l2) (hz:IsZip s.heap z TI TO .none) (hTI:Qaa s.heap TI (.ref i1) (.ref i2)) (hTO:∃a b,Qaa s.heap TO a b) (h1:s.heap.IsListIter i1 l1 0) (h2:s.heap.IsListIter i2 l2 0) (hl1:s.heap.IsList l1 its.toArray) (hl2:s.heap.IsList l2 ist.toArray)
 (e1:its.length=ps.length) (e2:ist.length=ps.length) (hsz:ps.length<=sizeLine) (hk:∀(j:Nat) u (p:Key×Value),its[j]?=some u->ps[j]?=some p->ZcP p.1 u=true) (hv:∀(j:Nat) v (p:Key×Value),ist[j]?=some v->ps[j]?=some p->v=p.2)
 (fin:∀h' tk,(∀c o,c≠z->c≠TO->c≠i1->c≠i2->s.heap.get? c=some o->h'.get? c=some o)->h'.DictOf (zl prog w) s.heap.objs.size (Zkk [] ps)->Q (.ref s.heap.objs.size) {s with heap:=h',toks:=tk}):
 js (ju prog w) A (call (.type "dict") [.ref z]) Q E s:=by
 refine callType_codes (Q₁:=λobj s₁=>obj=.ref s.heap.objs.size/\s₁= {s with heap:=s.heap.push {cls:=.type "dict",data:=.dict #[]} }) F.kt_called_dict (F.kt_typeCall_dict_1 _) F.entry_dict_init (kt_code_dict_new _ ⟨rfl,rfl⟩) ?_;rintro obj s₁ ⟨rfl,rfl⟩;have hnew:(s.heap.push {cls:=.type "dict",data:=.dict #[]}).DictOf (zl prog w) s.heap.objs.size []:=Heap.DictOf.new s.heap;have kp0:∀c o,s.heap.get? c=some o->(s.heap.push {cls:=.type "dict",data:=.dict #[]}).get? c=some o:=λc o e=>Qe _ e;refine ⟨hnew.typeIs,F.args_dict_init_2 _ _,?_⟩
 unfold Builtin.«dict.__init__»
 refine jm ?_;unfold Builtin.Dict.selfAndRest;refine jm (wpAny_notOrdered_dict hnew.typeIs ?_);show js _ _ (pure (s.heap.objs.size,[Value.ref z])) _ _ _;refine jq ?_;show js _ _ (Builtin.Dict.updateFrom "dict.__init__" s.heap.objs.size (.ref z) [] .none) _ _ _;unfold Builtin.Dict.updateFrom;refine jm (Qak (show ({s with heap:=s.heap.push {cls:=.type "dict",data:=.dict #[]} }:jn).TypeIs (.ref z) "zip" from ⟨_,kp0 _ _ hz,rfl⟩) ?_);rw [if_pos (by decide)];refine jm (Zga (s:= {s with heap:=s.heap.push {cls:=.type "dict",data:=.dict #[]} }) (kp0 _ _ hz) hh λh1' tk1 keep1=>?_);rw [show (none:Option Value).isNone=true from rfl,if_pos rfl];refine jm (uD ?_);have keep0:∀c o,s.heap.get? c=some o->h1'.get? c=some o:=λc o e=>keep1 c o (kp0 c o e);have dd1:h1'.DictOf (zl prog w) s.heap.objs.size []:=by obtain ⟨ob,es,ep,e,r⟩:=hnew;exact ⟨ob,es,ep,keep1 _ _ e,r⟩
 have ne:∀{b:jo} {ob:Obj},s.heap.get? b=some ob->s.heap.objs.size≠b:=λe=>Q5 (Qk e);obtain ⟨a,b,hTO⟩:=hTO;refine jm (wpAny_pyIter_zip (s:= {s with heap:=h1',toks:=tk1}) (keep0 _ _ hz) ?_);refine jq ⟨u0 zm _,?_⟩;have n1:s.heap.objs.size≠i1:=by obtain ⟨o,e,_⟩:=h1;exact ne e
 have n2:s.heap.objs.size≠i2:=by obtain ⟨o,e,_⟩:=h2;exact ne e
 have m1:s.heap.objs.size≠l1:=by obtain ⟨o,e,_⟩:=hl1;exact ne e
 have m2:s.heap.objs.size≠l2:=by obtain ⟨o,e,_⟩:=hl2;exact ne e
 refine ZnP (A:=A.in1) hh D (ne hz) (ne hTI) (ne hTO) n1 n2 m1 m2 e1 e2 hsz hk hv ps.length 0 {s with heap:=h1',toks:=tk1} [] rfl (Qu _) (Qf _) (.inl ⟨keep0 _ _ hz,a,b,keep0 _ _ hTO⟩) (keep0 _ _ hTI) (h1.at λo e=>keep0 _ o e) (h2.at λo e=>keep0 _ o e) (hl1.at λo e=>keep0 _ o e) (hl2.at λo e=>keep0 _ o e) dd1 λh3 tk keep3 dd3=>?_;exact ⟨rfl,fin h3 tk (λc o c1 c2 c3 c4 e=>keep3 c o (Ne.symm (ne e)) c1 c2 c3 c4 (keep0 c o e)) dd3⟩
end
section
variable {X:Cx}
noncomputable def Zep (ks:List (List Nat)) (xs:List V):List (Key×V):=(ks.map λq=>(Sum.inr (T q):Key)).zip xs
theorem ZnF:∀(ks:List (List Nat)) (xs:List V) (us:List Value),ks.length=xs.length->ZA xs us->KV (Zep ks xs) ((ks.map λq=>(Sum.inr (T q):Key)).zip us)
 |[],[],_,_,.nil=>.nil
 |k::ks,x::xs,u::us,h,.cons r rr=>.cons ⟨rfl,r⟩ (ZnF ks xs us (Nat.succ.inj h) rr)
noncomputable def ZjG (K:Qa) (Q:VK):List V->Hp->Prop:=λvs H1=>match vs with
 |[.ref a,.ref b]=>∃(ks:List (List Nat)) (xs:List V),SqL K H1 a (ks.map λq=>V.str (T q))/\SqL K H1 b xs/\ks.length=xs.length/\∀d,H1 d=none->Q (.ref d) (upd H1 d (.dK (Zbf (Zep ks xs) [])))
 |_=>False
noncomputable def ZoF (K:Qa) (ta:TA):TE:=λσ H Q=>ta σ H (ZjG K Q)
theorem Zob {K:Qa} {x y:jL} {ta:TA} {p0 p p' pos:Pos} (hK:X.K=K) (hc:X.calm=true) (hmd:X.mg "dict"=none) (hmz:X.mg "zip"=none) (ha:PA X [x,y] ta)
 (hg0:Gl X "dict":=by rfl) (hgl:Gl X "zip":=by rfl) (hs:jA [x,y] X.env=[(false,eval x X.env),(false,eval y X.env)]:=by rfl) (hs2:jA [y] X.env=[(false,eval y X.env)]:=by rfl)
 (hsd:jA [.Call (.Name "zip" p) [x,y] [] p'] X.env=[(false,eval (.Call (.Name "zip" p) [x,y] [] p') X.env)]:=by rfl):
 PE X (.Call (.Name "dict" p0) [.Call (.Name "zip" p) [x,y] [] p'] [] pos) (ZoF K ta):=by
 subst hK;intro Zb s σ H Q I h;refine j4 (Zav I hg0 hmd Zo6 ?_);refine PyProof.Rows.callWith_type1 ?_ hsd rfl;rw [hsd];show js _ _ (spliced ((false,_)::[])) _ _ s;refine Calls.spliced_cons ?_;refine Call_ (Zav I hgl hmz Zrf (PyProof.Rows.callWith_type1 (thn (ha p' Zb s σ H _ I h) λus s1 ⟨vs,H1,I1,r1,q1⟩=>?_) (by rw [hs,hs2]) (by rw [hs2];rfl)));unfold ZjG at q1;split at q1
 ·rename_i a b;obtain ⟨ks,xs,hq1,hq2,el,q⟩:=q1;obtain ⟨u1,u2,rfl,r,r'⟩:=ZfN r1;cases r;cases r';obtain ⟨its,rv1,p1,z1⟩:=I1.list hq1;obtain ⟨ist,rv2,p2,z2⟩:=I1.list hq2;refine call_zip_2 p1.isList p2.isList λh' k1 k2 k3 k4 k5 k6 k7=>?_;refine Calls.spliced_nil ?_;have la:a<s1.heap.objs.size:=by obtain ⟨o,q,_⟩:=p1.isList;exact Qk q
  have lb:b<s1.heap.objs.size:=by obtain ⟨o,q,_⟩:=p2.isList;exact Qk q
  have D:=Zl1 la lb;have l1:=rv1.length;have l2:=rv2.length;rw [jr] at l1;have lp:((ks.map λq=>(Sum.inr (T q):Key)).zip ist).length=ks.length:=by rw [WU,jr];omega
  have hz2:h'.objs.size=s1.heap.objs.size+5:=k6;refine ZgS (s:= {s1 with heap:=h'}) (ps:=(ks.map λq=>(Sum.inr (T q):Key)).zip ist) (I1.ok.hd hc) D k1 k2 ⟨_,_,k3⟩ k4 k5 (p1.isList.at λo e=>k7 _ o e) (p2.isList.at λo e=>k7 _ o e) (by rw [lp];omega) (by rw [lp];omega) (by rw [lp];omega) (λj u p g1 g2=>?_) (λj v p g1 g2=>?_) λh3 tk keep dd=>?_
  ·obtain ⟨g3,g4⟩:=Wb.mp g2;rw [Qh] at g3;obtain ⟨q',hq',e'⟩:=Qy.mp g3;have rk:ZP (V.str (T q')) u:=by obtain ⟨u',hu,ru⟩:=rv1.get (i:=j) (x:=V.str (T q')) (by rw [Qh,hq'];rfl);rw [g1] at hu;cases hu;exact ru
   rw [<-e'];exact Ze8 (P:=X.prog) (w:=X.w) (k:=Sum.inr (T q')) rk
  ·obtain ⟨g3,g4⟩:=Wb.mp g2;rw [g1] at g4;exact Option.some.inj g4
  ·have lf:=Zih (Zep ks xs) [];have lzk:(Zep ks xs).length=ks.length:=by unfold Zep;rw [WU,jr];omega
   rw [ua] at lf;have big:=I1.big;have hsz:sizeLine=16777216:=jw;have up:∀c o,s1.heap.get? c=some o->h3.get? c=some o:=λc o e=>by have lc:=Qk e;have nk:∀k:Nat,c≠(s1.heap.objs.size+k:Nat):=λk=>Qo (Ql lc (VR _ _));exact keep c o (nk 4) (nk 3) (nk 0) (nk 1) (k7 c o e)
   have hsn:s1.heap.objs.size<=h'.objs.size:=by omega
   refine ⟨.ref h'.objs.size,_,I1.laid (a:=h'.objs.size) (o:=.dK (Zbf (Zep ks xs) [])) (t':=tk) up hsn ⟨by omega,beq_false_of_ne (Q5 (Ql big hsn)),_,KV.fill (ZnF ks xs ist el rv2) .nil,dd⟩,rfl,q _ (I1.hok.fresh hsn)⟩
 ·exact q1.elim
theorem Zlv {K:Qa} {P:v9} {A:jo} {kvs:List (Str×V)} (hK:X.K=K) (hP:X.w.params=P) (D:ZeN K P A kvs):OpR X (jZ .NotIn) (Zhl true A kvs):=by subst hK hP;exact Zn3 D
theorem ZrA {K:Qa} {P:v9} {A:jo} {kvs:List (Str×V)} (hK:X.K=K) (hP:X.w.params=P) (D:ZeN K P A kvs):IxR X (ZdO A kvs):=by subst hK hP;exact Znr D
end
theorem Zqi {K:Qa} {P:v9} {mg:Str->Option Value} {a:jo} {kvs:List (Str×V)} {kns:List (Str×Str)} (D:ZeN K P a kvs) (h:∀p∈kns,∃f,mg p.2=some (.ref f)/\Zcy kvs p.1=some (.ref f)):Zq1 K P mg a kns:=by
 refine ⟨kvs,D,λz nm e=>?_⟩;obtain ⟨p,hp,rfl⟩:=Qy.mp e;obtain ⟨f,f1,f2⟩:=h p (V9 hp);have hz:p.1=z:=by simpa using List.find?_some hp
 exact ⟨f,f1,hz▸f2⟩
end L2
namespace LD
open PySem L2 LP NumText
noncomputable def cd (s:String):List Nat:=L (Qc s)
theorem Zbv (s:String):T (cd s)=Qc s:=T_L _
noncomputable def Zh6:Nat->String
 |0=>"word name rest"
 |1=>"word name"
 |2=>"word name number"
 |3=>"word name number rest"
 |_=>"word name other"
noncomputable def Zkl:List (String×Nat):=[("keep",0),("load",0),("ahead",0),("drop",1),("off",2),("text",1),("pack",1),("count",0),("find",0),("near",3),("often",2),("kinds",1),("lone",1),("cut",0),("both",4)]
noncomputable def zY:Nat->List (List Nat)
 |0=>[cd "word",cd "name",cd "rest"]
 |1=>[cd "word",cd "name"]
 |2=>[cd "word",cd "name",cd "number"]
 |3=>[cd "word",cd "name",cd "number",cd "rest"]
 |_=>[cd "word",cd "name",cd "other"]
noncomputable def Zb5 (w:List Nat):Option Nat:=(Zkl.find? λp=>cd p.1=w).map (·.2)
theorem ZkQ (w:List Nat):∀l:List (String×Nat),Zcy (l.map λp=>(Qc p.1,V.str (Qc (Zh6 p.2)))) (T w)=((l.find? λp=>cd p.1=w).map (·.2)).map λi=>V.str (Qc (Zh6 i))
 |[]=>rfl
 |p::r=>by
  rw [jV,QN];unfold Zcy;by_cases h:cd p.1=w
  ·have e:Qc p.1=T w:=by rw [<-h,Zbv]
   rw [if_pos e,decide_eq_true h];rfl
  ·have e:¬Qc p.1=T w:=λz=>h (by show L (Qc p.1)=w;rw [z,L_T]);rw [if_neg e,decide_eq_false h];exact ZkQ w r
theorem Zni {w:List Nat} {i:Nat} (h:Zb5 w=some i):i<5:=by
 obtain ⟨p,hp,rfl⟩:=Qy.mp h;have m:=V9 hp;have all:∀p∈Zkl,p.2<5:=by decide
 exact all p m
theorem ZoB:∀i,i<5->spl 32 ((cd (Zh6 i)).length+1) (cd (Zh6 i))=zY i:=by rfl'
theorem Zje:∀i,i<5->(zY i).length=if i=1 then 2 else if i=3 then 4 else 3:=by rfl'
noncomputable def ZnN:Nat->List Nat
 |0=>cd "rest"
 |1=>cd "name"
 |2=>cd "number"
 |3=>cd "rest"
 |_=>cd "other"
theorem Zlm {i:Nat} (hi:i<5):atI ((zY i).map λw=>V.str (T w)) (-1)=some (V.str (T (ZnN i))):=by
 match i,hi with
 |0,_=>rfl
 |1,_=>rfl
 |2,_=>rfl
 |3,_=>rfl
 |4,_=>rfl
theorem Zjj:∀i,i<5->decide (ZnN i=cd "rest")=decide (i=0\/i=3):=by rfl'
noncomputable def fw (r:List Nat):List Nat:=r.takeWhile λc=>decide (c≠32)
theorem ZcK {p:List Nat} (r:List Nat) (h:32∉p):fw (p++32::r)=p:=by unfold fw;rw [List.takeWhile_append_of_pos (by intro c hc;simp;rintro rfl;exact h hc)];simp
theorem Zkm:∀{p:List Nat},32∉p->fw p=p
 |[],_=>rfl
 |x::p,h=>by have hx:x≠32:=λe=>h (by simp [e]);have hp:32∉p:=λe=>h (by simp [e]);unfold fw;rw [VZ (by simpa using hx)];exact congrArg (x::·) (Zkm hp)
theorem Zt5 {r:List Nat} {k:Nat} (h:r[k]?=some 32) (hn:∀v,v<k->r[v]?≠some 32):fw r=r.take k:=by
 have e:r=r.take k++32::r.drop (k+1):=by have hk:=(Qn.mp h);obtain ⟨hk,e⟩:=hk;rw [<-e,<-Q1 hk,QP]
 rw [e];have nm:32∉r.take k:=λm=>by obtain ⟨v,hv,ev⟩:=UW.mp m;rw [jF] at hv;rw [U8] at ev;exact hn v (by omega) (by rw [Qd (by omega),ev])
 rw [ZcK _ nm];have hk:=(Qn.mp h).1;rw [VS (by rw [jF];omega),WX,Nat.min_self]
theorem Zt6 {r:List Nat} (hn:∀v:Nat,r[v]?≠some 32):fw r=r:=Zkm λm=>by obtain ⟨v,hv,ev⟩:=UW.mp m;exact hn v (by rw [Qd hv,ev])
theorem ZeC (c:Nat):∀(n:Nat) (l:List Nat),∀w∈spl c n l,w.length<=l.length
 |n,[],w,h=>by
  have:w=[]:=by simpa [spl] using h
  simp [this]
 |0,x::r,w,h=>by
  have:w=x::r:=by simpa [spl] using h
  simp [this]
 |n+1,x::r,w,h=>by
  unfold spl at h;split at h
  ·rcases jQ.mp h with rfl|h
   ·simp
   ·have:=ZeC c n r w h;simp only [jD];omega
  ·cases hs:spl c (n+1) r with
   |nil=>exact absurd hs (ZfD c (n+1) r)
   |cons v vs=>
    rw [hs] at h;have ih:=ZeC c (n+1) r;rw [hs] at ih;rcases jQ.mp h with rfl|h
    ·have:=ih v (jY ..);simp only [jD,uN,uJ];omega
    ·have:=ih w (jM _ h);simp only [jD];omega
noncomputable def Jn (i:Nat) (r:List Nat):List (List Nat):=if i=0\/i=3 then spl 32 ((zY i).length-1) r else spl 32 (r.length+1) r
theorem Zp3 {i:Nat} {r w:List Nat} (h:w∈Jn i r):w.length<=r.length:=by
 unfold Jn at h;split at h
 ·exact ZeC _ _ _ _ h
 ·exact ZeC _ _ _ _ h
theorem ZkH (i:Nat) (r:List Nat) (k:Nat):((Jn i r).getD k []).length<=r.length:=by
 rw [Qb]
 cases h:(Jn i r)[k]? with
 |none=>simp
 |some w=>exact Zp3 (QF h)
noncomputable def Yw (r:List Nat) (i:Nat) (ws:List (List Nat)):Prop:=Zb5 (fw r)=some i/\ws=Jn i r/\ws.length=(zY i).length/\((i=2\/i=3)->qL (ws.getD 2 []))
theorem Yw.uniq {r:List Nat} {i j:Nat} {ws vs:List (List Nat)} (a:Yw r i ws) (b:Yw r j vs):i=j/\ws=vs:=by have e:i=j:=Option.some.inj (a.1.symm.trans b.1);subst e;exact ⟨rfl,a.2.1.trans b.2.1.symm⟩
noncomputable abbrev ky (s:String):Key:=.inr (T (cd s))
noncomputable def Yh (i:Nat) (ws:List (List Nat)):List (Key×V):=(ky "word",V.str (T (ws.getD 0 [])))::(ky "name",V.str (T (ws.getD 1 [])))::
 (if i=0 then [(ky "rest",V.str (T (ws.getD 2 [])))] else if i=1 then [] else if i=2 then [(ky "number",V.int (digitsVal (ws.getD 2 []):Nat))] else if i=3 then [(ky "number",V.int (digitsVal (ws.getD 2 []):Nat)),(ky "rest",V.str (T (ws.getD 3 [])))] else [(ky "other",V.str (T (ws.getD 2 [])))])
noncomputable def qi (i:Nat) (ws:List (List Nat)):List (Key×V):=(ky "word",V.str (T (ws.getD 0 [])))::(ky "name",V.str (T (ws.getD 1 [])))::
 (if i=0 then [(ky "rest",V.str (T (ws.getD 2 [])))] else if i=1 then [] else if i=2 then [(ky "number",V.str (T (ws.getD 2 [])))] else if i=3 then [(ky "number",V.str (T (ws.getD 2 []))),(ky "rest",V.str (T (ws.getD 3 [])))] else [(ky "other",V.str (T (ws.getD 2 [])))])
noncomputable def Zb6:List String:=["word","name","rest","number","other"]
theorem ZcQ:∀a∈Zb6,∀b∈Zb6,a≠b->cd a≠cd b:=by rfl'
theorem ZaU {a b:String} (h:cd a≠cd b):(ky a=ky b)=False:=by rw [eq_iff_iff,iff_false];intro z;exact h (Zb4.mp (Sum.inr.inj z))
theorem Zk8 {i:Nat} (hi:i<5) {ws:List (List Nat)} (hl:ws.length=(zY i).length):Zbf (Zep (zY i) (ws.map λw=>V.str (T w))) []=qi i ws:=by
 have q:∀a∈Zb6,∀b∈Zb6,a≠b->(ky a=ky b)=False:=λa ha b hb n=>ZaU (ZcQ a ha b hb n);have q1:=q "word" (by decide) "name" (by decide) (by decide);have q2:=q "word" (by decide) "rest" (by decide) (by decide);have q3:=q "word" (by decide) "number" (by decide) (by decide);have q4:=q "word" (by decide) "other" (by decide) (by decide);have q5:=q "name" (by decide) "rest" (by decide) (by decide);have q6:=q "name" (by decide) "number" (by decide) (by decide);have q7:=q "name" (by decide) "other" (by decide) (by decide);have q8:=q "number" (by decide) "rest" (by decide) (by decide)
 match i,hi,ws,hl with
 |0,_,[a,b,c],_=>simp [zY,Zep,Zbf,qX,qi,q1,q2,q5]
 |1,_,[a,b],_=>simp [zY,Zep,Zbf,qX,qi,q1]
 |2,_,[a,b,c],_=>simp [zY,Zep,Zbf,qX,qi,q1,q3,q6]
 |3,_,[a,b,c,d],_=>simp [zY,Zep,Zbf,qX,qi,q1,q2,q3,q5,q6,q8]
 |4,_,[a,b,c],_=>simp [zY,Zep,Zbf,qX,qi,q1,q4,q7]
theorem ZfL {i:Nat} (hi:i<5) (ws:List (List Nat)):Z8 (qi i ws) (ky "number")=if i=2\/i=3 then some (V.str (T (ws.getD 2 []))) else none:=by
 have q:∀a∈Zb6,∀b∈Zb6,a≠b->(ky a=ky b)=False:=λa ha b hb n=>ZaU (ZcQ a ha b hb n);have q1:=q "word" (by decide) "number" (by decide) (by decide);have q2:=q "name" (by decide) "number" (by decide) (by decide);have q3:=q "rest" (by decide) "number" (by decide) (by decide);have q4:=q "other" (by decide) "number" (by decide) (by decide)
 match i,hi with
 |0,_=>simp [qi,Z8,q1,q2,q3]
 |1,_=>simp [qi,Z8,q1,q2,q3]
 |2,_=>simp [qi,Z8,q1,q2,q3]
 |3,_=>simp [qi,Z8,q1,q2,q3]
 |4,_=>simp [qi,Z8,q1,q2,q4]
theorem ZjE {i:Nat} (hi:i<5) (h2:i=2\/i=3) (ws:List (List Nat)):qX (qi i ws) (ky "number") (V.int (digitsVal (ws.getD 2 []):Nat))=Yh i ws:=by
 have q:∀a∈Zb6,∀b∈Zb6,a≠b->(ky a=ky b)=False:=λa ha b hb n=>ZaU (ZcQ a ha b hb n);have q1:=q "word" (by decide) "number" (by decide) (by decide);have q2:=q "name" (by decide) "number" (by decide) (by decide);have q3:=q "rest" (by decide) "number" (by decide) (by decide);rcases h2 with rfl|rfl
 ·simp [qi,Yh,qX,q1,q2,q3]
 ·simp [qi,Yh,qX,q1,q2,q3]
theorem Zqh {i:Nat} (h2:¬(i=2\/i=3)) (ws:List (List Nat)):qi i ws=Yh i ws:=by unfold qi Yh;rw [if_neg (c:=i=2) λz=>h2 (.inl z),if_neg (c:=i=3) λz=>h2 (.inr z),if_neg (c:=i=2) λz=>h2 (.inl z),if_neg (c:=i=3) λz=>h2 (.inr z)]
theorem ZoO (i:Nat) (ws:List (List Nat)):(qi i ws).length<=4:=by
 unfold qi
 repeat' split
 all_goals simp
theorem ZiX (i:Nat) (ws:List (List Nat)):Z8 (Yh i ws) (ky "word")=some (V.str (T (ws.getD 0 []))):=zk (p:=(ky "word",_)) rfl
theorem YF (i:Nat) (ws:List (List Nat)):Z8 (Yh i ws) (ky "name")=some (V.str (T (ws.getD 1 []))):=by have q1:=ZaU (ZcQ "word" (by decide) "name" (by decide) (by decide));exact (zj (p:=(ky "word",_)) (by rw [q1];exact id)).trans (zk (p:=(ky "name",_)) rfl)
theorem ZfM (ws:List (List Nat)):Z8 (Yh 0 ws) (ky "rest")=some (V.str (T (ws.getD 2 []))):=by have q1:=ZaU (ZcQ "word" (by decide) "rest" (by decide) (by decide));have q2:=ZaU (ZcQ "name" (by decide) "rest" (by decide) (by decide));simp [Yh,Z8,q1,q2]
theorem ZgF {i:Nat} (hi:i<5) (ws:List (List Nat)):Z8 (Yh i ws) (ky "other")=if i=4 then some (V.str (T (ws.getD 2 []))) else none:=by
 have q:∀a∈Zb6,∀b∈Zb6,a≠b->(ky a=ky b)=False:=λa ha b hb n=>ZaU (ZcQ a ha b hb n);have q1:=q "word" (by decide) "other" (by decide) (by decide);have q2:=q "name" (by decide) "other" (by decide) (by decide);have q3:=q "rest" (by decide) "other" (by decide) (by decide);have q4:=q "number" (by decide) "other" (by decide) (by decide)
 match i,hi with
 |0,_=>simp [Yh,Z8,q1,q2,q3]
 |1,_=>simp [Yh,Z8,q1,q2,q3]
 |2,_=>simp [Yh,Z8,q1,q2,q4]
 |3,_=>simp [Yh,Z8,q1,q2,q3,q4]
 |4,_=>simp [Yh,Z8,q1,q2,q3]
theorem _root_.L2.DGet.kys {H:Hp} {d:jo} {kvs:List (Key×V)} (h:H d=some (.dK kvs)) (s:String):DGet H d (V.str (Qc s)) (Z8 kvs (ky s)):=by
 have e:V.str (Qc s)=kV (ky s):=by show _=V.str (T (cd s));rw [Zbv]
 rw [e];exact DGet.k h
noncomputable abbrev zh:=List (List Nat×List Nat)
noncomputable def txK (kept:zh):List (Key×V):=kept.map λp=>((.inr (T p.1):Key),V.str (T p.2))
noncomputable def ZM (kept:zh) (n:List Nat):Option (List Nat):=(kept.find? λp=>p.1=n).map (·.2)
noncomputable def J6 (kept:zh) (n x:List Nat):zh:=if (ZM kept n).isSome then kept.map (λp=>if p.1=n then (p.1,x) else p) else kept++[(n,x)]
noncomputable def Zbx (kept:zh) (n:List Nat):zh:=kept.filter λp=>decide (p.1≠n)
theorem YB (n:List Nat):∀kept:zh,Z8 (txK kept) (.inr (T n))=(ZM kept n).map λx=>V.str (T x)
 |[]=>rfl
 |p::r=>by
  by_cases h:p.1=n
  ·have e1:Z8 (txK (p::r)) (.inr (T n))=some (V.str (T p.2)):=zk (p:=((.inr (T p.1):Key),V.str (T p.2))) (r:=txK r) (by rw [h]);rw [e1];unfold ZM;rw [QN,decide_eq_true h];rfl
  ·have e1:Z8 (txK (p::r)) (.inr (T n))=Z8 (txK r) (.inr (T n)):=zj (p:=((.inr (T p.1):Key),V.str (T p.2))) (r:=txK r) λz=>h (Zb4.mp (Sum.inr.inj z));rw [e1,YB n r];unfold ZM;rw [QN,decide_eq_false h]
theorem Zc5 (kept:zh) (n x:List Nat):qX (txK kept) (.inr (T n)) (V.str (T x))=txK (J6 kept n x):=by
 unfold qX J6;rw [ZbM,YB,Ux]
 cases (ZM kept n).isSome with
 |true=>
  rw [if_pos rfl,if_pos rfl];unfold txK;rw [uM,uM];refine uF λp _=>?_;show (if (Sum.inr (T p.1):Key)=.inr (T n) then _ else _)=_;by_cases h:p.1=n
  ·rw [if_pos (by rw [h])];show _=((Sum.inr (T (if p.1=n then (p.1,x) else p).1):Key),V.str (T (if p.1=n then (p.1,x) else p).2));rw [if_pos h]
  ·rw [if_neg λz=>h (Zb4.mp (Sum.inr.inj z))];show _=((Sum.inr (T (if p.1=n then (p.1,x) else p).1):Key),V.str (T (if p.1=n then (p.1,x) else p).2));rw [if_neg h]
 |false=>
  rw [if_neg (by decide),if_neg (by decide)];unfold txK;rw [ux];rfl
theorem Zfa (kept:zh) (n x:List Nat):(J6 kept n x).length<=kept.length+1:=by
 unfold J6;split
 ·rw [jr];omega
 ·rw [jv,jJ];omega
theorem ZnO (kept:zh) (n x m:List Nat):ZM (J6 kept n x) m=if m=n then some x else ZM kept m:=by
 have h:=congrArg (λq=>Z8 q (.inr (T m))) (Zc5 kept n x);simp only [ZoS,YB] at h;by_cases e:m=n
 ·rw [if_pos e];rw [if_pos (by rw [e])] at h
  cases q:ZM (J6 kept n x) m with
  |none=>rw [q] at h;cases h
  |some y=>
   rw [q] at h;have:=Option.some.inj h;injection this with this;rw [Zb4.mp this]
 ·rw [if_neg e];rw [if_neg λz=>e (Zb4.mp (Sum.inr.inj z))] at h
  cases q:ZM (J6 kept n x) m with
  |none=>
   rw [q] at h
   cases q2:ZM kept m with
   |none=>rfl
   |some y=>rw [q2] at h;cases h
  |some y=>
   rw [q] at h
   cases q2:ZM kept m with
   |none=>rw [q2] at h;cases h
   |some y2=>
    rw [q2] at h;have:=Option.some.inj h;injection this with this;rw [Zb4.mp this]
noncomputable def zX (n:List Nat):Prop:=1<=n.length/\n.length<=8/\∀c∈n,97<=c/\c<=122
noncomputable def Zcg (kept:zh) (i:Nat) (ws:List (List Nat)):Prop:=((ws.getD 0 []=cd "keep"\/ws.getD 0 []=cd "load")->zX (ws.getD 1 []))/\(¬(ws.getD 0 []=cd "keep"\/ws.getD 0 []=cd "load")->(ZM kept (ws.getD 1 [])).isSome=true/\(i=4->(ZM kept (ws.getD 2 [])).isSome=true))
theorem ZgA {H H':Hp} {t:jo} {o:HO} (s:Zt H H'):Zt (upd H t o) (upd H' t o):=λb u h=>by
 by_cases e:b=t
 ·subst e
  rw [Zg] at h ⊢
  exact h
 ·rw [Zi e] at h ⊢
  exact s b u h
theorem ZlL {H H':Hp} {t:jo} {o:HO} (h:H t=some o) (s:Zt H H'):Zt (upd H t o) H':=λb u e=>by
 by_cases z:b=t
 ·subst z;rw [Zg] at e;rw [<-e];exact s b o h
 ·rw [Zi z] at e;exact s b u e
noncomputable def fsD (t:jo):List (Str×V):=[("texts",.ref t)]
noncomputable def zJ (C:jo) (H:Hp) (o:jo) (t:jo) (kept:zh):Prop:=(∃dx,H o=some (.ins C dx (fsD t)))/\H t=some (.dK (txK kept))
theorem zJ.same {C:jo} {H H':Hp} {o t:jo} {kept:zh} (d:zJ C H o t kept) (s:zp H H'):zJ C H' o t kept:=by obtain ⟨⟨dx,h1⟩,h2⟩:=d;exact ⟨⟨dx,s.at h1 (by nofun)⟩,s.at h2 (by nofun)⟩
theorem Zae {α β:Type} (f:α->β) (l:List α) {r:Int} (h0:0<=r) (h1:r<l.length):∃x∈l,atI (l.map f) r=some (f x):=by
 have hk:r.toNat<l.length:=by omega
 refine ⟨l[r.toNat],QU hk,?_⟩;have hm:r<((l.map f).length:Int):=by rw [jr];exact h1
 rw [LW.YV (f l[r.toNat]) h0 hm,Qb,Qh,Qd hk];rfl
theorem ZbT (n:Nat) {k:Nat} (hk:0<k):(qj (n:Int)).length<=k↔n<10 ^ k:=by rw [Zai,jr];exact Nat.length_toDigits_le_iff (by decide) hk
theorem Zn2 (n:Nat):0<(qj (n:Int)).length:=by rw [Zai,jr];exact Nat.length_toDigits_pos
theorem ZbS {n:Nat} (h:n<2 ^ 200):n.log2<1920:=by
 by_cases h0:n=0
 ·subst h0
  decide
 ·exact (Nat.log2_lt h0).mpr (Ql h (Nat.pow_le_pow_right (by decide) (by decide)))
theorem zJ.put {C:jo} {H H':Hp} {o t:jo} {kept kept':zh} (d:zJ C H o t kept) (s:zp (upd H t (.dK (txK kept'))) H'):zJ C H' o t kept':=by
 obtain ⟨⟨dx,h1⟩,h2⟩:=d;have ne:o≠t:=λz=>by rw [z,h2] at h1;cases h1
 exact ⟨⟨dx,s.at ((Zi ne).trans h1) (by nofun)⟩,s.at Zg (by nofun)⟩
theorem zJ.ne {C:jo} {H:Hp} {o t b:jo} {kept:zh} {u:HO} (d:zJ C H o t kept) (h:H b=some u) (hu:∀kvs,u≠ .dK kvs):b≠t:=λz=>by rw [z,d.2] at h;exact hu _ (Option.some.inj h).symm
noncomputable def Zgb (n:List Nat):Prop:=∃p q b s,n=Qv p b++s::Qv q b/\p+q<8/\97<=b/\b<=122/\97<=s/\s<=122
theorem Zgb.is {n:List Nat} (h:Zgb n):zX n:=by obtain ⟨p,q,b,s,rfl,h1,h2,h3,h4,h5⟩:=h;refine ⟨by simp;omega,by simp;omega,λc hc=>?_⟩;simp only [jN,jQ,VC] at hc;rcases hc with ⟨_,rfl⟩|rfl|⟨_,rfl⟩<;>omega
theorem zX.noB {n:List Nat} (h:zX n):32∉n:=λm=>by have:=h.2.2 32 m;omega
noncomputable def ZqG (n:List Nat):Bool:=decide (n.length<=1) || n.any λb=>decide ((n.filter λc=>decide (c≠b)).length<=1)
theorem Zgb.b {n:List Nat} (h:Zgb n):ZqG n=true:=by
 obtain ⟨p,q,b,s,rfl,h1,h2⟩:=h;unfold ZqG;by_cases e:p+q=0
 ·have hp:p=0:=by omega
  have hq:q=0:=by omega
  subst hp hq;rfl
 ·rw [QS,VP];refine .inr ⟨b,?_,?_⟩
  ·simp only [jN,jQ,VC];by_cases hp:p=0
   ·exact .inr (.inr ⟨by omega,trivial⟩)
   ·exact .inl ⟨hp,trivial⟩
  ·rw [decide_eq_true_eq,UI,UG];have f:∀m,(Qv m b).filter (λc=>decide (c≠b))=[]:=λm=>by rw [List.filter_eq_nil_iff];intro c hc;simp [List.eq_of_mem_replicate hc]
   rw [f,f];split<;>simp
end LD
namespace L2
open PySem
theorem Zsq {X:Cx} {k:Nat} {x:Str} {C:jo} {ps:List Str} {dvs:List V} {sp:Sp} {p pos:Pos} (M:Mkr X.prog X.w X.K X.mg X.base CX0 k x C ps dvs sp) (hr:zH (k+1) X.A) (hg:Gl X x:=by rfl) (hdb:(x==("__debug__":Str))=false:=by decide):PE X (.Call (.Name x p) [] [] pos) (ZiT C sp dvs E0 ZlU):=by obtain ⟨f,fd,ds,F,hm,hb,hd⟩:=M.ex;exact Zoe hm F hr hg M.at_ hb hd Ziz hdb
end L2
namespace LB
open PySem PySem.W PyProof.Rows
noncomputable def gal:Bool->uB->Array uB->Nat->Nat->Nat->StateT jH Sem (Option Nat):=sortPriv% PySem.Builtin.gallop
noncomputable def mlo:Array uB->Array uB->StateT jH Sem (Array uB):=sortPriv% PySem.Builtin.mergeLo
noncomputable def mhi:Array uB->Array uB->StateT jH Sem (Array uB):=sortPriv% PySem.Builtin.mergeHi
structure Ks (st st':jH):Prop where
 kind:kindOf st'=kindOf st
 arr:vR st'=vR st
 pend:uC st'=uC st
 fail:vD st'=vD st
theorem Ks.refl (st:jH):Ks st st:=⟨rfl,rfl,rfl,rfl⟩
theorem Ks.trans {a b c:jH} (x:Ks a b) (y:Ks b c):Ks a c:=⟨y.kind.trans x.kind,y.arr.trans x.arr,y.pend.trans x.pend,y.fail.trans x.fail⟩
section
variable {prog:jx} {w:jG} {A:Around} {E:Value->jn->Prop} {s:jn} {κ:uA} {it:Array uB} {O:ve} {key:Nat->O.α} {n:Nat}
noncomputable def Cmp (prog:jx) (w:jG) (A:Around) (s:jn) (κ:uA) (it:Array uB) (key:Nat->O.α) (n:Nat):Prop:=
 ∀i j,i<n->j<n->∀Q:Bool->jn->Prop,Q (O.blt (key i) (key j)) s->js (ju prog w) A (keyLt' κ (ul it i).1 (ul it j).1) Q (λ_ _=>False) s
theorem Zue (hC:Cmp prog w A s κ it key n) {st:jH} (hk:kindOf st=κ) {i j:Nat} (hi:i<n) (hj:j<n) {Q:Option Bool->jH->Prop} (h:Q (some (O.blt (key i) (key j))) st):wpS (ju prog w) A E s (lt' (ul it i) (ul it j)) Q st:=by rw [lt'_eq];refine jt (vx ?_);rw [hk];refine jt (vH (jX (jW (hC i j hi hj (λa s'=>s'=s/\a=O.blt (key i) (key j)) ⟨rfl,rfl⟩) ?_ λ_ _ z=>z.elim)));rintro a s' ⟨rfl,rfl⟩;exact ⟨rfl,jz h⟩
noncomputable def ZhF (prog:jx) (w:jG) (A:Around) (s:jn) (κ:uA) (it:Array uB) (key:Nat->O.α) (n:Nat):Prop:=
 ∀i j,j<i->i<n->∀Q:Bool->jn->Prop,Q (O.blt (key i) (key j)) s->js (ju prog w) A (keyLt' κ (ul it i).1 (ul it j).1) Q (λ_ _=>False) s
theorem Zg8 (hC:ZhF prog w A s κ it key n) {st:jH} (hk:kindOf st=κ) {i j:Nat} (hj:j<i) (hi:i<n) {Q:Option Bool->jH->Prop} (h:Q (some (O.blt (key i) (key j))) st):wpS (ju prog w) A E s (lt' (ul it i) (ul it j)) Q st:=by rw [lt'_eq];refine jt (vx ?_);rw [hk];refine jt (vH (jX (jW (hC i j hj hi (λa s'=>s'=s/\a=O.blt (key i) (key j)) ⟨rfl,rfl⟩) ?_ λ_ _ z=>z.elim)));rintro a s' ⟨rfl,rfl⟩;exact ⟨rfl,jz h⟩
noncomputable def AL (it:Array uB) (l:List Nat):Array uB:=(l.map (ul it)).toArray
theorem JP (l:List Nat):(AL it l).size=l.length:=by simp [AL]
theorem Zcd {l:List Nat} {i:Nat} (hi:i<l.length):(AL it l)[i]?=some (ul it (l.getD i 0)):=by simp [AL,hi,Qb]
theorem ZcA (l:List Nat) (x:Nat):(AL it l).push (ul it x)=AL it (l++[x]):=by simp [AL]
theorem JY (l m:List Nat):AL it l++AL it m=AL it (l++m):=by simp [AL]
theorem ZeF (l:List Nat) (i j:Nat):(AL it l).extract i j=AL it ((l.drop i).take (j-i)):=by simp [AL,List.extract_eq_take_drop,map_drop,QaG]
theorem Zi0 (l:List Nat):(AL it l).reverse=AL it l.reverse:=by simp [AL]
theorem Z4 {l:List Nat} {i:Nat} (hi:i<l.length) {st:jH} {Q:uB->jH->Prop} (h:Q (ul it (l.getD i 0)) st):wpS (ju prog w) A E s (elem' (AL it l) i) Q st:=by rw [elem'_eq,Zcd hi];exact jz h
noncomputable def bey (key:Nat->O.α) (left:Bool) (x y:Nat):Bool:=if left then O.blt (key y) (key x) else !O.blt (key x) (key y)
noncomputable def Bhd:Bool->Nat->Nat->Prop
 |true,x,y=>x<y
 |false,x,y=>y<x
theorem ZeS (hC:ZhF prog w A s κ it key n) {left:Bool} {x:Nat} {l:List Nat} {b i:Nat} (hl:∀y∈l,y<n) (hx:x<n) (hi:b+i<l.length) (hd:Bhd left x (l.getD (b+i) 0)) {st:jH} (hk:kindOf st=κ) {Q:Option Bool->jH->Prop} (h:Q (some (bey key left x (l.getD (b+i) 0))) st):
 wpS (ju prog w) A E s (elem' (AL it l) (b+i) >>=λz=>if left=true then lt' z (ul it x) else lt' (ul it x) z >>=λr=>pure (Vx (λx=> !x) r)) Q st:=by
 have hy:l.getD (b+i) 0<n:=by refine hl _ ?_;rw [Qb,Qd hi];simp
 refine jt (Z4 hi ?_);unfold bey at h
 cases left with
 |true=>exact Zg8 hC hk hd hy h
 |false=>exact jt (Zg8 hC hk hd hx (jz h))
theorem Zqv {M:uI} (P:Nat->Bool) {m:Nat} {st:jH} {f:Nat->Option (Option Nat)×Nat×Nat->StateT jH Sem (ForInStep (Option (Option Nat)×Nat×Nat))}
 (f1:∀i lo hi,lo ≥ hi->wpS M A E s (f i (none,lo,hi)) (λr st'=>st'=st/\r=.done (none,lo,hi)) st)
 (f2:∀i lo hi,lo<hi->hi<=m->wpS M A E s (f i (none,lo,hi)) (λr st'=>st'=st/\r=.yield (if P (lo+(hi-lo)/2)=true then (none,lo+(hi-lo)/2+1,hi) else (none,lo,lo+(hi-lo)/2))) st)
 (mono:∀i j,i<=j->j<m->P j=true->P i=true) {lo hi:Nat} (h1:lo<=hi) (h2:hi<=m) (h3:∀i,i<lo->P i=true) (h4:∀i,hi<=i->i<m->P i=false):
 wpS M A E s (forIn [0:m] ((none,lo,hi):Option (Option Nat)×Nat×Nat) f) (λc st'=>st'=st/\∃k lo',c=(none,lo',k)/\k<=m/\(∀i,i<k->P i=true)/\∀i,k<=i->i<m->P i=false) st:=by
 refine j7 (I:=λx c st'=>st'=st/\∃lo hi,c=(none,lo,hi)/\lo<=hi/\hi<=m/\hi-lo<=m-x/\(∀i,i<lo->P i=true)/\∀i,hi<=i->i<m->P i=false) ?_ ?_ ⟨rfl,lo,hi,rfl,h1,h2,by omega,h3,h4⟩
 ·rintro x c st' _ hx ⟨rfl,lo,hi,rfl,h1,h2,h5,h3,h4⟩;rcases Wq lo hi with h|h
  ·refine ug (f2 x lo hi h h2) ?_;rintro r st' ⟨rfl,rfl⟩;refine ⟨rfl,?_⟩;by_cases e:P (lo+(hi-lo)/2)=true
   ·rw [if_pos e];exact ⟨_,_,rfl,by omega,h2,by omega,λi hi'=>mono i _ (by omega) (by omega) e,h4⟩
   ·rw [if_neg e];refine ⟨_,_,rfl,by omega,by omega,by omega,h3,λi hi' hm=>?_⟩
    cases e2:P i with
    |false=>rfl
    |true=>exact absurd (mono _ i hi' hm e2) e
  ·refine ug (f1 x lo hi h) ?_;rintro r st' ⟨rfl,rfl⟩;have:lo=hi:=by omega
   subst this;exact ⟨rfl,lo,lo,rfl,h2,h3,h4⟩
 ·rintro c st' ⟨rfl,lo,hi,rfl,h1,h2,h5,h3,h4⟩;have:lo=hi:=by omega
  subst this;exact ⟨rfl,lo,lo,rfl,h2,h3,h4⟩
theorem Zds (hC:ZhF prog w A s κ it key n) {left:Bool} {x:Nat} {l:List Nat} {b m h:Nat} (hl:∀y∈l,y<n) (hx:x<n) (hb:b+m<=l.length) (hh:h<m) (hd:∀i,i<m->Bhd left x (l.getD (b+i) 0)) {st:jH} (hk:kindOf st=κ) {Q:Option Nat->jH->Prop}
 (mono:∀i j,i<=j->j<m->bey key left x (l.getD (b+j) 0)=true->bey key left x (l.getD (b+i) 0)=true)
 (q:∀k,k<=m->(∀i,i<k->bey key left x (l.getD (b+i) 0)=true)->(∀i,k<=i->i<m->bey key left x (l.getD (b+i) 0)=false)->Q (some k) st):
 wpS (ju prog w) A E s (gal left (ul it x) (AL it l) b m h) Q st:=by
 unfold gal;refine jt (ZeS hC hl hx (by omega) (hd _ (by omega)) hk ?_);dsimp only
 have neg:∀{i j},i<=j->j<m->bey key left x (l.getD (b+i) 0)=false->bey key left x (l.getD (b+j) 0)=false:=λ{i j} h1 h2 h3=>by
  cases e:bey key left x (l.getD (b+j) 0) with
  |false=>rfl
  |true=>rw [mono i j h1 h2 e] at h3;cases h3
 cases e0:bey key left x (l.getD (b+h) 0) with
 |true=>
  rw [if_pos rfl]
  refine jt (ug (j7 (I:=λi c st'=>st'=st/\∃lo o,c=(none,lo,o)/\lo<o/\i+1<=o/\h+lo<m/\bey key left x (l.getD (b+(h+lo)) 0)=true)
   (Q:=λc st'=>st'=st/\∃lo o,c=(none,lo,o)/\lo<o/\h+lo<m/\bey key left x (l.getD (b+(h+lo)) 0)=true/\(m-h<=o\/h+o<m/\bey key left x (l.getD (b+(h+o)) 0)=false)) ?_ ?_ ⟨rfl,0,1,rfl,by omega,by omega,by omega,e0⟩) ?_)
  ·rintro i c st' _ hi ⟨rfl,lo,o,rfl,h1,h2,h3,h4⟩;dsimp only;by_cases ho:o ≥ m-h
   ·rw [if_pos ho];exact jz ⟨rfl,lo,o,rfl,h1,h3,h4,.inl ho⟩
   ·rw [if_neg ho];refine jt (ZeS hC hl hx (by omega) (hd _ (by omega)) hk ?_);dsimp only
    cases e1:bey key left x (l.getD (b+(h+o)) 0) with
    |true=>
     exact jz ⟨rfl,o,2 * o+1,rfl,by omega,by omega,by omega,e1⟩
    |false=>
     exact jz ⟨rfl,lo,o,rfl,h1,h3,h4,.inr ⟨by omega,e1⟩⟩
  ·rintro c st' ⟨rfl,lo,o,rfl,h1,h2,h3,h4⟩;exact ⟨rfl,lo,o,rfl,h1,h3,h4,.inl (by omega)⟩
  ·rintro c st' ⟨rfl,lo,o,rfl,h1,h3,h4,h5⟩;dsimp only;refine jt (ug (Zqv (λi=>bey key left x (l.getD (b+i) 0)) (m:=m) (λi lo hi hge=>?_) (λi lo hi hlt hm=>?_) mono (by omega) (by omega) (λi hi=>mono i _ (by omega) h3 h4) λi hi hm=>?_) ?_)
   ·dsimp only;rw [if_pos hge];exact jz ⟨rfl,rfl⟩
   ·dsimp only;rw [if_neg (by omega)];refine jt (ZeS hC hl hx (by omega) (hd _ (by omega)) hk ?_);dsimp only;cases bey key left x (l.getD (b+(lo+(hi-lo)/2)) 0)<;>exact jz ⟨rfl,rfl⟩
   ·rcases h5 with h5|⟨h5,h6⟩
    ·omega
    ·exact neg (by omega) hm h6
   ·rintro c st' ⟨rfl,k,lo',rfl,k1,k2,k3⟩;exact jz (q k k1 k2 k3)
 |false=>
  rw [if_neg Qg]
  refine jt (ug (j7 (I:=λi c st'=>st'=st/\∃lo o,c=(none,lo,o)/\lo<o/\i+1<=o/\lo<=h/\bey key left x (l.getD (b+(h-lo)) 0)=false)
   (Q:=λc st'=>st'=st/\∃lo o,c=(none,lo,o)/\lo<o/\lo<=h/\bey key left x (l.getD (b+(h-lo)) 0)=false/\(h+1<=o\/o<=h/\bey key left x (l.getD (b+(h-o)) 0)=true)) ?_ ?_ ⟨rfl,0,1,rfl,by omega,by omega,by omega,e0⟩) ?_)
  ·rintro i c st' _ hi ⟨rfl,lo,o,rfl,h1,h2,h3,h4⟩;dsimp only;by_cases ho:o ≥ h+1
   ·rw [if_pos ho];exact jz ⟨rfl,lo,o,rfl,h1,h3,h4,.inl ho⟩
   ·rw [if_neg ho];refine jt (ZeS hC hl hx (by omega) (hd _ (by omega)) hk ?_);dsimp only
    cases e1:bey key left x (l.getD (b+(h-o)) 0) with
    |false=>
     exact jz ⟨rfl,o,2 * o+1,rfl,by omega,by omega,by omega,e1⟩
    |true=>
     exact jz ⟨rfl,lo,o,rfl,h1,h3,h4,.inr ⟨by omega,e1⟩⟩
  ·rintro c st' ⟨rfl,lo,o,rfl,h1,h2,h3,h4⟩;exact ⟨rfl,lo,o,rfl,h1,h3,h4,.inl (by omega)⟩
  ·rintro c st' ⟨rfl,lo,o,rfl,h1,h3,h4,h5⟩;dsimp only;refine jt (ug (Zqv (λi=>bey key left x (l.getD (b+i) 0)) (m:=m) (λi lo hi hge=>?_) (λi lo hi hlt hm=>?_) mono (by omega) (by omega) (λi hi=>?_) λi hi hm=>neg hi hm h4) ?_)
   ·dsimp only;rw [if_pos hge];exact jz ⟨rfl,rfl⟩
   ·dsimp only;rw [if_neg (by omega)];refine jt (ZeS hC hl hx (by omega) (hd _ (by omega)) hk ?_);dsimp only;cases bey key left x (l.getD (b+(lo+(hi-lo)/2)) 0)<;>exact jz ⟨rfl,rfl⟩
   ·rcases h5 with h5|⟨h5,h6⟩
    ·omega
    ·exact mono i _ (by omega) (by omega) h6
   ·rintro c st' ⟨rfl,k,lo',rfl,k1,k2,k3⟩;exact jz (q k k1 k2 k3)
end
end LB
namespace LB
open PySem PySem.W PyProof.Rows
section
variable {prog:jx} {w:jG} {A:Around} {E:Value->jn->Prop} {s:jn} {κ:uA} {it:Array uB} {O:ve} {key:Nat->O.α} {n:Nat}
noncomputable def Srt (key:Nat->O.α) (l:List Nat):Prop:=l.Pairwise λi j=>O.kle (key i) (key j)
theorem Srt.get {l:List Nat} (h:Srt key l) {i j:Nat} (hij:i<=j) (hj:j<l.length):O.kle (key (l.getD i 0)) (key (l.getD j 0)):=by
 rcases Wq i j with w|w
 ·have:=Ue.mp h i j (by omega) hj w;rw [Qb,Qb,Qd hj,Qd (show i<l.length by omega)];exact this
 ·have:i=j:=by omega
  subst this;exact Q8 _
theorem Srt.app {l m:List Nat} (h:Srt key l) (h':Srt key m) (hh:∀x∈l,∀y∈m,O.kle (key x) (key y)):Srt key (l++m):=UC.mpr ⟨h,h',hh⟩
theorem Srt.sub {l m:List Nat} (h:Srt key l) (s:List.Sublist m l):Srt key m:=List.Pairwise.sublist s h
structure Mg (key:Nat->O.α) (la lb:List Nat) (lo:List Nat) (ia ib:Nat):Prop where
 srt:Srt key lo
 lea:∀x∈lo,∀y∈la.drop ia,O.kle (key x) (key y)
 leb:∀x∈lo,∀y∈lb.drop ib,O.kle (key x) (key y)
 perm:(lo++(la.drop ia++lb.drop ib)).Perm (la++lb)
section
variable {la lb lo:List Nat} {ia ib:Nat}
theorem Mg.outA (h:Mg key la lb lo ia ib) (sa:Srt key la) (k:Nat) (hh:∀x∈(la.drop ia).take k,∀y∈lb.drop ib,O.kle (key x) (key y)):Mg key la lb (lo++(la.drop ia).take k) (ia+k) ib:=by
 have e:(la.drop ia).take k++la.drop (ia+k)=la.drop ia:=by rw [<-UP,QP]
 have sd:Srt key ((la.drop ia).take k++la.drop (ia+k)):=by rw [e];exact sa.sub (UO _ _)
 obtain ⟨s1,s2,s3⟩:=UC.mp sd;refine ⟨h.srt.app s1 λx hx y hy=>h.lea x hx y (Q7 hy),λx hx y hy=>?_,λx hx y hy=>?_,?_⟩
 ·rcases jN.mp hx with hx|hx
  ·exact h.lea x hx y (by rw [<-e];exact jB _ hy)
  ·exact s3 x hx y hy
 ·rcases jN.mp hx with hx|hx
  ·exact h.leb x hx y hy
  ·exact hh x hx y hy
 ·refine List.Perm.trans (List.Perm.of_eq ?_) h.perm;rw [<-e,j6,j6];simp only [e]
theorem Mg.outB (h:Mg key la lb lo ia ib) (sb:Srt key lb) (k:Nat) (hh:∀x∈(lb.drop ib).take k,∀y∈la.drop ia,O.kle (key x) (key y)):Mg key la lb (lo++(lb.drop ib).take k) ia (ib+k):=by
 have e:(lb.drop ib).take k++lb.drop (ib+k)=lb.drop ib:=by rw [<-UP,QP]
 have sd:Srt key ((lb.drop ib).take k++lb.drop (ib+k)):=by rw [e];exact sb.sub (UO _ _)
 obtain ⟨s1,s2,s3⟩:=UC.mp sd;refine ⟨h.srt.app s1 λx hx y hy=>h.leb x hx y (Q7 hy),λx hx y hy=>?_,λx hx y hy=>?_,?_⟩
 ·rcases jN.mp hx with hx|hx
  ·exact h.lea x hx y hy
  ·exact hh x hx y hy
 ·rcases jN.mp hx with hx|hx
  ·exact h.leb x hx y (by rw [<-e];exact jB _ hy)
  ·exact s3 x hx y hy
 ·refine List.Perm.trans ?_ h.perm;rw [j6];refine List.Perm.append_left lo ?_;rw [<-j6];refine List.Perm.trans (List.Perm.append_right _ UT) ?_;rw [j6,e]
theorem Zea {l:List Nat} {i:Nat} (h:i<l.length):(l.drop i).take 1=[l.getD i 0]:=by rw [Q1 h,QO,Q6,Qb,Qd h];rfl
theorem Zip {l:List Nat} {i:Nat} {y:Nat} (h:y∈l.drop i):∃j,i<=j/\j<l.length/\y=l.getD j 0:=by obtain ⟨k,hk,e⟩:=UW.mp h;rw [jO] at hk;refine ⟨i+k,by omega,by omega,?_⟩;rw [U9] at e;rw [Qb,Qd (by omega),<-e];rfl
theorem ZaV {l:List Nat} {i k:Nat} {y:Nat} (h:y∈(l.drop i).take k):∃j,i<=j/\j<l.length/\j<i+k/\y=l.getD j 0:=by obtain ⟨j,hj,e⟩:=UW.mp h;rw [jF,jO] at hj;refine ⟨i+j,by omega,by omega,by omega,?_⟩;rw [U8,U9] at e;rw [Qb,Qd (by omega),<-e];rfl
end
theorem Zeq (l:List Nat) (i:Nat):(AL it l).extract i l.length=AL it (l.drop i):=by rw [ZeF,QD (by rw [jO];exact Qf _)]
theorem ZgI (l:List Nat) (i k:Nat):(AL it l).extract i (i+k)=AL it ((l.drop i).take k):=by rw [ZeF,UL]
theorem Zl2 (x:Nat):#[ul it x]=AL it [x]:=rfl
noncomputable def Res (it:Array uB) (key:Nat->O.α) (la lb:List Nat) (r:Array uB):Prop:=∃m,r=AL it m/\m.Perm (la++lb)/\Srt key m
section
variable {la lb lo:List Nat} {ia ib:Nat}
theorem Mg.stepA (h:Mg key la lb lo ia ib) (sa:Srt key la) (hi:ia<la.length) (hh:∀y∈lb.drop ib,O.kle (key (la.getD ia 0)) (key y)):Mg key la lb (lo++[la.getD ia 0]) (ia+1) ib:=by rw [<-Zea hi];refine h.outA sa 1 λx hx=>?_;rw [Zea hi] at hx;rw [jC.mp hx];exact hh
theorem Mg.stepB (h:Mg key la lb lo ia ib) (sb:Srt key lb) (hi:ib<lb.length) (hh:∀y∈la.drop ia,O.kle (key (lb.getD ib 0)) (key y)):Mg key la lb (lo++[lb.getD ib 0]) ia (ib+1):=by rw [<-Zea hi];refine h.outB sb 1 λx hx=>?_;rw [Zea hi] at hx;rw [jC.mp hx];exact hh
theorem Mg.fin1 (h:Mg key la lb lo ia ib) (sa:Srt key la) (sb:Srt key lb) (hi:ia=la.length\/ib=lb.length):Res it key la lb (AL it lo++(AL it la).extract ia la.length++(AL it lb).extract ib lb.length):=by
 rw [Zeq,Zeq,JY,JY,j6];refine ⟨_,rfl,h.perm,?_⟩;rcases hi with rfl|rfl
 ·rw [Vi,uJ];exact h.srt.app (sb.sub (UO _ _)) h.leb
 ·rw [Vi,vk];exact h.srt.app (sa.sub (UO _ _)) h.lea
theorem Mg.fin2 (h:Mg key la lb lo ia ib) (sb:Srt key lb) (h1:∀y∈lb,O.kle (key y) (key (la.getD (la.length-1) 0))) (hi:ia+1=la.length):Res it key la lb (AL it lo++(AL it lb).extract ib lb.length++(AL it la).extract ia la.length):=by
 rw [Zeq,Zeq,JY,JY];refine ⟨_,rfl,?_,?_⟩
 ·rw [j6];exact List.Perm.trans (List.Perm.append_left lo UT) h.perm
 ·have e:la.drop ia=[la.getD (la.length-1) 0]:=by rw [<-QD (l:=la.drop ia) (i:=1) (by rw [jO];omega),Zea (by omega),show la.length-1=ia by omega]
  rw [e];refine (h.srt.app (sb.sub (UO _ _)) h.leb).app (Wh _ _) λx hx y hy=>?_;rw [jC.mp hy];rcases jN.mp hx with hx|hx
  ·exact h.lea x hx _ (by rw [e];exact jC.mpr rfl)
  ·exact h1 x (UD hx)
end
noncomputable def In (it:Array uB) (key:Nat->O.α) (la lb:List Nat) (out:Array uB) (ia ib:Nat):Prop:=∃lo,out=AL it lo/\Mg key la lb lo ia ib/\ia+1<la.length/\ib<lb.length
theorem ZW {l:List Nat} {i:Nat} (h:i<l.length):l.getD i 0∈l:=by rw [Qb,Qd h];exact QU h
noncomputable def Zvf:Nat->StateT jH Sem Unit:=sortPriv% PySem.Builtin.setMinGallop
theorem ZkK {M:uI} {g:Nat} {st:jH} {Q:Unit->jH->Prop} (h:∀st',Ks st st'->Q () st'):wpS M A E s (Zvf g) Q st:=vf (h _ ⟨rfl,rfl,rfl,rfl⟩)
theorem Z5 {M:uI} {α:Type} {a b:Nat} {x y:StateT jH Sem α} {Q:α->jH->Prop} {st:jH} (h1:a=b->wpS M A E s x Q st) (h2:a≠b->wpS M A E s y Q st):wpS M A E s (if (a==b)=true then x else y) Q st:=by
 by_cases e:a=b
 ·rw [if_pos (by simpa using e)];exact h1 e
 ·rw [if_neg (by simpa using e)];exact h2 e
theorem YG {M:uI} {α:Type} {c:Prop} [Decidable c] {x y:StateT jH Sem α} {Q:α->jH->Prop} {st:jH} (h1:c->wpS M A E s x Q st) (h2:¬c->wpS M A E s y Q st):wpS M A E s (if c then x else y) Q st:=by
 by_cases e:c
 ·rw [if_pos e];exact h1 e
 ·rw [if_neg e];exact h2 e
theorem ZqE {l:List Nat} (sl:Srt key l) {x b m:Nat} (hb:b+m<=l.length) (i j:Nat) (hij:i<=j) (hj:j<m) (h:bey key false x (l.getD (b+j) 0)=true):bey key false x (l.getD (b+i) 0)=true:=by
 have h:(!O.blt (key x) (key (l.getD (b+j) 0)))=true:=h;show (!O.blt (key x) (key (l.getD (b+i) 0)))=true
 rw [QR] at h ⊢
 exact Qx (sl.get (by omega) (by omega)) h
theorem ZqF {l:List Nat} (sl:Srt key l) {x b m:Nat} (hb:b+m<=l.length) (i j:Nat) (hij:i<=j) (hj:j<m) (h:bey key true x (l.getD (b+j) 0)=true):bey key true x (l.getD (b+i) 0)=true:=by
 have h:O.klt (key (l.getD (b+j) 0)) (key x):=h;have g:O.kle (key (l.getD (b+i) 0)) (key (l.getD (b+j) 0)):=sl.get (by omega) (by omega);show O.blt (key (l.getD (b+i) 0)) (key x)=true;rcases O.negTrans _ (key (l.getD (b+i) 0)) _ h with w|w
 ·rw [show O.blt (key (l.getD (b+j) 0)) (key (l.getD (b+i) 0))=false from g] at w;cases w
 ·exact w
theorem Zi4 {left:Bool} {x y:Nat} (h:bey key left x y=true):O.kle (key y) (key x):=by
 cases left with
 |true=>exact Uf h
 |false=>
  have h:(!O.blt (key x) (key y))=true:=h;rw [QR] at h;exact h
theorem ZgP {left:Bool} {x y:Nat} (h:bey key left x y=false):O.kle (key x) (key y):=by
 cases left with
 |true=>exact h
 |false=>
  have h:(!O.blt (key x) (key y))=false:=h;rw [Bool.not_eq_false'] at h;exact Uf h
theorem ZjP {left:Bool} {l:List Nat} {x b k:Nat} (h:∀i,i<k->bey key left x (l.getD (b+i) 0)=true) (y:Nat) (hy:y∈(l.drop b).take k):O.kle (key y) (key x):=by obtain ⟨i,i1,i2,i3,rfl⟩:=ZaV hy;have:=Zi4 (h (i-b) (by omega));rwa [show b+(i-b)=i by omega] at this
theorem Zm0 {left:Bool} {l:List Nat} {x b k m:Nat} (hm:l.length<=b+m) (h:∀i,k<=i->i<m->bey key left x (l.getD (b+i) 0)=false) (y:Nat) (hy:y∈l.drop (b+k)):O.kle (key x) (key y):=by obtain ⟨i,i1,i2,rfl⟩:=Zip hy;have:=ZgP (h (i-b) (by omega) (by omega));rwa [show b+(i-b)=i by omega] at this
theorem Srt.head {l:List Nat} (h:Srt key l) {i y:Nat} (hy:y∈l.drop i):O.kle (key (l.getD i 0)) (key y):=by obtain ⟨j,j1,j2,rfl⟩:=Zip hy;exact h.get j1 j2
theorem ZnZ {M:uI} {α:Type} {x:StateT jH Sem α} {Q:α->jH->Prop} {st:jH} (h:∀Q':α->jH->Prop,(∀r st',Q r st'->Q' r st')->wpS M A E s x Q' st):wpS M A E s x Q st:=h Q λ_ _ h=>h
theorem ifJ {M:uI} {α:Type} {c:Prop} [Decidable c] {x:Nat->StateT jH Sem α} {a b:Nat} {Q:α->jH->Prop} {st:jH} (h:∀m,wpS M A E s (x m) Q st):wpS M A E s (if c then x a else x b) Q st:=YG (λ_=>h a) λ_=>h b
theorem ZrV (hC:ZhF prog w A s κ it key n) {la lb:List Nat} (ha:∀y∈la,y<n) (hb:∀y∈lb,y<n) (sa:Srt key la) (sb:Srt key lb) (na:la≠[]) (nb:lb≠[]) (hd:∀x∈la,∀y∈lb,x<y)
 (h0:∀y∈la,O.kle (key (lb.getD 0 0)) (key y)) (h1:∀y∈lb,O.kle (key y) (key (la.getD (la.length-1) 0))) {st:jH} (hk:kindOf st=κ) {Q:Array uB->jH->Prop}
 (q:∀m st',Ks st st'->m.Perm (la++lb)->Srt key m->Q (AL it m) st'):wpS (ju prog w) A E s (mlo (AL it la) (AL it lb)) Q st:=by
 unfold mlo;have la0:0<la.length:=vY.mpr na;have lb0:0<lb.length:=vY.mpr nb;have qr:∀r st',Ks st st'->Res it key la lb r->Q r st':=λr st' ks ⟨m,e,p,sm⟩=>e▸q m st' ks p sm;have m0:Mg key la lb [lb.getD 0 0] 0 1:=by have:=Mg.stepB (key:=key) (la:=la) (lb:=lb) (lo:=[]) (ia:=0) (ib:=0) ⟨List.Pairwise.nil,(λx hx=>by cases hx),(λx hx=>by cases hx),List.Perm.refl _⟩ sb lb0 (by rw [Uc];exact h0);exact this
 refine jt (vH (uD ⟨rfl,?_⟩));refine jt (Z4 lb0 ?_);simp -zeta -zetaHave only [JP,Zl2];refine Z5 (λc1=>jz (qr _ _ (Ks.refl _) (m0.fin1 sa sb (.inr c1)))) λc1=>Z5 (λc2=>jz (qr _ _ (Ks.refl _) (m0.fin2 sb h1 c2))) λc2=>?_;refine jt (vx ?_)
 refine jt (ug (j7 (I:=λi c st'=>Ks st st'/\c.1=none/\In it key la lb c.2.1 c.2.2.1 c.2.2.2.1/\i+1<=c.2.2.1+c.2.2.2.1)
  (Q:=λc st'=>Ks st st'/\∃r,c.1=some r/\Res it key la lb r) ?_ ?_ ⟨Ks.refl _,rfl,⟨_,rfl,m0,by dsimp only;omega,by dsimp only;omega⟩,by dsimp only;omega⟩) ?_)
 ·rintro i ⟨ret,out,ia,ib,mg⟩ st1 _ hi ⟨ks1,r1,hin,cnt⟩;dsimp only at r1 hin cnt;dsimp -zeta -zetaHave only;subst r1
  refine jt (ug (j7 (I:=λi c st'=>Ks st st'/\c.1=none/\In it key la lb c.2.1 c.2.2.1 c.2.2.2.1/\ia+ib+i<=c.2.2.1+c.2.2.2.1)
   (Q:=λc st'=>Ks st st'/\((∃r,c.1=some r/\Res it key la lb r)\/c.1=none/\In it key la lb c.2.1 c.2.2.1 c.2.2.2.1/\ia+ib+1<=c.2.2.1+c.2.2.2.1)) ?_ ?_ ⟨ks1,rfl,hin,by show ia+ib+0<=ia+ib;omega⟩) ?_)
  ·rintro j ⟨ret,out,ja,jb,ac,bc⟩ st2 _ hj ⟨ks2,r2,⟨lo,rfl,mg2,d1,d2⟩,cnt2⟩
   dsimp only at r2 d1 d2 cnt2 mg2 ⊢
   subst r2;refine jt (Z4 d2 (jt (Z4 (by omega) (jt (Zg8 hC (ks2.kind.trans hk) (hd _ (ZW (by omega)) _ (ZW d2)) (hb _ (ZW d2)) ?_)))));dsimp only
   cases e:O.blt (key (lb.getD jb 0)) (key (la.getD ja 0)) with
   |true=>
    rw [if_pos rfl];refine jt (Z4 d2 ?_);have mg3:=mg2.stepB sb d2 λy hy=>Qx (Uf e) (sa.head hy);simp only [ZcA];by_cases c3:jb+1=lb.length
    ·rw [if_pos (by simpa using c3)];exact jz ⟨ks2,.inl ⟨_,rfl,mg3.fin1 sa sb (.inr c3)⟩⟩
    rw [if_neg (by simpa using c3)];split
    ·exact jz ⟨ks2,.inr ⟨rfl,⟨_,rfl,mg3,d1,by dsimp only;omega⟩,by show ia+ib+1<=ja+(jb+1);omega⟩⟩
    ·exact jz ⟨ks2,rfl,⟨_,rfl,mg3,d1,by dsimp only;omega⟩,by show ia+ib+(j+1)<=ja+(jb+1);omega⟩
   |false=>
    rw [if_neg Qg];refine jt (Z4 (show ja<la.length by omega) ?_);have mg3:=mg2.stepA sa (by omega) λy hy=>Qx e (sb.head hy);simp only [ZcA];by_cases c3:ja+1+1=la.length
    ·rw [if_pos (by simpa using c3)];exact jz ⟨ks2,.inl ⟨_,rfl,mg3.fin2 sb h1 c3⟩⟩
    rw [if_neg (by simpa using c3)];split
    ·exact jz ⟨ks2,.inr ⟨rfl,⟨_,rfl,mg3,by dsimp only;omega,d2⟩,by show ia+ib+1<=ja+1+jb;omega⟩⟩
    ·exact jz ⟨ks2,rfl,⟨_,rfl,mg3,by dsimp only;omega,d2⟩,by show ia+ib+(j+1)<=ja+1+jb;omega⟩
  ·rintro c st2 ⟨ks2,r2,hin2,cnt2⟩;exact ⟨ks2,.inr ⟨r2,hin2,by omega⟩⟩
  ·rintro ⟨ret,out,ja,jb,ac,bc⟩ st2 ⟨ks2,⟨r,r2,res⟩|⟨r2,hin2,cnt2⟩⟩
   ·dsimp only at r2;subst r2;exact jz ⟨ks2,r,rfl,res⟩
   dsimp only at r2 hin2 cnt2;subst r2;dsimp -zeta -zetaHave only;refine jt (vH (uD ⟨rfl,?_⟩))
   refine jt (ug (j7 (I:=λi c st'=>Ks st st'/\c.1=none/\In it key la lb c.2.1 c.2.2.1 c.2.2.2.1/\ja+jb<=c.2.2.1+c.2.2.2.1)
    (Q:=λc st'=>Ks st st'/\((∃r,c.1=some r/\Res it key la lb r)\/c.1=none/\In it key la lb c.2.1 c.2.2.1 c.2.2.2.1/\ja+jb<=c.2.2.1+c.2.2.2.1)) ?_ ?_ ⟨ks2,rfl,hin2,Qf _⟩) ?_)
   ·rintro j ⟨ret,out,ka,kb,mg3,ac3,bc3⟩ st3 _ hj ⟨ks3,r3,⟨lo,rfl,m3,d1,d2⟩,cnt3⟩;dsimp only at r3 d1 d2 cnt3 m3;subst r3;refine ZnZ λQQ hQ=>?_
    extract_lets -underBinder s1 out1 s2 ia1 s3 ib1 s4 mg1 s5 ac1 bc1 jp mgm
    refine ifJ (x:=jp ()) λmg'=>?_;dsimp -zeta -zetaHave only [jp,ia1,ib1,out1,mg1,ac1,bc1,s1,s2,s3,s4,s5];clear mgm jp bc1 ac1 s5 mg1 s4 ib1 s3 ia1 s2 out1 s1;refine jt (ZkK λst4 ks4=>jt (Z4 d2 (jt (Zds hC ha (hb _ (ZW d2)) (by omega) (by omega) (by intro i hi;exact hd _ (ZW (by omega)) _ (ZW d2)) ((ks3.trans ks4).kind.trans hk) (ZqE sa (by omega)) λk k1 k2 k3=>?_))));replace ks4:=ks3.trans ks4;have m4:=m3.outA sa k λx hx y hy=>Qx (ZjP k2 x hx) (sb.head hy);have g4:=Zm0 (by omega) k3;dsimp -zeta -zetaHave only
    extract_lets -underBinder ac2 jp out2 ia2
    have h2:∀a lo',Mg key la lb lo' a kb->ka<=a->a+1<la.length->(∀y∈la.drop a,O.kle (key (lb.getD kb 0)) (key y))->wpS (ju prog w) A E s (jp () (AL it lo') a) QQ st4:=by
     intro a lo' m4 a1 a2 g4;dsimp -zeta -zetaHave only [jp];have m5:=m4.stepB sb d2 g4;refine jt (Z4 d2 ?_)
     extract_lets -underBinder out3 ib3
     simp -zeta -zetaHave only [out3,ib3,ZcA];refine Z5 (λc6=>jz (hQ _ _ ⟨ks4,.inl ⟨_,rfl,m5.fin1 sa sb (.inr c6)⟩⟩)) λc6=>jt (Z4 (by omega) (jt (Zds hC hb (ha _ (ZW (by omega))) (by omega) (by omega) (by intro i hi;exact hd _ (ZW (by omega)) _ (ZW (by omega))) (ks4.kind.trans hk) (ZqF sb (by omega)) λv v1 v2 v3=>?_)));have m6:=m5.outB sb v λx hx y hy=>Qx (ZjP v2 x hx) (sa.head hy);have g6:=Zm0 (by omega) v3;dsimp -zeta -zetaHave only
     extract_lets -underBinder bc4 jp3 out4 ib4
     have h3:∀b lo'',Mg key la lb lo'' a b->kb+1<=b->b<lb.length->(∀y∈lb.drop b,O.kle (key (la.getD a 0)) (key y))->wpS (ju prog w) A E s (jp3 () (AL it lo'') b) QQ st4:=by
      intro b lo'' m6 b1 b2 g6;dsimp -zeta -zetaHave only [jp3];have m7:=m6.stepA sa (by omega) g6;refine jt (Z4 (by omega) ?_)
      extract_lets -underBinder out5 ia5
      simp -zeta -zetaHave only [out5,ia5,ZcA];exact Z5 (λc8=>jz (hQ _ _ ⟨ks4,.inl ⟨_,rfl,m7.fin2 sb h1 c8⟩⟩)) λc8=>YG (λ_=>jz (hQ _ _ ⟨ks4,.inr ⟨rfl,⟨_,rfl,m7,by dsimp only;omega,b2⟩,by dsimp only;omega⟩⟩)) λ_=>jz (hQ _ _ ⟨ks4,rfl,⟨_,rfl,m7,by dsimp only;omega,b2⟩,by dsimp only;omega⟩)
     clear_value jp3
     simp -zeta -zetaHave only [out4,ib4,ZgI,JY];refine YG (λvz=>Z5 (λc7=>jz (hQ _ _ ⟨ks4,.inl ⟨_,rfl,m6.fin1 sa sb (.inr c7)⟩⟩)) λc7=>h3 _ _ m6 (by omega) (by omega) g6) λvz=>?_;obtain rfl:v=0:=by omega
     rw [Q6,vk,Ul] at m6;rw [Ul] at g6;exact h3 _ _ m6 (by omega) (by omega) g6
    clear_value jp
    simp -zeta -zetaHave only [out2,ia2,ZgI,JY];refine YG (λkz=>Z5 (λc4=>jz (hQ _ _ ⟨ks4,.inl ⟨_,rfl,m4.fin2 sb h1 c4⟩⟩)) λc4=>Z5 (λc5=>jz (hQ _ _ ⟨ks4,.inl ⟨_,rfl,m4.fin1 sa sb (.inl c5)⟩⟩)) λc5=>h2 _ _ m4 (by omega) (by omega) g4) λkz=>?_;obtain rfl:k=0:=by omega
    rw [Q6,vk,Ul] at m4;rw [Ul] at g4;exact h2 _ _ m4 (Qf _) d1 g4
   ·rintro c st3 ⟨ks3,r3,hin3,cnt3⟩;exact ⟨ks3,.inr ⟨r3,hin3,cnt3⟩⟩
   ·rintro ⟨ret,out,ka,kb,mg,ac,bc⟩ st3 ⟨ks3,⟨r,r3,res⟩|⟨r3,hin3,cnt3⟩⟩
    ·dsimp only at r3;subst r3;exact jz ⟨ks3,r,rfl,res⟩
    dsimp only at r3 hin3 cnt3;subst r3;dsimp only;refine jt (vf (jz ⟨ks3.trans ⟨rfl,rfl,rfl,rfl⟩,rfl,hin3,?_⟩));show i+1+1<=ka+kb;omega
 ·rintro ⟨ret,out,ia,ib,mg⟩ st' ⟨_,_,⟨lo,_,_,d1,d2⟩,cnt⟩;dsimp only at d1 d2 cnt;omega
 ·rintro ⟨ret,out,ia,ib,mg⟩ st' ⟨ks,r,r1,res⟩;dsimp only at r1;subst r1;exact jz (qr r st' ks res)
end
end LB
namespace LB
open PySem PySem.W PyProof.Rows
section
variable {prog:jx} {w:jG} {A:Around} {E:Value->jn->Prop} {s:jn} {κ:uA} {it:Array uB} {O:ve} {key:Nat->O.α} {n:Nat}
structure Mh (key:Nat->O.α) (la lb:List Nat) (hi:List Nat) (na nb:Nat):Prop where
 srt:Srt key hi
 lea:∀x∈hi,∀y∈la.take na,O.kle (key y) (key x)
 leb:∀x∈hi,∀y∈lb.take nb,O.kle (key y) (key x)
 perm:(la.take na++(lb.take nb++hi)).Perm (la++lb)
section
variable {la lb hi:List Nat} {na nb:Nat}
theorem ZiV {l:List Nat} {j m:Nat} (h:j<=m):l.take j++(l.drop j).take (m-j)=l.take m:=by have e:=QP j (l.take m);rw [WX,show min j m=j by omega] at e;rw [List.take_drop,show j+(m-j)=m by omega];exact e
theorem Mh.outA (h:Mh key la lb hi na nb) (sa:Srt key la) {j:Nat} (hj:j<=na) (hh:∀x∈(la.drop j).take (na-j),∀y∈lb.take nb,O.kle (key y) (key x)):Mh key la lb ((la.drop j).take (na-j)++hi) j nb:=by
 have e:=ZiV (l:=la) hj;have sd:Srt key (la.take j++(la.drop j).take (na-j)):=by rw [e];exact sa.sub (Uz _ _)
 obtain ⟨s1,s2,s3⟩:=UC.mp sd;refine ⟨Srt.app s2 h.srt λx hx y hy=>h.lea y hy x (by rw [<-e];exact jB _ hx),λx hx y hy=>?_,λx hx y hy=>?_,?_⟩
 ·rcases jN.mp hx with hx|hx
  ·exact s3 y hy x hx
  ·exact h.lea x hx y (by rw [<-e];exact uw _ hy)
 ·rcases jN.mp hx with hx|hx
  ·exact hh x hx y hy
  ·exact h.leb x hx y hy
 ·refine List.Perm.trans ?_ h.perm;rw [<-e,j6];refine List.Perm.append_left _ ?_;rw [<-j6,<-j6];exact List.Perm.append_right _ UT
theorem Mh.outB (h:Mh key la lb hi na nb) (sb:Srt key lb) {j:Nat} (hj:j<=nb) (hh:∀x∈(lb.drop j).take (nb-j),∀y∈la.take na,O.kle (key y) (key x)):Mh key la lb ((lb.drop j).take (nb-j)++hi) na j:=by
 have e:=ZiV (l:=lb) hj;have sd:Srt key (lb.take j++(lb.drop j).take (nb-j)):=by rw [e];exact sb.sub (Uz _ _)
 obtain ⟨s1,s2,s3⟩:=UC.mp sd;refine ⟨Srt.app s2 h.srt λx hx y hy=>h.leb y hy x (by rw [<-e];exact jB _ hx),λx hx y hy=>?_,λx hx y hy=>?_,?_⟩
 ·rcases jN.mp hx with hx|hx
  ·exact hh x hx y hy
  ·exact h.lea x hx y hy
 ·rcases jN.mp hx with hx|hx
  ·exact s3 y hy x hx
  ·exact h.leb x hx y (by rw [<-e];exact uw _ hy)
 ·refine List.Perm.trans (List.Perm.of_eq ?_) h.perm;rw [<-e,j6]
theorem Zks {l:List Nat} {m:Nat} (h:m<=l.length) (h0:0<m):(l.drop (m-1)).take (m-(m-1))=[l.getD (m-1) 0]:=by rw [show m-(m-1)=1 by omega,Zea (by omega)]
theorem Mh.stepA (h:Mh key la lb hi na nb) (sa:Srt key la) (h1:na<=la.length) (h0:0<na) (hh:∀y∈lb.take nb,O.kle (key y) (key (la.getD (na-1) 0))):Mh key la lb (la.getD (na-1) 0::hi) (na-1) nb:=by
 have:=h.outA sa (j:=na-1) (by omega) λx hx=>by rw [Zks h1 h0] at hx;rw [jC.mp hx];exact hh
 rwa [Zks h1 h0] at this
theorem Mh.stepB (h:Mh key la lb hi na nb) (sb:Srt key lb) (h1:nb<=lb.length) (h0:0<nb) (hh:∀y∈la.take na,O.kle (key y) (key (lb.getD (nb-1) 0))):Mh key la lb (lb.getD (nb-1) 0::hi) na (nb-1):=by
 have:=h.outB sb (j:=nb-1) (by omega) λx hx=>by rw [Zks h1 h0] at hx;rw [jC.mp hx];exact hh
 rwa [Zks h1 h0] at this
theorem Zcz (l:List Nat) (m:Nat):(AL it l).extract 0 m=AL it (l.take m):=by rw [ZeF,Uc,VI]
theorem Mh.fin1 (h:Mh key la lb hi na nb) (sa:Srt key la) (sb:Srt key lb) (hn:na=0\/nb=0):Res it key la lb ((AL it la).extract 0 na++(AL it lb).extract 0 nb++(AL it hi.reverse).reverse):=by
 rw [Zcz,Zcz,Zi0,Wx,JY,JY,j6];refine ⟨_,rfl,h.perm,?_⟩;rcases hn with rfl|rfl
 ·rw [Q6,uJ];exact (sb.sub (Uz _ _)).app h.srt λx hx y hy=>h.leb y hy x hx
 ·rw [Q6,uJ];exact (sa.sub (Uz _ _)).app h.srt λx hx y hy=>h.lea y hy x hx
theorem Mh.fin2 (h:Mh key la lb hi na nb) (sa:Srt key la) (h0:∀y∈la,O.kle (key (lb.getD 0 0)) (key y)) (lb0:0<lb.length) (hn:nb=1):Res it key la lb ((AL it lb).extract 0 nb++(AL it la).extract 0 na++(AL it hi.reverse).reverse):=by
 rw [Zcz,Zcz,Zi0,Wx,JY,JY];subst hn;refine ⟨_,rfl,?_,?_⟩
 ·refine List.Perm.trans ?_ h.perm;rw [<-j6];exact List.Perm.append_right _ UT
 ·have e:lb.take 1=[lb.getD 0 0]:=by have:=Zea lb0;rwa [Uc] at this
  rw [j6];rw [e];refine Srt.app (Wh _ _) ((sa.sub (Uz _ _)).app h.srt λx hx y hy=>h.lea y hy x hx) λx hx y hy=>?_;rw [jC.mp hx];rcases jN.mp hy with hy|hy
  ·exact h0 y (Q7 hy)
  ·exact h.leb y hy _ (by rw [e];exact jC.mpr rfl)
theorem ZnW {l:List Nat} {m y:Nat} (h:y∈l.take m):∃j,j<l.length/\j<m/\y=l.getD j 0:=by
 have:y∈(l.drop 0).take m:=by rwa [Uc]
 obtain ⟨j,_,j2,j3,e⟩:=ZaV this;exact ⟨j,j2,by omega,e⟩
theorem Srt.last {l:List Nat} (h:Srt key l) {m y:Nat} (hm:m<=l.length) (hy:y∈l.take m):O.kle (key y) (key (l.getD (m-1) 0)):=by obtain ⟨j,j1,j2,rfl⟩:=ZnW hy;exact h.get (by omega) (by omega)
theorem ZkP {left:Bool} {l:List Nat} {x k:Nat} (h:∀i,i<k->bey key left x (l.getD (0+i) 0)=true) (y:Nat) (hy:y∈l.take k):O.kle (key y) (key x):=ZjP h y (by rwa [Uc])
theorem ZqD {left:Bool} {l:List Nat} {x k m:Nat} (h:∀i,k<=i->i<m->bey key left x (l.getD (0+i) 0)=false) (y:Nat) (hy:y∈(l.drop k).take (m-k)):O.kle (key x) (key y):=by obtain ⟨i,i1,i2,i3,rfl⟩:=ZaV hy;have:=ZgP (h i i1 (by omega));rwa [VH] at this
theorem ZcB (h:List Nat) (x:Nat):(AL it h.reverse).push (ul it x)=AL it (x::h).reverse:=by rw [ZcA,List.reverse_cons]
theorem ZjV (h l:List Nat) (i j:Nat):AL it h.reverse++((AL it l).extract i j).reverse=AL it ((l.drop i).take (j-i)++h).reverse:=by rw [ZeF,Zi0,JY,List.reverse_append]
end
noncomputable def Ih (it:Array uB) (key:Nat->O.α) (la lb:List Nat) (out:Array uB) (na nb:Nat):Prop:=∃hi,out=AL it hi.reverse/\Mh key la lb hi na nb/\1<=na/\na<=la.length/\2<=nb/\nb<=lb.length
theorem ZrU (hC:ZhF prog w A s κ it key n) {la lb:List Nat} (ha:∀y∈la,y<n) (hb:∀y∈lb,y<n) (sa:Srt key la) (sb:Srt key lb) (na:la≠[]) (nb:lb≠[]) (hd:∀x∈la,∀y∈lb,x<y)
 (h0:∀y∈la,O.kle (key (lb.getD 0 0)) (key y)) (h1:∀y∈lb,O.kle (key y) (key (la.getD (la.length-1) 0))) {st:jH} (hk:kindOf st=κ) {Q:Array uB->jH->Prop}
 (q:∀m st',Ks st st'->m.Perm (la++lb)->Srt key m->Q (AL it m) st'):wpS (ju prog w) A E s (mhi (AL it la) (AL it lb)) Q st:=by
 unfold mhi;have la0:0<la.length:=vY.mpr na;have lb0:0<lb.length:=vY.mpr nb;have qr:∀r st',Ks st st'->Res it key la lb r->Q r st':=λr st' ks ⟨m,e,p,sm⟩=>e▸q m st' ks p sm;have m0:Mh key la lb [la.getD (la.length-1) 0] (la.length-1) lb.length:=by refine Mh.stepA (key:=key) (la:=la) (lb:=lb) (hi:=[]) (na:=la.length) (nb:=lb.length) ⟨List.Pairwise.nil,(λx hx=>by cases hx),(λx hx=>by cases hx),?_⟩ sa (Qf _) la0 (by rw [QG];exact h1);rw [QG,QG,vk]
 refine jt (vH (uD ⟨rfl,?_⟩));simp -zeta -zetaHave only [JP];refine jt (Z4 (by omega) ?_);simp -zeta -zetaHave only [Zl2];rw [show [la.getD (la.length-1) 0]=[la.getD (la.length-1) 0].reverse from rfl];refine Z5 (λc1=>jz (qr _ _ (Ks.refl _) (m0.fin1 sa sb (.inl c1)))) λc1=>Z5 (λc2=>jz (qr _ _ (Ks.refl _) (m0.fin2 sa h0 lb0 c2))) λc2=>?_;refine jt (vx ?_)
 refine jt (ug (j7 (I:=λi c st'=>Ks st st'/\c.1=none/\Ih it key la lb c.2.2.2.1 c.2.1 c.2.2.1/\c.2.1+c.2.2.1+i+1<=la.length+lb.length)
  (Q:=λc st'=>Ks st st'/\∃r,c.1=some r/\Res it key la lb r) ?_ ?_ ⟨Ks.refl _,rfl,⟨_,rfl,m0,by dsimp only;omega,by dsimp only;omega,by dsimp only;omega,by dsimp only;omega⟩,by dsimp only;omega⟩) ?_)
 ·rintro i ⟨ret,ia,ib,out,mg⟩ st1 _ hi ⟨ks1,r1,hin,cnt⟩;dsimp only at r1 hin cnt;dsimp -zeta -zetaHave only;subst r1
  refine jt (ug (j7 (I:=λi c st'=>Ks st st'/\c.1=none/\Ih it key la lb c.2.2.2.1 c.2.1 c.2.2.1/\c.2.1+c.2.2.1+i<=ia+ib)
   (Q:=λc st'=>Ks st st'/\((∃r,c.1=some r/\Res it key la lb r)\/c.1=none/\Ih it key la lb c.2.2.2.1 c.2.1 c.2.2.1/\c.2.1+c.2.2.1+1<=ia+ib)) ?_ ?_ ⟨ks1,rfl,hin,by dsimp only;omega⟩) ?_)
  ·rintro j ⟨ret,ja,jb,out,ac,bc⟩ st2 _ hj ⟨ks2,r2,⟨hi,rfl,mg2,d1,d2,d3,d4⟩,cnt2⟩
   dsimp only at r2 d1 d2 d3 d4 cnt2 mg2 ⊢
   subst r2;refine jt (Z4 (by omega) (jt (Z4 (by omega) (jt (Zg8 hC (ks2.kind.trans hk) (hd _ (ZW (by omega)) _ (ZW (by omega))) (hb _ (ZW (by omega))) ?_)))));dsimp only
   cases e:O.blt (key (lb.getD (jb-1) 0)) (key (la.getD (ja-1) 0)) with
   |true=>
    rw [if_pos rfl];refine jt (Z4 (show ja-1<la.length by omega) ?_);have mg3:=mg2.stepA sa d2 d1 λy hy=>Qx (sb.last d4 hy) (Uf e);simp only [ZcB];refine Z5 (λc3=>jz ⟨ks2,.inl ⟨_,rfl,mg3.fin1 sa sb (.inl c3)⟩⟩) λc3=>YG (λ_=>jz ⟨ks2,.inr ⟨rfl,⟨_,rfl,mg3,by dsimp only;omega,by dsimp only;omega,d3,d4⟩,by dsimp only;omega⟩⟩) λ_=>jz ⟨ks2,rfl,⟨_,rfl,mg3,by dsimp only;omega,by dsimp only;omega,d3,d4⟩,by dsimp only;omega⟩
   |false=>
    rw [if_neg Qg];refine jt (Z4 (show jb-1<lb.length by omega) ?_);have mg3:=mg2.stepB sb d4 (by omega) λy hy=>Qx (sa.last d2 hy) e;simp only [ZcB];refine Z5 (λc3=>jz ⟨ks2,.inl ⟨_,rfl,mg3.fin2 sa h0 lb0 c3⟩⟩) λc3=>YG (λ_=>jz ⟨ks2,.inr ⟨rfl,⟨_,rfl,mg3,d1,d2,by dsimp only;omega,by dsimp only;omega⟩,by dsimp only;omega⟩⟩) λ_=>jz ⟨ks2,rfl,⟨_,rfl,mg3,d1,d2,by dsimp only;omega,by dsimp only;omega⟩,by dsimp only;omega⟩
  ·rintro c st2 ⟨ks2,r2,hin2,cnt2⟩;exact ⟨ks2,.inr ⟨r2,hin2,by omega⟩⟩
  ·rintro ⟨ret,ja,jb,out,ac,bc⟩ st2 ⟨ks2,⟨r,r2,res⟩|⟨r2,hin2,cnt2⟩⟩
   ·dsimp only at r2;subst r2;exact jz ⟨ks2,r,rfl,res⟩
   dsimp only at r2 hin2 cnt2;subst r2;dsimp -zeta -zetaHave only;refine jt (vH (uD ⟨rfl,?_⟩))
   refine jt (ug (j7 (I:=λi c st'=>Ks st st'/\c.1=none/\Ih it key la lb c.2.2.2.1 c.2.1 c.2.2.1/\c.2.1+c.2.2.1<=ja+jb)
    (Q:=λc st'=>Ks st st'/\((∃r,c.1=some r/\Res it key la lb r)\/c.1=none/\Ih it key la lb c.2.2.2.1 c.2.1 c.2.2.1/\c.2.1+c.2.2.1<=ja+jb)) ?_ ?_ ⟨ks2,rfl,hin2,Qf _⟩) ?_)
   ·rintro j ⟨ret,ka,kb,out,mg3,ac3,bc3⟩ st3 _ hj ⟨ks3,r3,⟨hi,rfl,m3,d1,d2,d3,d4⟩,cnt3⟩;dsimp only at r3 d1 d2 d3 d4 cnt3 m3;subst r3;refine ZnZ λQQ hQ=>?_
    extract_lets -underBinder s1 na1 s2 nb1 s3 out1 s4 mg1 s5 ac1 bc1 jp mgm
    refine ifJ (x:=jp ()) λmg'=>?_;dsimp -zeta -zetaHave only [jp,na1,nb1,out1,mg1,ac1,bc1,s1,s2,s3,s4,s5];clear mgm jp bc1 ac1 s5 mg1 s4 out1 s3 nb1 s2 na1 s1;refine jt (ZkK λst4 ks4=>jt (Z4 (by omega) (jt (Zds hC ha (hb _ (ZW (by omega))) (by omega) (by omega) (by intro i hi;exact hd _ (ZW (by omega)) _ (ZW (by omega))) ((ks3.trans ks4).kind.trans hk) (ZqE sa (by omega)) λk k1 k2 k3=>?_))));replace ks4:=ks3.trans ks4;have m4:=m3.outA sa k1 λx hx y hy=>Qx (sb.last d4 hy) (ZqD k3 x hx);have g4:=ZkP k2;dsimp -zeta -zetaHave only
    extract_lets -underBinder kk ac2 jp out2 na2
    have h2:∀a hi',Mh key la lb hi' a kb->1<=a->a<=ka->(∀y∈la.take a,O.kle (key y) (key (lb.getD (kb-1) 0)))->wpS (ju prog w) A E s (jp () a (AL it hi'.reverse)) QQ st4:=by
     intro a hi' m4 a1 a2 g4;dsimp -zeta -zetaHave only [jp]
     extract_lets -underBinder nb2
     dsimp -zeta -zetaHave only [nb2];have m5:=m4.stepB sb d4 (by omega) g4;refine jt (Z4 (by omega) ?_)
     extract_lets -underBinder out3
     simp -zeta -zetaHave only [out3,nb2,ZcB];refine Z5 (λc6=>jz (hQ _ _ ⟨ks4,.inl ⟨_,rfl,m5.fin2 sa h0 lb0 c6⟩⟩)) λc6=>jt (Z4 (by omega) (jt (Zds hC hb (ha _ (ZW (by omega))) (by omega) (by omega) (by intro i hi;exact hd _ (ZW (by omega)) _ (ZW (by omega))) (ks4.kind.trans hk) (ZqF sb (by omega)) λv v1 v2 v3=>?_)));have m6:=m5.outB sb v1 λx hx y hy=>Qx (sa.last (by omega) hy) (ZqD v3 x hx);have g6:=ZkP v2;dsimp -zeta -zetaHave only
     extract_lets -underBinder k4 bc4 jp3 out4 nb4
     have h3:∀b hi'',Mh key la lb hi'' a b->2<=b->b+1<=kb->(∀y∈lb.take b,O.kle (key y) (key (la.getD (a-1) 0)))->wpS (ju prog w) A E s (jp3 () b (AL it hi''.reverse)) QQ st4:=by
      intro b hi'' m6 b1 b2 g6;dsimp -zeta -zetaHave only [jp3]
      extract_lets -underBinder na5
      dsimp -zeta -zetaHave only [na5];have m7:=m6.stepA sa (by omega) a1 g6;refine jt (Z4 (by omega) ?_)
      extract_lets -underBinder out5
      simp -zeta -zetaHave only [out5,na5,ZcB];exact Z5 (λc8=>jz (hQ _ _ ⟨ks4,.inl ⟨_,rfl,m7.fin1 sa sb (.inl c8)⟩⟩)) λc8=>YG (λ_=>jz (hQ _ _ ⟨ks4,.inr ⟨rfl,⟨_,rfl,m7,by dsimp only;omega,by dsimp only;omega,b1,by dsimp only;omega⟩,by dsimp only;omega⟩⟩)) λ_=>jz (hQ _ _ ⟨ks4,rfl,⟨_,rfl,m7,by dsimp only;omega,by dsimp only;omega,b1,by dsimp only;omega⟩,by dsimp only;omega⟩)
     clear_value jp3
     simp -zeta -zetaHave only [k4,out4,nb4,ZjV];refine YG (λvz=>Z5 (λc7=>jz (hQ _ _ ⟨ks4,.inl ⟨_,rfl,m6.fin2 sa h0 lb0 c7⟩⟩)) λc7=>Z5 (λc8=>jz (hQ _ _ ⟨ks4,.inl ⟨_,rfl,m6.fin1 sa sb (.inr c8)⟩⟩)) λc8=>h3 _ _ m6 (by omega) (by omega) g6) λvz=>?_;obtain rfl:v=kb-1:=by omega
     rw [UQ,Q6,uJ] at m6;exact h3 _ _ m6 (by omega) (by omega) g6
    clear_value jp
    simp -zeta -zetaHave only [kk,out2,na2,ZjV];refine YG (λkz=>Z5 (λc4=>jz (hQ _ _ ⟨ks4,.inl ⟨_,rfl,m4.fin1 sa sb (.inl c4)⟩⟩)) λc4=>h2 _ _ m4 (by omega) k1 g4) λkz=>?_;obtain rfl:k=ka:=by omega
    rw [UQ,Q6,uJ] at m4;exact h2 _ _ m4 d1 (Qf _) g4
   ·rintro c st3 ⟨ks3,r3,hin3,cnt3⟩;exact ⟨ks3,.inr ⟨r3,hin3,cnt3⟩⟩
   ·rintro ⟨ret,ka,kb,out,mg,ac,bc⟩ st3 ⟨ks3,⟨r,r3,res⟩|⟨r3,hin3,cnt3⟩⟩
    ·dsimp only at r3;subst r3;exact jz ⟨ks3,r,rfl,res⟩
    dsimp only at r3 hin3 cnt3;subst r3;dsimp only;refine jt (vf (jz ⟨ks3.trans ⟨rfl,rfl,rfl,rfl⟩,rfl,hin3,?_⟩));dsimp only;omega
 ·rintro ⟨ret,ia,ib,out,mg⟩ st' ⟨_,_,⟨lo,_,_,d1,d2,d3,d4⟩,cnt⟩;dsimp only at d1 d2 d3 d4 cnt;omega
 ·rintro ⟨ret,ia,ib,out,mg⟩ st' ⟨ks,r,r1,res⟩;dsimp only at r1;subst r1;exact jz (qr r st' ks res)
end
end LB
namespace LB
open PySem PySem.W PyProof.Rows
section
variable {prog:jx} {w:jG} {A:Around} {E:Value->jn->Prop} {s:jn} {κ:uA} {it:Array uB} {O:ve} {key:Nat->O.α} {n:Nat}
noncomputable def Sg (key:Nat->O.α) (l:List Nat) (a b:Nat):Prop:=∀i j,a<=i->i<=j->j<b->O.kle (key (l.getD i 0)) (key (l.getD j 0))
theorem Zer {l:List Nat} {a m i:Nat} (hi:i<m):((l.drop a).take m).getD i 0=l.getD (a+i) 0:=by rw [Qb,Qb,U5,if_pos hi,Ur]
theorem Sg.srt {l:List Nat} {a m:Nat} (h:Sg key l a (a+m)):Srt key ((l.drop a).take m):=by refine Ue.mpr λi j hi hj hij=>?_;rw [jF,jO] at hi hj;have:=h (a+i) (a+j) (by omega) (by omega) (by omega);rw [U8,U8,U9,U9];rw [Qb,Qb,Qd (show a+i<l.length by omega),Qd (show a+j<l.length by omega)] at this;exact this
structure Gd (κ:uA) (it:Array uB) (n:Nat) (st:jH) (l:List Nat) (ps:List (Nat×Nat×Nat)):Prop where
 kind:kindOf st=κ
 fail:vD st=none
 arr:vR st=AL it l
 pend:uC st=ps.toArray
 perm:l.Perm (Qj n)
theorem Gd.len {st:jH} {l:List Nat} {ps:List (Nat×Nat×Nat)} (h:Gd κ it n st l ps):l.length=n:=by rw [h.perm.length_eq,uP]
theorem Gd.lt {st:jH} {l:List Nat} {ps:List (Nat×Nat×Nat)} (h:Gd κ it n st l ps):∀y∈l,y<n:=λy hy=>QB.mp (h.perm.mem_iff.mp hy)
noncomputable def Own (l:List Nat) (a b:Nat):Prop:=∀i,a<=i->i<b->a<=l.getD i 0/\l.getD i 0<b
noncomputable def Ym (key:Nat->O.α) (l:List Nat):List (Nat×Nat×Nat)->Nat->Nat->Prop
 |[],a,b=>a=b
 |p::r,a,b=>p.1=a/\1<=p.2.1/\(Sg key l a (a+p.2.1)/\Own l a (a+p.2.1))/\Ym key l r (a+p.2.1) b
theorem Ym.app {l:List Nat}:∀{x y:List (Nat×Nat×Nat)} {a b:Nat},Ym key l (x++y) a b↔∃m,Ym key l x a m/\Ym key l y m b
 |[],y,a,b=>⟨λh=>⟨a,rfl,h⟩,λ⟨m,e,h⟩=>by rw [show a=m from e];exact h⟩
 |p::x,y,a,b=>by refine ⟨λ⟨h1,h2,h3,h4⟩=>?_,λ⟨m,⟨h1,h2,h3,h4⟩,h5⟩=>⟨h1,h2,h3,Ym.app.mpr ⟨m,h4,h5⟩⟩⟩;obtain ⟨m,h5,h6⟩:=Ym.app.mp h4;exact ⟨m,⟨h1,h2,h3,h5⟩,h6⟩
theorem Ym.le {l:List Nat}:∀{x:List (Nat×Nat×Nat)} {a b:Nat},Ym key l x a b->a<=b
 |[],a,b,h=>VL h
 |p::x,a,b,⟨_,_,_,h⟩=>by have:=h.le;omega
theorem Ym.congr {l l':List Nat}:∀{x:List (Nat×Nat×Nat)} {a b:Nat},(∀i,a<=i->i<b->l'.getD i 0=l.getD i 0)->Ym key l x a b->Ym key l' x a b
 |[],a,b,_,h=>h
 |p::x,a,b,e,⟨h1,h2,h3,h4⟩=>by
  have:=h4.le;refine ⟨h1,h2,⟨λi j hi hij hj=>?_,λi hi hj=>?_⟩,Ym.congr (λi hi=>e i (by omega)) h4⟩
  ·rw [e i hi (by omega),e j (by omega) (by omega)];exact h3.1 i j hi hij hj
  ·rw [e i hi (by omega)];exact h3.2 i hi hj
theorem ZhL (c:Nat):∀(xs:List uB) (k:Nat) (arr:Array uB),c+k+xs.length<=arr.size->∀j:Nat,((xs.zipIdx k).foldl (λa (p:uB×Nat)=>a.setIfInBounds (c+p.2) p.1) arr)[j]?=if c+k<=j/\j<c+k+xs.length then xs[j-(c+k)]? else arr[j]?
 |[],k,arr,h,j=>by rw [if_neg (by rw [ua];omega)];rfl
 |x::xs,k,arr,h,j=>by
  rw [jD] at h;have:=ZhL c xs (k+1) (arr.setIfInBounds (c+k) x) (by rw [Array.size_setIfInBounds];omega) j;rw [List.zipIdx_cons,WV];refine this.trans ?_;rw [jD];by_cases h1:j=c+k
  ·subst h1;rw [if_neg (by omega),if_pos (by omega),VV,if_pos rfl,UQ];simp;omega
  ·by_cases h2:c+(k+1)<=j/\j<c+(k+1)+xs.length
   ·rw [if_pos h2,if_pos (by omega),show j-(c+k)=(j-(c+(k+1)))+1 by omega,Vh]
   ·rw [if_neg h2,if_neg (by omega),VV,if_neg (by omega)]
noncomputable def Ze0 (l m:List Nat) (c:Nat):List Nat:=l.take c++(m++l.drop (c+m.length))
theorem Zo3 {l m:List Nat} {c:Nat} (h:c+m.length<=l.length):(((m.map (ul it)).zipIdx 0).foldl (λa (p:uB×Nat)=>a.setIfInBounds (c+p.2) p.1) (AL it l))=AL it (Ze0 l m c):=by
 apply WF;intro j;rw [ZhL c _ 0 _ (by rw [jr,JP];omega) j,jr,Ul];unfold AL Ze0;rw [UU,UU,Qh,Qh,Qh];by_cases h1:c<=j/\j<c+m.length
 ·rw [if_pos h1,Qt (by rw [jF];omega),jF,show min c l.length=c by omega,QA (by omega)]
 ·rw [if_neg h1];by_cases h2:j<c
  ·rw [QA (by rw [jF];omega),U5,if_pos h2]
  ·rw [Qt (by rw [jF];omega),jF,show min c l.length=c by omega,Qt (by omega),Ur,show c+m.length+(j-c-m.length)=j by omega]
theorem J4 {l m:List Nat} {c i:Nat} (h:c+m.length<=l.length):(Ze0 l m c).getD i 0=if c<=i/\i<c+m.length then m.getD (i-c) 0 else l.getD i 0:=by
 unfold Ze0;rw [Qb];by_cases h1:c<=i/\i<c+m.length
 ·rw [if_pos h1,Qt (by rw [jF];omega),jF,show min c l.length=c by omega,QA (by omega),Qb]
 ·rw [if_neg h1,Qb];by_cases h2:i<c
  ·rw [QA (by rw [jF];omega),U5,if_pos h2]
  ·rw [Qt (by rw [jF];omega),jF,show min c l.length=c by omega,Qt (by omega),Ur,show c+m.length+(i-c-m.length)=i by omega]
theorem Zdn {l m:List Nat} {c:Nat} (h:m.Perm ((l.drop c).take m.length)):(Ze0 l m c).Perm l:=by
 unfold Ze0;have e:l=l.take c++((l.drop c).take m.length++l.drop (c+m.length)):=by rw [<-UP,QP,QP]
 exact List.Perm.trans (List.Perm.append_left _ (List.Perm.append_right _ h)) (List.Perm.of_eq e.symm)
theorem Zqm {M:uI} {x st:jH} {Q:PUnit->jH->Prop} (h:Q ⟨⟩ x):wpS M A E s (set x:StateT jH Sem PUnit) Q st:=by unfold wpS;rw [StateT.run_set];exact jq ⟨rfl,h⟩
theorem ZsO {M:uI} {x st:jH} {l:List Nat} {ps:List (Nat×Nat×Nat)} {Q:PUnit->jH->Prop} (hx:Gd κ it n x l ps) (h:∀st1,Gd κ it n st1 l ps->Q ⟨⟩ st1):wpS M A E s (set x:StateT jH Sem PUnit) Q st:=Zqm (h x hx)
theorem ZrW {M:uI} {f:jH->jH} {st:jH} {l:List Nat} {ps:List (Nat×Nat×Nat)} {Q:PUnit->jH->Prop} (hx:Gd κ it n (f st) l ps) (h:∀st1,Gd κ it n st1 l ps->Q ⟨⟩ st1):wpS M A E s (modify f:StateT jH Sem PUnit) Q st:=vf (h _ hx)
theorem Gd.ks {st st':jH} {l:List Nat} {ps:List (Nat×Nat×Nat)} (h:Gd κ it n st l ps) (k:Ks st st'):Gd κ it n st' l ps:=⟨k.kind.trans h.kind,k.fail.trans h.fail,k.arr.trans h.arr,k.pend.trans h.pend,h.perm⟩
theorem Zjr (hC:ZhF prog w A s κ it key n) {st:jH} {l:List Nat} {pre post:List (Nat×Nat×Nat)} {sa na p sb nb r e:Nat} (hG:Gd κ it n st l (pre++(sa,na,p)::(sb,nb,r)::post)) (he:e<=n) (hR:Ym key l (pre++(sa,na,p)::(sb,nb,r)::post) 0 e)
 {Q:Bool->jH->Prop} (q:∀st' l',Gd κ it n st' l' (pre++(sa,na+nb,p)::post)->(∀i,e<=i->l'.getD i 0=l.getD i 0)->Ym key l' (pre++(sa,na+nb,p)::post) 0 e->Q true st'):wpS (ju prog w) A E s (mergeAt' pre.length) Q st:=by
 unfold mergeAt';have hln:=hG.len;have hlt:=hG.lt;obtain ⟨x,R1,rfl,a1,⟨S1,W1⟩,rfl,b1,⟨S2,W2⟩,R2⟩:=Ym.app.mp hR;dsimp only at a1 S1 W1 b1 S2 W2 R2 hG R1;have he2:=R2.le
 have fin:∀l',(∀i,¬(sa<=i/\i<sa+na+nb)->l'.getD i 0=l.getD i 0)->Sg key l' sa (sa+na+nb)->Own l' sa (sa+na+nb)->Ym key l' (pre++(sa,na+nb,p)::post) 0 e:=λl' h1 h2 h2'=>by
  refine Ym.app.mpr ⟨sa,R1.congr λi _ hi=>h1 i (by omega),rfl,by show 1<=na+nb;omega,?_,?_⟩
  ·show Sg key l' sa (sa+(na+nb))/\Own l' sa (sa+(na+nb));rw [<-Wg];exact ⟨h2,h2'⟩
  ·show Ym key l' post (sa+(na+nb)) e;rw [<-Wg];exact R2.congr λi hi _=>h1 i (by omega)
 refine jt (vx ?_);have e1:(uC st)[pre.length]?=some (sa,na,p):=by rw [hG.pend];simp
 have e2:(uC st)[pre.length+1]?=some (sa+na,nb,r):=by rw [hG.pend];simp
 rw [e1,e2];dsimp only;have ea:=hG.arr;unfold vR at ea;refine jt (ZsO (κ:=κ) (it:=it) (n:=n) (l:=l) (ps:=pre++(sa,na+nb,p)::post) ⟨hG.kind,hG.fail,hG.arr,?_,hG.perm⟩ λst1 G1=>?_)
 ·show ((uC st).setIfInBounds pre.length (sa,na+nb,p)).eraseIdxIfInBounds (pre.length+1)=_;rw [hG.pend];simp [List.eraseIdx_append_of_length_le]
 rw [ea]
 have mono:∀{left:Bool} {b m x:Nat},Sg key l b (b+m)->∀i j,i<=j->j<m->bey key left x (l.getD (b+j) 0)=true->bey key left x (l.getD (b+i) 0)=true:=λ{left b m x} S i j hij hj h=>by
  have g:=S (b+i) (b+j) (by omega) (by omega) (by omega)
  cases left with
  |true=>
   rcases O.negTrans _ (key (l.getD (b+i) 0)) _ (show O.blt (key (l.getD (b+j) 0)) (key x)=true from h) with w|w
   ·rw [show O.blt (key (l.getD (b+j) 0)) (key (l.getD (b+i) 0))=false from g] at w;cases w
   ·exact w
  |false=>
   have h:(!O.blt (key x) (key (l.getD (b+j) 0)))=true:=h;show (!O.blt (key x) (key (l.getD (b+i) 0)))=true
   rw [QR] at h ⊢
   exact Qx g h
 have W0:Own l sa (sa+na+nb):=λi h1 h2=>by
  by_cases c:i<sa+na
  ·have:=W1 i h1 c;omega
  ·have:=W2 i (by omega) h2;omega
 have gm:∀i,i<n->l.getD i 0<n:=λi hi=>hlt _ (ZW (by omega));refine jt (Z4 (by omega) (jt (Zds hC hlt (gm _ (by omega)) (by omega) (by omega) (by intro i hi;exact Ql (W1 (sa+i) (by omega) (by omega)).2 (W2 (sa+na) (by omega) (by omega)).1) G1.kind (mono S1) λk k1 k2 k3=>?_)));dsimp only;have k2':∀i,sa<=i->i<sa+k->O.kle (key (l.getD i 0)) (key (l.getD (sa+na) 0)):=λi h1 h2=>by have:=Zi4 (k2 (i-sa) (by omega));rwa [show sa+(i-sa)=i by omega] at this
 have k3':∀i,sa+k<=i->i<sa+na->O.kle (key (l.getD (sa+na) 0)) (key (l.getD i 0)):=λi h1 h2=>by have:=ZgP (k3 (i-sa) (by omega) (by omega));rwa [show sa+(i-sa)=i by omega] at this
 refine Z5 (λc1=>jz (q st1 l G1 (λ_ _=>rfl) (fin l (λ_ _=>rfl) (λi j h1 h2 h3=>?_) W0))) λc1=>?_
 ·by_cases c:j<sa+na
  ·exact S1 i j h1 h2 c
  ·by_cases c':i<sa+na
   ·exact Qx (k2' i h1 (by omega)) (S2 _ j (Qf _) (by omega) h3)
   ·exact S2 i j (by omega) h2 h3
 rw [show sa+k+(na-k)-1=sa+na-1 by omega];refine jt (Z4 (by omega) (jt (Zds hC hlt (gm _ (by omega)) (by omega) (by omega) (by intro i hi;exact Ql (W1 (sa+na-1) (by omega) (by omega)).2 (W2 (sa+na+i) (by omega) (by omega)).1) G1.kind (mono S2) λv v1 v2 v3=>?_)));dsimp only;have v2':∀i,sa+na<=i->i<sa+na+v->O.kle (key (l.getD i 0)) (key (l.getD (sa+na-1) 0)):=λi h1 h2=>by have:=Zi4 (v2 (i-(sa+na)) (by omega));rwa [show sa+na+(i-(sa+na))=i by omega] at this
 have v3':∀i,sa+na+v<=i->i<sa+na+nb->O.kle (key (l.getD (sa+na-1) 0)) (key (l.getD i 0)):=λi h1 h2=>by have:=ZgP (v3 (i-(sa+na)) (by omega) (by omega));rwa [show sa+na+(i-(sa+na))=i by omega] at this
 refine Z5 (λc2=>jz (q st1 l G1 (λ_ _=>rfl) (fin l (λ_ _=>rfl) (λi j h1 h2 h3=>?_) W0))) λc2=>?_
 ·by_cases c:j<sa+na
  ·exact S1 i j h1 h2 c
  ·by_cases c':i<sa+na
   ·exact Qx (S1 i (sa+na-1) h1 (by omega) (by omega)) (v3' j (by omega) h3)
   ·exact S2 i j (by omega) h2 h3
 have ex:(AL it l).extract (sa+k) (sa+na)=AL it ((l.drop (sa+k)).take (na-k)):=by rw [ZeF,show sa+na-(sa+k)=na-k by omega]
 rw [ex,ZgI];have lx:((l.drop (sa+k)).take (na-k)).length=na-k:=by rw [jF,jO];omega
 have ly:((l.drop (sa+na)).take v).length=v:=by rw [jF,jO];omega
 have hx:∀y∈(l.drop (sa+k)).take (na-k),y<n:=λy hy=>hlt y (UD (Q7 hy));have hy:∀y∈(l.drop (sa+na)).take v,y<n:=λy hy=>hlt y (UD (Q7 hy));have sx:Srt key ((l.drop (sa+k)).take (na-k)):=Sg.srt λi j h1 h2 h3=>S1 i j (by omega) h2 (by omega);have sy:Srt key ((l.drop (sa+na)).take v):=Sg.srt λi j h1 h2 h3=>S2 i j h1 h2 (by omega);have p0:∀y∈(l.drop (sa+k)).take (na-k),O.kle (key (((l.drop (sa+na)).take v).getD 0 0)) (key y):=λy hy=>by obtain ⟨j,j1,j2,j3,rfl⟩:=ZaV hy;rw [Zer (by omega)];exact k3' j j1 (by omega)
 have p1:∀y∈(l.drop (sa+na)).take v,O.kle (key y) (key (((l.drop (sa+k)).take (na-k)).getD (((l.drop (sa+k)).take (na-k)).length-1) 0)):=λy hy=>by obtain ⟨j,j1,j2,j3,rfl⟩:=ZaV hy;rw [lx,Zer (by omega),show sa+k+(na-k-1)=sa+na-1 by omega];exact v2' j j1 j3
 have cat:(l.drop (sa+k)).take (na-k)++(l.drop (sa+na)).take v=(l.drop (sa+k)).take (na-k+v):=by rw [W4,UP,show sa+k+(na-k)=sa+na by omega]
 have last:∀m st2,Ks st1 st2->m.Perm ((l.drop (sa+k)).take (na-k)++(l.drop (sa+na)).take v)->Srt key m->Gd κ it n (setArr st2 ((((AL it m).toList).zipIdx 0).foldl (λa (p:uB×Nat)=>a.setIfInBounds (sa+k+p.2) p.1) (vR st2))) (Ze0 l m (sa+k)) (pre++(sa,na+nb,p)::post)/\(∀i,e<=i->(Ze0 l m (sa+k)).getD i 0=l.getD i 0)/\Ym key (Ze0 l m (sa+k)) (pre++(sa,na+nb,p)::post) 0 e:=λm st2 ks pm sm=>by
  have G2:=G1.ks ks;have lm:m.length=na-k+v:=by rw [pm.length_eq,jv,lx,ly]
  have hm:sa+k+m.length<=l.length:=by omega
  have mem:∀i,sa+k<=i->i<sa+k+m.length->(∃j,sa+k<=j/\j<sa+na/\m.getD (i-(sa+k)) 0=l.getD j 0)\/∃j,sa+na<=j/\j<sa+na+v/\m.getD (i-(sa+k)) 0=l.getD j 0:=λi h1 h2=>by
   have:=pm.mem_iff.mp (ZW (l:=m) (i:=i-(sa+k)) (by omega));rcases jN.mp this with z|z
   ·obtain ⟨j,j1,j2,j3,e⟩:=ZaV z;exact .inl ⟨j,j1,by omega,e⟩
   ·obtain ⟨j,j1,j2,j3,e⟩:=ZaV z;exact .inr ⟨j,j1,j3,e⟩
  refine ⟨⟨G2.kind,G2.fail,?_,G2.pend,(Zdn (by rw [lm,<-cat];exact pm)).trans G1.perm⟩,λi hi=>by rw [J4 hm,if_neg (by omega)],fin _ (λi hi=>by rw [J4 hm,if_neg (by omega)]) (λi j h1 h2 h3=>?_) λi h1 h2=>?_⟩
  ·show (((AL it m).toList).zipIdx 0).foldl (λa (p:uB×Nat)=>a.setIfInBounds (sa+k+p.2) p.1) (vR st2)=_;rw [G2.arr];exact Zo3 hm
  ·rw [J4 hm,J4 hm];by_cases ci:sa+k<=i/\i<sa+k+m.length
   ·rw [if_pos ci];by_cases cj:sa+k<=j/\j<sa+k+m.length
    ·rw [if_pos cj];exact sm.get (by omega) (by omega)
    ·rw [if_neg cj];rcases mem i ci.1 ci.2 with ⟨y,y1,y2,e⟩|⟨y,y1,y2,e⟩
     ·rw [e];exact Qx (S1 y (sa+na-1) (by omega) (by omega) (by omega)) (v3' j (by omega) h3)
     ·rw [e];exact S2 y j y1 (by omega) h3
   ·rw [if_neg ci];by_cases cj:sa+k<=j/\j<sa+k+m.length
    ·rw [if_pos cj];rcases mem j cj.1 cj.2 with ⟨y,y1,y2,e⟩|⟨y,y1,y2,e⟩
     ·rw [e];exact S1 i y h1 (by omega) y2
     ·rw [e];exact Qx (k2' i h1 (by omega)) (S2 _ y (Qf _) y1 (by omega))
    ·rw [if_neg cj];by_cases c':j<sa+k
     ·exact S1 i j h1 h2 (by omega)
     ·by_cases c'':i<sa+k
      ·exact Qx (k2' i h1 c'') (S2 _ j (Qf _) (by omega) h3)
      ·exact S2 i j (by omega) h2 h3
  ·rw [J4 hm];by_cases ci:sa+k<=i/\i<sa+k+m.length
   ·rw [if_pos ci];rcases mem i ci.1 ci.2 with ⟨y,y1,y2,e⟩|⟨y,y1,y2,e⟩
    ·rw [e];exact W0 y (by omega) (by omega)
    ·rw [e];exact W0 y (by omega) (by omega)
   ·rw [if_neg ci];exact W0 i h1 h2
 have hd:∀x∈(l.drop (sa+k)).take (na-k),∀y∈(l.drop (sa+na)).take v,x<y:=λx hx y hy=>by obtain ⟨i,i1,i2,i3,rfl⟩:=ZaV hx;obtain ⟨j,j1,j2,j3,rfl⟩:=ZaV hy;exact Ql (W1 i (by omega) (by omega)).2 (W2 j j1 (by omega)).1
 refine YG (λ_=>?_) λ_=>?_
 all_goals
  first
   |refine jt (ZrV hC hx hy sx sy (λz=>by rw [z] at lx;simp at lx;omega) (λz=>by rw [z] at ly;simp at ly;omega) hd p0 p1 G1.kind λm st2 ks pm sm=>?_)
   |refine jt (ZrU hC hx hy sx sy (λz=>by rw [z] at lx;simp at lx;omega) (λz=>by rw [z] at ly;simp at ly;omega) hd p0 p1 G1.kind λm st2 ks pm sm=>?_)
  obtain ⟨g1,g3,g2⟩:=last m st2 ks pm sm;refine jt (ZrW (κ:=κ) (it:=it) (n:=n) g1 λst3 G3=>jt (vx ?_));have ef:=G3.fail;unfold vD at ef;rw [ef];exact jz (q st3 _ G3 g3 g2)
end
end LB
namespace LB
open PySem PySem.W PyProof.Rows
section
variable {prog:jx} {w:jG} {A:Around} {E:Value->jn->Prop} {s:jn} {κ:uA} {it:Array uB} {O:ve} {key:Nat->O.α} {n:Nat}
theorem Zdx (hC:Cmp prog w A s κ it key n) {st:jH} {l:List Nat} {ps:List (Nat×Nat×Nat)} (hG:Gd κ it n st l ps) {i j:Nat} (hi:i<n) (hj:j<n) {Q:Option Bool->jH->Prop} (h:Q (some (O.blt (key (l.getD i 0)) (key (l.getD j 0)))) st):wpS (ju prog w) A E s (ltAt' i j) Q st:=by rw [ltAt'_eq];have ln:=hG.len;refine jt (vx ?_);dsimp only;rw [hG.arr];exact jt (Z4 (by omega) (jt (Z4 (by omega) (Zue hC hG.kind (hG.lt _ (ZW (by omega))) (hG.lt _ (ZW (by omega))) h))))
noncomputable def ZdP (l:List Nat) (i j:Nat):List Nat:=Ze0 l ((l.drop i).take (j-i)).reverse i
theorem ZiI {l:List Nat} {i j:Nat} (h1:i<=j) (h2:j<=l.length):((l.drop i).take (j-i)).reverse.length=j-i:=by rw [vc,jF,jO];omega
theorem YZ {l:List Nat} {i j k:Nat} (h1:i<=j) (h2:j<=l.length):(ZdP l i j).getD k 0=if i<=k/\k<j then l.getD (i+j-1-k) 0 else l.getD k 0:=by
 obtain ⟨d,rfl⟩:=Nat.le.dest h1;have rl:=ZiI h1 h2;unfold ZdP
 rw [UL] at rl ⊢
 rw [J4 (by rw [rl];exact h2),rl];by_cases h:i<=k/\k<i+d
 ·obtain ⟨m,rfl⟩:=Nat.le.dest h.1;have hm:m<d:=Nat.lt_of_add_lt_add_left h.2;have tl:((l.drop i).take d).length=d:=by rw [<-vc,rl]
  rw [if_pos h,if_pos h,UL,Qb,Vo (by rw [tl];exact hm),tl,<-Qb,Zer (by omega),show i+(i+d)-1-(i+m)=i+(d-1-m) by omega]
 ·rw [if_neg h,if_neg h]
theorem Zgy {l:List Nat} {i j:Nat} (h1:i<=j) (h2:j<=l.length):(ZdP l i j).Perm l:=by refine Zdn ?_;rw [ZiI h1 h2];exact List.reverse_perm _
theorem Zqp {l:List Nat} {a:Array uB} (f:Nat->Nat) (hl:a.size=l.length) (h:∀k,k<l.length->a[k]?=some (ul it (f k))/\l.getD k 0=f k):a=AL it l:=by
 apply WF;intro k;by_cases hk:k<l.length
 ·rw [(h k hk).1,Zcd hk,(h k hk).2]
 ·rw [Q9 (by omega),Q9 (by rw [JP];omega)]
theorem Zos {l:List Nat} {i j:Nat} (h1:i<=j) (h2:j<=l.length):mirror (AL it l) i j ((j-i)/2)=AL it (ZdP l i j):=by
 have el:(ZdP l i j).length=l.length:=(Zgy h1 h2).length_eq;refine Zqp (λk=>(ZdP l i j).getD k 0) (by rw [mirror_size,JP,el]) λk hk=>⟨?_,rfl⟩;rw [getElem?_mirror_all (by rw [JP];exact h2),YZ h1 h2];split
 ·rw [Zcd (by omega)]
 ·rw [Zcd (by omega)]
theorem Zho {M:uI} {st:jH} {l:List Nat} {ps:List (Nat×Nat×Nat)} (hG:Gd κ it n st l ps) {i j:Nat} (h1:i<=j) (h2:j<=n) {Q:Unit->jH->Prop} (h:∀st',Gd κ it n st' (ZdP l i j) ps->Q () st'):wpS M A E s (reverseSlice' i j) Q st:=by rw [reverseSlice'_eq];have ln:=hG.len;refine vf (h _ ⟨hG.kind,hG.fail,?_,hG.pend,(Zgy h1 (by omega)).trans hG.perm⟩);show mirror (vR st) i j ((j-i)/2)=_;rw [hG.arr];exact Zos h1 (by omega)
noncomputable def Zel (O:ve):ve where
 α:=O.α×Nat
 blt a b:=O.blt a.1 b.1 || (!O.blt b.1 a.1 && decide (a.2<b.2))
 irrefl a:=by simp [O.irrefl]
 trans a b c h1 h2:=by
  simp only [QS,QM,QR,decide_eq_true_eq] at h1 h2 ⊢
  rcases h1 with h1|⟨h1,k1⟩
  ·rcases h2 with h2|⟨h2,k2⟩
   ·exact .inl (O.trans _ _ _ h1 h2)
   ·refine .inl ((O.negTrans _ c.1 _ h1).resolve_right λz=>?_);rw [h2] at z;cases z
  ·rcases h2 with h2|⟨h2,k2⟩
   ·refine .inl ((O.negTrans _ a.1 _ h2).resolve_left λz=>?_);rw [h1] at z;cases z
   ·exact .inr ⟨Qx h1 h2,by omega⟩
 negTrans a b c h:=by
  simp only [QS,QM,QR,decide_eq_true_eq] at h ⊢
  rcases h with h|⟨h,k⟩
  ·rcases O.negTrans _ b.1 _ h with z|z
   ·exact .inl (.inl z)
   ·exact .inr (.inl z)
  ·cases e1:O.blt a.1 b.1 with
   |true=>exact .inl (.inl rfl)
   |false=>
    cases e2:O.blt b.1 c.1 with
    |true=>exact .inr (.inl rfl)
    |false=>
     have e3:O.blt b.1 a.1=false:=by
      cases z:O.blt b.1 a.1 with
      |false=>rfl
      |true=>
       rcases O.negTrans _ c.1 _ z with y|y
       ·rw [e2] at y;cases y
       ·rw [h] at y;cases y
     have e4:O.blt c.1 b.1=false:=by
      cases z:O.blt c.1 b.1 with
      |false=>rfl
      |true=>
       rcases O.negTrans _ a.1 _ z with y|y
       ·rw [h] at y;cases y
       ·rw [e1] at y;cases y
     rcases Wq a.2 b.2 with z|z
     ·exact .inl (.inr ⟨e3,z⟩)
     ·exact .inr (.inr ⟨e4,by omega⟩)
 total a b h1 h2:=by rw [WA] at h1 h2;have e:=O.total _ _ h1.1 h2.1;have g1:=h1.2;have g2:=h2.2;rw [h2.1] at g1;rw [h1.1] at g2;simp only [V3,W7,decide_eq_false_iff_not] at g1 g2;exact Prod.ext e (by omega)
noncomputable def lx (key:Nat->O.α) (i:Nat):(Zel O).α:=(key i,i)
theorem ZqC {i j:Nat} (h:O.klt (key i) (key j)):(Zel O).kle (lx key i) (lx key j):=by have g:O.blt (key i) (key j)=true:=h;have g2:O.blt (key j) (key i)=false:=Uf h;show (O.blt (key j) (key i) || (!O.blt (key i) (key j) && decide (j<i)))=false;rw [g,g2];rfl
theorem ZqB {i j:Nat} (h:O.kle (key i) (key j)) (hij:i<=j):(Zel O).kle (lx key i) (lx key j):=by have g:O.blt (key j) (key i)=false:=h;show (O.blt (key j) (key i) || (!O.blt (key i) (key j) && decide (j<i)))=false;rw [g,decide_eq_false (by omega),Vv];rfl
theorem ZnU {i j:Nat} (h:(Zel O).kle (lx key i) (lx key j)):O.kle (key i) (key j):=by have h:(O.blt (key j) (key i) || (!O.blt (key i) (key j) && decide (j<i)))=false:=h;exact (WA.mp h).1
theorem ZnT {i j:Nat} (h:j<i):(Zel O).blt (lx key i) (lx key j)=O.blt (key i) (key j):=by show (O.blt (key i) (key j) || (!O.blt (key j) (key i) && decide (i<j)))=_;rw [decide_eq_false (by omega),Vv,Wf]
theorem Cmp.lx (hC:Cmp prog w A s κ it key n):ZhF prog w A s κ it (lx key) n:=λi j hj hi Q q=>by rw [ZnT hj] at q;exact hC i j hi (by omega) Q q
theorem ZmB {M:uI} {st:jH} {l:List Nat} {lo a nrem:Nat} {f:Nat->Option (Option Nat)×Nat->StateT jH Sem (ForInStep (Option (Option Nat)×Nat))} (h1:1<=a) (h2:a<=nrem) (hS:Sg (lx key) l lo (lo+a)) (hW:Own l lo (lo+a)) (hU:∀i,lo+a<=i->i<lo+nrem->l.getD i 0=i)
 (hf:∀i x,1<=x->x<nrem->wpS M A E s (f i (none,x)) (λr st'=>st'=st/\r=if O.blt (key (l.getD (lo+x) 0)) (key (l.getD (lo+x-1) 0))=true then .done (none,x) else .yield (none,x+1)) st):
 wpS M A E s (forIn [a:nrem] ((none,a):Option (Option Nat)×Nat) f) (λc st'=>st'=st/\∃m,c=(none,m)/\a<=m/\m<=nrem/\(Sg (lx key) l lo (lo+m)/\Own l lo (lo+m))/\(m=nrem\/m<nrem/\O.klt (key (l.getD (lo+m) 0)) (key (l.getD (lo+m-1) 0)))) st:=by
 refine j7 (I:=λx c st'=>st'=st/\c=(none,x)/\Sg (lx key) l lo (lo+x)/\Own l lo (lo+x)) ?_ ?_ ⟨rfl,rfl,hS,hW⟩
 ·rintro x c st' hx1 hx2 ⟨rfl,rfl,S,W⟩;refine ug (hf x x (by omega) hx2) ?_;rintro r st' ⟨rfl,rfl⟩
  cases e:O.blt (key (l.getD (lo+x) 0)) (key (l.getD (lo+x-1) 0)) with
  |true=>exact ⟨rfl,x,rfl,hx1,by omega,⟨S,W⟩,.inr ⟨hx2,e⟩⟩
  |false=>
   have u:=hU (lo+x) (by omega) (by omega);refine ⟨rfl,rfl,λi j hi hij hj=>?_,λi hi hj=>?_⟩
   ·by_cases c:j<lo+x
    ·exact S i j hi hij c
    ·have:j=lo+x:=by omega
     subst this;by_cases c':i=lo+x
     ·subst c';exact Q8 _
     ·exact Qx (S i (lo+x-1) hi (by omega) (by omega)) (ZqB e (by have:=W (lo+x-1) (by omega) (by omega);omega))
   ·by_cases c:i=lo+x
    ·rw [c,u];omega
    ·have:=W i hi (by omega);omega
 ·rintro c st' ⟨rfl,rfl,S,W⟩
  rw [show max a nrem=nrem by omega] at S W ⊢
  exact ⟨rfl,nrem,rfl,h2,Qf _,⟨S,W⟩,.inl rfl⟩
noncomputable def Fl (key:Nat->O.α) (l:List Nat) (a b:Nat):Prop:=∀i j,a<=i->i<j->j<b->(Zel O).kle (lx key (l.getD j 0)) (lx key (l.getD i 0))
structure Dn (key:Nat->O.α) (n:Nat) (l:List Nat) (lo c x:Nat):Prop where
 own:Own l lo c
 un:∀i,c<=i->i<n->l.getD i 0=i
 fall:Fl key l lo c
 less:∀i j,lo<=i->i<c->c<=j->j<x->O.klt (key (l.getD j 0)) (key (l.getD i 0))
 eq:∀i,c<=i->i<x->key (l.getD i 0)=key (l.getD (x-1) 0)
structure Dn1 (key:Nat->O.α) (n:Nat) (l:List Nat) (lo x:Nat):Prop where
 own:Own l lo x
 un:∀i,x<=i->i<n->l.getD i 0=i
 fall:Fl key l lo x
theorem Dn.close {l:List Nat} {lo c x:Nat} (h:Dn key n l lo c x) (ln:l.length=n) (h1:lo<=c) (h2:c<x) (h3:x<=n):Dn1 key n (ZdP l c x) lo x:=by
 have g:∀k,(ZdP l c x).getD k 0=if c<=k/\k<x then c+x-1-k else l.getD k 0:=λk=>by
  rw [YZ (by omega) (by omega)];split
  ·exact h.un _ (by omega) (by omega)
  ·rfl
 have e:∀i,c<=i->i<x->key i=key (x-1):=λi a b=>by have:=h.eq i a b;rwa [h.un i a (by omega),h.un (x-1) (by omega) (by omega)] at this
 refine ⟨λi hi hx=>?_,λi hi hn=>?_,λi j hi hij hj=>?_⟩
 ·rw [g];split
  ·omega
  ·have:=h.own i hi (by omega);omega
 ·rw [g,if_neg (by omega)];exact h.un i (by omega) hn
 ·rw [g,g];by_cases cj:c<=j
  ·rw [if_pos ⟨cj,hj⟩];by_cases ci:c<=i
   ·rw [if_pos ⟨ci,by omega⟩];refine ZqB ?_ (by omega);rw [e _ (by omega) (by omega),e (c+x-1-i) (by omega) (by omega)];exact Q8 _
   ·rw [if_neg (by omega)];have:=h.less i (c+x-1-j) hi (by omega) (by omega) (by omega);rw [h.un (c+x-1-j) (by omega) (by omega)] at this;exact ZqC this
  ·rw [if_neg (by omega),if_neg (by omega)];exact h.fall i j hi hij (by omega)
theorem Dn.one {l:List Nat} {lo c x:Nat} (h:Dn key n l lo c x) (h1:lo<=c) (h2:c+1=x) (h3:x<=n):Dn1 key n l lo x:=by
 refine ⟨λi hi hx=>?_,λi hi hn=>h.un i (by omega) hn,λi j hi hij hj=>?_⟩
 ·by_cases e:i=c
  ·rw [h.un i (by omega) (by omega)];omega
  ·have:=h.own i hi (by omega);omega
 ·by_cases e:j=c
  ·exact ZqC (h.less i j hi (by omega) (by omega) hj)
  ·exact h.fall i j hi hij (by omega)
theorem Dn1.open {l:List Nat} {lo x:Nat} (h:Dn1 key n l lo x) (hl:∀i,lo<=i->i<x->O.klt (key (l.getD x 0)) (key (l.getD i 0))):Dn key n l lo x (x+1):=by
 refine ⟨h.own,h.un,h.fall,λi j hi hi2 hj hj2=>?_,λi h1 h2=>?_⟩
 ·have:j=x:=by omega
  subst this;exact hl i hi hi2
 ·rw [show i=x+1-1 by omega]
theorem Dn.more {l:List Nat} {lo c x:Nat} (h:Dn key n l lo c x) (h2:c<x) (e:key (l.getD x 0)=key (l.getD (x-1) 0)):Dn key n l lo c (x+1):=by
 refine ⟨h.own,h.un,h.fall,λi j hi hi2 hj hj2=>?_,λi h3 h4=>?_⟩
 ·by_cases z:j=x
  ·rw [z,e];exact h.less i (x-1) hi hi2 (by omega) (by omega)
  ·exact h.less i j hi hi2 hj (by omega)
 ·rw [Nat.add_sub_cancel,e];by_cases z:i=x
  ·rw [z,e]
  ·exact h.eq i h3 (by omega)
theorem ZrP {a b c:O.α} (h1:O.klt a b) (h2:O.kle b c):O.klt a c:=(O.negTrans _ c _ h1).resolve_right λz=>by have h2:O.blt c b=false:=h2;rw [h2] at z;cases z
theorem Dn.low {l:List Nat} {lo c x:Nat} (h:Dn key n l lo c x) (h2:c<x) (i:Nat) (h3:lo<=i) (h4:i<x):O.kle (key (l.getD (x-1) 0)) (key (l.getD i 0)):=by
 by_cases z:c<=i
 ·rw [h.eq i z h4];exact Q8 _
 ·exact Uf (h.less i (x-1) h3 (by omega) (by omega) (by omega))
theorem ZmD {M:uI} {α:Type} {c:Prop} [Decidable c] {x y:StateT jH Sem α} {Q:α->jH->Prop} {st:jH} (R:jH->Prop) (h1:c->(∀st',R st'->wpS M A E s y Q st')->wpS M A E s x Q st) (h2:¬c->R st) (h3:∀st',R st'->wpS M A E s y Q st'):wpS M A E s (if c then x else y) Q st:=YG (λz=>h1 z h3) λz=>h3 st (h2 z)
theorem ZmQ (hC:Cmp prog w A s κ it key n) {st:jH} {l:List Nat} {ps:List (Nat×Nat×Nat)} (hG:Gd κ it n st l ps) {lo nrem:Nat} (h1:1<=nrem) (h2:lo+nrem<=n) (hU:∀i,lo<=i->i<n->l.getD i 0=i) {Q:Option Nat->jH->Prop}
 (q:∀m st' l',Gd κ it n st' l' ps->(∀i,i<lo->l'.getD i 0=l.getD i 0)->1<=m->m<=nrem->Sg (lx key) l' lo (lo+m)/\Own l' lo (lo+m)->(∀i,lo+m<=i->i<n->l'.getD i 0=i)->Q (some m) st'):wpS (ju prog w) A E s (countRun' lo nrem) Q st:=by
 have ln:=hG.len
 have s1:Sg (lx key) l lo (lo+1):=λi j h1 h2 h3=>by
  have:i=j:=by omega
  subst this;exact Q8 _
 have w1:Own l lo (lo+1):=λi a b=>by rw [hU i a (by omega)];omega
 unfold countRun';refine jt (ug (ZmB (key:=key) (Qf 1) h1 s1 w1 (λi a b=>hU i (by omega) (by omega)) λi x hx1 hx2=>?_) ?_)
 ·dsimp only;refine jt (Zdx hC hG (by omega) (by omega) ?_);dsimp only;split<;>exact jz ⟨rfl,rfl⟩
 rintro _ _ ⟨rfl,m,rfl,m1,m2,⟨S,W⟩,hm⟩;rename_i st;dsimp only;refine Z5 (λc=>jz (q m st l hG (λ_ _=>rfl) m1 m2 ⟨S,W⟩ λi a b=>hU i (by omega) b)) λc=>?_;have hm:=hm.resolve_left c;have fin1:(∀k,lo<=k->k<lo+m->key (l.getD k 0)=key (l.getD (lo+m-1) 0))->Dn key n l lo lo (lo+m):=λsame=>⟨λi a b=>by omega,λi a b=>hU i a b,λi j a b c=>by omega,λi j a b=>by omega,same⟩;refine ZmD (λst'=>∃l',Gd κ it n st' l' ps/\(∀i,i<lo->l'.getD i 0=l.getD i 0)/\Dn key n l' lo (lo+m) (lo+(m+1))) (λc desc=>?_) (λc=>⟨l,hG,λ_ _=>rfl,?_⟩) ?_
 ·refine jt (Zdx hC hG (by omega) (by omega) ?_);dsimp only
  cases rose:O.blt (key (l.getD lo 0)) (key (l.getD (lo+m-1) 0)) with
  |true=>
   rw [if_pos rfl];exact jz (q m st l hG (λ_ _=>rfl) m1 m2 ⟨S,W⟩ λi a b=>hU i (by omega) b)
  |false=>
   rw [if_neg Qg];have same:∀k,lo<=k->k<lo+m->key (l.getD k 0)=key (l.getD (lo+m-1) 0):=λk h1 h2=>O.total _ _ (Qx rose (ZnU (S lo k (Qf _) h1 h2))) (ZnU (S k (lo+m-1) h1 (by omega) (by omega)));have D:=(fin1 same).close ln (Qf _) (by omega) (by omega);refine jt (Zho hG (by omega) (by omega) λst' G'=>desc st' ⟨_,G',λi hi=>?_,D.open λi hi hj=>?_⟩)
   ·rw [YZ (by omega) (by omega),if_neg (by omega)]
   ·rw [YZ (by omega) (by omega),YZ (by omega) (by omega),if_neg (by omega),if_pos ⟨hi,hj⟩,same (lo+(lo+m)-1-i) (by omega) (by omega)];exact hm.2
 ·have:m=1:=by omega
  subst this;refine Dn1.open ⟨w1,λi a b=>hU i (by omega) b,λi j a b c=>by omega⟩ λi hi hj=>?_;have:i=lo:=by omega
  subst this;exact hm.2
 ·rintro st' ⟨l',G',fr,D⟩;have ln':=G'.len;refine jt (vH (uD ⟨rfl,?_⟩))
  refine jt (ug (j7 (I:=λx c st2=>∃l2 z,c=(none,x,z)/\Gd κ it n st2 l2 ps/\(∀i,i<lo->l2.getD i 0=l.getD i 0)/\Dn key n l2 lo (lo+x-(z+1)) (lo+x)/\z+1<=x)
   (Q:=λc st2=>∃x l2 z,c=(none,x,z)/\m+1<=x/\x<=nrem/\Gd κ it n st2 l2 ps/\(∀i,i<lo->l2.getD i 0=l.getD i 0)/\Dn key n l2 lo (lo+x-(z+1)) (lo+x)/\z+1<=x) ?_ ?_ ⟨l',0,rfl,G',fr,by rw [show lo+(m+1)-(0+1)=lo+m by omega];exact D,by omega⟩) ?_)
  ·rintro x c st2 hx1 hx2 ⟨l2,z,rfl,G2,fr2,D2,hz⟩;have ln2:=G2.len;dsimp only;refine jt (Zdx hC G2 (by omega) (by omega) ?_);dsimp only
   cases e:O.blt (key (l2.getD (lo+x) 0)) (key (l2.getD (lo+x-1) 0)) with
   |true=>
    rw [if_pos rfl];have low:∀i,lo<=i->i<lo+x->O.klt (key (l2.getD (lo+x) 0)) (key (l2.getD i 0)):=λi a b=>ZrP e (D2.low (by omega) i a b);refine YG (λcz=>jt (Zho G2 (by omega) (by omega) λst3 G3=>jz ⟨_,0,rfl,G3,λi hi=>?_,?_,by omega⟩)) λcz=>jz ⟨l2,0,rfl,G2,fr2,?_,by omega⟩
    ·rw [YZ (by omega) (by omega),if_neg (by omega)];exact fr2 i hi
    ·have:=(D2.close ln2 (by omega) (by omega) (by omega)).open λi hi hj=>by
      rw [YZ (by omega) (by omega),if_neg (by omega)];rw [YZ (by omega) (by omega)];split
      ·exact low _ (by omega) (by omega)
      ·exact low i hi hj
     rw [show lo+(x+1)-(0+1)=lo+x by omega];exact this
    ·have:=(D2.one (by omega) (by omega) (by omega)).open low;rw [show lo+(x+1)-(0+1)=lo+x by omega];exact this
   |false=>
    rw [if_neg Qg];refine jt (Zdx hC G2 (by omega) (by omega) ?_);dsimp only
    cases e':O.blt (key (l2.getD (lo+x-1) 0)) (key (l2.getD (lo+x) 0)) with
    |true=>
     rw [if_pos rfl];exact jz ⟨x,l2,z,rfl,hx1,by omega,G2,fr2,D2,hz⟩
    |false=>
     rw [if_neg Qg];have ee:key (l2.getD (lo+x) 0)=key (l2.getD (lo+x-1) 0):=O.total _ _ e e';refine jz ⟨l2,z+1,rfl,G2,fr2,?_,by omega⟩;rw [show lo+(x+1)-(z+1+1)=lo+x-(z+1) by omega];exact D2.more (by omega) ee
  ·rintro c st2 ⟨l2,z,rfl,G2,fr2,D2,hz⟩
   rw [show max (m+1) nrem=nrem by omega] at D2 hz ⊢
   exact ⟨nrem,l2,z,rfl,by omega,Qf _,G2,fr2,D2,hz⟩
  ·rintro c st2 ⟨x,l2,z,rfl,hx1,hx2,G2,fr2,D2,hz⟩;have ln2:=G2.len;dsimp only;refine ZmD (λst3=>∃l3,Gd κ it n st3 l3 ps/\(∀i,i<lo->l3.getD i 0=l.getD i 0)/\Dn1 key n l3 lo (lo+x)) (λcz up=>jt (Zho G2 (by omega) (by omega) λst3 G3=>up st3 ⟨_,G3,λi hi=>?_,D2.close ln2 (by omega) (by omega) (by omega)⟩)) (λcz=>⟨l2,G2,fr2,D2.one (by omega) (by omega) (by omega)⟩) ?_
   ·rw [YZ (by omega) (by omega),if_neg (by omega)];exact fr2 i hi
   ·rintro st3 ⟨l3,G3,fr3,D3⟩;have ln3:=G3.len;refine jt (Zho G3 (by omega) (by omega) λst4 G4=>?_);have g4:∀i,(ZdP l3 lo (lo+x)).getD i 0=if lo<=i/\i<lo+x then l3.getD (lo+(lo+x)-1-i) 0 else l3.getD i 0:=λi=>YZ (by omega) (by omega)
    have fr4:∀i,i<lo->(ZdP l3 lo (lo+x)).getD i 0=l.getD i 0:=λi hi=>by rw [g4,if_neg (by omega)];exact fr3 i hi
    have u4:∀i,lo+x<=i->i<n->(ZdP l3 lo (lo+x)).getD i 0=i:=λi hi hn=>by rw [g4,if_neg (by omega)];exact D3.un i hi hn
    refine jt (ug (ZmB (l:=ZdP l3 lo (lo+x)) (key:=key) (lo:=lo) (by omega) hx2 (λi j hi hij hj=>?_) (λi hi hj=>?_) (λi hi hj=>u4 i hi (by omega)) λi y hy1 hy2=>?_) ?_)
    ·rw [g4,g4,if_pos (by omega),if_pos (by omega)];by_cases cij:i=j
     ·rw [cij];exact Q8 _
     ·exact D3.fall _ _ (by omega) (by omega) (by omega)
    ·rw [g4,if_pos ⟨hi,hj⟩];exact D3.own _ (by omega) (by omega)
    ·dsimp only;refine jt (Zdx hC G4 (by omega) (by omega) ?_);dsimp only;split<;>exact jz ⟨rfl,rfl⟩
    ·rintro _ _ ⟨rfl,y,rfl,y1,y2,S4,_⟩;exact jz (q y _ _ G4 fr4 (by omega) y2 S4 λi hi hn=>u4 i (by omega) hn)
end
end LB
namespace LB
open PySem PySem.W PyProof.Rows
section
variable {prog:jx} {w:jG} {A:Around} {E:Value->jn->Prop} {s:jn} {κ:uA} {it:Array uB} {O:ve} {key:Nat->O.α} {n:Nat}
noncomputable def ZhO (l:List Nat) (a d:Nat):List Nat:=Ze0 l (l.getD a 0::(l.drop (a-d)).take d) (a-d)
theorem ZhQ {l:List Nat} {a d:Nat} (h1:a<l.length) (h2:d<=a):(l.getD a 0::(l.drop (a-d)).take d).length=d+1:=by rw [jD,jF,jO];omega
theorem ZhP {l:List Nat} {a d k:Nat} (h1:a<l.length) (h2:d<=a):(ZhO l a d).getD k 0=if k=a-d then l.getD a 0 else if a-d<k/\k<=a then l.getD (k-1) 0 else l.getD k 0:=by
 unfold ZhO;have bl:=ZhQ h1 h2;rw [J4 (by omega),bl];by_cases c1:k=a-d
 ·rw [if_pos (by omega),if_pos c1,show k-(a-d)=0 by omega];rfl
 ·rw [if_neg c1];by_cases c2:a-d<k/\k<=a
  ·rw [if_pos (by omega),if_pos c2,show k-(a-d)=(k-1-(a-d))+1 by omega,List.getD_cons_succ,Zer (by omega),show a-d+(k-1-(a-d))=k-1 by omega]
  ·rw [if_neg (by omega),if_neg c2]
theorem Zgh {l:List Nat} {a d:Nat} (h1:a<l.length) (h2:d<=a):(ZhO l a d).Perm l:=by
 refine Zdn ?_;have e:(l.drop (a-d)).take (d+1)=(l.drop (a-d)).take d++[l.getD a 0]:=by rw [W4,UP,show a-d+d=a by omega,Zea h1]
 rw [ZhQ h1 h2,e];exact (List.perm_append_singleton _ _).symm
theorem ZmE {l:List Nat} {a d:Nat} (h1:a<l.length) (h2:d<=a):bubble (AL it l) a d=AL it (ZhO l a d):=by
 have el:(ZhO l a d).length=l.length:=(Zgh h1 h2).length_eq;refine Zqp (λk=>(ZhO l a d).getD k 0) (by rw [bubble_size,JP,el]) λk hk=>⟨?_,rfl⟩;rw [getElem?_bubble (by rw [JP];exact h1) d h2,ZhP h1 h2];split
 ·rw [Zcd h1]
 ·split
  ·rw [Zcd (by omega)]
  ·rw [Zcd (by omega)]
theorem ZpB {M:uI} {st:jH} {l:List Nat} {ps:List (Nat×Nat×Nat)} (hG:Gd κ it n st l ps) {a b:Nat} (h1:a<n) (h2:b<=a) {Q:Unit->jH->Prop} (h:∀st',Gd κ it n st' (ZhO l a (a-b)) ps->Q () st'):wpS M A E s (moveDown' a b) Q st:=by rw [moveDown'_eq];have ln:=hG.len;refine vf (h _ ⟨hG.kind,hG.fail,?_,hG.pend,(Zgh (by omega) (by omega)).trans hG.perm⟩);show bubble (vR st) a (a-b)=_;rw [hG.arr];exact ZmE (by omega) (by omega)
theorem Zrb (hC:Cmp prog w A s κ it key n) {st:jH} {l:List Nat} {ps:List (Nat×Nat×Nat)} (hG:Gd κ it n st l ps) {lo f ok:Nat} (h1:1<=ok) (h2:ok<=f) (h3:lo+f<=n) (hS:Sg (lx key) l lo (lo+ok)/\Own l lo (lo+ok)) (hU:∀i,lo+ok<=i->i<n->l.getD i 0=i) {Q:Bool->jH->Prop}
 (q:∀st' l',Gd κ it n st' l' ps->(∀i,i<lo->l'.getD i 0=l.getD i 0)->Sg (lx key) l' lo (lo+f)/\Own l' lo (lo+f)->(∀i,lo+f<=i->i<n->l'.getD i 0=i)->Q true st'):wpS (ju prog w) A E s (binarySort' lo f ok) Q st:=by
 unfold binarySort'
 refine jt (ug (j7 (I:=λk c st'=>c=(none,())/\∃l',Gd κ it n st' l' ps/\(∀i,i<lo->l'.getD i 0=l.getD i 0)/\(Sg (lx key) l' lo (lo+k)/\Own l' lo (lo+k))/\∀i,lo+k<=i->i<n->l'.getD i 0=i)
  (Q:=λc st'=>c=(none,())/\∃l',Gd κ it n st' l' ps/\(∀i,i<lo->l'.getD i 0=l.getD i 0)/\(Sg (lx key) l' lo (lo+f)/\Own l' lo (lo+f))/\∀i,lo+f<=i->i<n->l'.getD i 0=i) ?_ ?_ ⟨rfl,l,hG,λ_ _=>rfl,by rw [show max ok 1=ok by omega];exact ⟨hS,hU⟩⟩) ?_)
 ·rintro k c st' hk1 hk2 ⟨rfl,l',G',fr,⟨S,W⟩,U⟩;have ln':=G'.len;dsimp only
  refine jt (ug (j7 (I:=λx c st''=>st''=st'/\∃a b,c=(none,a,b)/\a<=b/\b<=k/\b+x<=k+a/\(∀i,lo<=i->i<lo+a->(Zel O).kle (lx key (l'.getD i 0)) (lx key (l'.getD (lo+k) 0)))/\∀i,lo+b<=i->i<lo+k->(Zel O).kle (lx key (l'.getD (lo+k) 0)) (lx key (l'.getD i 0)))
   (Q:=λc st''=>st''=st'/\∃a b,c=(none,a,b)/\a<=k/\(∀i,lo<=i->i<lo+a->(Zel O).kle (lx key (l'.getD i 0)) (lx key (l'.getD (lo+k) 0)))/\∀i,lo+a<=i->i<lo+k->(Zel O).kle (lx key (l'.getD (lo+k) 0)) (lx key (l'.getD i 0))) ?_ ?_ ⟨rfl,0,k,rfl,by omega,by omega,by omega,λi h1 h2=>by omega,λi h1 h2=>by omega⟩) ?_)
  ·rintro x c st'' _ hx ⟨rfl,a,b,rfl,ab,bk,bx,ha,hb⟩;dsimp only;refine YG (λc=>?_) λc=>jt (Zdx hC G' (by omega) (by omega) ?_)
   ·have:a=b:=by omega
    subst this;exact jz ⟨rfl,a,a,rfl,by omega,ha,hb⟩
   ·dsimp only;rw [<-ZnT (key:=key) (i:=l'.getD (lo+k) 0) (j:=l'.getD (lo+(a+b)/2) 0) (by rw [U (lo+k) (by omega) (by omega)];exact (W _ (by omega) (by omega)).2)]
    cases e:(Zel O).blt (lx key (l'.getD (lo+k) 0)) (lx key (l'.getD (lo+(a+b)/2) 0)) with
    |true=>
     rw [if_pos rfl];exact jz ⟨rfl,a,(a+b)/2,rfl,by omega,by omega,by omega,ha,λi h1 h2=>Qx (Uf e) (S _ i (by omega) h1 h2)⟩
    |false=>
     rw [if_neg Qg];exact jz ⟨rfl,(a+b)/2+1,b,rfl,by omega,by omega,by omega,λi h1 h2=>Qx (S i _ h1 (by omega) (by omega)) e,hb⟩
  ·rintro c st'' ⟨rfl,a,b,rfl,ab,bk,bx,ha,hb⟩;have:a=b:=by omega
   subst this;exact ⟨rfl,a,a,rfl,by omega,ha,hb⟩
  ·rintro c st'' ⟨rfl,a,b,rfl,ak,ha,hb⟩;obtain ⟨d,rfl⟩:=Nat.le.dest ak;dsimp only;have bg:∀i,(ZhO l' (lo+(a+d)) d).getD i 0=if i=lo+a then l'.getD (lo+(a+d)) 0 else if lo+a<i/\i<=lo+(a+d) then l'.getD (i-1) 0 else l'.getD i 0:=λi=>by rw [ZhP (by omega) (by omega),show lo+(a+d)-d=lo+a by omega]
   have uu:=U (lo+(a+d)) (Qf _) (by omega);refine jt (ZpB G' (by omega) (by omega) λst3 G3=>?_);rw [show lo+(a+d)-(lo+a)=d by omega] at G3;refine jz ⟨rfl,_,G3,λi hi=>?_,⟨λi j hi hij hj=>?_,λi hi hj=>?_⟩,λi hi hj=>?_⟩
   ·rw [bg,if_neg (by omega),if_neg (by omega)];exact fr i hi
   ·rw [bg,bg];clear bg uu G3 G' fr hG hS hU h2 h3 hk1 hk2 U W
    repeat' split
    all_goals first
     |(exfalso;omega)
     |exact Q8 _
     |exact ha _ (by omega) (by omega)
     |exact hb _ (by omega) (by omega)
     |exact S _ _ (by omega) (by omega) (by omega)
   ·rw [bg,uu];have u:=W (i-1);have v:=W i;clear bg uu G3 G' fr hG hS hU h2 h3 hk1 hk2 U W
    repeat' split
    all_goals omega
   ·rw [bg,if_neg (by omega),if_neg (by omega)];exact U i (by omega) hj
 ·rintro c st' ⟨rfl,l',G',fr,S,U⟩;rw [show max (max ok 1) f=f by omega] at S U;exact ⟨rfl,l',G',fr,S,U⟩
 ·rintro c st' ⟨rfl,l',G',fr,S,U⟩;exact jz (q st' l' G' fr S U)
theorem Ym.pos {l:List Nat}:∀{x:List (Nat×Nat×Nat)} {a b:Nat},Ym key l x a b->x.length+a<=b
 |[],a,b,h=>by have:a=b:=h;simp only [ua];omega
 |p::x,a,b,⟨_,h1,_,h⟩=>by have:=h.pos;rw [jD];omega
theorem Zud {ps:List (Nat×Nat×Nat)} {i:Nat} (h:i+2<=ps.length):∃pre a b post,ps=pre++a::b::post/\pre.length=i/\post.length+i+2=ps.length:=by refine ⟨ps.take i,ps[i],ps[i+1],ps.drop (i+2),?_,by rw [jF];omega,by rw [jO];omega⟩;rw [<-Q1,<-Q1,QP]
theorem Ym.pow {l:List Nat} {pre:List (Nat×Nat×Nat)} {x y z z' a b:Nat} (h:Ym key l (pre++[(x,y,z)]) a b):Ym key l (pre++[(x,y,z')]) a b:=by obtain ⟨m,h1,h2,h3,h4,h5⟩:=Ym.app.mp h;exact Ym.app.mpr ⟨m,h1,h2,h3,h4,h5⟩
theorem ZrE {c:Prop} [Decidable c] {a b k:Nat} (h1:a<=k) (h2:b<=k):(if c then a else b)<=k:=by split<;>assumption
theorem Zgu (hC:ZhF prog w A s κ it key n) {st:jH} {l:List Nat} {ps:List (Nat×Nat×Nat)} {e i:Nat} (hG:Gd κ it n st l ps) (he:e<=n) (hR:Ym key l ps 0 e) (hi:i+2<=ps.length) {Q:Bool->jH->Prop}
 (q:∀st' l' ps',Gd κ it n st' l' ps'->(∀i,e<=i->l'.getD i 0=l.getD i 0)->Ym key l' ps' 0 e->ps'.length+1=ps.length->Q true st'):wpS (ju prog w) A E s (mergeAt' i) Q st:=by
 obtain ⟨pre,⟨sa,na,pa⟩,⟨sb,nb,pb⟩,post,rfl,rfl,hp⟩:=Zud hi;refine Zjr hC hG he hR λst2 l2 G2 f2 R2=>q st2 l2 _ G2 f2 R2 ?_;simp only [jv,jD];omega
theorem Zit {α:Type} (f:α->α) (x:α):∀pre:List α,(pre++[x]).modify pre.length f=pre++[f x]
 |[]=>rfl
 |a::r=>by rw [uN,jD,List.modify_succ_cons,Zit f x r];rfl
theorem ZpX {M:uI} {st:jH} {l:List Nat} {ps:List (Nat×Nat×Nat)} {z:Nat×Nat×Nat} (hG:Gd κ it n st l ps) {Q:PUnit->jH->Prop} (h:∀st',Gd κ it n st' l (ps++[z])->Q ⟨⟩ st'):wpS M A E s (modify λs=>setPending s ((uC s).push z):StateT jH Sem PUnit) Q st:=by refine vf (h _ ⟨hG.kind,hG.fail,hG.arr,?_,hG.perm⟩);show (uC st).push z=_;rw [hG.pend];simp
theorem ZsA {M:uI} {st:jH} {l:List Nat} {pre:List (Nat×Nat×Nat)} {a b c g:Nat} (hG:Gd κ it n st l (pre++[(a,b,c)])) {Q:PUnit->jH->Prop} (h:∀st',Gd κ it n st' l (pre++[(a,b,g)])->Q ⟨⟩ st'):wpS M A E s (modify λs=>setPending s ((uC s).modify ((uC s).size-1) λx=>(x.1,x.2.1,g)):StateT jH Sem PUnit) Q st:=by refine vf (h _ ⟨hG.kind,hG.fail,hG.arr,?_,hG.perm⟩);show (uC st).modify ((uC st).size-1) (λx=>(x.1,x.2.1,g))=_;rw [hG.pend];simp;exact Zit _ _ pre
theorem Zq9 (hC:Cmp prog w A s κ it key n) {st:jH} (hG:Gd κ it n st (Qj n) []) {Q:Unit->jH->Prop} (q:∀st' l' ps,Gd κ it n st' l' ps->Sg (lx key) l' 0 n->Q () st'):wpS (ju prog w) A E s sortRuns' Q st:=by
 unfold sortRuns';refine jt (vx ?_);have ea:=hG.arr;unfold vR at ea;rw [ea];simp -zeta -zetaHave only [JP,uP]
 refine jt (ug (j7 (I:=λx c st'=>∃l ps lo,c=(none,lo)/\Gd κ it n st' l ps/\Ym (lx key) l ps 0 lo/\lo<=n/\x<=lo/\∀i,lo<=i->i<n->l.getD i 0=i)
  (Q:=λc st'=>∃l ps,c=(none,n)/\Gd κ it n st' l ps/\Ym (lx key) l ps 0 n) ?_ ?_ ⟨_,[],0,rfl,hG,rfl,by omega,by omega,λi _ hi=>by rw [Qb,Um hi];rfl⟩) ?_)
 ·rintro x c st1 _ hx ⟨l1,ps,lo,rfl,G1,R1,lon,xlo,U1⟩;dsimp -zeta -zetaHave only;refine YG (λc=>?_) λc=>jt (ZmQ hC G1 (by omega) (by omega) U1 λm st2 l2 G2 fr2 m1 m2 S2 U2=>?_)
  ·have:lo=n:=by omega
   subst this;exact jz ⟨l1,ps,rfl,G1,R1⟩
  have R2:=R1.congr (l':=l2) λi _ hi=>fr2 i hi;dsimp -zeta -zetaHave only;refine ZnZ λQQ hQ=>?_
  extract_lets -underBinder mm jp
  have h3:∀m st3 l3,Gd κ it n st3 l3 ps->Ym (lx key) l3 ps 0 lo->1<=m->lo+m<=n->(Sg (lx key) l3 lo (lo+m)/\Own l3 lo (lo+m))->(∀i,lo+m<=i->i<n->l3.getD i 0=i)->wpS (ju prog w) A E s (jp () m) QQ st3:=by
   intro m st3 l3 G3 R3 m1 m2 S3 U3;dsimp -zeta -zetaHave only [jp];refine jt (vx ?_);have ep:=G3.pend;unfold uC at ep;rw [ep,List.back?_toArray]
   extract_lets -underBinder jp2
   have h4:∀st4 l4 ps4,Gd κ it n st4 l4 ps4->Ym (lx key) l4 ps4 0 lo->(Sg (lx key) l4 lo (lo+m)/\Own l4 lo (lo+m))->(∀i,lo+m<=i->i<n->l4.getD i 0=i)->wpS (ju prog w) A E s (jp2 ()) QQ st4:=λst4 l4 ps4 G4 R4 S4 U4=>jt (ZpX G4 λst5 G5=>jz (hQ _ _ ⟨_,_,_,rfl,G5,Ym.app.mpr ⟨lo,R4,rfl,by dsimp only;omega,S4,rfl⟩,by omega,by omega,U4⟩))
   clear_value jp2
   rcases Vr ps with rfl|⟨pre,⟨z1,z2,z3⟩,rfl⟩
   ·exact h4 _ _ _ G3 R3 S3 U3
   rw [Vs] at G3 R3 ⊢
   rw [List.getLast?_concat];dsimp only;refine jt (ug (j7 (I:=λx c st'=>c=(none,())/\∃l' ps',Gd κ it n st' l' ps'/\(∀i,lo<=i->l'.getD i 0=l3.getD i 0)/\Ym (lx key) l' ps' 0 lo/\ps'≠[]) (Q:=λc st'=>c=(none,())/\∃l' ps',Gd κ it n st' l' ps'/\(∀i,lo<=i->l'.getD i 0=l3.getD i 0)/\Ym (lx key) l' ps' 0 lo/\ps'≠[]) ?_ (λ_ _ z=>z) ⟨rfl,_,_,G3,λ_ _=>rfl,R3,by simp⟩) ?_)
   ·rintro x c st4 _ _ ⟨rfl,l4,ps4,G4,f4,R4,ne4⟩;refine jt (vx ?_);have ep:=G4.pend;unfold uC at ep;rw [ep,jI];by_cases c3:ps4.length>1
    ·rw [if_pos c3,UU,Qd (by omega)];dsimp only;refine YG (λ_=>jz ⟨rfl,l4,ps4,G4,f4,R4,ne4⟩) λ_=>jt (Zgu hC.lx G4 (by omega) R4 (by omega) λst5 l5 ps5 G5 f5 R5 h5=>?_);rw [if_neg (by decide)];exact jz ⟨rfl,l5,ps5,G5,λi hi=>(f5 i hi).trans (f4 i hi),R5,λz=>by rw [z] at h5;simp at h5;omega⟩
    ·rw [if_neg c3];exact jz ⟨rfl,l4,ps4,G4,f4,R4,ne4⟩
   ·rintro c st4 ⟨rfl,l4,ps4,G4,f4,R4,ne4⟩;dsimp only;rcases Vr ps4 with rfl|⟨pre4,⟨y1,y2,y3⟩,rfl⟩
    ·exact absurd rfl ne4
    rw [Vs] at G4 R4;refine jt (ZsA G4 λst5 G5=>h4 _ _ _ G5 R4.pow ⟨λi j hi hij hj=>?_,λi hi hj=>?_⟩ λi hi hn=>?_)
    ·rw [f4 i hi,f4 j (QE hi hij)];exact S3.1 i j hi hij hj
    ·rw [f4 i hi];exact S3.2 i hi hj
    ·rw [f4 i (QE (VR ..) hi)];exact U3 i hi hn
  clear_value jp
  dsimp -zeta -zetaHave only [mm];refine YG (λc2=>jt (vH (uD ⟨rfl,jt (Zrb hC G2 m1 (by omega) (by omega) S2 U2 λst3 l3 G3 fr3 S3 U3=>?_)⟩))) λc2=>h3 m st2 l2 G2 R2 m1 (by omega) S2 U2;rw [if_neg (by decide)];exact h3 _ st3 l3 G3 (R2.congr (l':=l3) λi _ hi=>fr3 i hi) (by omega) (by omega) S3 U3
 ·rintro c st' ⟨l,ps,lo,rfl,G,R,lon,xlo,_⟩;have:lo=n:=by omega
  subst this;exact ⟨l,ps,rfl,G,R⟩
 ·rintro c st' ⟨l,ps,rfl,G,R⟩;dsimp only;have lp:=R.pos
  refine jt (ug (j7 (I:=λx c st'=>c=(none,())/\∃l ps,Gd κ it n st' l ps/\Ym (lx key) l ps 0 n/\ps.length+x<=n)
   (Q:=λc st'=>c=(none,())/\∃l ps,Gd κ it n st' l ps/\Ym (lx key) l ps 0 n/\ps.length<=1) ?_ ?_ ⟨rfl,l,ps,G,R,by omega⟩) ?_)
  ·rintro x c st1 _ hx ⟨rfl,l1,ps1,G1,R1,h1⟩;refine jt (vx ?_);have ep:=G1.pend;unfold uC at ep;rw [ep,jI];refine YG (λc=>jz ⟨rfl,l1,ps1,G1,R1,c⟩) λc=>?_;refine jt (Zgu hC.lx G1 (Qf n) R1 (Nat.add_le_of_le_sub (by omega) (ZrE (by omega) (by omega))) λst2 l2 ps2 G2 _ R2 h2=>?_);rw [if_neg (by decide)];exact jz ⟨rfl,l2,ps2,G2,R2,by omega⟩
  ·rintro c st1 ⟨rfl,l1,ps1,G1,R1,h1⟩;exact ⟨rfl,l1,ps1,G1,R1,by omega⟩
  ·rintro c st1 ⟨rfl,l1,ps1,G1,R1,h1⟩;refine jz (q st1 l1 ps1 G1 ?_)
   match ps1,h1,R1 with
   |[],_,R=>exact λi j _ _ hj=>by have:0=n:=R;omega
   |[p],_,⟨_,_,⟨S,_⟩,e⟩=>
    have e:0+p.2.1=n:=e;rwa [e] at S
end
end LB
namespace LB
open PySem PySem.W PyProof.Rows
theorem ZcL (l:List Nat) (i:Nat):LS.gt l.toArray i=l.getD i 0:=by unfold LS.gt;rw [QJ,UU,Qb]
theorem ZjK {prog:jx} {w:jG} {O:ve} {key:Nat->O.α} {n:Nat}:L2.ZhH prog w key n:=by
 intro A E κ s ks vs hl hn h2 hask;subst hn;have hC:Cmp prog w A s κ (ks.toArray.zip vs.toArray) key vs.length:=λi j hi hj Q q=>by have:=hask.ask i j Q s hi hj rfl λs' e=>e▸q;rw [kat_ask_eq hl] at this;exact this
 have sz:(ks.toArray.zip vs.toArray).size=vs.length:=by simp [hl]
 have hG:Gd κ (ks.toArray.zip vs.toArray) vs.length (SortSt.mk' κ (ks.toArray.zip vs.toArray) #[] 7 none) (Qj vs.length) []:=by refine ⟨rfl,rfl,?_,rfl,List.Perm.refl _⟩;show ks.toArray.zip vs.toArray=AL (ks.toArray.zip vs.toArray) (Qj vs.length);have e:=kas_range (ks.toArray.zip vs.toArray);rw [sz] at e;rw [List.map_toArray] at e;unfold AL;exact e.symm
 have:=Zq9 (E:=E) hC hG (Q:=λ_ st'=>∃p:Array Nat,LS.Pm vs.length p/\LS.Ust key p vs.length/\vR st'=p.map (ul (ks.toArray.zip vs.toArray))/\vD st'=none) λst' l' ps G S=>by
  have ln:=G.len;have S':∀i j,i<j->j<vs.length->(Zel O).kle (lx key (l'.getD i 0)) (lx key (l'.getD j 0)):=λi j h1 h2=>S i j (Qu _) (QT h1) h2;refine ⟨l'.toArray,G.perm,⟨λi j hij hj=>?_,λi j hij hj e=>?_⟩,?_,G.fail⟩
  ·rw [ZcL,ZcL];exact ZnU (S i j (Qu _) hij hj)
  ·rw [ZcL,ZcL] at e ⊢
   have h:=S' i j hij hj;have h:(O.blt (key (l'.getD j 0)) (key (l'.getD i 0)) || (!O.blt (key (l'.getD i 0)) (key (l'.getD j 0)) && decide (l'.getD j 0<l'.getD i 0)))=false:=h;rw [e,O.irrefl] at h;have h:¬l'.getD j 0<l'.getD i 0:=by simpa using h
   have nd:l'.Nodup:=G.perm.nodup_iff.mpr List.nodup_range;have ne:l'.getD i 0≠l'.getD j 0:=λz=>by rw [Qb,Qb,Qd (show i<l'.length by omega),Qd (show j<l'.length by omega)] at z;have:=(WS nd).mp (Option.some.inj (by simpa using z));omega
   omega
  ·rw [G.arr];simp [AL]
 exact this
end LB
namespace L2
open PySem PySem.Spec PyProof.Rows
section
variable {X:Cx} {c P:jo} {params:Arguments} {body:jL} {scope:Scope} {cl:List (Str×jo)} {cp:List (Str×Nat)} {x:Str} {q:Str} {e:jL} {ta:TA} {te:TE} {np lp kp pos:Pos}
noncomputable def ZeE (K:Qa) (P:jo) (lp:Pos) (q:Str) (cp:List (Str×Nat)) (ta:TA) (te:TE):TE:=λσ H Q=>ta σ H λvs H1=>match vs with
 |[.ref a]=>∃(xs:List V) (kL:List (List Nat)),Src K H1 a xs/\xs.length<=100000/\kL.length=xs.length/\Bk P lp q H1/\(∀H2 i y,zp H1 H2->xs[i]?=some y->te (ZfW y cp σ) H2 fun k H'=>H'=H2/\k=.str (T (kL.getD i [])))/\
    ∀H2 l (p:List Nat),zp H1 H2->Jl P H1 H2->Bk P lp q H2->H2 l=none->p.Perm (Qj xs.length)->p.Pairwise (λi j=>kL.getD i []<=kL.getD j []/\(kL.getD i []=kL.getD j []->i<j))->Q (.ref l) (upd H2 l (.lst (p.map λi=>xs.getD i .non)))
 |_=>False
theorem Zgx {K:Qa} (hK:X.K=K) (hc:X.calm=true) (hr:zH 2 X.A) (L:Zj4 X c P) (hgl:Gl X "sorted") (hm:X.mg "sorted"=none) (hcl:Ye scope.names X.env.cells []=some cl) (hdef:defaultsOf params X.env=([],[])) (hq:X.env.qual++"<lambda>"=q)
 (hk:scope.kind=.function) (hnc:∀y∈scope.names,y.2≠ .cell) (hcp:YT X scope cp) (hx:scope.names.lookup x=some .local) (hnx:x∉cp.map (·.1)) (hco:scope.isCoroutine=false) (hgen:scope.isGenerator=false)
 (hb:∀(pm:Value) (c':Value) (ctv u:Value),vE (kla_fn "<lambda>" q params body scope cl pm c' ctv) ⟨[u],[]⟩=pure [(x,u)]) (ha:PA X [e] ta)
 (he:∀A L f c' s H,PE (cxL X A (newEnv scope L jy cl (q++".<locals>.") (some f) (.ref c') none j5) (x::cp.map (·.1)) s H) body te)
 (hs:jA [e] X.env=[(false,eval e X.env)]:=by rfl):PE X (.Call (.Name "sorted" np) [e] [⟨some "key",.Lambda params body scope lp,kp⟩] pos) (ZeE K P lp q cp ta te):=by
 subst hK;intro Zb s σ H Q I h;refine j4 (Zav I hgl hm Zdm (callWith_kw ?_ (by rw [hs];rfl) (by rw [hs];rfl)));have hp:=ha pos Zb s σ H _ I h;refine thn hp λus s1 ⟨vs,H1,I1,rv,h1⟩=>?_;dsimp only at h1;split at h1
 ·rename_i a;obtain ⟨xs,kL,hsrc,h64,hlen,bk,hkey,hfin⟩:=h1;obtain ⟨u,rfl,ru⟩:=rv.one;cases ru;refine kws_cons (ZnM (body:=body) I1 L hcl hdef bk hq λf c' pm ctv H2 s2 I2 hc' bk2 sm se=>kws_nil ?_);show js _ X.A (call (.builtin "sorted") [.ref a] [(Qc "key",.ref f)]) _ _ s2;refine thn (ZlP (Q:=λv H'=>Q v H') hc (hr.mono (by decide)) I2 (sm.src hsrc) h64 (LB.ZjK (O:=PyProof.Rows.strKind.toKeyOrd)) hlen (λps s3 i y k w' I3 hy hk3 rw'=>?_) λl p hl pm' pw=>hfin H2 l p sm se bk2 hl pm' pw) λv s3 z=>?_
  ·have hd:X.A.in1.in1.depth<recursionLimit:=by have:=hr.dp;show X.A.depth<_;omega
   have ho:s3.heap.get? f=some (Qao "<lambda>" q params body scope cl pm c' ctv):=(I3.pin (f,_) (jB _ (uw _ (jB _ (jC.mpr rfl))))).1;have hrec:s3.heap.CodeRec (.ref c') q:=(I3.hok c' _ hc').1;refine ZnL (X:=X) (x:=x) (cp:=cp) I3 (show X.A.frames=some X.stack from I3.ok.frames) (show X.A.handled=none from I3.ok.hd hc) hd hcl hk hnc hcp hx hnx hco hgen ho hrec (λu=>hb pm (.ref c') ctv u) rw' he ?_;have hi:i<kL.length:=by have:=(Qn.mp hy).1;omega
   have ek:k=.str (T (kL.getD i [])):=by rw [Qh,Qd hi] at hk3;rw [Qb,Qd hi];exact (Option.some.inj hk3).symm
   rw [ek];exact hkey H2 i y sm hy
  ·obtain ⟨v',H3,I3,r3,q3⟩:=z;exact ⟨v',H3,I3.unpinned,r3,q3⟩
 ·exact h1.elim
end
section
variable {X:Cx}
noncomputable def ZfA (K:Qa):List V->Hp->VK->Prop:=λvs H Q=>match vs with
 |[.ref a]=>∃ns:List Int,Src K H a (ns.map V.int)/\ns.length<=100000/\∀l (ms:List Int),H l=none->ms.Perm ns->ms.Pairwise (· <=·)->Q (.ref l) (upd H l (.lst (ms.map V.int)))
 |_=>False
theorem ZmJ {K:Qa} (hK:X.K=K) (hc:X.calm=true):qk X (.builtin "sorted") (ZfA K):=by
 subst hK;intro Zb s σ H vs us Q I r h;unfold ZfA at h;split at h
 ·rename_i a;obtain ⟨ns,hx,h64,q⟩:=h;obtain ⟨u,rfl,ru⟩:=qN r;cases ru
  have hl:(ns.map V.int).length=ns.length:=jr ..
  refine ZlQ (κ:=vX) (O:=Zg5) (key:=λi=>ns.getD i (0:Int)) hc I hx (by omega) (LB.ZjK (O:=Zg5)) (λs' vs E Q' I' rv h2 q'=>ZnC rv (by omega) q') (λs' vs I' rv=>?_) λl p hl' pm pu=>?_
  ·have:=Zo0 (prog:=X.prog) (w:=X.w) (A:=X.A.in1.in1) (s:=s') rv;rw [hl];exact this
  ·rw [hl] at pm pu;have pm':p.toList.Perm (Qj ns.length):=pm;have pn:(p.toList.map λi=>ns.getD i 0).Perm ns:=by have:=pm'.map λi=>ns.getD i 0;rw [Zfd] at this;exact this
   have:=q l (p.toList.map λi=>ns.getD i 0) hl' pn (U7.mpr (Zqj pm pu));have e:(p.toList.map λi=>ns.getD i 0).map V.int=p.toList.map λi=>(ns.map V.int).getD i .non:=by rw [uM];refine uF λi hi=>?_;have hi:i<ns.length:=QB.mp (pm'.mem_iff.mp hi);rw [Qb,Qh,Qd hi];show V.int (ns.getD i 0)=_;rw [Qb,Qd hi];rfl
   rw [e] at this;exact this
 ·exact h.elim
noncomputable def ZfB (w:jG):List V->Hp->VK->Prop:=λvs H Q=>match vs with
 |[.ref a]=>∃cs:List Nat,H a=some (ZeM w a cs)/\cs.length<=100000/\∀l (qs:List Nat),H l=none->qs.Perm cs->qs.Pairwise (λi j=>i<=j)->Q (.ref l) (upd H l (.lst (qs.map λc=>V.str (T [c]))))
 |_=>False
theorem ZmK {w:jG} (hw:X.w=w) (hc:X.calm=true):qk X (.builtin "sorted") (ZfB w):=by
 subst hw;intro Zb s σ H vs us Q I r h;unfold ZfB at h;split at h
 ·rename_i a;obtain ⟨cs,hx,h64,q⟩:=h;obtain ⟨u,rfl,ru⟩:=qN r;cases ru;have st:ZgM X.w s.heap a cs:=(I.hok a _ hx).1;refine ZfC (H:=H) (κ:=vX) (O:=PyProof.Rows.strKind.toKeyOrd) hc (I.ok.hd hc) λA E hA=>ZhV hA st λvs s' ds pm rv g1 g2 g3=>?_;have I':Inv X Zb σ H s':=by obtain ⟨h',g',d',t',o'⟩:=s';have e1:g'=s.gens:=g1;have e2:o'=s.os:=g2;subst e1 e2;refine I.call' (ch:=[]) rfl ⟨λb o q n hb hx=>g3 b o q,λb o q n hb hx=>⟨o.slots,g3 b o q⟩,λb o q n hx=>n,λb o q hx=>⟨o,g3 b o q⟩,λb ys q=>q,λb o y q=>q,λb ps q=>⟨#[],by rw [q];simp⟩⟩ (λb o q=>(I.hok b o q).stay (λc y hc z=>g3 c y z) (λc z=>z) λc ys z=>z) I.bare λb hb=>(QL hb).elim
  have hl:(ds.map λc=>V.str (T [c])).length=ds.length:=jr ..
  have em:(ds.map λc=>V.str (T [c]))=(ds.map λc=>[c]).map λk=>V.str (T k):=by rw [uM];rfl
  refine ⟨ds.map λc=>V.str (T [c]),λi=>(ds.map λc=>[c]).getD i [],I',rv,by rw [hl,pm.length_eq];omega,LB.ZjK (O:=PyProof.Rows.strKind.toKeyOrd),λs2 vs2 E2 Q2 I2 rv2 h2 q2=>?_,λs2 vs2 I2 rv2=>?_,λl p hl' pp pu=>?_⟩
  ·rw [em] at rv2;exact Zif rv2 (by rw [hl] at h2;simpa using h2) q2
  ·rw [em] at rv2;have:=Zj9 (prog:=X.prog) (w:=X.w) (A:=X.A.in1.in1) (s:=s2) rv2;rw [hl];rw [jr] at this;exact this
  ·rw [hl] at pp pu;have pl:∀i∈p.toList,i<ds.length:=λi hi=>QB.mp (pp.mem_iff.mp hi);have up:=ZoQ pp pu;have e:(p.toList.map λi=>(ds.map λc=>V.str (T [c])).getD i .non)=(p.toList.map λi=>ds.getD i 0).map λc=>V.str (T [c]):=by rw [uM];refine uF λi hi=>?_;have hi:=pl i hi;show _=V.str (T [ds.getD i 0]);rw [Qb,Qb,Qh,Qd hi];rfl
   rw [e];refine q l _ hl' ?_ ?_
   ·have h1:(p.toList.map λi=>ds.getD i 0).Perm ((Qj ds.length).map λi=>ds.getD i 0):=pp.map _;have h2:((Qj ds.length).map λi=>ds.getD i 0)=ds:=by refine VO (by simp) λi hi1 hi2=>?_;rw [VN,WK,Qb,Qd hi2];rfl
    rw [h2] at h1;exact h1.trans pm
   ·rw [U7];refine up.imp_of_mem λ{i j} hi hj hij=>?_;have hi:=pl i hi;have hj:=pl j hj;rw [Qb,Qb,Qh,Qh,Qd hi,Qd hj] at hij;rw [Qb,Qb,Qd hi,Qd hj];rcases LO.Zpb hij with z|⟨z,_⟩
    ·exact QT z
    ·exact VL z
 ·exact h.elim
end
section
variable {X:Cx}
noncomputable def Zij:List V->Hp->VK->Prop:=λxs H Q=>match xs with
 |[.ref d]=>∃kvs,H d=some (.dK kvs)/\∀l,H l=none->Q (.ref l) (upd H l (.lst (kvs.map λp=>kV p.1)))
 |_=>False
theorem Zo8 (hc:X.calm=true):qk X (.type "list") Zij:=by
 intro Zb s σ H xs us Q I r h;unfold Zij at h;split at h
 ·rename_i d;obtain ⟨kvs,hd,q⟩:=h;obtain ⟨u,rfl,ru⟩:=qN r;cases ru;have hn:=I.hok.fresh (Qf s.heap.objs.size);obtain ⟨hl,hs,vs,rr,hdd⟩:=(show za X.prog X.w H s.heap d (.dK kvs) from I.hok d _ hd);obtain ⟨ep,hat⟩:=hdd.dictAt;have lv:=rr.length;refine PySem.W.kdl_call (PySem.W.kdl_dict hs) (I.ok.hd hc) hat (by omega) λh' tk acc c' k hS hi=>?_
  have vv:ZA (kvs.map λp=>kV p.1) acc.toList:=by
   obtain ⟨h1,h2⟩:=hi;refine ZiY (by rw [jr,lv,<-h1];simp) λi x u ex eu=>?_;rw [Qh] at ex;obtain ⟨p,ep,rfl⟩:=Qy.mp ex;obtain ⟨k',x',e1,e2⟩:=h2 i u (by simpa using eu);have ek:p.1=k':=by have e:=congrArg (λl=>l[i]?) rr.keys;simp only [Qh,ep,e1,UH] at e;exact Option.some.inj e
   rw [ek];exact Zlj e2
  refine ⟨.ref s.heap.objs.size,_,I.laid (o:=.lst (kvs.map λp=>kV p.1)) (t':=tk) k (Qf _) ⟨by rw [jr];omega,acc.toList,c',vv,?_⟩,rfl,q _ hn⟩;simpa using hS
 ·exact h.elim
end
end L2
namespace LD
open PySem L2 LP NumText
theorem ZeY (n:List Nat):∀kept:zh,ZeX (txK kept) (.inr (T n))=txK (Zbx kept n)
 |[]=>rfl
 |p::r=>by
  have ih:=ZeY n r
  unfold ZeX txK Zbx at ih ⊢
  rw [jV,UG,UG,ih];have e:decide ((Sum.inr (T p.1):Key)≠ .inr (T n))=decide (p.1≠n):=decide_eq_decide.mpr (not_congr ⟨λh=>Zb4.mp (Sum.inr.inj h),λh=>by rw [h]⟩);rw [e];split<;>rfl
theorem Zgs (n m:List Nat):∀kept:zh,ZM (Zbx kept n) m=if m=n then none else ZM kept m
 |[]=>by unfold ZM Zbx;simp
 |p::r=>by
  have ih:=Zgs n m r
  unfold ZM Zbx at ih ⊢
  rw [UG];by_cases h:p.1=n
  ·rw [if_neg (by simp [h]),ih,QN];by_cases hm:m=n
   ·rw [if_pos hm,if_pos hm]
   ·rw [if_neg hm,if_neg hm,decide_eq_false (λz=>hm (z.symm.trans h))]
  ·rw [if_pos (by simp [h]),QN,QN];by_cases hp:p.1=m
   ·rw [decide_eq_true hp,if_neg (λz=>h (hp.trans z))]
   ·rw [decide_eq_false hp];exact ih
theorem Zlo (kept:zh) (n:List Nat):(Zbx kept n).length<=kept.length:=Wr ..
theorem Zqk (ws:List (List Nat)):Z8 (Yh 2 ws) (ky "number")=some (V.int (digitsVal (ws.getD 2 []):Nat)):=by have e:Yh 2 ws=[(ky "word",V.str (T (ws.getD 0 []))),(ky "name",V.str (T (ws.getD 1 []))),(ky "number",V.int (digitsVal (ws.getD 2 []):Nat))]:=rfl;have h1:=ZcQ "word" (by decide) "number" (by decide) (by decide);have h2:=ZcQ "name" (by decide) "number" (by decide) (by decide);rw [e,zj (by rw [ZaU h1];exact id),zj (by rw [ZaU h2];exact id),zk rfl]
theorem qf {w n x:List Nat} (hf:Zb5 w=some 0) (hk:32∉w) (hn:32∉n):Yw (w++32::(n++32::x)) 0 [w,n,x]:=by refine ⟨by rw [ZcK _ hk];exact hf,?_,rfl,λh=>absurd h (by decide)⟩;show _=spl 32 2 _;rw [qK 1 _ hk,qK 0 _ hn,ZfF]
theorem JX {w n:List Nat} (hf:Zb5 w=some 1) (hk:32∉w) (hn:32∉n):Yw (w++32::n) 1 [w,n]:=by refine ⟨by rw [ZcK _ hk];exact hf,?_,rfl,λh=>absurd h (by decide)⟩;show _=spl 32 ((w++32::n).length+1) (w++32::n);rw [qK _ _ hk,ZfE _ hn]
theorem Y6 {w n m:List Nat} {i:Nat} (hi:i=2\/i=4) (hf:Zb5 w=some i) (hk:32∉w) (hn:32∉n) (hm:32∉m) (hg:i=2->qL m):Yw (w++32::(n++32::m)) i [w,n,m]:=by
 refine ⟨by rw [ZcK _ hk];exact hf,?_,?_,λh=>?_⟩
 ·have:¬(i=0\/i=3):=by omega
  unfold Jn;rw [if_neg this];have e:(w++32::(n++32::m)).length+1=(w++(n++32::m)).length+1+1:=by simp;omega
  rw [e,qK _ _ hk];have e:(w++(n++32::m)).length+1=(w++(n++m)).length+1+1:=by simp;omega
  rw [e,qK _ _ hn,ZfE _ hm]
 ·rcases hi with rfl|rfl<;>rfl
 ·exact hg (by omega)
theorem Zlc {w n m x:List Nat} (hf:Zb5 w=some 3) (hk:32∉w) (hn:32∉n) (hm:32∉m) (hg:qL m):Yw (w++32::(n++32::(m++32::x))) 3 [w,n,m,x]:=by refine ⟨by rw [ZcK _ hk];exact hf,?_,rfl,λ_=>hg⟩;show _=spl 32 3 _;rw [qK 2 _ hk,qK 1 _ hn,qK 0 _ hm,ZfF]
theorem ZkZ:∀(r:List Nat),(∀c∈r,48<=c/\c<=57)->digitsVal r<10 ^ r.length:=by
 intro r;generalize hr:r.length=k
 induction k generalizing r with
 |zero=>
  intro _;rw [uQ.mp hr]
  decide
 |succ k ih=>
 intro h;rcases Vr r with rfl|⟨l,c,rfl⟩
 ·cases hr
 rw [Vs] at h hr ⊢
 rw [jv,jJ] at hr;have hr:l.length=k:=by omega
 rw [digitsVal_snoc,Nat.pow_succ];have:=ih l hr λd hd=>h d (uw _ hd);have:=h c (by simp);omega
theorem Zgv {n:Nat} (h:n<10 ^ 9):qL (qj (n:Int)):=by
 refine ⟨Zn2 n,(ZbT n (by decide)).mpr h,Ziu n,λh0=>?_⟩;have dg:=Ziu n;have vl:=ZcV n;have le:∀k,0<k->((qj (n:Int)).length<=k↔n<10 ^ k):=λk hk=>ZbT n hk;generalize qj (n:Int)=l at h0 dg vl le
 match l,h0 with
 |[],h0=>cases h0
 |[c],h0=>rw [show c=48 from h0]
 |c::d::r,h0=>
  exfalso;have h0:c=48:=h0;subst h0;rw [digitsVal_zero] at vl;have:=ZkZ (d::r) λc hc=>dg c (jM _ hc);rw [vl] at this;have:=(le (d::r).length (by simp)).mpr this;simp at this;omega
theorem qL.noB {m:List Nat} (g:qL m):32∉m:=λh=>by have:=g.2.2.1 32 h;omega
end LD
namespace L2
open PySem PySem.Spec PyProof.Rows
section
variable {P:List V->Prop}
noncomputable def aR (k:jo->List V->Prop):List V->Prop
 | .ref a::r=>k a r
 |_=>False
noncomputable def aS (k:Str->List V->Prop):List V->Prop
 | .str a::r=>k a r
 |_=>False
noncomputable def aI (k:Int->List V->Prop):List V->Prop
 | .int a::r=>k a r
 |_=>False
noncomputable def aB (k:Bool->List V->Prop):List V->Prop
 | .bl a::r=>k a r
 |_=>False
noncomputable def a0 (p:Prop):List V->Prop
 |[]=>p
 |_=>False
@[elab_as_elim] theorem Zs {k:jo->List V->Prop} {r:List V} (x:aR k r) (h:∀a r,k a r->P (.ref a::r)):P r:=by
 unfold aR at x;split at x
 ·exact h _ _ x
 ·exact x.elim
@[elab_as_elim] theorem Zz {k:Str->List V->Prop} {r:List V} (x:aS k r) (h:∀a r,k a r->P (.str a::r)):P r:=by
 unfold aS at x;split at x
 ·exact h _ _ x
 ·exact x.elim
@[elab_as_elim] theorem ZN {k:Int->List V->Prop} {r:List V} (x:aI k r) (h:∀a r,k a r->P (.int a::r)):P r:=by
 unfold aI at x;split at x
 ·exact h _ _ x
 ·exact x.elim
@[elab_as_elim] theorem Zmv {k:Bool->List V->Prop} {r:List V} (x:aB k r) (h:∀a r,k a r->P (.bl a::r)):P r:=by
 unfold aB at x;split at x
 ·exact h _ _ x
 ·exact x.elim
@[elab_as_elim] theorem Zq {p:Prop} {r:List V} (x:a0 p r) (h:p->P []):P r:=by
 cases r with
 |nil=>exact h x
 |cons _ _=>exact x.elim
end
noncomputable def Zrx (t:TS):Zap->St->Hp->Prop
 |D,[],H=>t D [] H
 |D,a::r,H=>t D (a::r) H
noncomputable def Zry (t:TT):St->Hp->(Bool->Hp->Prop)->Prop
 |[],H,Q=>t [] H Q
 |a::r,H,Q=>t (a::r) H Q
theorem Zaj {X:Cx} {st:List Stmt} {t:TS} (h:PSs X st t):PSs X st (Zrx t):=λZb s σ H D I q=>h Zb s σ H D I (by cases σ<;>exact q)
theorem ZsH {X:Cx} {e:jL} {t:TT} (h:PT X e t):PT X e (Zry t):=λZb s σ H Q I q=>h Zb s σ H Q I (by cases σ<;>exact q)
noncomputable def ZdZ:List Str->List V->St
 |_::N,v::vs=>some v::ZdZ N vs
 |_::N,[]=>none::ZdZ N []
 |[],_=>[]
theorem stR {N:List Str} {vs:List V} {t:TS} {D:Zap} {H:Hp} (h:t D (ZdZ N vs) H) (e:qh N vs=ZdZ N vs:=by rfl):t D (qh N vs) H:=e▸h
structure Pw (K:Qa) (P:jx) (w:jG) (mg:Str->Option Value) (base h:Heap):Prop where
 X:K.In h
 G:h.Ns jy mg
structure DfT (K:Qa) (x:Str) (st:Stmt) (f:jo):Prop where
 a:uY K jy x=some (some (.ref f))
 F:∃fd,Fun K x x st f fd
structure DfM (K:Qa) (C:jo) (x q:Str) (st:Stmt) (f:jo):Prop where
 a:j0 K (.ref C) x=some (some (.ref f))
 i:isFn K (.ref f)=true
 F:∃fd,Fun K x q st f fd
section
variable {K:Qa} {P:jx} {w:jG} {mg:Str->Option Value} {base h:Heap} {C:jo} {x q:Str} {st:Stmt} {f:jo} {k:Nat} {ps:List Str}
theorem DfT.mk2 {oc:Value} {od an:Option jo} {osl:Array (Option Value)} {kV doc pm cdv ct:Value} (a:uY K jy x=some (some (.ref f))) (l:K.lookup f=some ⟨oc,od,.func (vI x x (zd st) (ZV st) (Zk st) .none kV doc pm an cdv ct),osl⟩)
 (c:vF K cdv x=true) (k:uR K (.ref f)=true):DfT K x st f:=⟨a,_,Zdr l c k⟩
theorem DfM.mk2 {oc:Value} {od an:Option jo} {osl:Array (Option Value)} {kV doc pm cdv ct:Value} (a:j0 K (.ref C) x=some (some (.ref f))) (i:isFn K (.ref f)=true) (l:K.lookup f=some ⟨oc,od,.func (vI x q (zd st) (ZV st) (Zk st) .none kV doc pm an cdv ct),osl⟩)
 (c:vF K cdv q=true) (k:uR K (.ref f)=true):DfM K C x q st f:=⟨a,i,_,Zdr l c k⟩
theorem DfT.fn (D:DfT K x st f) (T:Pw K P w mg base h) (sp:Sp) (ok:∀{fd},Fun K x x st f fd->ZQ P w K mg base CX0 k f fd ps sp)
 (b:∀(kV doc pm:Value) (an:Option jo) (cdv ct:Value) (us:List Value),us.length=ps.length->vE (vI x x (zd st) (ZV st) (Zk st) .none kV doc pm an cdv ct) ⟨us,[]⟩=pure (ps.zip us)):Fn P w K mg base k x ps sp:=by
 obtain ⟨fd,F⟩:=D.F;exact ⟨⟨f,fd,ok F,uL T.X T.G D.a,F.kp,F.binds b⟩⟩
theorem DfT.fnX (D:DfT K x st f) (T:Pw K P w mg base h) (sp:Sp) (ok:∀{fd},Fun K x x st f fd->ZQ P w K mg base (CX1 P w) k f fd ps sp)
 (b:∀(kV doc pm:Value) (an:Option jo) (cdv ct:Value) (us:List Value),us.length=ps.length->vE (vI x x (zd st) (ZV st) (Zk st) .none kV doc pm an cdv ct) ⟨us,[]⟩=pure (ps.zip us)):FnX P w K mg base k x ps sp:=by
 obtain ⟨fd,F⟩:=D.F;exact ⟨⟨f,fd,ok F,uL T.X T.G D.a,F.kp,F.binds b⟩⟩
theorem DfT.fnZ (D:DfT K x st f) (T:Pw K P w mg base h) (sp:jo->Sp) (ok:∀{fd},Fun K x x st f fd->ZoW P w K mg base k f fd ps sp)
 (b:∀(kV doc pm:Value) (an:Option jo) (cdv ct:Value) (us:List Value),us.length=ps.length->vE (vI x x (zd st) (ZV st) (Zk st) .none kV doc pm an cdv ct) ⟨us,[]⟩=pure (ps.zip us)):FnZ P w K mg base k x ps sp:=by
 obtain ⟨fd,F⟩:=D.F;exact ⟨⟨f,fd,ok F,uL T.X T.G D.a,F.kp,F.binds b⟩⟩
theorem DfM.md {CX:CXT} (D:DfM K C x q st f) (_:Pw K P w mg base h) (cl:Cls K C) (sp:Sp) (ok:∀{fd},Fun K x q st f fd->ZQ P w K mg base CX k f fd ps sp)
 (b:∀(kV doc pm:Value) (an:Option jo) (cdv ct:Value) (us:List Value),us.length=ps.length->vE (vI x q (zd st) (ZV st) (Zk st) .none kV doc pm an cdv ct) ⟨us,[]⟩=pure (ps.zip us)):Md P w K mg base CX k C x ps [] sp:=by
 obtain ⟨fd,F⟩:=D.F;exact ⟨⟨f,fd,[],ok F,⟨D.a,D.i,F.kp⟩,F.binds b,.nil⟩,cl⟩
end
end L2
namespace My
open PySem L2 LW LP LD NumText
local macro_rules| `(tactic|simp_all! [$xs,*])=> `(tactic|((try dsimp only [List.set,Ui,$(⟨xs.elemsAndSeps⟩),*]);try simp only [$(⟨xs.elemsAndSeps⟩),*]))| `(tactic|simp! [$xs,*])=> `(tactic|simp_all! [Zrx,Zry,ZdZ,L2.qh,jV,map_nil,jD,ua,uE,WC,uN,uJ,Nat.reduceAdd,Nat.reduceSub,Int.reduceLT,Int.reduceLE,true_and,and_true,decide_eq_true_eq,if_true,if_false,String.reduceEq,W8,V3,Q4,decide_true,decide_false,WI,WJ,gS,ZpY,tC,Zs2,ZoL,Zhz,Yg,Zs1,ZoM,ZoG,ZsY,tOp,tUn,tCB,ZoE,ZlU,Zs3,ZsZ,tFn,tB2,ZsX,tOr,Zs0,trV,tSl,ZhC,pT,Zs9,vOr,ZuJ,Zq4,ZrX,Zlg,Zgo,ltV,eqR,neR,sc,isV,ZqA,ZrZ,ixV,slV,Zjl,Znt,isS,Zie,tBM,ZuB,tyV,tFE,L_T,ZkN,ZhD,Zqg,Zqf,unb,Zqe,Zps,Zlh,Zop,Zoq,ZeA,tCR,tCL,Zf4,Zau,ZeE,ZfA,ZfB,ZhB,Zij,ZfW,Zlb,Zgn,Znk,Zic,ZkM,Zqd,ZeD,ZkJ,ZhA,Wm,Zot,Zmz,ZoD,tCP,tB,ZsT,ZoR,Zhl,ZdO,ZuA,ZoF,ZjG,ZuE,ZuC,rIn,inT,ZjL,ZrB,ZsB,ZsV,ZuD,ZqM,Zuw,ZuK,ZsN,Zrk,ZoJ,ZiT,ZoK,ZoH,vk,$(⟨xs.elemsAndSeps⟩),*])| `(tactic|dsimp! [$xs,*])=> `(tactic|simp_all! [Zrx,Zry,ZdZ,L2.qh,jV,map_nil,jD,ua,uE,WC,uN,uJ,Nat.reduceAdd,Nat.reduceSub,Int.reduceLT,Int.reduceLE,true_and,and_true,decide_eq_true_eq,if_true,if_false,String.reduceEq,W8,V3,Q4,decide_true,decide_false,WI,WJ,gS,ZpY,tC,Zs2,ZoL,Zhz,Yg,Zs1,ZoM,ZoG,ZsY,tOp,tUn,tCB,ZoE,ZlU,Zs3,ZsZ,tFn,tB2,ZsX,tOr,Zs0,trV,tSl,ZhC,pT,Zs9,vOr,ZuJ,Zq4,ZrX,Zlg,Zgo,ltV,eqR,neR,sc,isV,ZqA,ZrZ,ixV,slV,Zjl,Znt,isS,Zie,tBM,ZuB,tyV,tFE,L_T,$(⟨xs.elemsAndSeps⟩),*])| `(tactic|walk_at "s")=> `(tactic|(exact ⟨rfl,rfl,rfl,by rfl',rfl,by rfl',by rfl'⟩))| `(tactic|and_intros)=> `(tactic|(simp only [jv,jJ,jD,ua];omega))
noncomputable def top (i:Nat):Stmt:=PySem.Challenge.pw_backindex_k90_texts_kept.main.body.getD i (.Pass ⟨0,0,0,0⟩)
noncomputable abbrev JL:Stmt:=top 14
noncomputable abbrev zN:List Str:=["place","last"]
theorem ZdY:Zv ["place","last"] zN (Zk JL):=by walk_at "s"
noncomputable abbrev Zax:Stmt:=top 15
noncomputable abbrev Zar:List Str:=["gap"]
theorem Zfw:Zv ["gap"] Zar (Zk Zax):=by walk_at "s"
noncomputable abbrev Zaz:Stmt:=top 16
noncomputable abbrev Zas:List Str:=["word"]
theorem Zfy:Zv ["word"] Zas (Zk Zaz):=by walk_at "s"
noncomputable abbrev YM:Stmt:=top 18
noncomputable abbrev YI:List Str:=["text"]
theorem Zf7:Zv ["text"] YI (Zk YM):=by walk_at "s"
noncomputable abbrev q9:Stmt:=top 21
noncomputable abbrev qT:List Str:=["one","other"]
theorem Zdc:Zv ["one","other"] qT (Zk q9):=by walk_at "s"
noncomputable abbrev Ja:Stmt:=top 24
noncomputable abbrev qU:List Str:=["text"]
theorem qG:Zv ["text","order","letters"] qU (Zk Ja):=by walk_at "s"
noncomputable abbrev J9:Stmt:=top 26
noncomputable abbrev J1:List Str:=["text"]
theorem Zbg:Zv ["text","pair"] J1 (Zk J9):=by walk_at "s"
noncomputable abbrev Za1:Stmt:=top 54
noncomputable abbrev ZaP:List Str:=["row"]
theorem Yq:Zv ["row","word","parts","words","told"] ZaP (Zk Za1):=by walk_at "s"
noncomputable abbrev ZbF:Stmt:=top 55
noncomputable abbrev Zbq:List Str:=["word"]
theorem Zht:Zv ["word"] Zbq (Zk ZbF):=by walk_at "s"
noncomputable abbrev JK:Stmt:=top 56
noncomputable abbrev Jz:List Str:=["texts","told"]
theorem ZaI:Zv ["texts","told","part"] Jz (Zk JK):=by walk_at "s"
noncomputable abbrev Zay:Stmt:=top 57
noncomputable abbrev Je:List Str:=["texts","name","text"]
theorem Zfx:Zv ["texts","name","text"] Je (Zk Zay):=by walk_at "s"
noncomputable abbrev Zcv:Stmt:=top 58
noncomputable abbrev Zch:List Str:=["things"]
theorem ZiM:Zv ["things"] Zch (Zk Zcv):=by walk_at "s"
noncomputable abbrev JI:Stmt:=top 59
noncomputable abbrev Jx:List Str:=["texts","told"]
theorem ZdW:Zv ["texts","told"] Jx (Zk JI):=by walk_at "s"
noncomputable abbrev qZ:Stmt:=top 61
noncomputable abbrev qS:List Str:=["texts","told"]
theorem Zdb:Zv ["texts","told"] qS (Zk qZ):=by walk_at "s"
noncomputable abbrev JG:Stmt:=top 62
noncomputable abbrev Jv:List Str:=["texts","told"]
theorem ZdU:Zv ["texts","told"] Jv (Zk JG):=by walk_at "s"
noncomputable abbrev J8:Stmt:=top 63
noncomputable abbrev J0:List Str:=["texts","told"]
theorem JN:Zv ["texts","told","text","many"] J0 (Zk J8):=by walk_at "s"
noncomputable abbrev JJ:Stmt:=top 64
noncomputable abbrev Jy:List Str:=["texts","told"]
theorem ZdX:Zv ["texts","told"] Jy (Zk JJ):=by walk_at "s"
noncomputable abbrev JH:Stmt:=top 67
noncomputable abbrev Jw:List Str:=["texts","told"]
theorem ZdV:Zv ["texts","told"] Jw (Zk JH):=by walk_at "s"
noncomputable abbrev ZbG:Stmt:=top 77
noncomputable abbrev Zbr:List Str:=["_law_script","_law_k"]
theorem Zhu:Zv ["_law_script","_law_k"] Zbr (Zk ZbG):=by walk_at "s"
noncomputable abbrev ZdR:Stmt:=top 78
noncomputable abbrev qd:List Str:=["_law_cell","_law_turn","_law_many"]
theorem Zcx:Zv ["_law_cell","_law_turn","_law_many","_law_by","_law_prime"] qd (Zk ZdR):=by walk_at "s"
noncomputable abbrev ZdS:Stmt:=top 79
noncomputable abbrev Zdk:List Str:=[]
theorem Zfz:Zv ["_law_some"] Zdk (Zk ZdS):=by walk_at "s"
noncomputable abbrev Za2:Stmt:=top 80
noncomputable abbrev ZaQ:List Str:=["_law_cell"]
theorem zu:Zv ["_law_cell","_law_some","_law_size","_law_spot","_law_base","_law_names","_law_k","_law_sign"] ZaQ (Zk Za2):=by walk_at "s"
noncomputable abbrev ZdT:Stmt:=top 81
noncomputable abbrev Zdl:List Str:=["_law_e"]
theorem qb:Zv ["_law_e","_law_kinds","_law_met_here"] Zdl (Zk ZdT):=by walk_at "s"
noncomputable abbrev Zfu:Stmt:=top 82
noncomputable abbrev Zbs:List Str:=["_law_desk","_law_row"]
theorem ZgB:Zv ["_law_desk","_law_row","_law_e"] Zbs (Zk Zfu):=by walk_at "s"
noncomputable abbrev ZbH:Stmt:=top 83
noncomputable abbrev Jk:List Str:=["_law_told","_law_text"]
theorem Zhv:Zv ["_law_told","_law_text"] Jk (Zk ZbH):=by walk_at "s"
noncomputable abbrev Za4:Stmt:=top 84
noncomputable abbrev ZaR:List Str:=["_law_cell","_law_many"]
theorem Zcc:Zv ["_law_cell","_law_many","_law_some"] ZaR (Zk Za4):=by walk_at "s"
noncomputable abbrev Zft:Stmt:=top 85
noncomputable abbrev ZeL:List Str:=["_law_kept_here","_law_name","_law_text"]
theorem ZlM:Zv ["_law_kept_here","_law_name","_law_text"] ZeL (Zk Zft):=by walk_at "s"
noncomputable abbrev Za3:Stmt:=top 86
noncomputable abbrev JQ:List Str:=["_law_name","_law_cell"]
theorem Zf8:Zv ["_law_name","_law_cell"] JQ (Zk Za3):=by walk_at "s"
noncomputable abbrev Zfs:Stmt:=top 87
noncomputable abbrev ZeK:List Str:=["_law_kept_here","_law_name","_law_cell","_law_early"]
theorem Yb:Zv ["_law_kept_here","_law_name","_law_cell","_law_early","_law_kind","_law_far","_law_text","_law_words","_law_many"] ZeK (Zk Zfs):=by walk_at "s"
noncomputable abbrev Zhs:Stmt:=top 88
noncomputable abbrev ZgL:List Str:=["_law_told","_law_due"]
theorem Zoz:Zv ["_law_told","_law_due"] ZgL (Zk Zhs):=by walk_at "s"
noncomputable abbrev JM:Stmt:=top 89
noncomputable abbrev Y0:List Str:=["_law_desk","_law_name","_law_text"]
theorem Jc:Zv ["_law_desk","_law_name","_law_text","_law_sign","_law_places"] Y0 (Zk JM):=by walk_at "s"
noncomputable abbrev ZdQ:Stmt:=top 90
noncomputable abbrev Zdj:List Str:=["_law_desk","_law_kept_here","_law_name","_law_cell"]
theorem qa:Zv ["_law_desk","_law_kept_here","_law_name","_law_cell","_law_near","_law_rows","_law_other","_law_row"] Zdj (Zk ZdQ):=by walk_at "s"
noncomputable abbrev Zda:Stmt:=top 91
noncomputable abbrev Zj5:List Str:=["_law_script"]
theorem Za5:Zv ["_law_script","_law_names","_law_desk","_law_kept_here","_law_k","_law_cell","_law_row","_law_due","_law_name"] Zj5 (Zk Zda):=by walk_at "s"
noncomputable abbrev zw:Stmt:=(YJ (top 25)).getD 0 (.Pass ⟨0,0,0,0⟩)
noncomputable abbrev z6:List Str:=["self","letters","home"]
theorem Zam:Zv ["self","letters","home","column"] z6 (Zk zw):=by walk_at "s"
noncomputable abbrev Y9:Stmt:=(YJ (top 25)).getD 1 (.Pass ⟨0,0,0,0⟩)
noncomputable abbrev Y4:List Str:=["self","row"]
theorem Zb2:Zv ["self","row"] Y4 (Zk Y9):=by walk_at "s"
noncomputable abbrev qE:Stmt:=(YJ (top 25)).getD 2 (.Pass ⟨0,0,0,0⟩)
noncomputable abbrev qw:List Str:=["self","sign"]
theorem Zcw:Zv ["self","sign"] qw (Zk qE):=by walk_at "s"
noncomputable abbrev Y8:Stmt:=(YJ (top 25)).getD 3 (.Pass ⟨0,0,0,0⟩)
noncomputable abbrev Y3:List Str:=["self","sign","row"]
theorem Zb1:Zv ["self","sign","row"] Y3 (Zk Y8):=by walk_at "s"
noncomputable abbrev YE:Stmt:=(YJ (top 25)).getD 4 (.Pass ⟨0,0,0,0⟩)
noncomputable abbrev zU:List Str:=["self","sign","row"]
theorem Zbl:Zv ["self","sign","row"] zU (Zk YE):=by walk_at "s"
noncomputable abbrev Yv:Stmt:=(YJ (top 25)).getD 5 (.Pass ⟨0,0,0,0⟩)
noncomputable abbrev Yu:List Str:=["self","sign","rows"]
theorem Za6:Zv ["self","sign","rows"] Yu (Zk Yv):=by walk_at "s"
noncomputable abbrev qY:Stmt:=(YJ (top 25)).getD 6 (.Pass ⟨0,0,0,0⟩)
noncomputable abbrev qR:List Str:=["self","row"]
theorem Zal:Zv ["self","row","sign"] qR (Zk qY):=by walk_at "s"
noncomputable abbrev zR:Stmt:=(YJ (top 33)).getD 0 (.Pass ⟨0,0,0,0⟩)
noncomputable abbrev Z7:List Str:=["self","text","gap"]
theorem Jb:Zv ["self","text","gap","row","place"] Z7 (Zk zR):=by walk_at "s"
noncomputable abbrev JE:Stmt:=(YJ (top 33)).getD 1 (.Pass ⟨0,0,0,0⟩)
noncomputable abbrev Jt:List Str:=["self","piece"]
theorem YN:Zv ["self","piece","found","sign"] Jt (Zk JE):=by walk_at "s"
noncomputable abbrev JF:Stmt:=(YJ (top 33)).getD 2 (.Pass ⟨0,0,0,0⟩)
noncomputable abbrev Ju:List Str:=["self","row"]
theorem YO:Zv ["self","row","steps"] Ju (Zk JF):=by walk_at "s"
noncomputable abbrev qD:Stmt:=(YJ (top 33)).getD 4 (.Pass ⟨0,0,0,0⟩)
noncomputable abbrev qu:List Str:=["self","piece"]
theorem Zab:Zv ["self","piece","found"] qu (Zk qD):=by walk_at "s"
noncomputable abbrev Yp:Stmt:=(YJ (top 75)).getD 0 (.Pass ⟨0,0,0,0⟩)
noncomputable abbrev YU:List Str:=["self"]
theorem Zfv:Zv ["self"] YU (Zk Yp):=by walk_at "s"
noncomputable abbrev Za0:Stmt:=(YJ (top 75)).getD 1 (.Pass ⟨0,0,0,0⟩)
noncomputable abbrev ZaO:List Str:=["self","row"]
theorem Zcb:Zv ["self","row","told"] ZaO (Zk Za0):=by walk_at "s"
noncomputable abbrev ZfX:Pos:=⟨41,44,41,70⟩
noncomputable abbrev Zb9:Str:="order_of.<locals>.<lambda>"
noncomputable abbrev Zu (tb:jo) (H:Hp):Prop:=Bk tb ZfX Zb9 H
noncomputable abbrev ZcS:Pos:=⟨66,53,66,76⟩
noncomputable abbrev Zak:Str:="Letters.__init__.<locals>.<lambda>"
noncomputable abbrev Zp (tb:jo) (H:Hp):Prop:=Bk tb ZcS Zak H
structure Cs where
 BackError:jo
 NoOrder:jo
 NoPlace:jo
 NoGap:jo
 NoText:jo
 NoTimes:jo
 Empty:jo
 TooLong:jo
 NoName:jo
 NoRow:jo
structure Er (K:Qa) (mg:Str->Option Value) (c:Cs):Prop where
 qa7:mg "BackError"=some (.ref c.BackError)
 qa8:ExC K c.BackError
 qbk:mg "NoOrder"=some (.ref c.NoOrder)
 qbb:mg "NoPlace"=some (.ref c.NoPlace)
 qbl:ExC K c.NoPlace
 qby:mg "NoGap"=some (.ref c.NoGap)
 qbN:ExC K c.NoGap
 qbt:mg "NoText"=some (.ref c.NoText)
 qbm:mg "NoTimes"=some (.ref c.NoTimes)
 qbz:mg "Empty"=some (.ref c.Empty)
 qbA:ExC K c.Empty
 qcn:Zbh K c.Empty
 qbO:jE K (.ref c.Empty) (.type "ValueError")=some true
 qaj:(JA K c.Empty).contains (.ref c.BackError)=true
 qaz:jE K (.ref c.Empty) (.ref c.NoOrder)=some false
 qaA:jE K (.ref c.Empty) (.ref c.NoPlace)=some false
 qaU:jE K (.ref c.Empty) (.ref c.NoGap)=some false
 qaN:jE K (.ref c.Empty) (.ref c.NoText)=some false
 qaB:jE K (.ref c.Empty) (.ref c.NoTimes)=some false
 qaV:jE K (.ref c.Empty) (.ref c.Empty)=some true
 qaC:jE K (.ref c.Empty) (.ref c.TooLong)=some false
 qaO:jE K (.ref c.Empty) (.ref c.NoName)=some false
 qaW:jE K (.ref c.Empty) (.ref c.NoRow)=some false
 qbc:mg "TooLong"=some (.ref c.TooLong)
 qbd:ExC K c.TooLong
 qci:Zbh K c.TooLong
 qbn:jE K (.ref c.TooLong) (.type "ValueError")=some true
 qah:(JA K c.TooLong).contains (.ref c.BackError)=true
 qak:jE K (.ref c.TooLong) (.ref c.NoOrder)=some false
 qal:jE K (.ref c.TooLong) (.ref c.NoPlace)=some false
 qaD:jE K (.ref c.TooLong) (.ref c.NoGap)=some false
 qat:jE K (.ref c.TooLong) (.ref c.NoText)=some false
 qam:jE K (.ref c.TooLong) (.ref c.NoTimes)=some false
 qaE:jE K (.ref c.TooLong) (.ref c.Empty)=some false
 qan:jE K (.ref c.TooLong) (.ref c.TooLong)=some true
 qau:jE K (.ref c.TooLong) (.ref c.NoName)=some false
 qaF:jE K (.ref c.TooLong) (.ref c.NoRow)=some false
 qbe:mg "NoName"=some (.ref c.NoName)
 qbf:ExC K c.NoName
 qcm:Zbh K c.NoName
 qbu:jE K (.ref c.NoName) (.type "ValueError")=some true
 qai:(JA K c.NoName).contains (.ref c.BackError)=true
 qav:jE K (.ref c.NoName) (.ref c.NoOrder)=some false
 qaw:jE K (.ref c.NoName) (.ref c.NoPlace)=some false
 qaP:jE K (.ref c.NoName) (.ref c.NoGap)=some false
 qaG:jE K (.ref c.NoName) (.ref c.NoText)=some false
 qax:jE K (.ref c.NoName) (.ref c.NoTimes)=some false
 qaQ:jE K (.ref c.NoName) (.ref c.Empty)=some false
 qay:jE K (.ref c.NoName) (.ref c.TooLong)=some false
 qaH:jE K (.ref c.NoName) (.ref c.NoName)=some true
 qaR:jE K (.ref c.NoName) (.ref c.NoRow)=some false
 qbg:mg "NoRow"=some (.ref c.NoRow)
 qbh:ExC K c.NoRow
 qco:Zbh K c.NoRow
 qbP:jE K (.ref c.NoRow) (.type "ValueError")=some true
 qao:(JA K c.NoRow).contains (.ref c.BackError)=true
 qaI:jE K (.ref c.NoRow) (.ref c.NoOrder)=some false
 qaJ:jE K (.ref c.NoRow) (.ref c.NoPlace)=some false
 qaX:jE K (.ref c.NoRow) (.ref c.NoGap)=some false
 qaS:jE K (.ref c.NoRow) (.ref c.NoText)=some false
 qaK:jE K (.ref c.NoRow) (.ref c.NoTimes)=some false
 qaY:jE K (.ref c.NoRow) (.ref c.Empty)=some false
 qaL:jE K (.ref c.NoRow) (.ref c.TooLong)=some false
 qaT:jE K (.ref c.NoRow) (.ref c.NoName)=some false
 qaZ:jE K (.ref c.NoRow) (.ref c.NoRow)=some true
structure Cf (K:Qa) (Zd:jo) (Zm:jo) (Zy:jo):Prop where
 qaa:Cls K Zd
 qad:YC K Zd "column"
 qap:YC K Zd "forths"
 qaq:YC K Zd "home"
 qac:YC K Zd "last"
 qag:YC K Zd "totals"
 qar:Cls K Zm
 qa0:YC K Zm "gap"
 qae:YC K Zm "held"
 qaf:YC K Zm "known"
 qb4:Cls K Zy
 qas:YC K Zy "texts"
noncomputable def ZbA:List (Str×V):=[("keep",.str "word name rest"),("load",.str "word name rest"),("ahead",.str "word name rest"),("drop",.str "word name"),("off",.str "word name number"),("text",.str "word name"),("pack",.str "word name"),("count",.str "word name rest"),("find",.str "word name rest"),("near",.str "word name number rest"),("often",.str "word name number"),("kinds",.str "word name"),("lone",.str "word name"),("cut",.str "word name rest"),("both",.str "word name other")]
noncomputable def Za9:List V:=[.str "keep",.str "load"]
noncomputable def Ze9:List (Str×Str):=[("keep","answer_keep"),("ahead","answer_ahead"),("drop","answer_drop"),("off","answer_off"),("text","answer_text"),("find","answer_find")]
structure Tp (K:Qa) (P:v9) (mg:Str->Option Value) (zF ZY Z6:jo):Prop where
 qcj:mg "FORMS"=some (.ref zF)
 qbB:ZeN K P zF ZbA
 qck:mg "KEEPING"=some (.ref ZY)
 qbo:ZoX K ZY Za9
 qcl:mg "ANSWERS"=some (.ref Z6)
 qbp:Zq1 K P mg Z6 Ze9
structure Gc (mg:Str->Option Value):Prop where
 MOST_SIGNS:∃t,mg "MOST_SIGNS"=some (.int 300 t)
 NO_LETTER:∃t,mg "NO_LETTER"=some (.str "\n" t)
structure Bn (mg:Str->Option Value):Prop where
 ValueError:mg "ValueError"=none
 dict:mg "dict"=none
 enumerate:mg "enumerate"=none
 int:mg "int"=none
 isinstance:mg "isinstance"=none
 len:mg "len"=none
 list:mg "list"=none
 range:mg "range"=none
 reversed:mg "reversed"=none
 set:mg "set"=none
 sorted:mg "sorted"=none
 str:mg "str"=none
 sum:mg "sum"=none
 zip:mg "zip"=none
section
variable {P:jx} {w:jG} {K:Qa} {mg:Str->Option Value} {base:Heap}
variable {Z6 zF ZY Zy Zm Zd f Zc Zf:jo} {c:Cs} {fd:j9}
noncomputable def qJ (K:Qa) (c:Cs):Sp:=λvs H Q E=>aS (λz=>a0 ((L z).length<=sizeLine/\(qL (L z)->Q (.int (digitsVal (L z):Nat)) H)/\(¬qL (L z)->E (.ref c.NoRow) none H))) vs
theorem Zfl (F:Fun K "number_in" "number_in" Zaz f fd) (B:Bn mg) (ER:Er K mg c):ZQ P w K mg base (CX1 P w) 1 f fd Zas (qJ K c):=by
 refine F.okX Zfy (λ_ _ _ _ hJ=>Zz hJ λ_ _ hJ=>Zq hJ λ_=>rfl) (λcdv A outer s H vs Q E hr hJ=>Zz hJ λz _ hJ=>Zq hJ λh=>?_)
 ·repeat clear hJ
  obtain ⟨hl,q,e⟩:=h
  refine ⟨_,(Zh (zb (PW.pt (ZkF (zr Ziv (ZC (zL (K:=K) rfl) (by rfl) B.len zK (Za (qv 0) Ze)) Zl) (ZkF (zr Zju (ZC (zL (K:=K) rfl) (by rfl) B.len zK (Za (qv 0) Ze)) Zl) (ZjF (zr ZpC (qA (K:=K) rfl QC V7 V5 Zkv (qv 0) (Za Zn Ze)) Zn))))) (Zo (YY Z1 rfl ER.qbh rfl ER.qbg (Za Zn Ze))) ZH)
   (Zh (zb (PW.pt (Zfq (zr ZbY (Z9 (zi (K:=K) rfl) (qv 0) Zl (λ_ _=>rfl)) Zn) (Zez (zr ZpC (qv 0) Zn)))) (Zo (YY Z1 rfl ER.qbh rfl ER.qbg (Za Zn Ze))) ZH)
   (Zo (Zx (zQ Zrh (by rfl) B.int ZgR (Za (qv 0) Ze)))))),stR ?_⟩
  have hsz:sizeLine=16777216:=jw;have e1:L (Qc "0123456789")=UB 48 10:=by rfl'
  have e2:L (Qc "")=[]:=by rfl'
  have e3:L (Qc "0")=[48]:=by rfl'
  have dg:(∀c∈L z,c∈UB 48 10)↔∀c∈L z,48<=c/\c<=57:=by exact forall_congr' λc=>forall_congr' λ_=>by rw [WN];omega
  simp! [gtV,e1,e2,e3];refine ⟨hl,YK (λw=>⟨by decide,e λg=>by have:=g.1;omega⟩) λw1=>⟨hl,YK (λw=>⟨by decide,e λg=>by have:=g.2.1;omega⟩) λw2=>⟨hl,λl hll=>?_⟩⟩⟩;have h0:L z≠[]:=λw=>by rw [w] at w1;exact w1 (by decide)
  by_cases l0:l=[]
  ·have d:=dg.mp (hll.mp l0);rw [decide_eq_true l0];refine ZcN ⟨hl,_,YV 0 (by omega) (by omega),YK (λw=>?_) λw=>⟨by omega,h0,d,q ⟨by omega,by omega,d,λv=>absurd (by rw [show ((0:Int)).toNat=0 from rfl,v]) w⟩⟩⟩;have e0:(L z).getD 0 0=48:=Vf w;by_cases e4:L z=[48]
   ·rw [decide_eq_true e4];exact ZcN ⟨by omega,h0,d,q ⟨by omega,by omega,d,λ_=>e4⟩⟩
   ·rw [decide_eq_false e4];exact Zdu ⟨by decide,e λg=>e4 (g.2.2.2 e0)⟩
  ·rw [decide_eq_false l0];exact Zdu ⟨by decide,e λg=>l0 (hll.mpr (dg.mpr g.2.2.1))⟩
theorem ZnE:ZbA=Zkl.map λp=>(Qc p.1,V.str (Qc (Zh6 p.2))):=rfl
theorem ZlW (w:List Nat):Zcy ZbA (T w)=(Zb5 w).map λi=>V.str (Qc (Zh6 i)):=by rw [ZnE];exact ZkQ w Zkl
noncomputable def Jh (K:Qa) (c:Cs):Sp:=λvs H Q E=>aS (λz=>a0 ((L z).length<=5000/\(∀i ws,Yw (L z) i ws->∀H' d,Zt H H'->H d=none->H' d=some (.dK (Yh i ws))->Q (.ref d) H')/\((¬ ∃i ws,Yw (L z) i ws)->∀H',Zt H H'->E (.ref c.NoRow) none H'))) vs
theorem Zf0 (F:Fun K "read_row" "read_row" Za1 f fd) (B:Bn mg) (ER:Er K mg c) (TP:Tp K w.params mg zF ZY Z6) (Zaq:FnX P w K mg base 1 "number_in" Zas (qJ K c)):ZQ P w K mg base (CX1 P w) 2 f fd ZaP (Jh K c):=by
 refine F.okX Yq (λ_ _ _ _ hJ=>Zz hJ λ_ _ hJ=>Zq hJ λ_=>rfl) (λcdv A outer s H vs Q E hr hJ=>Zz hJ λz _ hJ=>Zq hJ λh=>?_)
 ·repeat clear hJ
  obtain ⟨hl,q,e⟩:=h
  refine ⟨_,(Zh (ZF (ZD (i:=1) Yq.nd rfl (by ac_nf) (Z9 (zi (K:=K) rfl) (qA (K:=K) rfl QC PySem.F.slot_str_partition PySem.F.type_str_partition Zim (qv 0) (Za Zn Ze)) Zl (λ_ _=>rfl))))
   (Zh (zb (zr (Zlv (K:=K) rfl rfl TP.qbB) (qv 1) (zZ (v:=.ref zF) rfl TP.qcj rfl)) (Zo (YY Z1 rfl ER.qbh rfl ER.qbg (Za Zn Ze))) ZH)
   (Zh (ZF (ZD (i:=2) Yq.nd rfl (by ac_nf) (qA (K:=K) rfl QC Ve Vd Zg9 (Z9 (ZrA (K:=K) rfl rfl TP.qbB) (zZ (v:=.ref zF) rfl TP.qcj rfl) (qv 1) (λ_ _=>rfl)) (Za Zn Ze))))
   (Zh (ZF (ZD (i:=3) Yq.nd rfl (by ac_nf) (qA (K:=K) rfl QC Ve Vd Zg9 (qv 0) (Za Zn Ze))))
   (Zh (ZF (zb (zr ZbY (Z9 (zi (K:=K) rfl) (qv 2) (ZkA ZkR Zl) (λ_ _=>rfl)) Zn) (Zo (ZD (i:=3) Yq.nd rfl (by ac_nf) (qA (K:=K) rfl QC Ve Vd Zg9 (qv 0) (Za Zn (Za (Zr Zfg (ZC (zL (K:=K) rfl) (by rfl) B.len zK (Za (qv 2) Ze)) Zl) Ze))))) ZH))
   (Zh (zb (zr ZpC (ZC (zL (K:=K) rfl) (by rfl) B.len zK (Za (qv 3) Ze)) (ZC (zL (K:=K) rfl) (by rfl) B.len zK (Za (qv 2) Ze))) (Zo (YY Z1 rfl ER.qbh rfl ER.qbg (Za Zn Ze))) ZH)
   (Zh (ZF (ZD (i:=4) Yq.nd rfl (by ac_nf) (Zob (K:=K) rfl rfl B.dict B.zip (Za (qv 2) (Za (qv 3) Ze)))))
   (Zh (ZF (zb (ZbE (ZdJ (ZX hr) Zn (qv 4))) (Zo (ZbU (ZX hr) (qv 4) Zn (Zaw Z1.toTk Zaq (hr.mono (by decide)) (Za (ZU (ZX hr) (qv 4) Zn (λ_ _=>rfl)) Ze)) rfl)) ZH))
   (Zo (Zx (qv 4))))))))))),stR ?_⟩
  have hsz:sizeLine=16777216:=jw;have e1:L (Qc " ")=[32]:=by rfl'
  refine zD (λσ' H'=>Zt H H'/\σ'=[some (V.str z),some (V.str (T (fw (L z)))),none,none,none]) ?_ ?_
  ·simp! [e1];refine ⟨32,rfl,by omega,λk h1 h2 p hp=>⟨_,_,.inr (SqT.of Zg),rfl,Zt.updN hp,by rw [Zt5 h1 h2]⟩,λh1 p hp=>⟨_,_,.inr (SqT.of Zg),rfl,Zt.updN hp,by rw [Zt6 h1,T_L]⟩⟩
  rintro _ H1 ⟨s1,rfl⟩;simp! [true_and];have hfm:=ZlW (fw (L z))
  cases hf:Zb5 (fw (L z)) with
  |none=>
   rw [hf] at hfm;rw [hfm];exact Zdu ⟨by decide,e (λ⟨i,ws,g⟩=>by have:=g.1;rw [hf] at this;cases this) H1 s1⟩
  |some i=>
   have hi:=Zni hf;replace hfm:Zcy ZbA (T (fw (L z)))=some (V.str (Qc (Zh6 i))):=by rw [hfm,hf];rfl
   rw [hfm];refine ZcN ?_;have hL:∀s:String,L (Qc s)=cd s:=λ_=>rfl;refine zD (λσ' H'=>Zt H H'/\∃p,H' p=some (.lst ((zY i).map λw=>V.str (T w)))/\σ'=[some (V.str z),some (V.str (T (fw (L z)))),some (V.ref p),none,none]) ?_ ?_
   ·simp! [e1,hfm];have l1:∀i,i<5->(L (Qc (Zh6 i))).length+2<=sizeLine:=by rw [hsz];rfl'
    refine ⟨_,rfl,?_⟩;simp! [e1];refine ⟨32,rfl,by decide,l1 i hi,λp hp=>⟨s1.upd hp,p,?_,rfl⟩⟩;rw [hL,ZoB i hi];exact Zg
   rintro _ H2 ⟨s2,p,hp,rfl⟩;refine zD (λσ' H'=>Zt H H'/\∃q,H' p=some (.lst ((zY i).map λw=>V.str (T w)))/\H' q=some (.lst ((spl 32 ((L z).length+1) (L z)).map λw=>V.str (T w)))/\σ'=[some (V.str z),some (V.str (T (fw (L z)))),some (V.ref p),some (V.ref q),none]) ?_ ?_
   ·simp! [e1];exact ⟨32,rfl,by decide,by omega,λq hq=>⟨s2.upd hq,q,(Zi (Zj hp hq)).trans hp,Zg,rfl⟩⟩
   rintro _ H3 ⟨s3,q0,hp3,hq3,rfl⟩;refine zD (λσ' H'=>Zt H H'/\∃q,H' p=some (.lst ((zY i).map λw=>V.str (T w)))/\H' q=some (.lst ((Jn i (L z)).map λw=>V.str (T w)))/\σ'=[some (V.str z),some (V.str (T (fw (L z)))),some (V.ref p),some (V.ref q),none]) ?_ ?_
   ·simp! [e1];refine ⟨_,_,.inl (SqL.of hp3),Zlm hi,?_⟩;simp! [hL];have hlr:ZnN i=cd "rest"↔(i=0\/i=3):=decide_eq_decide.mp (Zjj i hi);refine YK (λh03=>?_) λh03=>?_
    ·rw [hlr] at h03
     have fl:1<=(zY i).length/\(zY i).length<=4:=by
      rw [Zje i hi];split
      ·omega
      ·split<;>omega
     have hn:((((zY i).map λw=>V.str (T w)).length:Int)-1).toNat=(zY i).length-1:=by rw [jr];omega
     refine ⟨_,.inl (SqL.of hp3),32,rfl,by decide,by omega,by rw [jr];omega,by rw [jr];omega,λq hq=>⟨s3.upd hq,q,(Zi (Zj hp3 hq)).trans hp3,?_,rfl⟩⟩;rw [Zg,hn];unfold Jn;rw [if_pos h03]
    ·rw [hlr] at h03;refine ⟨s3,q0,hp3,?_,rfl⟩;unfold Jn;rw [if_neg h03];exact hq3
   rintro _ H4 ⟨s4,q1,hp4,hq4,rfl⟩;simp! [true_and];refine ⟨_,.inl (SqL.of hq4),_,.inl (SqL.of hp4),YK (λhne=>⟨by decide,e (λ⟨j,ws,g⟩=>?_) H4 s4⟩) λheq=>?_⟩
   ·have ej:j=i:=Option.some.inj (g.1.symm.trans hf);subst ej;simp only [QR,decide_eq_false_iff_not,jr] at hne;exact hne (by have:=g.2.2.1;rw [g.2.1] at this;omega)
   have hwl:(Jn i (L z)).length=(zY i).length:=by simp only [QR,decide_eq_false_iff_not,jr,Decidable.not_not] at heq;omega
   refine zD (λσ' H'=>Zt H H'/\∃d,H d=none/\H' d=some (.dK (qi i (Jn i (L z))))/\σ'=[some (V.str z),some (V.str (T (fw (L z)))),some (V.ref p),some (V.ref q1),some (V.ref d)]) ?_ ?_
   ·simp! [true_and];refine ⟨zY i,(Jn i (L z)).map λw=>V.str (T w),SqL.of hp4,SqL.of hq4,by rw [jr];exact hwl.symm,λd hd=>⟨s4.upd hd,d,s4.free hd,?_,rfl⟩⟩;rw [Zg,Zk8 hi hwl]
   rintro _ H5 ⟨s5,d,hd0,hd5,rfl⟩;refine zD (λσ' H'=>Zt H H'/\Yw (L z) i (Jn i (L z))/\H' d=some (.dK (Yh i (Jn i (L z))))/\σ'=[some (V.str z),some (V.str (T (fw (L z)))),some (V.ref p),some (V.ref q1),some (V.ref d)]) ?_ ?_
   ·simp! [true_and];have ek:V.str (Qc "number")=kV (ky "number"):=by show _=V.str (T (cd "number"));rw [Zbv]
    refine ⟨d,_,rfl,by rw [ek];exact DGet.k hd5,_,rfl,?_⟩;rw [ZfL hi];by_cases h2:i=2\/i=3
    ·rw [if_pos h2];refine Zdu ⟨d,_,rfl,by rw [ek];exact (ZfL hi (Jn i (L z))).trans (if_pos h2)▸DGet.k hd5,?_⟩;have hw3:((Jn i (L z)).getD 2 []).length<=5000:=QE (ZkH i (L z) 2) hl;simp only [qJ,L_T,aR,aS,aI,aB,a0];refine ⟨by omega,λg=>⟨d,_,rfl,by rw [ek];exact .inl ⟨_,ky "number",hd5,rfl,by have:=ZoO i (Jn i (L z));omega,rfl⟩,?_⟩,λg=>e (λ⟨j,ws,gr⟩=>?_) H5 s5⟩
     ·rw [ZjE hi h2];refine ⟨λb o hb=>?_,⟨hf,rfl,hwl,λ_=>g⟩,Zg⟩;rw [Zi (Zj hb hd0)];exact s5 b o hb
     ·have ej:j=i:=Option.some.inj (gr.1.symm.trans hf);subst ej;exact g (gr.2.1▸gr.2.2.2 h2)
    ·rw [if_neg h2];exact ZcN ⟨s5,⟨hf,rfl,hwl,λz=>absurd z h2⟩,Zqh h2 _▸hd5⟩
   rintro _ H6 ⟨s6,g6,hd6,rfl⟩;simp! [true_and];exact q i _ g6 H6 d s6 hd0 hd6
noncomputable def JV (K:Qa):Sp:=λvs H Q _=>aS (λz=>a0 ((L z).length<=5000/\∀b:Bool,(b=true↔zX (L z))->Q (.bl b) H)) vs
theorem Zhc (F:Fun K "is_name" "is_name" ZbF f fd) (B:Bn mg):ZQ P w K mg base CX0 1 f fd Zbq (JV K):=by
 refine F.ok Zht (λ_ _ _ _ hJ=>Zz hJ λ_ _ hJ=>Zq hJ λ_=>rfl) (λcdv A outer s H vs Q E hr hJ=>Zz hJ λz _ hJ=>Zq hJ λh=>?_)
 ·repeat clear hJ
  obtain ⟨hl,q⟩:=h;refine ⟨_,(Zo (Zx (Zex (ZlC Zui Zui Zl (ZC (zL (K:=K) rfl) (by rfl) B.len zK (Za (qv 0) Ze)) Zl) (Zhg (Zb8 ZbY (qA (K:=K) rfl QC V7 V5 Zkv (qv 0) (Za Zn Ze)) Zn))))),stR ?_⟩;have hsz:sizeLine=16777216:=jw;have e1:L (Qc "abcdefghijklmnopqrstuvwxyz")=UB 97 26:=by rfl'
  have e2:L (Qc "")=[]:=by rfl'
  have dg:(∀c∈L z,c∈UB 97 26)↔∀c∈L z,97<=c/\c<=122:=by exact forall_congr' λc=>forall_congr' λ_=>by rw [WN];omega
  simp! [leV,e1,e2];exact ⟨by omega,YK (λh1=>YK (λh2=>⟨by omega,λl hl'=>q _ ⟨λz=>⟨by omega,by omega,dg.mp (hl'.mp (of_decide_eq_true z))⟩,λn=>decide_eq_true (hl'.mpr (dg.mpr n.2.2))⟩⟩) λh2=>q false ⟨λz=>(by cases z),λn=>by have:=n.2.1;omega⟩) λh1=>q false ⟨λz=>(by cases z),λn=>by have:=n.1;omega⟩⟩
noncomputable def YS (K:Qa) (c:Cs):Sp:=λvs H Q E=>aR (λt=>aR (λd=>a0 (∃kept i ws,H t=some (.dK (txK kept))/\i<5/\H d=some (.dK (Yh i ws))/\(∀k,(ws.getD k []).length<=5000)/\(Zcg kept i ws->∀H',Zt H H'->Q .non H')/\(¬Zcg kept i ws->∀H',Zt H H'->E (.ref c.NoName) none H')))) vs
theorem ZdE (F:Fun K "check_names" "check_names" JK f fd) (ER:Er K mg c) (TP:Tp K w.params mg zF ZY Z6) (Zbn:Fn P w K mg base 1 "is_name" Zbq (JV K)):ZQ P w K mg base (CX1 P w) 2 f fd Jz (YS K c):=by
 refine F.okX ZaI (λ_ _ _ _ hJ=>Zs hJ λ_ _ hJ=>Zs hJ λ_ _ hJ=>Zq hJ λ_=>rfl) (λcdv A outer s H vs Q E hr hJ=>Zs hJ λt _ hJ=>Zs hJ λd _ hJ=>Zq hJ λh=>?_)
 ·repeat clear hJ
  obtain ⟨kept,i,ws,ht,hi,hd,hw,q,e⟩:=h
  refine ⟨_,(Zh (zb (zr (Zuh (K:=K) rfl) (ZU (ZX hr) (qv 1) Zn (λ_ _=>rfl)) (zZ (v:=.ref ZY) rfl TP.qck rfl)) (Zh (zb (ZdN (ZaZ (K:=K) rfl (ZS Zbn (hr.mono (by decide)) (Za (ZU (ZX hr) (qv 1) Zn (λ_ _=>rfl)) Ze)))) (Zo (YY Z1 rfl ER.qbf rfl ER.qbe (Za Zn Ze))) ZH)
   (Zo ZpT)) ZH)
   (Zo (ZpW (K:=K) rfl Z1.own rfl (ZR (Za Zn (Za Zn Ze))) (zf (i:=2) ZaI.nd rfl (by ac_nf)) (Zaj (Zo (zb (PW.pt (Zfq (ZbE (ZdJ (ZX hr) (qv 2) (qv 1))) (Zez (ZbE (ZdK (ZX hr) (ZU (ZX hr) (qv 1) (qv 2) (λ_ _=>rfl)) (qv 0)))))) (Zo (YY Z1 rfl ER.qbf rfl ER.qbe (Za Zn Ze))) ZH)))))),stR ?_⟩
  have hsz:sizeLine=16777216:=jw;have ek:∀s:String,V.str (Qc s)=kV (ky s):=λs=>by show _=V.str (T (cd s));rw [Zbv]
  simp! [Zrw,JV,aR,aS,aI,aB,a0]
  have hin:inV (V.str (T (ws.getD 0 []))) Za9=true↔(ws.getD 0 []=cd "keep"\/ws.getD 0 []=cd "load"):=by
   have es:∀s:String,(Qc s==T (ws.getD 0 []))=true↔ws.getD 0 []=cd s:=λs=>by rw [beq_iff_eq,<-Zbv,Zb4];exact eq_comm
   show ((Qc "keep"==T (ws.getD 0 [])) || ((Qc "load"==T (ws.getD 0 [])) || false))=true↔_;rw [QS,QS,es,es];simp
  refine ⟨d,_,rfl,ZiX i ws▸DGet.kys hd "word",ZY,Za9,rfl,.inr (TP.qbo.sq H),rfl,rfl,YK (λh1=>?_) λh1=>?_⟩
  ·refine ⟨d,_,rfl,YF i ws▸DGet.kys hd "name",?_⟩;simp only [L_T];refine ⟨hw 1,λb hb=>YK (λh2=>⟨by decide,e (λn=>?_) H (Zt.refl H)⟩) λh2=>q ⟨λ_=>hb.mp (by simpa using h2),λn=>absurd (hin.mp h1) n⟩ H (Zt.refl H)⟩;have:=hb.mpr (n.1 (hin.mp h1));rw [this] at h2;cases h2
  ·rw [hin] at h1;simp! [ZqN,Zrw];refine ⟨by omega,?_⟩;intro p hp;have np:∀{b:jo} {o:HO},H b=some o->b≠p:=λh=>Zj h hp;have s1:Zt H (upd H p (HO.tup [V.str (Qc "name"),V.str (Qc "other")])):=Zt.updN hp;refine ⟨_,SqT.of Zg,λk σ' H'=>H'=upd H p (HO.tup [V.str (Qc "name"),V.str (Qc "other")])/\(∃x,σ'=[some (V.ref t),some (V.ref d),x])/\(1<=k->(ZM kept (ws.getD 1 [])).isSome=true)/\(2<=k->i=4->(ZM kept (ws.getD 2 [])).isSome=true),⟨rfl,⟨_,rfl⟩,λz=>absurd z (by decide),λz=>absurd z (by decide)⟩,?_,?_,?_⟩
   ·rintro k σ' H' _ ⟨rfl,_⟩;exact SqT.of Zg
   ·rintro k x σ' H' hx ⟨rfl,⟨y,rfl⟩,g1,g2⟩;simp! [true_and];have hd':=s1 d _ hd;have ht':=s1 t _ ht
    match k,hx,g1,g2 with
    |0,hx,_,_=>
     cases Option.some.inj hx;refine ⟨d,_,rfl,DGet.kys hd' "name",_,rfl,?_⟩;rw [YF];refine Zdu ⟨d,_,rfl,YF i ws▸DGet.kys hd' "name",t,_,rfl,DGet.k (k:=.inr (T (ws.getD 1 []))) ht',_,rfl,?_⟩;rw [YB,Ux];refine YK (λh2=>⟨by decide,e (λn=>?_) _ s1⟩) λh2=>⟨⟨_,rfl⟩,λ_=>by rw [QR,WP] at h2;exact h2,λz=>absurd z (by decide)⟩;have:=(n.2 h1).1;rw [this] at h2;cases h2
    |1,hx,g1,_=>
     cases Option.some.inj hx;refine ⟨d,_,rfl,DGet.kys hd' "other",_,rfl,?_⟩;rw [ZgF hi];by_cases h4:i=4
     ·rw [if_pos h4];refine Zdu ⟨d,_,rfl,(ZgF hi ws).trans (if_pos h4)▸DGet.kys hd' "other",t,_,rfl,DGet.k (k:=.inr (T (ws.getD 2 []))) ht',_,rfl,?_⟩;rw [YB,Ux];refine YK (λh2=>⟨by decide,e (λn=>?_) _ s1⟩) λh2=>⟨⟨_,rfl⟩,λ_=>g1 (by decide),λ_ _=>by rw [QR,WP] at h2;exact h2⟩;have:=(n.2 h1).2 h4;rw [this] at h2;cases h2
     ·rw [if_neg h4];exact ZcN ⟨⟨_,rfl⟩,λ_=>g1 (by decide),λ_ z=>absurd z h4⟩
    |k+2,hx,_,_=>cases hx
   ·rintro σ' H' ⟨rfl,_,g1,g2⟩;exact q ⟨λz=>absurd z h1,λ_=>⟨g1 (by decide),g2 (by decide)⟩⟩ _ s1
noncomputable def Yc (K:Qa) (c:Cs):Sp:=λvs H Q E=>aR (λt=>aS (λn=>aS (λx=>a0 (∃kept,H t=some (.dK (txK kept))/\kept.length<=1000/\(L x).length<=5000/\((L x).length<=300->Q (.str (Qc "ok")) (upd H t (.dK (txK (J6 kept (L n) (L x))))))/\(300<(L x).length->E (.ref c.TooLong) none H))))) vs
theorem Zfk (F:Fun K "keep_text" "keep_text" Zay f fd) (B:Bn mg) (ER:Er K mg c) (GC:Gc mg):ZQ P w K mg base (CX1 P w) 1 f fd Je (Yc K c):=by
 refine F.okX Zfx (λ_ _ _ _ hJ=>Zs hJ λ_ _ hJ=>Zz hJ λ_ _ hJ=>Zz hJ λ_ _ hJ=>Zq hJ λ_=>rfl) (λcdv A outer s H vs Q E hr hJ=>Zs hJ λt _ hJ=>Zz hJ λn _ hJ=>Zz hJ λx _ hJ=>Zq hJ λh=>?_)
 ·repeat clear hJ
  obtain ⟨kept,ht,hk,hxl,q,e⟩:=h
  refine ⟨_,(Zh (zb (zr Zju (ZC (zL (K:=K) rfl) (by rfl) B.len zK (Za (qv 2) Ze)) (Zoc rfl GC.MOST_SIGNS)) (Zo (YY Z1 rfl ER.qbd rfl ER.qbc (Za Zn Ze))) ZH)
   (Zh (ZbU (ZX hr) (qv 0) (qv 1) (qv 2) rfl)
   (Zo (Zx Zn)))),stR ?_⟩
  have hsz:sizeLine=16777216:=jw;simp! [gtV];refine ⟨by omega,YK (λh1=>⟨by decide,e (by omega)⟩) λh1=>⟨t,_,rfl,.inl ⟨_,.inr (T (L n)),ht,by rw [T_L];rfl,by unfold txK;rw [jr];omega,rfl⟩,?_⟩⟩;have:=Zc5 kept (L n) (L x);rw [T_L,T_L] at this;rw [T_L,this];exact q (by omega)
noncomputable def zA (K:Qa) (c:Cs):Sp:=λvs H Q E=>aR (λt=>aR (λd=>a0 (∃kept ws,H t=some (.dK (txK kept))/\kept.length<=1000/\H d=some (.dK (Yh 0 ws))/\(ws.getD 2 []).length<=5000/\((ws.getD 2 []).length<=300->Q (.str (Qc "ok")) (upd H t (.dK (txK (J6 kept (ws.getD 1 []) (ws.getD 2 []))))))/\(300<(ws.getD 2 []).length->E (.ref c.TooLong) none H)))) vs
theorem ZdC (F:Fun K "answer_keep" "answer_keep" JI f fd) (Yo:FnX P w K mg base 1 "keep_text" Je (Yc K c)):ZQ P w K mg base (CX1 P w) 2 f fd Jx (zA K c):=by
 refine F.okX ZdW (λ_ _ _ _ hJ=>Zs hJ λ_ _ hJ=>Zs hJ λ_ _ hJ=>Zq hJ λ_=>rfl) (λcdv A outer s H vs Q E hr hJ=>Zs hJ λt _ hJ=>Zs hJ λd _ hJ=>Zq hJ λh=>?_)
 ·repeat clear hJ
  obtain ⟨kept,ws,ht,hk,hd,hxl,q,e⟩:=h;refine ⟨_,(Zo (Zx (Zaw Z1.toTk Yo (hr.mono (by decide)) (Za (qv 0) (Za (ZU (ZX hr) (qv 1) Zn (λ_ _=>rfl)) (Za (ZU (ZX hr) (qv 1) Zn (λ_ _=>rfl)) Ze)))))),stR ?_⟩;have ek:∀s:String,V.str (Qc s)=kV (ky s):=λs=>by show _=V.str (T (cd s));rw [Zbv]
  simp! [true_and];refine ⟨d,_,rfl,YF 0 ws▸DGet.kys hd "name",d,_,rfl,ZfM ws▸DGet.kys hd "rest",?_⟩;simp only [Yc,L_T,aR,aS,aI,aB,a0];exact ⟨kept,ht,hk,hxl,q,e⟩
noncomputable def zB (K:Qa) (c:Cs):Sp:=λvs H Q E=>aR (λt=>aR (λd=>a0 (∃kept i ws x,H t=some (.dK (txK kept))/\H d=some (.dK (Yh i ws))/\ZM kept (ws.getD 1 [])=some x/\Q (.str (T x)) H))) vs
theorem ZdD (F:Fun K "answer_text" "answer_text" JJ f fd):ZQ P w K mg base (CX1 P w) 1 f fd Jy (zB K c):=by
 refine F.okX ZdX (λ_ _ _ _ hJ=>Zs hJ λ_ _ hJ=>Zs hJ λ_ _ hJ=>Zq hJ λ_=>rfl) (λcdv A outer s H vs Q E hr hJ=>Zs hJ λt _ hJ=>Zs hJ λd _ hJ=>Zq hJ λh=>?_)
 ·repeat clear hJ
  obtain ⟨kept,i,ws,x,ht,hd,hx,q⟩:=h;refine ⟨_,(Zo (Zx (ZU (ZX hr) (qv 0) (ZU (ZX hr) (qv 1) Zn (λ_ _=>rfl)) (λ_ _=>rfl)))),stR ?_⟩;have ek:∀s:String,V.str (Qc s)=kV (ky s):=λs=>by show _=V.str (T (cd s));rw [Zbv]
  simp! [true_and];have hv:Z8 (txK kept) (.inr (T (ws.getD 1 [])))=some (V.str (T x)):=by rw [YB,hx];rfl
  exact ⟨d,_,rfl,YF i ws▸DGet.kys hd "name",t,_,rfl,hv▸DGet.k (k:=.inr (T (ws.getD 1 []))) ht,q⟩
noncomputable def ZL (K:Qa) (c:Cs):Sp:=λvs H Q E=>aI (λp=>aI (λl=>a0 (((0<=p/\p<=l)->Q .non H)/\(¬(0<=p/\p<=l)->E (.ref c.NoPlace) none H)))) vs
theorem ZdF (F:Fun K "check_place" "check_place" JL f fd) (ER:Er K mg c):ZQ P w K mg base (CX1 P w) 1 f fd zN (ZL K c):=by
 refine F.okX ZdY (λ_ _ _ _ hJ=>ZN hJ λ_ _ hJ=>ZN hJ λ_ _ hJ=>Zq hJ λ_=>rfl) (λcdv A outer s H vs Q E hr hJ=>ZN hJ λp _ hJ=>ZN hJ λl _ hJ=>Zq hJ λh=>?_)
 ·repeat clear hJ
  obtain ⟨q,e⟩:=h;refine ⟨_,(Zo (zb (PW.pt (ZkF (zr Ziv (qv 0) Zl) (ZjF (zr Zju (qv 0) (qv 1))))) (Zo (YY Z1 rfl ER.qbl rfl ER.qbb (Za Zn Ze))) ZH)),stR ?_⟩;dsimp! [ZkN,ZhD,Zqg,Zqf,unb,Zqe,Zps,Zlh,Zop,Zoq,ZeA,tCR,tCL,Zf4,Zau,ZeE,ZfA,ZfB,ZhB,Zij,ZfW,Zlb,Zgn,Znk,Zic,ZkM,Zqd,ZeD,ZkJ,ZhA,Wm,Zot,Zmz,ZoD,tCP,tB];refine YK (λh0=>⟨by decide,e (by omega)⟩) λh0=>YK (λh1=>⟨by decide,e (by omega)⟩) λh1=>q ⟨by omega,by omega⟩
noncomputable def qI (K:Qa) (c:Cs):Sp:=λvs H Q E=>aI (λg=>a0 ((g<1->E (.ref c.NoGap) none H)/\(¬g<1->Q .non H))) vs
theorem Zfj (F:Fun K "check_gap" "check_gap" Zax f fd) (ER:Er K mg c):ZQ P w K mg base (CX1 P w) 1 f fd Zar (qI K c):=by
 refine F.okX Zfw (λ_ _ _ _ hJ=>ZN hJ λ_ _ hJ=>Zq hJ λ_=>rfl) (λcdv A outer s H vs Q E hr hJ=>ZN hJ λ_ _ hJ=>Zq hJ λh=>?_)
 ·repeat clear hJ
  refine ⟨_,(Zo (zb (zr Ziv (qv 0) Zl) (Zo (YY Z1 rfl ER.qbN rfl ER.qby (Za Zn Ze))) ZH)),stR ?_⟩;simp! [true_and];exact YK (λz=>⟨by decide,h.1 z⟩) λz=>h.2 z
noncomputable def zW (K:Qa):Sp:=λvs H Q _=>aS (λa=>aS (λb=>a0 (Q (.bl (decide (L a<L b))) H))) vs
theorem Zc0 (F:Fun K "comes_before" "comes_before" q9 f fd):ZQ P w K mg base CX0 1 f fd qT (zW K):=by
 refine F.pure Zdc (λ_ _ _ _ hJ=>Zz hJ λ_ _ hJ=>Zz hJ λ_ _ hJ=>Zq hJ λ_=>rfl) (λcdv A outer s H vs Q E hr hJ=>Zz hJ λ_ _ hJ=>Zz hJ λ_ _ hJ=>Zq hJ λh=>?_)
 ·repeat clear hJ
  refine ⟨_,(Zo (Zx (Zb8 Ziv (qv 0) (qv 1)))),stR ?_⟩;dsimp! [true_and];exact ⟨Zt.refl _,h⟩
noncomputable def Yz (K:Qa) (c:Cs) (C:jo) (tb:jo):Sp:=λvs H Q E=>aR (λx=>aS (λz=>aI (λh=>a0 ((L z).length<=300/\Zp tb H/\(∃dx,H x=some (.ins C dx []))/\(¬(0<=h/\h<=(L z).length)->E (.ref c.NoPlace) none H)/\((0<=h/\h<=(L z).length)->∀H',(∀b o,b≠x->H b=some o->(∀ps,o≠ .tbl ps)->H' b=some o)->(∀b,H b≠none->H' b≠none)->(∀b o,b≠x->b≠tb->H b=some o->H' b=some o)->Zp tb H'->qt C H' x (L z) h.toNat->Q .non H'))))) vs
theorem ZcY {f:jo} {fd:j9} (F:Fun K "__init__" "Letters.__init__" zw f fd) (B:Bn mg) {Zc:jo} {cd:jo} (LM_m_Letters_init:Lm mg base cd Zc) (hcd:fd.code=.ref cd) {c:Cs} (ER:Er K mg c) {zF ZY Z6:jo} (TP:Tp K w.params mg zF ZY Z6) {Zd Zm Zy:jo} (CF:Cf K Zd Zm Zy) (GC:Gc mg) (ZK:FnX P w K mg base 1 "check_place" zN (ZL K c)):ZQ P w K mg base (CX1 P w) 3 f fd z6 (Yz K c Zd Zc):=by
 refine F.okLX hcd Zam (λ_ _ _ _ hJ=>Zs hJ λ_ _ hJ=>Zz hJ λ_ _ hJ=>ZN hJ λ_ _ hJ=>Zq hJ λ_=>rfl) (λA outer s H vs Q E hr hJ=>Zs hJ λx _ hJ=>Zz hJ λz _ hJ=>ZN hJ λh _ hJ=>Zq hJ λh=>?_)
 ·repeat clear hJ
  obtain ⟨hl,bk,⟨dx,hx⟩,e,q⟩:=h
  refine ⟨_,(Zh (JT (Zaw Z1.toTk ZK (hr.mono (by decide)) (Za (qv 2) (Za (ZC (zL (K:=K) rfl) (by rfl) B.len zK (Za (qv 1) Ze)) Ze))))
   (Zh (ZD (i:=3) Zam.nd rfl (by ac_nf) (Zr Zw (Zr Zw (zE (Zaa (K:=K) rfl) (qv 1) YL (ZbD (qv 2))) (Zod rfl GC.NO_LETTER)) (zE (Zaa (K:=K) rfl) (qv 1) (ZbD (qv 2)) YL)))
   (Zh (JU (K:=K) rfl CF.qaa CF.qad (qv 0) (qv 3) rfl)
   (Zh (JU (K:=K) rfl CF.qaa CF.qaq (qv 0) (qv 2) rfl)
   (Zh (ZF (JU (K:=K) rfl CF.qaa CF.qac (qv 0) (ZC (zL (K:=K) rfl) (by rfl) B.len zK (Za (qv 1) Ze)) rfl))
   (Zh (JU (K:=K) rfl CF.qaa CF.qag (qv 0) (ZiB (K:=K) rfl (own:=["sign"]) (cp:=[(("letters":Str),1)]) rfl rfl rfl (by rfl') (by rfl') ⟨⟨rfl,rfl,rfl⟩,trivial⟩ (ZC (ZmK (w:=w) rfl rfl) (by rfl) B.sorted Zdm (Za (zQ (Zrj (w:=w) rfl rfl) (by rfl) B.set Zrd (Za (qv 1) Ze)) Ze)) (by decide) (λ_ _ _ _=>zf (i:=0) (show UJ (["sign","letters"]:List Str) by rfl') rfl (Or.inl rfl) (Or.inr rfl)) (λ_ _ _ _=>Zhh) (λ_ _ _ _=>(ZR (Za (qv 0) (Za (qA (K:=K) rfl QC V8 V6 Zil (qv 1) (Za (qv 0) Ze)) Ze))))) rfl)
   (Zo (JU (K:=K) rfl CF.qaa CF.qap (qv 0) (Zgx (K:=K) (x:="row") (cp:=[(("column":Str),3)]) (q:=Zak) rfl rfl (hr.mono (by decide)) (LM_m_Letters_init.at rfl) rfl B.sorted rfl rfl rfl rfl (by rfl') ⟨⟨rfl,rfl,rfl⟩,trivial⟩ rfl (by rfl') rfl rfl (λ_ _ _ _=>rfl) (Za (zQ Zkd (by rfl) B.range ZhM (Za (ZC (zL (K:=K) rfl) (by rfl) B.len zK (Za (qv 3) Ze)) Ze)) Ze) (λ_ _ _ _ _ _=>(Z9 (zi (K:=K) rfl) (qv 1) (qv 0) (λ_ _=>rfl)))) rfl)))))))),stR ?_⟩
  simp! [ZL,aR,aS,aI,aB,a0];have hsz:sizeLine=16777216:=jw;refine ⟨by omega,λhh=>?_,λhh=>e hh⟩;obtain ⟨m,rfl⟩:∃m:Nat,h=(m:Int):=⟨h.toNat,by omega⟩;have hm:m<=(L z).length:=by omega
  have q:=q hh;rw [Qm] at q;have c1:=ZbO (L z) none (some (m:Int));have c2:=ZbO (L z) (some (m:Int)) none;have c3:(L (Qc "\n")).length=1:=by rfl'
  have cl:=ZhU hm;refine ⟨by omega,by omega,by omega,by rw [jv];omega,?_⟩;rw [ZmP];refine ⟨_,_,hx,by decide,_,_,Zg,by show 1<1000;decide,?_⟩;rw [ZhE];refine zD (λσ' H'=>H'=upd H x (HO.ins Zd dx (Ya (Qc "last") (V.int ((L z).length:Nat)) (Ya (Qc "home") (V.int (m:Int)) (Ya (Qc "column") (V.str (T (z8 (L z) m))) []))))/\σ'=[some (V.ref x),some (V.str z),some (V.int (m:Int)),some (V.str (T (z8 (L z) m)))]) ?_ ?_
  ·simp! [true_and];refine ⟨by omega,_,_,Zg,by show 2<1000;decide,?_⟩;rw [ZhE]
  rintro _ _ ⟨rfl,rfl⟩;generalize hF:Ya (Qc "last") (V.int ((L z).length:Nat)) (Ya (Qc "home") (V.int (m:Int)) (Ya (Qc "column") (V.str (T (z8 (L z) m))) []))=F3;simp! [true_and];have lF:F3.length=3:=by rw [<-hF];rfl
  have bk0:Zp Zc (upd H x (HO.ins Zd dx F3)):=Zbw bk hx;refine ⟨by omega,λp cs hp nd mem=>⟨cs,Zg,?_,λl qs hl2 pm pw=>?_⟩⟩
  ·have:=LO.Zev nd λc hc=>(mem c).mp hc;omega
  have lq:qs.length<=(L z).length:=by rw [pm.length_eq];exact LO.Zev nd λc hc=>(mem c).mp hc
  have x1:upd (upd H x (HO.ins Zd dx F3)) p (ZeM w p cs) x=some (HO.ins Zd dx F3):=ZkS hp;have x2:upd (upd (upd H x (HO.ins Zd dx F3)) p (ZeM w p cs)) l (HO.lst (qs.map λc=>V.str (T [c]))) x=some (HO.ins Zd dx F3):=(Zi (Zj x1 hl2)).trans x1;have l2:upd (upd (upd H x (HO.ins Zd dx F3)) p (ZeM w p cs)) l (HO.lst (qs.map λc=>V.str (T [c]))) l=some (HO.lst (qs.map λc=>V.str (T [c]))):=Zg;have kp2:∀b o,b≠x->H b=some o->upd (upd (upd H x (HO.ins Zd dx F3)) p (ZeM w p cs)) l (HO.lst (qs.map λc=>V.str (T [c]))) b=some o:=λb o hb e=>by have e1:upd H x (HO.ins Zd dx F3) b=some o:=(Zi hb).trans e;have e2:upd (upd H x (HO.ins Zd dx F3)) p (ZeM w p cs) b=some o:=(Zi (Zj e1 hp)).trans e1;exact (Zi (Zj e2 hl2)).trans e2
  have bk2:Zp Zc (upd (upd (upd H x (HO.ins Zd dx F3)) p (ZeM w p cs)) l (HO.lst (qs.map λc=>V.str (T [c])))):=(bk0.put hp).put hl2;have nn2:∀b,H b≠none->upd (upd (upd H x (HO.ins Zd dx F3)) p (ZeM w p cs)) l (HO.lst (qs.map λc=>V.str (T [c]))) b≠none:=λb hb=>ZaB (ZaB (ZaB hb))
  generalize upd (upd (upd H x (HO.ins Zd dx F3)) p (ZeM w p cs)) l (HO.lst (qs.map λc=>V.str (T [c])))=HZ at x2 l2 kp2 bk2 nn2 ⊢
  refine ⟨_,SqL.of l2,by rw [jr];omega,λi H2 acc=>Zt HZ H2/\∃ts:List jo,acc=ts.map V.ref/\Prs H2 ts (qs.take i) (L z),⟨Zt.refl _,[],rfl,rfl,λj d e=>by simp at e⟩,?_,?_,?_⟩
  ·rintro i H2 acc _ ⟨sm,_⟩;exact sm.seq (SqL.of l2)
  ·rintro i y H2 acc hy ⟨sm,ts,rfl,pr⟩;rw [Qh] at hy;obtain ⟨d,ed,rfl⟩:=Qy.mp hy;simp! [true_and];refine ⟨d,rfl,by omega,λt ht=>⟨Zt.upd sm ht,ts++[t],by rw [ux];rfl,?_⟩⟩;rw [Ub,ed];exact (pr.same (ZiL (Zt.updN ht))).snoc Zg
  ·rintro H2 acc ⟨sm,ts,rfl,pr⟩ l3 hl3;rw [jr,QG] at pr;have x3:upd H2 l3 (HO.lst (ts.map V.ref)) x=some (HO.ins Zd dx F3):=(Zi (Zj (sm _ _ x2) hl3)).trans (sm _ _ x2);have t3:upd H2 l3 (HO.lst (ts.map V.ref)) l3=some (HO.lst (ts.map V.ref)):=Zg;have kp3:∀b o,b≠x->H b=some o->upd H2 l3 (HO.lst (ts.map V.ref)) b=some o:=λb o hb e=>by have e1:=sm _ _ (kp2 b o hb e);exact (Zi (Zj e1 hl3)).trans e1
   have bk3:Zp Zc (upd H2 l3 (HO.lst (ts.map V.ref))):=(qx bk2 sm).put hl3;have pr3:=pr.same (ZiL (Zt.updN (o:=HO.lst (ts.map V.ref)) hl3));have nn3:∀b,H b≠none->upd H2 l3 (HO.lst (ts.map V.ref)) b≠none:=λb hb=>ZaB (sm.nn (nn2 b hb))
   generalize upd H2 l3 (HO.lst (ts.map V.ref))=H3 at x3 t3 kp3 bk3 pr3 nn3 ⊢
   have n3:l3≠x:=by rintro rfl;rw [t3] at x3;cases x3
   have lF4:(Ya (Qc "totals") (V.ref l3) F3).length=4:=by rw [<-hF];rfl
   refine ⟨_,_,x3,by omega,by omega,λr hr0=>?_⟩;have bk4:Zp Zc (upd H3 x (HO.ins Zd dx (Ya (Qc "totals") (V.ref l3) F3))):=Zbw bk3 x3;have x4:upd (upd H3 x (HO.ins Zd dx (Ya (Qc "totals") (V.ref l3) F3))) r (HO.rng 0 ((z8 (L z) m).length:Int)) x=some (HO.ins Zd dx (Ya (Qc "totals") (V.ref l3) F3)):=ZkS hr0;have kp4:∀b o,b≠x->H3 b=some o->upd (upd H3 x (HO.ins Zd dx (Ya (Qc "totals") (V.ref l3) F3))) r (HO.rng 0 ((z8 (L z) m).length:Int)) b=some o:=λb o hb e=>by have e1:upd H3 x (HO.ins Zd dx (Ya (Qc "totals") (V.ref l3) F3)) b=some o:=(Zi hb).trans e;exact (Zi (Zj e1 hr0)).trans e1
   have er:=Zou (z8 (L z) m).length;have el:(Zc6 0 ((z8 (L z) m).length:Int)).length=(z8 (L z) m).length:=by rw [er];simp
   refine ⟨_,(z8 (L z) m).map λc=>[c],.inr (.inr ⟨0,_,Zg,rfl,by omega,by omega,by omega,by omega⟩),by omega,by rw [jr,el],bk4.put hr0,λH5 i y sm5 hy=>?_,λH5 l4 p4 sm5 se5 bk5 hl4 pm4 pw4=>?_⟩
   ·have hi:=(Qn.mp hy).1;rw [el] at hi;rw [er,Qh,Um hi] at hy;cases Option.some.inj hy;simp! [true_and];refine ⟨by omega,_,YV 0 (by omega) (by omega),?_⟩;rw [Qm,Qb,Qb,Qh,Qd hi];rfl
   ·have x5:=sm5.at x4 (by nofun);have x6:upd H5 l4 (HO.lst (p4.map λi=>(Zc6 0 ((z8 (L z) m).length:Int)).getD i V.non)) x=some (HO.ins Zd dx (Ya (Qc "totals") (V.ref l3) F3)):=(Zi (Zj x5 hl4)).trans x5;refine ⟨_,_,x6,by omega,?_⟩;have kp6:∀b o,b≠x->H3 b=some o->(∀ps,o≠ .tbl ps)->upd (upd H5 l4 (HO.lst (p4.map λi=>(Zc6 0 ((z8 (L z) m).length:Int)).getD i V.non))) x (HO.ins Zd dx (Ya (Qc "forths") (V.ref l4) (Ya (Qc "totals") (V.ref l3) F3))) b=some o:=λb o hb e n=>by have e1:=sm5.at (kp4 b o hb e) n;exact (Zi hb).trans ((Zi (Zj e1 hl4)).trans e1)
    refine q _ (λb o hb e n=>kp6 b o hb (kp3 b o hb e) n) (λb hb=>ZaB (ZaB (sm5.nn (ZaB (ZaB (nn3 b hb)))))) (λb o hb ht e=>?_) (Zbw (bk5.put hl4) x6) ⟨dx,l3,l4,?_,⟨⟨ts,qs,kp6 _ _ n3 t3 (by nofun),pr3.1,λj d e=>?_,pm.nodup_iff.mpr nd,λc=>pm.mem_iff.trans (mem c)⟩,p4,?_,?_,?_⟩,hm⟩
    ·have e1:=se5 _ _ ht (kp4 b o hb (kp3 b o hb e));exact (Zi hb).trans ((Zi (Zj e1 hl4)).trans e1)
    ·rw [Zg,<-hF];exact congrArg (λf=>some (HO.ins Zd dx f)) (Znj (L z) m l3 l4)
    ·obtain ⟨t,e1,e2⟩:=pr3.2 j d e;have:t≠x:=by rintro rfl;rw [x3] at e2;cases e2
     exact ⟨t,e1,kp6 _ _ this e2 (by nofun)⟩
    ·have n4:l4≠x:=Ne.symm (Zj x5 hl4);rw [Zi n4,Zg]
     congr 2
     refine uF λj hj=>?_;have hj2:j<(z8 (L z) m).length:=by rw [<-el];exact QB.mp (pm4.mem_iff.mp hj)
     rw [er,Qb,Qh,Um hj2];rfl
    ·rw [el,cl] at pm4;exact pm4
    ·refine pw4.imp_of_mem λ{i j} hi hj h=>?_
     have g:∀i∈p4,((z8 (L z) m).map λc=>[c]).getD i []=[(z8 (L z) m).getD i 0]:=λi hi=>by
      have hi2:i<(z8 (L z) m).length:=by rw [<-el];exact QB.mp (pm4.mem_iff.mp hi)
      rw [Qb,Qb,Qh,Qd hi2];rfl
     rw [g i hi,g j hj] at h;exact h
noncomputable def z5 (K:Qa) (c:Cs) (C:jo):Sp:=λvs H Q E=>aR (λa=>aI (λr=>a0 (∃cs h,qt C H a cs h/\cs.length<=1000/\(¬(0<=r/\r<=cs.length)->E (.ref c.NoPlace) none H)/\((0<=r/\r<=cs.length)->Q (if r=(h:Int) then .non else .str (T [(z8 cs h).getD r.toNat 0])) H)))) vs
theorem Zb0 (F:Fun K "letter" "Letters.letter" Y9 f fd) (CF:Cf K Zd Zm Zy) (ZK:FnX P w K mg base 1 "check_place" zN (ZL K c)):ZQ P w K mg base (CX1 P w) 2 f fd Y4 (z5 K c Zd):=by
 refine F.okX Zb2 (λ_ _ _ _ hJ=>Zs hJ λ_ _ hJ=>ZN hJ λ_ _ hJ=>Zq hJ λ_=>rfl) (λcdv A outer s H vs Q E hr hJ=>Zs hJ λa _ hJ=>ZN hJ λr _ hJ=>Zq hJ λh=>?_)
 ·repeat clear hJ
  obtain ⟨cs,h,⟨dx,tot,fo,hx,_,hm⟩,hl,e,q⟩:=h
  refine ⟨_,(Zh (JT (Zaw Z1.toTk ZK (hr.mono (by decide)) (Za (qv 1) (Za (zV (K:=K) rfl CF.qaa CF.qac (qv 0)) Ze))))
   (Zh (zb (zr ZbY (qv 1) (zV (K:=K) rfl CF.qaa CF.qaq (qv 0))) (Zo (Zx ZjB)) ZH)
   (Zo (Zx (Z9 (zi (K:=K) rfl) (zV (K:=K) rfl CF.qaa CF.qad (qv 0)) (qv 1) (λ_ _=>rfl)))))),stR ?_⟩
  simp! [ZL,aR,aS,aI,aB,a0];have hsz:sizeLine=16777216:=jw;have cl:=ZhU hm;refine ⟨_,_,_,hx,rfl,?_⟩;simp! [true_and];refine ⟨λhh=>⟨_,_,_,hx,rfl,?_⟩,λhh=>e hh⟩;have q:=q hh;simp! [true_and];refine YK (λe0=>?_) λe0=>⟨_,_,_,hx,rfl,?_⟩
  ·rw [if_pos e0] at q;exact q
  ·rw [if_neg e0] at q;simp! [true_and];exact ⟨by omega,_,YV 0 (by omega) (by omega),q⟩
noncomputable def Yk (K:Qa) (C:jo):Sp:=λvs H Q _=>aR (λa=>aS (λy=>a0 (∃cs h d,qt C H a cs h/\cs.length<=1000/\L y=[d]/\Q (.int (1+(cs.countP λx=>decide (x<d):Nat))) H))) vs
theorem Zcs (F:Fun K "first" "Letters.first" qE f fd) (B:Bn mg) (CF:Cf K Zd Zm Zy) (qP:Fn P w K mg base 1 "comes_before" qT (zW K)):ZQ P w K mg base CX0 2 f fd qw (Yk K Zd):=by
 refine F.pure Zcw (λ_ _ _ _ hJ=>Zs hJ λ_ _ hJ=>Zz hJ λ_ _ hJ=>Zq hJ λ_=>rfl) (λcdv A outer s H vs Q E hr hJ=>Zs hJ λa _ hJ=>Zz hJ λy _ hJ=>Zq hJ λh=>?_)
 ·repeat clear hJ
  obtain ⟨cs,h,d,⟨dx,tot,fo,hx,⟨⟨ts,ds,t1,t2,t3,nd,mem⟩,_⟩,hm⟩,hl,hy,q⟩:=h;refine ⟨_,(Zo (Zx (Zr Zw Zl (ZC (Zt0 (K:=K) rfl rfl) (by rfl) B.sum Zre (Za (Zn9 (K:=K) rfl (own:=["letter","many"]) (cp:=[(("sign":Str),1)]) rfl rfl rfl (by rfl') (by rfl') ⟨⟨rfl,rfl,rfl⟩,trivial⟩ (zV (K:=K) rfl CF.qaa CF.qag (qv 0)) (by decide) (λ_ _ _ _=>zf (i:=0) (show UJ (["letter","many","sign"]:List Str) by rfl') rfl (Or.inl rfl) (Or.inr rfl)) (λ_ _ _ _=>zf (i:=1) (show UJ (["letter","many","sign"]:List Str) by rfl') rfl (Or.inl rfl) (Or.inr rfl)) (λ_ _ _ _=>Zhi (ZaZ (K:=K) rfl (ZS qP (hr.mono (by decide)) (Za (qv 0) (Za (qv 2) Ze))))) (λ_ _ _ _=>(qv 1))) Ze))))),stR ?_⟩;simp! [zW,aR,aS,aI,aB,a0];have hsz:sizeLine=16777216:=jw;have ld:ds.length<=cs.length:=LO.Zev nd λc hc=>(mem c).mp hc;refine ⟨_,_,_,hx,rfl,?_⟩;simp! [true_and];refine ⟨_,SqL.of t1,by rw [jr];omega,λi H2 acc=>H2=H/\acc=(((ds.take i).filter λx=>decide (x<d)).map λx=>(cs.count x:Int)).map V.int,⟨rfl,rfl⟩,?_,?_,?_⟩
  ·rintro i H2 acc _ ⟨rfl,_⟩;exact SqL.of t1
  ·rintro i r H2 acc hr2 ⟨rfl,rfl⟩;rw [Qh] at hr2;obtain ⟨t,et,rfl⟩:=Qy.mp hr2;have hi:i<ds.length:=by rw [<-t2];exact (Qn.mp et).1
   have ei:ds[i]?=some ds[i]:=Qd hi;obtain ⟨t',et',ht⟩:=t3 i ds[i] ei;rw [et] at et';cases Option.some.inj et';refine ⟨t,_,_,rfl,SqT.of ht,?_⟩;simp! [zW,aR,aS,aI,aB,a0];rw [hy,Ub,ei];have lt1:([ds[i]]<[d])↔ds[i]<d:=by rw [QK];simp
   refine YK (λz=>?_) λz=>?_
   ·have hlt:=lt1.mp z;have fe:jh (λx=>decide (x<d)) (some ds[i]).toList=[ds[i]]:=by simp [WT,hlt]
    rw [UI,fe,ux,ux];rfl
   ·have hlt:¬ds[i]<d:=λy=>z (lt1.mpr y);have fe:jh (λx=>decide (x<d)) (some ds[i]).toList=[]:=by simp [WT,hlt]
    rw [UI,fe,vk]
  ·rintro H2 acc ⟨rfl,rfl⟩ l hl2;rw [jr,t2,QG];refine ⟨_,SqL.of Zg,Zt.updN hl2,?_⟩;rw [ZiR d cs ds nd λx hx=>(mem x).mpr hx];exact q
noncomputable def z0 (K:Qa) (c:Cs) (C:jo):Sp:=λvs H Q E=>aR (λa=>aS (λy=>aI (λr=>a0 (∃cs h d,qt C H a cs h/\cs.length<=1000/\L y=[d]/\(¬(0<=r/\r<=cs.length+1)->E (.ref c.NoPlace) none H)/\((0<=r/\r<=cs.length+1)->Q (.int (((z8 cs h).take r.toNat).count d:Nat)) H))))) vs
theorem ZbZ (F:Fun K "before" "Letters.before" Y8 f fd) (CF:Cf K Zd Zm Zy) (ZK:FnX P w K mg base 1 "check_place" zN (ZL K c)):ZQ P w K mg base (CX1 P w) 2 f fd Y3 (z0 K c Zd):=by
 refine F.okX Zb1 (λ_ _ _ _ hJ=>Zs hJ λ_ _ hJ=>Zz hJ λ_ _ hJ=>ZN hJ λ_ _ hJ=>Zq hJ λ_=>rfl) (λcdv A outer s H vs Q E hr hJ=>Zs hJ λa _ hJ=>Zz hJ λy _ hJ=>ZN hJ λr _ hJ=>Zq hJ λh=>?_)
 ·repeat clear hJ
  obtain ⟨cs,h,d,⟨dx,tot,fo,hx,_,hm⟩,hl,hy,e,q⟩:=h
  refine ⟨_,(Zh (JT (Zaw Z1.toTk ZK (hr.mono (by decide)) (Za (qv 2) (Za (Zr Zw (zV (K:=K) rfl CF.qaa CF.qac (qv 0)) Zl) Ze))))
   (Zo (Zx (qA (K:=K) rfl QC V8 V6 Zil (zV (K:=K) rfl CF.qaa CF.qad (qv 0)) (Za (qv 1) (Za Zl (Za (qv 2) Ze))))))),stR ?_⟩
  simp! [ZL,aR,aS,aI,aB,a0];have hsz:sizeLine=16777216:=jw;refine ⟨_,_,_,hx,rfl,?_⟩;simp! [true_and];refine ⟨λhh=>⟨_,_,_,hx,rfl,?_⟩,λhh=>e hh⟩;have q:=q hh;simp! [true_and];exact ⟨d,hy,hh.1,q⟩
noncomputable def ZJ (K:Qa) (c:Cs) (C:jo):Sp:=λvs H Q E=>aR (λa=>aS (λy=>aI (λr=>a0 (∃cs h d,qt C H a cs h/\cs.length<=1000/\L y=[d]/\(¬(0<=r/\r<=cs.length+1)->E (.ref c.NoPlace) none H)/\((0<=r/\r<=cs.length+1)->Q (.int (1+(cs.countP λx=>decide (x<d):Nat)+(((z8 cs h).take r.toNat).count d:Nat))) H))))) vs
theorem Zbk (F:Fun K "row_with" "Letters.row_with" YE f fd) (qa4:Md P w K mg base CX0 2 Zd "first" qw [] (Yk K Zd)) (qa1:Md P w K mg base (CX1 P w) 2 Zd "before" Y3 [] (z0 K c Zd)):ZQ P w K mg base (CX1 P w) 3 f fd zU (ZJ K c Zd):=by
 refine F.okX Zbl (λ_ _ _ _ hJ=>Zs hJ λ_ _ hJ=>Zz hJ λ_ _ hJ=>ZN hJ λ_ _ hJ=>Zq hJ λ_=>rfl) (λcdv A outer s H vs Q E hr hJ=>Zs hJ λa _ hJ=>Zz hJ λy _ hJ=>ZN hJ λr _ hJ=>Zq hJ λh=>?_)
 ·repeat clear hJ
  obtain ⟨cs,h,d,il,hl,hy,e,q⟩:=h;refine ⟨_,(Zo (Zx (Zr Zw (ZiD qa4 (hr.mono (by decide)) (qv 0) (Za (qv 1) Ze)) (Zct Z1.toTk qa1 (hr.mono (by decide)) (qv 0) (Za (qv 1) (Za (qv 2) Ze)))))),stR ?_⟩;simp! [Yk,z0,aR,aS,aI,aB,a0];have il':=il;obtain ⟨dx,tot,fo,hx,_,hm⟩:=il';exact ⟨a,_,_,rfl,hx,rfl,cs,h,d,il,hl,hy,a,_,_,rfl,hx,rfl,cs,h,d,il,hl,hy,e,q⟩
noncomputable def Yy (K:Qa) (c:Cs) (C:jo):Sp:=λvs H Q E=>aR (λa=>aI (λr=>a0 (∃cs h,qt C H a cs h/\cs.length<=1000/\(∀c∈cs,c≠10)/\(¬(0<=r/\r<=cs.length)->E (.ref c.NoPlace) none H)/\((0<=r/\r<=cs.length)->Q (Zvl (LO.bk (LO.rsL cs h) r.toNat)) H)))) vs
theorem ZcX (F:Fun K "back" "Letters.back" qY f fd) (qa2:Md P w K mg base (CX1 P w) 2 Zd "letter" Y4 [] (z5 K c Zd)) (qab:Md P w K mg base (CX1 P w) 3 Zd "row_with" zU [] (ZJ K c Zd)):ZQ P w K mg base (CX1 P w) 4 f fd qR (Yy K c Zd):=by
 refine F.okX Zal (λ_ _ _ _ hJ=>Zs hJ λ_ _ hJ=>ZN hJ λ_ _ hJ=>Zq hJ λ_=>rfl) (λcdv A outer s H vs Q E hr hJ=>Zs hJ λa _ hJ=>ZN hJ λr _ hJ=>Zq hJ λh=>?_)
 ·repeat clear hJ
  obtain ⟨cs,h,il,hl,h10,e,q⟩:=h
  refine ⟨_,(Zh (ZD (i:=2) Zal.nd rfl (by ac_nf) (Zct Z1.toTk qa2 (hr.mono (by decide)) (qv 0) (Za (qv 1) Ze)))
   (Zh (zb (zr Zu6 (qv 2) ZjB) (Zo (Zx ZjB)) ZH)
   (Zo (Zx (Zct Z1.toTk qab (hr.mono (by decide)) (qv 0) (Za (qv 2) (Za (qv 1) Ze))))))),stR ?_⟩
  simp! [z5,ZJ,aR,aS,aI,aB,a0];have il':=il;obtain ⟨dx,tot,fo,hx,_,hm⟩:=il';refine ⟨a,_,_,rfl,hx,rfl,cs,h,il,hl,e,λhh=>?_⟩;have q:=q hh;by_cases e0:r=(h:Int)
  ·subst e0;rw [Qm,LO.Zo4 hm] at q;simp! [if_pos];exact q
  ·have n0:r.toNat≠h:=by omega
   rw [LO.Zrc hm h10 (by omega) n0] at q;simp! [if_neg e0];refine ⟨a,_,_,rfl,hx,rfl,cs,h,_,il,hl,L_T _,λz=>absurd ⟨hh.1,by omega⟩ z,λ_=>?_⟩;exact q
noncomputable def zn (K:Qa) (c:Cs) (C:jo):Sp:=λvs H Q E=>aR (λa=>aS (λy=>aR (λp=>a0 (∃cs h d,∃lo hi:Int,qt C H a cs h/\cs.length<=1000/\L y=[d]/\H p=some (.tup [.int lo,.int hi])/\(0<=lo/\lo<=cs.length+1)/\(0<=hi/\hi<=cs.length+1)/\
 ∀t,H t=none->Q (.ref t) (upd H t (.tup [.int (1+(cs.countP λx=>decide (x<d):Nat)+(((z8 cs h).take lo.toNat).count d:Nat)),.int (1+(cs.countP λx=>decide (x<d):Nat)+(((z8 cs h).take hi.toNat).count d:Nat))])))))) vs
theorem ZaX (F:Fun K "rows_with" "Letters.rows_with" Yv f fd) (qab:Md P w K mg base (CX1 P w) 3 Zd "row_with" zU [] (ZJ K c Zd)):ZQ P w K mg base (CX1 P w) 4 f fd Yu (zn K c Zd):=by
 refine F.okX Za6 (λ_ _ _ _ hJ=>Zs hJ λ_ _ hJ=>Zz hJ λ_ _ hJ=>Zs hJ λ_ _ hJ=>Zq hJ λ_=>rfl) (λcdv A outer s H vs Q E hr hJ=>Zs hJ λa _ hJ=>Zz hJ λy _ hJ=>Zs hJ λp _ hJ=>Zq hJ λh=>?_)
 ·repeat clear hJ
  obtain ⟨cs,h,d,lo,hi,il,hl,hy,hp,h1,h2,q⟩:=h;refine ⟨_,(Zo (Zx (ZR (Za (Zct Z1.toTk qab (hr.mono (by decide)) (qv 0) (Za (qv 1) (Za (Z9 (zi (K:=K) rfl) (qv 2) Zl (λ_ _=>rfl)) Ze))) (Za (Zct Z1.toTk qab (hr.mono (by decide)) (qv 0) (Za (qv 1) (Za (Z9 (zi (K:=K) rfl) (qv 2) Zl (λ_ _=>rfl)) Ze))) Ze))))),stR ?_⟩;simp! [ZJ,aR,aS,aI,aB,a0];have hsz:sizeLine=16777216:=jw;have il':=il;obtain ⟨dx,tot,fo,hx,_,hm⟩:=il';refine ⟨a,_,_,rfl,hx,rfl,_,_,.inr (SqT.of hp),rfl,?_⟩;simp! [ZJ,aR,aS,aI,aB,a0];refine ⟨cs,h,d,il,hl,hy,λz=>absurd h1 z,λ_=>⟨a,_,_,rfl,hx,rfl,_,_,.inr (SqT.of hp),rfl,?_⟩⟩;simp! [ZJ,aR,aS,aI,aB,a0];exact ⟨cs,h,d,il,hl,hy,λz=>absurd h2 z,λ_=>⟨by omega,λt ht=>q t ht⟩⟩
noncomputable def Yr (K:Qa) (tb:jo):Sp:=λvs H Q _=>aS (λz=>a0 ((L z).length<=300/\Zu tb H/\∀p H',zp H H'->Jl tb H H'->Zu tb H'->H p=none->H' p=some (.lst ((LO.ord (L z)).map λi:Nat=>V.int i))->Q (.ref p) H')) vs
theorem ZfZ {f:jo} {fd:j9} (F:Fun K "order_of" "order_of" YM f fd) (B:Bn mg) {Zf:jo} {cd:jo} (LM_p_order_of:Lm mg base cd Zf) (hcd:fd.code=.ref cd) {c:Cs} (ER:Er K mg c) {zF ZY Z6:jo} (TP:Tp K w.params mg zF ZY Z6) {Zd Zm Zy:jo} (CF:Cf K Zd Zm Zy) (GC:Gc mg):ZQ P w K mg base CX0 3 f fd YI (Yr K Zf):=by
 refine F.okL hcd Zf7 (λ_ _ _ _ hJ=>Zz hJ λ_ _ hJ=>Zq hJ λ_=>rfl) (λA outer s H vs Q E hr hJ=>Zz hJ λz _ hJ=>Zq hJ λh=>?_)
 ·repeat clear hJ
  obtain ⟨hl,bk,q⟩:=h;refine ⟨_,(Zo (Zx (Zgx (K:=K) (x:="place") (cp:=[(("text":Str),0)]) (q:=Zb9) rfl rfl (hr.mono (by decide)) (LM_p_order_of.at rfl) rfl B.sorted rfl rfl rfl rfl (by rfl') ⟨⟨rfl,rfl,rfl⟩,trivial⟩ rfl (by rfl') rfl rfl (λ_ _ _ _=>rfl) (Za (zQ Zkd (by rfl) B.range ZhM (Za (Zr Zw (ZC (zL (K:=K) rfl) (by rfl) B.len zK (Za (qv 0) Ze)) Zl) Ze)) Ze) (λ_ _ _ _ _ _=>(zE (Zaa (K:=K) rfl) (qv 1) (ZbD (qv 0)) YL))))),stR ?_⟩;dsimp! [ZkN,ZhD,Zqg,Zqf,unb,Zqe,Zps,Zlh,Zop,Zoq,ZeA,tCR,tCL,Zf4,Zau,ZeE,ZfA,ZfB,ZhB,Zij,ZfW,Zlb,Zgn,Znk,Zic,ZkM,Zqd,ZeD,ZkJ,ZhA,Wm,Zot,Zmz,ZoD,tCP,tB];have hsz:sizeLine=16777216:=jw;have er:Zc6 0 (((L z).length:Int)+1)=(Qj ((L z).length+1)).map λj:Nat=>V.int j:=Zp1 _;have el:(Zc6 0 (((L z).length:Int)+1)).length=(L z).length+1:=by rw [er];simp
  refine ⟨by omega,λr hr0=>⟨_,(Qj ((L z).length+1)).map (λj=>(L z).drop j),.inr (.inr ⟨0,_,Zg,rfl,by omega,by omega,by omega,by omega⟩),by omega,by rw [el];simp,bk.put hr0,λH2 i y sm hy=>?_,λH2 l1 p sm se bk2 hl2 pm pw=>?_⟩⟩
  ·have hi:=(Qn.mp hy).1;rw [el] at hi;rw [er,Qh,Um hi] at hy;cases Option.some.inj hy;refine ⟨by omega,?_⟩;rw [ZaT _ _ hi,ZcG]
  ·rw [el] at pm;have plt:∀j∈p,j<(L z).length+1:=λj hj=>QB.mp (pm.mem_iff.mp hj);have ep:p=LO.ord (L z):=by refine LO.Zn6 pm (pw.imp_of_mem λ{i j} hi hj h=>?_);have h:=h.1;rw [ZaT _ _ (plt i hi),ZaT _ _ (plt j hj)] at h;exact h
   have sm0:Zt H (upd H r (HO.rng 0 (((L z).length:Int)+1))):=Zt.updN hr0;have sm1:=(Zt.toN sm0).trans sm;refine q l1 _ (sm1.upd hl2) (((Zt.toE sm0).trans se).upd hl2) (bk2.put hl2) (sm1.free hl2) ?_;rw [Zg]
   congr 2
   rw [<-ep];refine uF λj hj=>?_;rw [er,ZaT _ _ (plt j hj)]
noncomputable def YA (K:Qa) (tb:jo):Sp:=λvs H Q _=>aS (λz=>a0 ((L z).length<=300/\Zu tb H/\∀p H',zp H H'->Jl tb H H'->Zu tb H'->H p=none->H' p=some (.tup [.str (T (LO.ze (L z))),.int (LO.Zdt (L z))])->Q (.ref p) H')) vs
theorem Zc1 (F:Fun K "last_letters" "last_letters" Ja f fd) (Yi:Fn P w K mg base 3 "order_of" YI (Yr K Zf)):ZQ P w K mg base CX0 4 f fd qU (YA K Zf):=by
 refine F.ok qG (λ_ _ _ _ hJ=>Zz hJ λ_ _ hJ=>Zq hJ λ_=>rfl) (λcdv A outer s H vs Q E hr hJ=>Zz hJ λz _ hJ=>Zq hJ λh=>?_)
 ·repeat clear hJ
  obtain ⟨hl,bk,q⟩:=h
  refine ⟨_,(Zh (ZD (i:=1) qG.nd rfl (by ac_nf) (ZS Yi (hr.mono (by decide)) (Za (qv 0) Ze)))
   (Zh (ZD (i:=2) qG.nd rfl (by ac_nf) (qA (K:=K) rfl QC UN UM (Zew (K:=K) rfl) Zn (Za (ZiB (K:=K) rfl (own:=["place"]) (cp:=[(("text":Str),0)]) rfl rfl rfl (by rfl') (by rfl') ⟨⟨rfl,rfl,rfl⟩,trivial⟩ (qv 1) (by decide) (λ_ _ _ _=>zf (i:=0) (show UJ (["place","text"]:List Str) by rfl') rfl (Or.inl rfl) (Or.inr rfl)) (λ_ _ _ _=>Zhi (zr Zju (qv 0) Zl)) (λ_ _ _ _=>(Z9 (zi (K:=K) rfl) (qv 1) (Zr Zfg (qv 0) Zl) (λ_ _=>rfl)))) Ze)))
   (Zo (Zx (ZR (Za (qv 2) (Za (qA (K:=K) rfl VY PySem.F.slot_list_index PySem.F.type_list_index (ZpA (K:=K) rfl) (qv 1) (Za Zl Ze)) Ze))))))),stR ?_⟩
  simp! [gtV,ZjN,Yr,aR,aS,aI,aB,a0];have hsz:sizeLine=16777216:=jw;refine ⟨hl,bk,λp H1 sm1 se1 bk1 hp h1=>?_⟩;rw [LO.ZpG] at h1;have ol:=LO.YD (L z);refine ⟨_,SqL.of h1,by rw [jr,jr];omega,λi H2 acc=>H2=H1/\acc=(LO.ltk (L z) i).map λc=>V.str (T [c]),⟨rfl,rfl⟩,?_,?_,?_⟩
  ·rintro i H2 acc _ ⟨rfl,_⟩;exact SqL.of h1
  ·rintro i y H2 acc hy ⟨rfl,rfl⟩;rw [<-LO.ZpG,Qh] at hy;obtain ⟨j,ej,rfl⟩:=Qy.mp hy;have hj:j<=(L z).length:=LO.JS.mp (QF ej);simp! [gtV,ZjN];refine YK (λh0=>⟨by omega,_,YV 0 (by omega) (by omega),?_⟩) λh0=>?_
   ·rw [LO.ZnS ej (by omega),ux,show ((j:Int)-1).toNat=j-1 by omega];rfl
   ·have:j=0:=by omega
    subst this;rw [LO.ZnR ej]
  ·rintro H2 acc ⟨rfl,rfl⟩ l hl2;rw [jr,jr,LO.Zku (L z) (by omega),Zph];have ll:(LO.ze (L z)).length<=301:=by have:=LO.Zpz (L z) ((L z).length+1);rw [LO.Zku (L z) (Qf _)] at this;omega
   refine ⟨(LO.ze (L z)).map λc=>[c],SqL.of (by rw [Zg,uM];rfl),?_,?_⟩
   ·rw [ZsW (λc:Nat=>c),jr,ua];omega
   ·rw [Zdv,Zng (λc:Nat=>c),je];have h2:upd H2 l (HO.lst ((LO.ze (L z)).map λc=>V.str (T [c]))) p=some (HO.lst (((LO.ord (L z)).map λi:Nat=>(i:Int)).map V.int)):=by rw [Zi (Zj h1 hl2)];exact h1
    refine ⟨.inl ⟨_,SqL.of h2⟩,p,_,rfl,SqL.of h2,LO.Zib _,by omega,λp1 hp1=>?_⟩;rw [LO.Zns];exact q p1 _ ((sm1.upd hl2).upd hp1) ((se1.upd hl2).upd hp1) ((bk1.put hl2).put hp1) ((sm1.upd hl2).free hp1) Zg
noncomputable def Y1 (K:Qa) (C:jo) (tb2 tb:jo):Sp:=λvs H Q _=>aS (λz=>a0 ((L z).length<=300/\Zu tb2 H/\Zp tb H/\tb2≠tb/\∀x H',zp H H'->Zu tb2 H'->Zp tb H'->H x=none->qt C H' x (LO.ze (L z)) (LO.Zdt (L z))->Q (.ref x) H')) vs
theorem Zeo (F:Fun K "letters_of" "letters_of" J9 f fd) (qQ:Fn P w K mg base 4 "last_letters" qU (YA K Zf)) (qbC:Mkr P w K mg base (CX1 P w) 3 "Letters" Zd z6 [] (Yz K c Zd Zc)):ZQ P w K mg base CX0 5 f fd J1 (Y1 K Zd Zf Zc):=by
 refine F.ok Zbg (λ_ _ _ _ hJ=>Zz hJ λ_ _ hJ=>Zq hJ λ_=>rfl) (λcdv A outer s H vs Q E hr hJ=>Zz hJ λz _ hJ=>Zq hJ λh=>?_)
 ·repeat clear hJ
  obtain ⟨hl,bo,bk,hne,q⟩:=h
  refine ⟨_,(Zh (ZD (i:=1) Zbg.nd rfl (by ac_nf) (ZS qQ (hr.mono (by decide)) (Za (qv 0) Ze)))
   (Zo (Zx (Zur qbC.quiet (hr.mono (by decide)) (Za (Z9 (zi (K:=K) rfl) (qv 1) Zl (λ_ _=>rfl)) (Za (Z9 (zi (K:=K) rfl) (qv 1) Zl (λ_ _=>rfl)) Ze)))))),stR ?_⟩
  simp! [YA,aR,aS,aI,aB,a0];have hsz:sizeLine=16777216:=jw;have ll:=LO.ZbB (L z);have hh:=LO.Zkp (L z);refine ⟨hl,bo,λp H1 sm1 se1 bo1 hp h1=>⟨_,_,.inr (SqT.of h1),rfl,_,_,.inr (SqT.of h1),rfl,?_⟩⟩;have bk1:=bk.keep bo (Ne.symm hne) se1;simp! [Yz,aR,aS,aI,aB,a0];intro x dx hx hdx hnx;have hdx2:upd H1 dx (HO.own x) x=none:=(Zi (Ne.symm hnx)).trans hx;refine ⟨by omega,(bk1.put hdx).put hdx2,⟨dx,Zg⟩,λz=>absurd ⟨by omega,by omega⟩ z,λ_ H2 kp2 nn2 se2 bk2 il2=>?_⟩;rw [Qm] at il2;have sm2:=Zgt hx hdx kp2 nn2;exact q x H2 (sm1.trans sm2) (bo1.keep bk1 hne (Zjn hx hdx se2)) bk2 (sm1.free hx) il2
noncomputable def zx (K:Qa) (c:Cs) (CL C:jo) (tb2 tb:jo):Sp:=λvs H Q E=>aR (λx=>aS (λz=>aI (λg=>a0 ((L z).length<=300/\Zu tb2 H/\Zp tb H/\tb2≠tb/\(∃dx,H x=some (.ins C dx []))/\(g<1->E (.ref c.NoGap) none H)/\
 (¬g<1->∀H',(∀b o,b≠x->H b=some o->(∀ps,o≠ .tbl ps)->H' b=some o)->(∀b,H b≠none->H' b≠none)->Zu tb2 H'->Zp tb H'->ZeJ C CL H' x (L z) g->Q .non H'))))) vs
theorem ZaE {f:jo} {fd:j9} {T:jo} (F:ZkU K "__init__" "Finder.__init__" zR f T fd) (B:Bn mg) {Zf Zc:jo} {c:Cs} (ER:Er K mg c) {zF ZY Z6:jo} (TP:Tp K w.params mg zF ZY Z6) {Zd Zm Zy:jo} (CF:Cf K Zd Zm Zy) (GC:Gc mg) (Jd:FnX P w K mg base 1 "check_gap" Zar (qI K c)) (Yi:Fn P w K mg base 3 "order_of" YI (Yr K Zf)) (qm:Fn P w K mg base 5 "letters_of" J1 (Y1 K Zd Zf Zc)):ZQ P w K mg base (CX1 P w) 6 f fd Z7 (zx K c Zd Zm Zf Zc):=by
 refine F.okX Jb (λ_ _ _ _ hJ=>Zs hJ λ_ _ hJ=>Zz hJ λ_ _ hJ=>ZN hJ λ_ _ hJ=>Zq hJ λ_=>rfl) (λcdv A outer s H vs Q E hr hJ=>Zs hJ λx _ hJ=>Zz hJ λz _ hJ=>ZN hJ λg _ hJ=>Zq hJ λh=>?_)
 ·repeat clear hJ
  obtain ⟨hl,bo,bk,hne,⟨dx,hx⟩,e,q⟩:=h
  refine ⟨_,(Zh (JT (Zaw Z1.toTk Jd (hr.mono (by decide)) (Za (qv 2) Ze)))
   (Zh (JU (K:=K) rfl CF.qar CF.qae (qv 0) (ZS qm (hr.mono (by decide)) (Za (qv 1) Ze)) rfl)
   (Zh (JU (K:=K) rfl CF.qar CF.qa0 (qv 0) (qv 2) rfl)
   (Zh (ZF (JU (K:=K) rfl CF.qar CF.qaf (qv 0) Zfo rfl))
   (Zo (ZkD (K:=K) rfl Z1.own rfl B.enumerate (Za (ZS Yi (hr.mono (by decide)) (Za (qv 1) Ze)) Ze) (zf (i:=3) Jb.nd rfl (by ac_nf)) (zf (i:=4) Jb.nd rfl (by ac_nf)) (Zaj (Zo (zb (zr ZbY (Zr Zb7 (qv 4) (qv 2)) Zl) (Zo (ZbU (ZX hr) (zV (K:=K) rfl CF.qar CF.qaf (qv 0)) (qv 3) (qv 4) rfl)) ZH))))))))),stR ?_⟩
  simp! [qI,Y1,aR,aS,aI,aB,a0];have hsz:sizeLine=16777216:=jw;refine ⟨e,λhg=>⟨hl,bo,bk,hne,λh H1 sm1 bo1 bk1 hh il1=>?_⟩⟩;have q:=q hg;have hx1:=sm1.at hx (by nofun);refine ⟨_,_,hx1,by decide,_,_,Zg,(show 1<1000 by decide),?_⟩;rw [ZhE];generalize hF:Ya (Qc "gap") (V.int g) (Ya (Qc "held") (V.ref h) [])=F2;have lF:F2.length=2:=by rw [<-hF];rfl
  refine zD (λσ' H'=>∃d,upd H1 x (HO.ins Zm dx F2) d=none/\H'=upd (upd (upd H1 x (HO.ins Zm dx F2)) d (HO.dK [])) x (HO.ins Zm dx (Ya (Qc "known") (V.ref d) F2))/\σ'=[some (V.ref x),some (V.str z),some (V.int g),none,none]) ?_ ?_
  ·simp! [true_and];intro d hd;exact ⟨_,_,(Zi (Ne.symm (ZbL hd).2)).trans Zg,by omega,d,hd,rfl⟩
  rintro _ _ ⟨d,hd,rfl,rfl⟩;simp! [Zru,Yr,aR,aS,aI,aB,a0];have eF:Ya (Qc "known") (V.ref d) F2=fsF h d g:=by rw [<-hF];rfl
  obtain ⟨hd1,dx1⟩:=ZbL hd;have x2:upd (upd H1 x (HO.ins Zm dx F2)) d (HO.dK []) x=some (HO.ins Zm dx F2):=(Zi (Ne.symm dx1)).trans Zg;have bo2:Zu Zf (upd (upd H1 x (HO.ins Zm dx F2)) d (HO.dK [])):=Bk.put (Zbw bo1 hx1) hd;have bk2:Zp Zc (upd (upd H1 x (HO.ins Zm dx F2)) d (HO.dK [])):=Bk.put (Zbw bk1 hx1) hd;refine ⟨hl,Zbw bo2 x2,λp H6 sm6 se6 bo6 hp6 h6=>?_⟩;rw [eF] at sm6 se6 hp6;have bk6:=Bk.keep (Zbw bk2 x2 (o:=HO.ins Zm dx (fsF h d g))) (Zbw bo2 x2) (Ne.symm hne) se6;have kx:qM x d H H6:=(((qM.ofN sm1).updX).updD.updX).trans (qM.ofN sm6);have x6:=sm6.at Zg (by nofun);have d6:=sm6.at ((Zi dx1).trans Zg) (by nofun)
  have il6:qt Zd H6 h (LO.ze (L z)) (LO.Zdt (L z)):=by
   refine qt.same (il1.same2 λb o e n1 n2 n3=>?_) λb o e n=>sm6.at e n;have bx:b≠x:=λw=>by subst w;rw [hx1] at e;cases e;exact absurd (n3 _ _ _ rfl) (by decide)
   have bd:b≠d:=λw=>by subst w;rw [hd1] at e;cases e
   exact (Zi bx).trans ((Zi bd).trans ((Zi bx).trans e))
  rw [LO.ZpG] at h6;have ol:=LO.YD (L z);refine ⟨_,SqL.of h6,λk σ H'=>∃v v' ps,σ=[some (V.ref x),some (V.str z),some (V.int g),v,v']/\H' p=some (HO.lst (((LO.ord (L z)).map λi:Nat=>(i:Int)).map V.int))/\H' x=some (HO.ins Zm dx (fsF h d g))/\H' d=some (.dK (Zec ps))/\Zad ps (L z) g k/\ps.length<=k/\Zu Zf H'/\Zp Zc H'/\qt Zd H' h (LO.ze (L z)) (LO.Zdt (L z))/\qM x d H H',⟨_,_,[],rfl,h6,x6,d6,λr=>by rw [if_neg λw=>by omega];rfl,Qf _,bo6,bk6,il6,kx⟩,?_,?_,?_⟩
  ·rintro k σ H' _ ⟨v,v',ps,_,h',_⟩;exact SqL.of h'
  ·rintro k y σ H' t hy ⟨v,v',ps,rfl,h',x',d',kn,hps,bo',bk',il',kx'⟩ ht;rw [<-LO.ZpG,Qh] at hy;obtain ⟨j,ej,rfl⟩:=Qy.mp hy;have hk:k<(LO.ord (L z)).length:=(Qn.mp ej).1;obtain ⟨st1,st2⟩:=kn.step ej;have kt:∀o,Zt H' (upd H' t o):=λo=>Zt.updN ht;have le:(Zec ps).length=ps.length:=by unfold Zec;rw [jr]
   simp! [Zls];have h4:=kt (HO.tup [V.int (k:Int),V.int (j:Int)]) _ _ h';have x4:=kt (HO.tup [V.int (k:Int),V.int (j:Int)]) _ _ x';have d4:=kt (HO.tup [V.int (k:Int),V.int (j:Int)]) _ _ d';have bo4:Zu Zf (upd H' t (HO.tup [V.int (k:Int),V.int (j:Int)])):=bo'.put ht;have bk4:Zp Zc (upd H' t (HO.tup [V.int (k:Int),V.int (j:Int)])):=bk'.put ht;have il4:qt Zd (upd H' t (HO.tup [V.int (k:Int),V.int (j:Int)])) h (LO.ze (L z)) (LO.Zdt (L z)):=il'.same λb o e _=>kt _ _ _ e;have kx4:qM x d H (upd H' t (HO.tup [V.int (k:Int),V.int (j:Int)])):=kx'.trans (qM.ofN (kt _).toN)
   generalize upd H' t (HO.tup [V.int (k:Int),V.int (j:Int)])=H4 at h4 x4 d4 bo4 bk4 il4 kx4 ⊢
   have pd:p≠d:=λw=>by subst w;rw [h4] at d4;cases d4
   refine ⟨by omega,YK (λhz=>?_) λhz=>⟨_,_,ps,rfl,h4,x4,d4,st2 hz,by omega,bo4,bk4,il4,kx4⟩⟩;obtain ⟨nl,kn2⟩:=st1 hz;refine ⟨_,_,_,x4,rfl,d,_,rfl,Zl4.k (k:=.inl (k:Int)) d4 (by omega),?_⟩;rw [Zon _ nl];refine ⟨_,_,ps++[((k:Int),V.int (j:Int))],rfl,(Zi pd).trans h4,(Zi (Ne.symm dx1)).trans x4,Zg,kn2,by rw [jv,jJ];omega,Zgg bo4 d4,Zgg bk4 d4,il4.same2 λb o e n1 n2 n3=>(Zi λw=>?_).trans e,kx4.updD⟩;subst w;rw [d4] at e;cases e;exact n2 _ rfl
  ·rintro σ H' ⟨v,v',ps,rfl,h',x',d',kn,hps,bo',bk',il',kx'⟩;rw [jr,jr,ol] at kn;refine q H' (λb o n e n1=>kx'.1 b o n (λw=>?_) e n1) kx'.2 bo' bk' ⟨dx,h,d,ps,x',il',d',kn,by omega⟩;subst w;rw [sm1.free hd1] at e;cases e
noncomputable def YQ (K:Qa) (CL C:jo):Sp:=λvs H Q _=>aR (λx=>aS (λy=>a0 (∃l g,ZeJ C CL H x l g/\l.length<=300/\(∀c∈L y,c≠10)/\(L y).length<=1000/\∀p H',Zt H H'->H p=none->H' p=some (.tup [.int (LO.low l (L y):Nat),.int (LO.Zbj l (L y):Nat)])->Q (.ref p) H'))) vs
theorem Zdy (F:Fun K "rows" "Finder.rows" JE f fd) (B:Bn mg) (CF:Cf K Zd Zm Zy) (qaM:Md P w K mg base (CX1 P w) 4 Zd "rows_with" Yu [] (zn K c Zd)):ZQ P w K mg base CX0 5 f fd Jt (YQ K Zd Zm):=by
 refine F.ok YN (λ_ _ _ _ hJ=>Zs hJ λ_ _ hJ=>Zz hJ λ_ _ hJ=>Zq hJ λ_=>rfl) (λcdv A outer s H vs Q E hr hJ=>Zs hJ λx _ hJ=>Zz hJ λy _ hJ=>Zq hJ λh=>?_)
 ·repeat clear hJ
  obtain ⟨l,g,fi,hl,y10,hy,q⟩:=h
  refine ⟨_,(Zh (ZD (i:=2) YN.nd rfl (by ac_nf) (ZR (Za Zl (Za (Zr Zw (zV (K:=K) rfl CF.qaa CF.qac (zV (K:=K) rfl CF.qar CF.qae (qv 0))) Zl) Ze))))
   (Zh (ZpU PassesOwn.never rfl B.reversed (Za (qv 1) Ze) (zf (i:=3) YN.nd rfl (by ac_nf)) (Zaj (Zo (ZD (i:=2) YN.nd rfl (by ac_nf) (ZiD qaM.quiet (hr.mono (by decide)) (zV (K:=K) rfl CF.qar CF.qae (qv 0)) (Za (qv 3) (Za (qv 2) Ze)))))))
   (Zo (Zx (qv 2))))),stR ?_⟩
  simp! [Zpl];have hsz:sizeLine=16777216:=jw;obtain ⟨dx,h,d,ps,h1,il,_⟩:=fi;have ll:=LO.ZbB l;have il':=il;obtain ⟨dx2,tot,fo,hx,_,hm⟩:=il';refine ⟨_,_,_,h1,rfl,?_⟩;simp! [Zpl];refine ⟨_,_,_,hx,rfl,?_⟩;simp! [Zpl];refine ⟨by omega,λp0 hp0=>⟨by omega,λi σ H'=>∃p v,σ=[some (V.ref x),some (V.str y),some (V.ref p),v]/\Zt H H'/\H p=none/\H' p=some (.tup [.int (LO.low l ((L y).drop ((L y).length-i)):Nat),.int (LO.Zbj l ((L y).drop ((L y).length-i)):Nat)]),⟨p0,_,rfl,Zt.updN hp0,hp0,?_⟩,?_,?_⟩⟩
  ·rw [Zg,VI,Ua (Qf _),LO.Zkt,LO.Zno,ll];rfl
  ·rintro i σ H' hi ⟨p,v,rfl,sm,hp,h2⟩;rw [vc] at hi;simp! [zn,aR,aS,aI,aB,a0];have ei:(L y)[(L y).length-(i+1)]?=some (L y)[(L y).length-(i+1)]:=Qd (by omega);have ed:=LO.ZbP ei;rw [show (L y).length-(i+1)+1=(L y).length-i by omega] at ed;have eg:(L y).reverse.getD i 0=(L y)[(L y).length-(i+1)]:=by rw [Qb,Vo hi,show (L y).length-1-i=(L y).length-(i+1) by omega,ei];rfl
   have c10:=y10 _ (QU (show (L y).length-(i+1)<(L y).length by omega));rw [eg];have b1:=LO.ZrS l ((L y).drop ((L y).length-i));have b2:=LO.ZcM l ((L y).drop ((L y).length-i));refine ⟨_,_,_,sm _ _ h1,rfl,h,_,_,rfl,sm _ _ hx,rfl,_,_,_,_,_,il.same λb o e _=>sm _ _ e,by omega,rfl,h2,⟨by omega,by omega⟩,⟨by omega,by omega⟩,λt ht=>?_⟩;refine ⟨t,_,rfl,sm.upd ht,sm.free ht,?_⟩;rw [Zg,Qm,Qm,LO.Zp2 _ c10,LO.Zow _ c10,<-ed]
  ·rintro σ H' ⟨p,v,rfl,sm,hp,h2⟩;rw [vc,UQ,Uc] at h2;simp! [true_and];exact q p H' sm hp h2
noncomputable def YR (K:Qa) (c:Cs) (CL C:jo):Sp:=λvs H Q E=>aR (λx=>aI (λr=>a0 (∃l g,ZeJ C CL H x l g/\l.length<=300/\(∀c∈l,c≠10)/\(¬(0<=r/\r<=l.length)->E (.ref c.NoPlace) none H)/\
 ((0<=r/\r<=l.length)->∀t,H t=none->Q (.ref t) (upd H t (.tup [.int (qg l r.toNat:Nat),.int ((qg l r.toNat:Nat)%g)])))))) vs
theorem Zdz (F:Fun K "walk" "Finder.walk" JF f fd) (CF:Cf K Zd Zm Zy) (ZK:FnX P w K mg base 1 "check_place" zN (ZL K c)) (qa6:Md P w K mg base (CX1 P w) 4 Zd "back" qR [] (Yy K c Zd)):ZQ P w K mg base (CX1 P w) 5 f fd Ju (YR K c Zd Zm):=by
 refine F.okX YO (λ_ _ _ _ hJ=>Zs hJ λ_ _ hJ=>ZN hJ λ_ _ hJ=>Zq hJ λ_=>rfl) (λcdv A outer s H vs Q E hr hJ=>Zs hJ λx _ hJ=>ZN hJ λr _ hJ=>Zq hJ λh=>?_)
 ·repeat clear hJ
  obtain ⟨l,g,fi,hl,l10,e,q⟩:=h
  refine ⟨_,(Zh (JT (Zaw Z1.toTk ZK (hr.mono (by decide)) (Za (qv 1) (Za (zV (K:=K) rfl CF.qaa CF.qac (zV (K:=K) rfl CF.qar CF.qae (qv 0))) Ze))))
   (Zh (ZD (i:=2) YO.nd rfl (by ac_nf) Zl)
   (Zh (Zuu Z1.own (ZsH (ZbE (ZdK (ZX hr) (qv 1) (zV (K:=K) rfl CF.qar CF.qaf (qv 0))))) (Zaj (Zh (ZD (i:=1) YO.nd rfl (by ac_nf) (Zct Z1.toTk qa6 (hr.mono (by decide)) (zV (K:=K) rfl CF.qar CF.qae (qv 0)) (Za (qv 1) Ze)))
   (Zo (ZpR (i:=2) Zr1 YO.nd rfl (by ac_nf) Zl)))))
   (Zo (Zx (ZR (Za (Zr Zw (ZU (ZX hr) (zV (K:=K) rfl CF.qar CF.qaf (qv 0)) (qv 1) (λ_ _=>rfl)) (qv 2)) (Za (qv 2) Ze)))))))),stR ?_⟩
  simp! [tWh,ZL,aR,aS,aI,aB,a0];have hsz:sizeLine=16777216:=jw;obtain ⟨dx,h,d,ps,h1,il,hd,kn,g1⟩:=fi;have ll:=LO.ZbB l;have il':=il;obtain ⟨dx2,tot,fo,hx,_,hm⟩:=il';refine ⟨_,_,_,h1,rfl,?_⟩;simp! [true_and];refine ⟨_,_,_,hx,rfl,?_⟩;simp! [ZL,aR,aS,aI,aB,a0];refine ⟨λhh=>?_,λhh=>e (by omega)⟩;obtain ⟨r,rfl⟩:∃k:Nat,r=(k:Int):=⟨r.toNat,by omega⟩;replace q:=q ⟨by omega,by omega⟩;rw [Qm] at q;obtain ⟨o1,o2⟩:=Zc2 (l:=l) (r:=r) (by omega);generalize qg l r=p at q o1 o2;subst o2;have m0:=UK (p:Int) (show g≠0 by omega);have m1:=Ud (p:Int) (show 0<g by omega);refine ⟨λk σ H2=>∃s:Nat,k=((p:Int)%g).toNat-s/\(s:Int)<=(p:Int)%g/\s<=p/\σ=[some (V.ref x),some (V.int (LO.JC l (p-s):Nat)),some (V.int (s:Int))]/\H2=H,⟨_,0,rfl,by omega,Qu _,rfl,rfl⟩,?_⟩;rintro k σ H2 ⟨s,rfl,hs,hsp,rfl,rfl⟩;have sm:=ZoC g1 (show (0:Int)<=(s:Int) by omega) hs;have kl:=kn.at (j:=p-s) (by omega);rw [show ((p-s:Nat):Int)=(p:Int)-(s:Int) by omega,sm] at kl;have dg:=DGet.k (k:=.inl ((LO.JC l (p-s):Nat):Int)) hd;rw [ZfK,kl] at dg;simp! [ZsI];refine ⟨_,_,_,h1,rfl,d,_,rfl,dg,?_⟩;by_cases hz:(p:Int)%g-(s:Int)=0
  ·rw [if_pos hz] at dg ⊢
   refine ⟨false,rfl,ZcN ⟨_,_,_,h1,rfl,d,_,rfl,dg,?_⟩⟩;simp! [true_and];refine ⟨by omega,λt ht=>?_⟩;rw [show (p:Int)-(s:Int)+(s:Int)=(p:Int) by omega,show (s:Int)=(p:Int)%g by omega];exact q t ht
  ·rw [if_neg hz];refine ⟨true,rfl,Zdu ⟨_,_,_,h1,rfl,h,_,_,rfl,hx,rfl,?_⟩⟩
   have ps0:0<p-s:=by
    rcases Nat.eq_zero_or_pos (p-s) with w|w
    ·have:(p:Int)-(s:Int)=0:=by omega
     rw [this,Int.zero_emod] at sm;omega
    ·exact w
   have hb:=LO.Zo5 (l:=l) (p:=p-s-1) (by omega);rw [show p-s-1+1=p-s by omega] at hb;have hrk:=LO.Zhm (l:=l) (j:=p-s) (by omega);simp! [Yy,aR,aS,aI,aB,a0];refine ⟨_,_,il,by omega,λc hc=>l10 c (LO.Ziq hc),λw=>absurd ⟨by omega,by omega⟩ w,λ_=>?_⟩;rw [Qm,<-LO.Zc7,hb];refine ⟨((p:Int)%g).toNat-(s+1),by omega,s+1,rfl,by omega,by omega,?_⟩;rw [show p-(s+1)=p-s-1 by omega];rfl
noncomputable def Yj (K:Qa) (CL C:jo):Sp:=λvs H Q _=>aR (λx=>aS (λy=>a0 (∃l g,ZeJ C CL H x l g/\l.length<=300/\(∀c∈l,c≠10)/\(∀c∈L y,c≠10)/\(L y).length<=1000/\∀p H',Zt H H'->H p=none->H' p=some (.lst ((plc l (L y)).map λi:Nat=>V.int i))->Q (.ref p) H'))) vs
theorem Zcr (F:Fun K "places" "Finder.places" qD f fd) (B:Bn mg) (qa9:Md P w K mg base CX0 5 Zm "rows" Jt [] (YQ K Zd Zm)) (qba:Md P w K mg base (CX1 P w) 5 Zm "walk" Ju [] (YR K c Zd Zm)):ZQ P w K mg base CX0 6 f fd qu (Yj K Zd Zm):=by
 refine F.ok Zab (λ_ _ _ _ hJ=>Zs hJ λ_ _ hJ=>Zz hJ λ_ _ hJ=>Zq hJ λ_=>rfl) (λcdv A outer s H vs Q E hr hJ=>Zs hJ λx _ hJ=>Zz hJ λy _ hJ=>Zq hJ λh=>?_)
 ·repeat clear hJ
  obtain ⟨l,g,fi,hl,l10,y10,hy,q⟩:=h
  refine ⟨_,(Zh (ZD (i:=2) Zab.nd rfl (by ac_nf) (ZiD qa9 (hr.mono (by decide)) (qv 0) (Za (qv 1) Ze)))
   (Zo (Zx (ZC (ZmJ (K:=K) rfl rfl) (by rfl) B.sorted Zdm (Za (ZlD B.range (own:=["row"]) (cp:=[(("self":Str),0)]) rfl rfl rfl (by rfl') (by rfl') ⟨⟨rfl,rfl,rfl⟩,trivial⟩ (Za (Z9 (zi (K:=K) rfl) (qv 2) Zl (λ_ _=>rfl)) (Za (Z9 (zi (K:=K) rfl) (qv 2) Zl (λ_ _=>rfl)) Ze)) (by decide) (λ_ _ _ _=>zf (i:=0) (show UJ (["row","self"]:List Str) by rfl') rfl (Or.inl rfl) (Or.inr rfl)) (λ_ _ _ _=>Zhh) (λ_ _ _ _=>(Z9 (zi (K:=K) rfl) (ZiD qba.quiet (hr.mono (by decide)) (qv 1) (Za (qv 0) Ze)) Zl (λ_ _=>rfl)))) Ze))))),stR ?_⟩
  simp! [YQ,aR,aS,aI,aB,a0];have hsz:sizeLine=16777216:=jw;have ixF:∃dx fs,H x=some (HO.ins Zm dx fs)/\fs.lookup (Qc "rows")=none/\fs.lookup (Qc "walk")=none:=by obtain ⟨dx1,h1,d1,ps1,ex,_⟩:=fi;exact ⟨dx1,_,ex,rfl,rfl⟩
  obtain ⟨dx1,fs1,ex,ef,ew⟩:=ixF;refine ⟨x,_,_,rfl,ex,ef,l,g,fi,hl,y10,hy,λp H1 sm1 hp h1=>⟨_,_,.inr (SqT.of h1),rfl,_,_,.inr (SqT.of h1),rfl,?_⟩⟩;have hh:=LO.ZcM l (L y)
  have hlo:LO.low l (L y)<=LO.Zbj l (L y):=VR ..
  simp! [true_and];refine ⟨⟨by omega,by omega,by omega,by omega,by omega⟩,λi H2 acc=>Zt H1 H2/\acc=((Qj i).map λk=>((qg l (LO.low l (L y)+k):Nat):Int)).map V.int,⟨Zt.refl _,rfl⟩,?_,?_⟩
  ·rintro i H2 acc hi ⟨sm,rfl⟩;simp! [YR,aR,aS,aI,aB,a0];have s2:=sm1.trans sm;refine ⟨x,_,_,rfl,s2 _ _ ex,ew,l,g,fi.same λb o e _=>s2 _ _ e,hl,l10,λz=>absurd ⟨by omega,by omega⟩ z,λ_ t ht=>⟨_,_,.inr (SqT.of Zg),rfl,?_⟩⟩;refine ⟨sm.upd ht,?_⟩;rw [Ut,ux,ux,show (((LO.low l (L y):Nat):Int)+(i:Int)).toNat=LO.low l (L y)+i by omega];rfl
  ·rintro H2 acc ⟨sm,rfl⟩ p2 hp2;rw [show (((LO.Zbj l (L y):Nat):Int)-((LO.low l (L y):Nat):Int)).toNat=LO.Zbj l (L y)-LO.low l (L y) by omega];refine ⟨_,.inl (SqL.of Zg),by rw [jr,uP];omega,λp3 ms hp3 pm pw=>?_⟩;have em:=LO.ZjD pm pw;subst em;refine q p3 _ ((sm1.trans (sm.upd hp2)).upd hp3) ((sm1.trans (sm.upd hp2)).free hp3) ?_;rw [Zg,uM];rfl
theorem ZaL {H:Hp} {t:jo} {o:HO} (h:H t=some o):upd H t o=H:=by
 funext b
 by_cases e:b=t
 ·subst e;rw [Zg,h]
 ·exact Zi e
structure SD (tb1 tb2:jo) (H H':Hp):Prop where
 same:zp H H'
 b1:Zp tb1 H'
 b2:Zu tb2 H'
section
variable {tb1 tb2:jo} {H H1 H2:Hp}
theorem SD.of (s:Zt H H1) (b1:Zp tb1 H) (b2:Zu tb2 H):SD tb1 tb2 H H1:=⟨s.toN,qx b1 s,qx b2 s⟩
theorem SD.trans (a:SD tb1 tb2 H H1) (b:SD tb1 tb2 H1 H2):SD tb1 tb2 H H2:=⟨a.same.trans b.same,b.b1,b.b2⟩
theorem SD.dk {t:jo} {kvs kvs':List (Key×V)} (a:SD tb1 tb2 H H1) (ht:H t=some (.dK kvs)):SD tb1 tb2 (upd H t (.dK kvs')) (upd H1 t (.dK kvs')):=by
 have h1:=a.same.at ht (by nofun);refine ⟨λb u h=>?_,Zgg a.b1 h1,Zgg a.b2 h1⟩;by_cases e:b=t
 ·subst e
  rw [Zg] at h ⊢
  exact ⟨by simp,λ_=>h⟩
 ·rw [Zi e] at h ⊢
  exact a.same b u h
end
noncomputable def spn (ns:List Nat):List Nat:=ZcO [32] (ns.map λn:Nat=>qj (n:Int))
theorem ZjO {k:Nat}:∀zs:List (List Nat),(∀z∈zs,z.length<=k)->(zs.map Ui).sum<=k * zs.length
 |[],_=>Qu _
 |z::r,h=>by have h1:=h z (jY ..);have h2:=ZjO r λy hy=>h y (jM _ hy);rw [jV,Vz,jD,Nat.mul_succ];omega
noncomputable def Zao (K:Qa):Sp:=λvs H Q _=>aR (λp=>a0 (∃ns:List Nat,SqL K H p (ns.map λn:Nat=>V.int n)/\ns.length<=1000/\(∀n∈ns,n<1000)/\∀H',Zt H H'->Q (.str (T (spn ns))) H')) vs
theorem Zix (F:Fun K "spaced" "spaced" Zcv f fd) (B:Bn mg):ZQ P w K mg base CX0 1 f fd Zch (Zao K):=by
 refine F.ok ZiM (λ_ _ _ _ hJ=>Zs hJ λ_ _ hJ=>Zq hJ λ_=>rfl) (λcdv A outer s H vs Q E hr hJ=>Zs hJ λp _ hJ=>Zq hJ λh=>?_)
 ·repeat clear hJ
  obtain ⟨ns,hS,hl,hn,q⟩:=h;refine ⟨_,(Zo (Zx (qA (K:=K) rfl QC UN UM (Zew (K:=K) rfl) Zn (Za (Zof (K:=K) rfl (own:=["thing"]) (cp:=[]) rfl rfl rfl (by rfl') (by rfl') trivial (qv 0) (by decide) (λ_ _ _ _=>zf (i:=0) (show UJ (["thing"]:List Str) by rfl') rfl (Or.inl rfl) (Or.inr rfl)) (λ_ _ _ _=>(zQ Zke (by rfl) B.str ZeT (Za (qv 0) Ze)))) Ze)))),stR ?_⟩;have hsz:sizeLine=16777216:=jw;have e1:L (Qc " ")=[32]:=by rfl'
  simp! [ZoI,Zau,ZjL,e1];refine ⟨ns.map λn:Nat=>V.int n,λv=>match v with| .int i=>.str (T (qj i))|v=>v,hS,by rw [jr];omega,λx hx=>?_,λl hl2=>⟨ns.map λn:Nat=>qj (n:Int),SqL.of ?_,?_,q _ (Zt.updN hl2)⟩⟩
  ·obtain ⟨n,hn2,rfl⟩:=UF.mp hx;have:=hn n hn2;exact ⟨ZbS (by show n<_;omega),rfl⟩
  ·rw [Zg,uM,uM];rfl
  ·have:=ZjO (k:=3) (ns.map λn:Nat=>qj (n:Int)) λz hz=>by obtain ⟨n,hn2,rfl⟩:=UF.mp hz;exact (ZbT n (by decide)).mpr (hn n hn2)
   rw [jr] at this ⊢
   show _+_ * 1<=_;omega
noncomputable def zg (K:Qa) (c:Cs):Sp:=λvs H Q E=>aR (λt=>aR (λd=>a0 (∃kept ws x,H t=some (.dK (txK kept))/\kept.length<=1000/\H d=some (.dK (Yh 0 ws))/\ZM kept (ws.getD 1 [])=some x/\(ws.getD 2 []).length+x.length<=5000/\((ws.getD 2 []).length+x.length<=300->Q (.str (Qc "ok")) (upd H t (.dK (txK (J6 kept (ws.getD 1 []) (ws.getD 2 []++x))))))/\(300<(ws.getD 2 []).length+x.length->E (.ref c.TooLong) none H)))) vs
theorem ZcZ (F:Fun K "answer_ahead" "answer_ahead" qZ f fd) (Yo:FnX P w K mg base 1 "keep_text" Je (Yc K c)):ZQ P w K mg base (CX1 P w) 2 f fd qS (zg K c):=by
 refine F.okX Zdb (λ_ _ _ _ hJ=>Zs hJ λ_ _ hJ=>Zs hJ λ_ _ hJ=>Zq hJ λ_=>rfl) (λcdv A outer s H vs Q E hr hJ=>Zs hJ λt _ hJ=>Zs hJ λd _ hJ=>Zq hJ λh=>?_)
 ·repeat clear hJ
  obtain ⟨kept,ws,x,ht,hk,hd,hx,hxl,q,e⟩:=h;refine ⟨_,(Zo (Zx (Zaw Z1.toTk Yo (hr.mono (by decide)) (Za (qv 0) (Za (ZU (ZX hr) (qv 1) Zn (λ_ _=>rfl)) (Za (Zr Zw (ZU (ZX hr) (qv 1) Zn (λ_ _=>rfl)) (ZU (ZX hr) (qv 0) (ZU (ZX hr) (qv 1) Zn (λ_ _=>rfl)) (λ_ _=>rfl))) Ze)))))),stR ?_⟩;have hsz:sizeLine=16777216:=jw;simp! [true_and];have hv:Z8 (txK kept) (.inr (T (ws.getD 1 [])))=some (V.str (T x)):=by rw [YB,hx];rfl
  refine ⟨d,_,rfl,YF 0 ws▸DGet.kys hd "name",d,_,rfl,ZfM ws▸DGet.kys hd "rest",d,_,rfl,YF 0 ws▸DGet.kys hd "name",t,_,rfl,hv▸DGet.k (k:=.inr (T (ws.getD 1 []))) ht,?_⟩;simp! [Yc,aR,aS,aI,aB,a0];exact ⟨by omega,kept,ht,hk,by rw [jv];omega,λh=>q (by rw [jv] at h;omega),λh=>e (by rw [jv] at h;omega)⟩
noncomputable def zy (K:Qa) (c:Cs):Sp:=λvs H Q E=>aR (λt=>aR (λd=>a0 (∃kept i ws x,H t=some (.dK (txK kept))/\H d=some (.dK (Yh i ws))/\ZM kept (ws.getD 1 [])=some x/\Q (.str (Qc "ok")) (upd H t (.dK (txK (Zbx kept (ws.getD 1 [])))))))) vs
theorem ZdA (F:Fun K "answer_drop" "answer_drop" JG f fd):ZQ P w K mg base (CX1 P w) 1 f fd Jv (zy K c):=by
 refine F.okX ZdU (λ_ _ _ _ hJ=>Zs hJ λ_ _ hJ=>Zs hJ λ_ _ hJ=>Zq hJ λ_=>rfl) (λcdv A outer s H vs Q E hr hJ=>Zs hJ λt _ hJ=>Zs hJ λd _ hJ=>Zq hJ λh=>?_)
 ·repeat clear hJ
  obtain ⟨kept,i,ws,x,ht,hd,hx,q⟩:=h
  refine ⟨_,(Zh (JT (ZiC (qv 0) (ZU (ZX hr) (qv 1) Zn (λ_ _=>rfl)) ⟨rfl,rfl,rfl,rfl⟩))
   (Zo (Zx Zn))),stR ?_⟩
  simp! [true_and];have hv:Z8 (txK kept) (.inr (T (ws.getD 1 [])))=some (V.str (T x)):=by rw [YB,hx];rfl
  refine ⟨t,rfl,.inl ⟨_,.inl ht⟩,d,_,rfl,YF i ws▸DGet.kys hd "name",_,.inr (T (ws.getD 1 [])),_,ht,rfl,hv,?_⟩;rw [ZeY];exact q
noncomputable def zS (K:Qa) (c:Cs):Sp:=λvs H Q E=>aR (λt=>aR (λd=>a0 (∃kept ws x,H t=some (.dK (txK kept))/\kept.length<=1000/\H d=some (.dK (Yh 2 ws))/\ZM kept (ws.getD 1 [])=some x/\x.length<=5000/\(x.length<digitsVal (ws.getD 2 [])->E (.ref c.Empty) none H)/\(digitsVal (ws.getD 2 [])<=x.length->Q (.str (T (x.take (digitsVal (ws.getD 2 []))))) (upd H t (.dK (txK (J6 kept (ws.getD 1 []) (x.drop (digitsVal (ws.getD 2 []))))))))))) vs
theorem Zen (F:Fun K "answer_off" "answer_off" J8 f fd) (B:Bn mg) (ER:Er K mg c):ZQ P w K mg base (CX1 P w) 1 f fd J0 (zS K c):=by
 refine F.okX JN (λ_ _ _ _ hJ=>Zs hJ λ_ _ hJ=>Zs hJ λ_ _ hJ=>Zq hJ λ_=>rfl) (λcdv A outer s H vs Q E hr hJ=>Zs hJ λt _ hJ=>Zs hJ λd _ hJ=>Zq hJ λh=>?_)
 ·repeat clear hJ
  obtain ⟨kept,ws,x,ht,hk,hd,hx,hxl,e,q⟩:=h
  refine ⟨_,(Zh (ZD (i:=2) JN.nd rfl (by ac_nf) (ZU (ZX hr) (qv 0) (ZU (ZX hr) (qv 1) Zn (λ_ _=>rfl)) (λ_ _=>rfl)))
   (Zh (ZD (i:=3) JN.nd rfl (by ac_nf) (ZU (ZX hr) (qv 1) Zn (λ_ _=>rfl)))
   (Zh (zb (zr Zju (qv 3) (ZC (zL (K:=K) rfl) (by rfl) B.len zK (Za (qv 2) Ze))) (Zo (YY Z1 rfl ER.qbA rfl ER.qbz (Za Zn Ze))) ZH)
   (Zh (ZbU (ZX hr) (qv 0) (ZU (ZX hr) (qv 1) Zn (λ_ _=>rfl)) (zE (Zaa (K:=K) rfl) (qv 2) (ZbD (qv 3)) YL) rfl)
   (Zo (Zx (zE (Zaa (K:=K) rfl) (qv 2) YL (ZbD (qv 3))))))))),stR ?_⟩
  have hsz:sizeLine=16777216:=jw;simp! [gtV];have hv:Z8 (txK kept) (.inr (T (ws.getD 1 [])))=some (V.str (T x)):=by rw [YB,hx];rfl
  refine ⟨d,_,rfl,YF 2 ws▸DGet.kys hd "name",t,_,rfl,hv▸DGet.k (k:=.inr (T (ws.getD 1 []))) ht,d,_,rfl,Zqk ws▸DGet.kys hd "number",?_⟩;simp! [gtV];refine ⟨by omega,YK (λh=>⟨by decide,e (by omega)⟩) λh=>⟨by omega,d,_,rfl,YF 2 ws▸DGet.kys hd "name",t,_,rfl,.inl ⟨_,.inr (T (ws.getD 1 [])),ht,rfl,by unfold txK;rw [jr];omega,rfl⟩,by omega,?_⟩⟩;rw [Zc5,ZcG,ZgX];exact q (by omega)
noncomputable def zz (K:Qa) (c:Cs) (CL C:jo) (tb2 tb:jo):Sp:=λvs H Q E=>aR (λt=>aR (λd=>a0 (∃kept ws x,H t=some (.dK (txK kept))/\H d=some (.dK (Yh 0 ws))/\ZM kept (ws.getD 1 [])=some x/\x.length<=300/\(∀c∈x,c≠10)/\(∀c∈ws.getD 2 [],c≠10)/\(ws.getD 2 []).length<=1000/\Zu tb2 H/\Zp tb H/\tb2≠tb/\∀H',SD tb tb2 H H'->Q (.str (T (spn (plc x (ws.getD 2 []))))) H'))) vs
theorem ZdB (F:Fun K "answer_find" "answer_find" JH f fd) (Zce:Fn P w K mg base 1 "spaced" Zch (Zao K)) (qb7:Mkr P w K mg base (CX1 P w) 6 "Finder" Zm Z7 [] (zx K c Zd Zm Zf Zc)) (qbD:Mkr P w K mg base (CX1 P w) 6 "Finder" Zm Z7 [.int 4] (zx K c Zd Zm Zf Zc)) (qa5:Md P w K mg base CX0 6 Zm "places" qu [] (Yj K Zd Zm)):ZQ P w K mg base (CX1 P w) 8 f fd Jw (zz K c Zd Zm Zf Zc):=by
 refine F.okX ZdV (λ_ _ _ _ hJ=>Zs hJ λ_ _ hJ=>Zs hJ λ_ _ hJ=>Zq hJ λ_=>rfl) (λcdv A outer s H vs Q E hr hJ=>Zs hJ λt _ hJ=>Zs hJ λd _ hJ=>Zq hJ λh=>?_)
 ·repeat clear hJ
  obtain ⟨kept,ws,x,ht,hd,hx,hxl,x10,w10,wl,b2,b1,ne,q⟩:=h;refine ⟨_,(Zo (Zx (ZS Zce (hr.mono (by decide)) (Za (ZiD qa5 (hr.mono (by decide)) (Zsr Z1.toTk qbD (hr.mono (by decide)) (Za (ZU (ZX hr) (qv 0) (ZU (ZX hr) (qv 1) Zn (λ_ _=>rfl)) (λ_ _=>rfl)) Ze)) (Za (ZU (ZX hr) (qv 1) Zn (λ_ _=>rfl)) Ze)) Ze)))),stR ?_⟩;have hsz:sizeLine=16777216:=jw;simp! [true_and];have hv:Z8 (txK kept) (.inr (T (ws.getD 1 [])))=some (V.str (T x)):=by rw [YB,hx];rfl
  refine ⟨d,_,rfl,YF 0 ws▸DGet.kys hd "name",t,_,rfl,hv▸DGet.k (k:=.inr (T (ws.getD 1 []))) ht,?_⟩;simp! [zx,aR,aS,aI,aB,a0];intro y dx hy hdx hne;have hdx2:upd H dx (HO.own y) y=none:=(Zi (Ne.symm hne)).trans hy;refine ⟨hxl,(b2.put hdx).put hdx2,(b1.put hdx).put hdx2,ne,⟨dx,Zg⟩,λw=>w.elim,λ_ H1 kp nn b21 b11 fi=>?_⟩;have s1:=Zgt hy hdx kp nn;have hd1:=s1.at hd (by nofun);obtain ⟨dx1,fs1,ex,ef⟩:∃dx fs,H1 y=some (HO.ins Zm dx fs)/\fs.lookup (Qc "places")=none:=by obtain ⟨dx1,h1,d1,ps1,ex,_⟩:=id fi;exact ⟨dx1,_,ex,rfl⟩
  refine ⟨y,_,_,rfl,ex,ef,d,_,rfl,ZfM ws▸DGet.kys hd1 "rest",?_⟩;simp only [Yj,L_T,aR,aS,aI,aB,a0];refine ⟨x,4,fi,hxl,x10,w10,wl,λp H2 s2 hp h2=>?_⟩;simp only [Zao,aR,aS,aI,aB,a0];have pl:∀n∈plc x (ws.getD 2 []),n<301:=λn hn=>by have:=LO.ZkC hn;omega
  have ll:(plc x (ws.getD 2 [])).length<=301:=by rw [LO.Zfc];have:=LO.ZcM x (ws.getD 2 []);omega
  exact ⟨_,SqL.of h2,by omega,λn hn=>Ql (pl n hn) (by decide),λH3 s3=>q H3 ⟨s1.trans (s2.trans s3).toN,qx b11 (s2.trans s3),qx b21 (s2.trans s3)⟩⟩
noncomputable abbrev Ga (K:Qa) (c:Cs) (Zd Zm:jo) (Zf Zc:jo):Str->Sp->Prop:=λnm sp=>(nm="answer_keep"/\sp=(zA K c))\/(nm="answer_ahead"/\sp=(zg K c))\/(nm="answer_drop"/\sp=(zy K c))\/(nm="answer_off"/\sp=(zS K c))\/(nm="answer_text"/\sp=(zB K c))\/(nm="answer_find"/\sp=(zz K c Zd Zm Zf Zc))
noncomputable def Zl3 (kept:zh) (i:Nat) (ws:List (List Nat)) (Qs:zh->List Nat->Prop) (Qr:Nat->Prop):Prop:=
 (ws.getD 0 []=cd "keep"/\i=0/\((ws.getD 2 []).length<=300->Qs (J6 kept (ws.getD 1 []) (ws.getD 2 [])) (cd "ok"))/\(300<(ws.getD 2 []).length->Qr 6))\/
 (ws.getD 0 []=cd "text"/\∃x,ZM kept (ws.getD 1 [])=some x/\Qs kept x)\/
 (ws.getD 0 []=cd "ahead"/\i=0/\∃x,ZM kept (ws.getD 1 [])=some x/\(ws.getD 2 []).length+x.length<=5000/\((ws.getD 2 []).length+x.length<=300->Qs (J6 kept (ws.getD 1 []) (ws.getD 2 []++x)) (cd "ok"))/\(300<(ws.getD 2 []).length+x.length->Qr 6))\/
 (ws.getD 0 []=cd "drop"/\∃x,ZM kept (ws.getD 1 [])=some x/\Qs (Zbx kept (ws.getD 1 [])) (cd "ok"))\/
 (ws.getD 0 []=cd "off"/\i=2/\∃x,ZM kept (ws.getD 1 [])=some x/\x.length<=5000/\(x.length<digitsVal (ws.getD 2 [])->Qr 5)/\(digitsVal (ws.getD 2 [])<=x.length->Qs (J6 kept (ws.getD 1 []) (x.drop (digitsVal (ws.getD 2 [])))) (x.take (digitsVal (ws.getD 2 [])))))\/
 (ws.getD 0 []=cd "find"/\i=0/\∃x,ZM kept (ws.getD 1 [])=some x/\x.length<=300/\(∀c∈x,c≠10)/\(∀c∈ws.getD 2 [],c≠10)/\(ws.getD 2 []).length<=1000/\Qs kept (spn (plc x (ws.getD 2 []))))
noncomputable def ql (kept:zh) (r:List Nat) (Qs:zh->List Nat->Prop) (Qr:Nat->Prop):Prop:=
 ((¬ ∃i ws,Yw r i ws)->Qr 8)/\∀i ws,Yw r i ws->(¬Zcg kept i ws->Qr 7)/\(Zcg kept i ws->Zl3 kept i ws Qs Qr)
theorem ql.mono {kept:zh} {r:List Nat} {Qs Qs':zh->List Nat->Prop} {Qr Qr':Nat->Prop} (a:∀k x,Qs k x->Qs' k x) (b:∀k,Qr k->5<=k->k<9->Qr' k) (h:ql kept r Qs Qr):ql kept r Qs' Qr':=by
 refine ⟨λn=>b _ (h.1 n) (by decide) (by decide),λi ws g=>⟨λn=>b _ ((h.2 i ws g).1 n) (by decide) (by decide),λn=>?_⟩⟩;rcases (h.2 i ws g).2 n with ⟨e0,e1,e2,e3⟩|⟨e0,x,e1,e2⟩|⟨e0,e1,x,e2,e3,e4,e5⟩|⟨e0,x,e1,e2⟩|⟨e0,e1,x,e2,e3,e4,e5⟩|⟨e0,e1,x,e2,e3,e4,e5,e6,e7⟩
 ·exact .inl ⟨e0,e1,λl=>a _ _ (e2 l),λl=>b _ (e3 l) (by decide) (by decide)⟩
 ·exact .inr (.inl ⟨e0,x,e1,a _ _ e2⟩)
 ·exact .inr (.inr (.inl ⟨e0,e1,x,e2,e3,λl=>a _ _ (e4 l),λl=>b _ (e5 l) (by decide) (by decide)⟩))
 ·exact .inr (.inr (.inr (.inl ⟨e0,x,e1,a _ _ e2⟩)))
 ·exact .inr (.inr (.inr (.inr (.inl ⟨e0,e1,x,e2,e3,λl=>b _ (e4 l) (by decide) (by decide),λl=>a _ _ (e5 l)⟩))))
 ·exact .inr (.inr (.inr (.inr (.inr ⟨e0,e1,x,e2,e3,e4,e5,e6,a _ _ e7⟩))))
noncomputable def qH (K:Qa) (C:jo):Sp:=λvs H Q _=>aR (λo=>a0 ((∃dx,H o=some (.ins C dx []))/\∀H' t,(∀b u,b≠o->H b=some u->H' b=some u)->H t=none->zJ C H' o t []->Q .non H')) vs
theorem Zfi (F:Fun K "__init__" "Desk.__init__" Yp f fd) (CF:Cf K Zd Zm Zy):ZQ P w K mg base CX0 1 f fd YU (qH K Zy):=by
 refine F.ok Zfv (λ_ _ _ _ hJ=>Zs hJ λ_ _ hJ=>Zq hJ λ_=>rfl) (λcdv A outer s H vs Q E hr hJ=>Zs hJ λo _ hJ=>Zq hJ λh=>?_)
 ·repeat clear hJ
  obtain ⟨⟨dx,ho⟩,q⟩:=h;refine ⟨_,(Zo (JU (K:=K) rfl CF.qb4 CF.qas (qv 0) Zfo rfl)),stR ?_⟩;simp! [true_and];refine λp hp=>⟨dx,_,(Zi (Zj ho hp)).trans ho,by decide,q _ p (λb u hb h=>?_) hp ⟨⟨dx,Zg⟩,(Zi λz=>?_).trans Zg⟩⟩
  ·rw [Zi hb,Zi (Zj h hp)];exact h
  ·rw [z,ho] at hp;cases hp
noncomputable def Zi8 (c:Cs):Nat->jo
 |5=>c.Empty
 |6=>c.TooLong
 |7=>c.NoName
 |_=>c.NoRow
noncomputable def Jg (K:Qa) (c:Cs) (CL CF C:jo) (tb2 tb1:jo):Sp:=λvs H Q E=>aR (λo=>aS (λz=>a0 (∃t kept,zJ C H o t kept/\kept.length<=1000/\(L z).length<=5000/\Zp tb1 H/\Zu tb2 H/\tb2≠tb1/\ql kept (L z) (λkept' x=>∀H',SD tb1 tb2 (upd H t (.dK (txK kept'))) H'->Q (.str (T x)) H') (λk=>∀H',SD tb1 tb2 H H'->E (.ref (Zi8 c k)) none H')))) vs
theorem ZfY (F:Fun K "say" "Desk.say" Za0 f fd) (TP:Tp K w.params mg zF ZY Z6) (CF:Cf K Zd Zm Zy) (ZaM:FnX P w K mg base 2 "read_row" ZaP (Jh K c)) (Js:FnX P w K mg base 2 "check_names" Jz (YS K c)) (Jq:FnX P w K mg base 2 "answer_keep" Jx (zA K c)) (qO:FnX P w K mg base 2 "answer_ahead" qS (zg K c)) (Jo:FnX P w K mg base 1 "answer_drop" Jv (zy K c)) (JZ:FnX P w K mg base 1 "answer_off" J0 (zS K c)) (Jr:FnX P w K mg base 1 "answer_text" Jy (zB K c)) (Jp:FnX P w K mg base 8 "answer_find" Jw (zz K c Zd Zm Zf Zc)):ZQ P w K mg base (CX1 P w) 9 f fd ZaO (Jg K c Zd Zm Zy Zf Zc):=by
 refine F.okX Zcb (λ_ _ _ _ hJ=>Zs hJ λ_ _ hJ=>Zz hJ λ_ _ hJ=>Zq hJ λ_=>rfl) (λcdv A outer s H vs Q E hr hJ=>Zs hJ λo _ hJ=>Zz hJ λz _ hJ=>Zq hJ λh=>?_)
 ·repeat clear hJ
  obtain ⟨t,kept,⟨⟨dx,ho⟩,ht⟩,hk,hz,b1,b2,ne,q0,q⟩:=h
  refine ⟨_,(Zh (ZD (i:=2) Zcb.nd rfl (by ac_nf) (Zaw Z1.toTk ZaM (hr.mono (by decide)) (Za (qv 1) Ze)))
   (Zh (JT (Zaw Z1.toTk Js (hr.mono (by decide)) (Za (zV (K:=K) rfl CF.qb4 CF.qas (qv 0)) (Za (qv 2) Ze))))
   (Zo (Zx (ZpH (k:=8) (G:=Ga K c Zd Zm Zf Zc) Z1.toTk TP.qbp TP.qcl (λnm sp h=>by rcases h with ⟨rfl,rfl⟩|⟨rfl,rfl⟩|⟨rfl,rfl⟩|⟨rfl,rfl⟩|⟨rfl,rfl⟩|⟨rfl,rfl⟩<;>first|exact ⟨_,_,by decide,Jq⟩|exact ⟨_,_,by decide,qO⟩|exact ⟨_,_,by decide,Jo⟩|exact ⟨_,_,by decide,JZ⟩|exact ⟨_,_,by decide,Jr⟩|exact ⟨_,_,by decide,Jp⟩) (hr.mono (by decide)) (ZU (ZX hr) (qv 2) Zn (λ_ _=>rfl)) (Za (zV (K:=K) rfl CF.qb4 CF.qas (qv 0)) (Za (qv 2) Ze)) (λ_ _=>rfl)))))),stR ?_⟩
  simp! [Jh,aR,aS,aI,aB,a0];refine ⟨hz,λi ws g H1 d s1 hd0 hd=>?_,λn H' s'=>q0 n H' (SD.of s' b1 b2)⟩;have hi:=Zni g.1;have hw:∀k,(ws.getD k []).length<=5000:=λk=>by rw [g.2.1];exact QE (ZkH i (L z) k) hz
  refine ⟨dx,_,.ref t,s1 o _ ho,rfl,?_⟩;simp only [YS,aR,aS,aI,aB,a0];refine ⟨kept,i,ws,s1 t _ ht,hi,hd,hw,λn H2 s2=>?_,λn H2 s2=>(q i ws g).1 n H2 (SD.of (s1.trans s2) b1 b2)⟩;have s3:=s1.trans s2;have hd2:=s2 d _ hd;have sd:=SD.of s3 b1 b2;have ht3:=s3 t _ ht;refine ⟨d,_,rfl,ZiX i ws▸DGet.kys hd2 "word",?_⟩;rcases (q i ws g).2 n with ⟨e0,rfl,a1,a2⟩|⟨e0,x,hx,a⟩|⟨e0,rfl,x,hx,xl,a1,a2⟩|⟨e0,x,hx,a⟩|⟨e0,rfl,x,hx,xl,a1,a2⟩|⟨e0,rfl,x,hx,xl,x10,w10,wl,a⟩
  ·rw [e0];refine ⟨"answer_keep",zA K c,by rw [Zbv];rfl,.inl ⟨rfl,rfl⟩,dx,_,.ref t,s3 o _ ho,rfl,?_⟩;simp only [zA,aR,aS,aI,aB,a0];exact ⟨kept,ws,ht3,hk,hd2,hw 2,λl=>a1 l _ (sd.dk ht),λl=>a2 l H2 sd⟩
  ·rw [e0];refine ⟨"answer_text",zB K c,by rw [Zbv];rfl,.inr (.inr (.inr (.inr (.inl ⟨rfl,rfl⟩)))),dx,_,.ref t,s3 o _ ho,rfl,?_⟩;simp only [zB,aR,aS,aI,aB,a0];refine ⟨kept,i,ws,x,ht3,hd2,hx,a H2 ?_⟩;rw [ZaL ht];exact sd
  ·rw [e0];refine ⟨"answer_ahead",zg K c,by rw [Zbv];rfl,.inr (.inl ⟨rfl,rfl⟩),dx,_,.ref t,s3 o _ ho,rfl,?_⟩;simp only [zg,aR,aS,aI,aB,a0];exact ⟨kept,ws,x,ht3,hk,hd2,hx,xl,λl=>a1 l _ (sd.dk ht),λl=>a2 l H2 sd⟩
  ·rw [e0];refine ⟨"answer_drop",zy K c,by rw [Zbv];rfl,.inr (.inr (.inl ⟨rfl,rfl⟩)),dx,_,.ref t,s3 o _ ho,rfl,?_⟩;simp only [zy,aR,aS,aI,aB,a0];exact ⟨kept,i,ws,x,ht3,hd2,hx,a _ (sd.dk ht)⟩
  ·rw [e0];refine ⟨"answer_off",zS K c,by rw [Zbv];rfl,.inr (.inr (.inr (.inl ⟨rfl,rfl⟩))),dx,_,.ref t,s3 o _ ho,rfl,?_⟩;simp only [zS,aR,aS,aI,aB,a0];exact ⟨kept,ws,x,ht3,hk,hd2,hx,xl,λl=>a1 l H2 sd,λl=>a2 l _ (sd.dk ht)⟩
  ·rw [e0];refine ⟨"answer_find",zz K c Zd Zm Zf Zc,by rw [Zbv];rfl,.inr (.inr (.inr (.inr (.inr ⟨rfl,rfl⟩)))),dx,_,.ref t,s3 o _ ho,rfl,?_⟩;simp only [zz,aR,aS,aI,aB,a0];refine ⟨kept,ws,x,ht3,hd2,hx,xl,x10,w10,wl,sd.b2,sd.b1,ne,λH4 s4=>a H4 ?_⟩;rw [ZaL ht];exact sd.trans s4
noncomputable def nm9:Nat->Str
 |0=>Qc "NoOrder"
 |1=>Qc "NoPlace"
 |2=>Qc "NoGap"
 |3=>Qc "NoText"
 |4=>Qc "NoTimes"
 |5=>Qc "Empty"
 |6=>Qc "TooLong"
 |7=>Qc "NoName"
 |_=>Qc "NoRow"
noncomputable def cl9 (c:Cs):Nat->jo
 |0=>c.NoOrder
 |1=>c.NoPlace
 |2=>c.NoGap
 |3=>c.NoText
 |4=>c.NoTimes
 |5=>c.Empty
 |6=>c.TooLong
 |7=>c.NoName
 |_=>c.NoRow
noncomputable def Zbp (H:Hp) (p:jo) (k n:Nat):Prop:=∃ts:List jo,ts.length=n/\H p=some (.lst (ts.map V.ref))/\∀(j:Nat) t,ts[j]?=some t->H t=some (.tup [.str (nm9 j),.bl (decide (j=k))])
theorem Zbp.add {H H':Hp} {r:jo} {k n:Nat} {ts us:List jo} (hl:ts.length=n) (ht:∀(j:Nat) t,ts[j]?=some t->H t=some (.tup [.str (nm9 j),.bl (decide (j=k))])) (s:Zt H H') (hr:H' r=some (.lst (ts.map V.ref++us.map V.ref)))
 (hu:∀(j:Nat) t,us[j]?=some t->H' t=some (.tup [.str (nm9 (n+j)),.bl (decide (n+j=k))])):Zbp H' r k (n+us.length):=by
 refine ⟨ts++us,by rw [jv,hl],by rw [ux];exact hr,λj t e=>?_⟩;by_cases h:j<n
 ·rw [QA (by omega)] at e;exact s t _ (ht j t e)
 ·rw [Qt (by omega),hl] at e;have:=hu (j-n) t e;rw [show n+(j-n)=j by omega] at this;exact this
theorem Zvk {H:Hp} {p p1 p2 p3:jo} {o0 o1 o2 o3:HO} (h0:H p=none) (h1:upd H p o0 p1=none) (h2:upd (upd H p o0) p1 o1 p2=none) (h3:upd (upd (upd H p o0) p1 o1) p2 o2 p3=none):
 Zt H (upd (upd (upd (upd H p o0) p1 o1) p2 o2) p3 o3)/\upd (upd (upd (upd H p o0) p1 o1) p2 o2) p3 o3 p=some o0/\upd (upd (upd (upd H p o0) p1 o1) p2 o2) p3 o3 p1=some o1:=by
 have s1:Zt (upd H p o0) (upd (upd H p o0) p1 o1):=Zt.updN h1;have s2:Zt (upd (upd H p o0) p1 o1) (upd (upd (upd H p o0) p1 o1) p2 o2):=Zt.updN h2;have s3:Zt (upd (upd (upd H p o0) p1 o1) p2 o2) (upd (upd (upd (upd H p o0) p1 o1) p2 o2) p3 o3):=Zt.updN h3;exact ⟨(Zt.updN h0).trans (s1.trans (s2.trans s3)),(s1.trans (s2.trans s3)) p _ Zg,(s2.trans s3) p1 _ Zg⟩
theorem Zs8 {H:Hp} {p p1 p2:jo} {o0 o1 o2:HO} (h0:H p=none) (h1:upd H p o0 p1=none) (h2:upd (upd H p o0) p1 o1 p2=none):
 Zt H (upd (upd (upd H p o0) p1 o1) p2 o2)/\upd (upd (upd H p o0) p1 o1) p2 o2 p=some o0/\upd (upd (upd H p o0) p1 o1) p2 o2 p1=some o1:=by
 have s1:Zt (upd H p o0) (upd (upd H p o0) p1 o1):=Zt.updN h1;have s2:Zt (upd (upd H p o0) p1 o1) (upd (upd (upd H p o0) p1 o1) p2 o2):=Zt.updN h2;exact ⟨(Zt.updN h0).trans (s1.trans s2),(s1.trans s2) p _ Zg,s2 p1 _ Zg⟩
theorem Zco {H1:Hp} {p p1 p2 l:jo} {k n:Nat} (hk:Zbp H1 l k n) (h0:H1 p=none) (h1:upd H1 p (.tup [.str (nm9 n),.bl (decide (n=k))]) p1=none) (h2:upd (upd H1 p (.tup [.str (nm9 n),.bl (decide (n=k))])) p1 (.tup [.str (nm9 (n+1)),.bl (decide (n+1=k))]) p2=none):
 ∃xs,xs.length=n/\upd (upd (upd H1 p (.tup [.str (nm9 n),.bl (decide (n=k))])) p1 (.tup [.str (nm9 (n+1)),.bl (decide (n+1=k))])) p2 (.lst [.ref p,.ref p1]) l=some (.lst xs)/\∀p3,upd (upd (upd H1 p (.tup [.str (nm9 n),.bl (decide (n=k))])) p1 (.tup [.str (nm9 (n+1)),.bl (decide (n+1=k))])) p2 (.lst [.ref p,.ref p1]) p3=none->
  Zt H1 (upd (upd (upd (upd H1 p (.tup [.str (nm9 n),.bl (decide (n=k))])) p1 (.tup [.str (nm9 (n+1)),.bl (decide (n+1=k))])) p2 (.lst [.ref p,.ref p1])) p3 (.lst (xs++[.ref p,.ref p1])))/\
  Zbp (upd (upd (upd (upd H1 p (.tup [.str (nm9 n),.bl (decide (n=k))])) p1 (.tup [.str (nm9 (n+1)),.bl (decide (n+1=k))])) p2 (.lst [.ref p,.ref p1])) p3 (.lst (xs++[.ref p,.ref p1]))) p3 k (n+2):=by
 obtain ⟨ts,tl,hp,ht⟩:=hk;refine ⟨ts.map V.ref,by rw [jr,tl],(Zs8 h0 h1 h2).1 l _ hp,λp3 h3=>?_⟩;obtain ⟨s4,a0,a1⟩:=Zvk (o3:=HO.lst (ts.map V.ref++[.ref p,.ref p1])) h0 h1 h2 h3;refine ⟨s4,Zbp.add (us:=[p,p1]) tl ht s4 Zg λj t e=>?_⟩
 match j,e with
 |0,e=>cases e;exact a0
 |1,e=>cases e;exact a1
 |j+2,e=>cases e
noncomputable def Za8 (K:Qa) (c:Cs) (xa:jo):Sp:=λvs H Q _=>aR (λe=>a0 (e=xa/\∃C k,H e=some (ZgJ e C)/\Zbh K C/\jE K (.ref C) (.type "ValueError")=some true/\k<9/\(∀j,j<9->jE K (.ref C) (.ref (cl9 c j))=some (decide (j=k)))/\∀H',Zt H H'->Q (.str (nm9 k)) H')) vs
theorem Zjz (F:Fun K "_law_which" "_law_which" ZdT f fd) (B:Bn mg) (ER:Er K mg c):ZoW P w K mg base 1 f fd Zdl (Za8 K c):=by
 refine F.okZ qb (λ_ _ _ _ _ hJ=>Zs hJ λ_ _ hJ=>Zq hJ λ_=>rfl) (λxa cdv A outer s H vs Q hh hr hJ=>Zs hJ λe _ hJ=>Zq hJ λh=>?_)
 ·repeat clear hJ
  obtain ⟨rfl,C,k,he,hg,hv,hk,hj,q⟩:=h
  refine ⟨_,(Zh (ZF (ZD (i:=1) qb.nd rfl (by ac_nf) (JB (Za (ZR (Za Zn (Za (ZC (Zat (K:=K) rfl) (by rfl) B.isinstance ZZ (Za (qv 0) (Za (zZ (v:=.ref c.NoOrder) rfl ER.qbk rfl) Ze))) Ze))) (Za (ZR (Za Zn (Za (ZC (Zat (K:=K) rfl) (by rfl) B.isinstance ZZ (Za (qv 0) (Za (zZ (v:=.ref c.NoPlace) rfl ER.qbb rfl) Ze))) Ze))) Ze)))))
   (Zh (ZF (ZD (i:=1) qb.nd rfl (by ac_nf) (Zr Zw (qv 1) (JB (Za (ZR (Za Zn (Za (ZC (Zat (K:=K) rfl) (by rfl) B.isinstance ZZ (Za (qv 0) (Za (zZ (v:=.ref c.NoGap) rfl ER.qby rfl) Ze))) Ze))) (Za (ZR (Za Zn (Za (ZC (Zat (K:=K) rfl) (by rfl) B.isinstance ZZ (Za (qv 0) (Za (zZ (v:=.ref c.NoText) rfl ER.qbt rfl) Ze))) Ze))) Ze))))))
   (Zh (ZF (ZD (i:=1) qb.nd rfl (by ac_nf) (Zr Zw (qv 1) (JB (Za (ZR (Za Zn (Za (ZC (Zat (K:=K) rfl) (by rfl) B.isinstance ZZ (Za (qv 0) (Za (zZ (v:=.ref c.NoTimes) rfl ER.qbm rfl) Ze))) Ze))) (Za (ZR (Za Zn (Za (ZC (Zat (K:=K) rfl) (by rfl) B.isinstance ZZ (Za (qv 0) (Za (zZ (v:=.ref c.Empty) rfl ER.qbz rfl) Ze))) Ze))) Ze))))))
   (Zh (ZF (ZD (i:=1) qb.nd rfl (by ac_nf) (Zr Zw (qv 1) (JB (Za (ZR (Za Zn (Za (ZC (Zat (K:=K) rfl) (by rfl) B.isinstance ZZ (Za (qv 0) (Za (zZ (v:=.ref c.TooLong) rfl ER.qbc rfl) Ze))) Ze))) (Za (ZR (Za Zn (Za (ZC (Zat (K:=K) rfl) (by rfl) B.isinstance ZZ (Za (qv 0) (Za (zZ (v:=.ref c.NoName) rfl ER.qbe rfl) Ze))) Ze))) Ze))))))
   (Zh (ZF (ZD (i:=1) qb.nd rfl (by ac_nf) (Zr Zw (qv 1) (JB (Za (ZR (Za Zn (Za (ZC (Zat (K:=K) rfl) (by rfl) B.isinstance ZZ (Za (qv 0) (Za (zZ (v:=.ref c.NoRow) rfl ER.qbg rfl) Ze))) Ze))) Ze)))))
   (Zh (ZF (ZlI (i₀:=2) (K:=K) rfl (own:=["_law_pair"]) (cp:=[]) hh rfl rfl (by rfl') (by rfl') trivial (qv 1) (by decide) (λ_ _ _ _=>zf (i:=0) (show UJ (["_law_pair"]:List Str) by rfl') rfl (Or.inl rfl) (Or.inr rfl)) (λ_ _ _ _=>Zhi (ZaZ (K:=K) rfl (Z9 (zi (K:=K) rfl) (qv 0) Zl (λ_ _=>rfl)))) (λ_ _ _ _=>(Z9 (zi (K:=K) rfl) (qv 0) Zl (λ_ _=>rfl))) qb.nd rfl rfl))
   (Zh (zb (PW.pt (ZkF (zr ZpC (ZC (zL (K:=K) rfl) (by rfl) B.len zK (Za (qv 2) Ze)) Zl) (ZjF (ZdN (ZaZ (K:=K) rfl (ZC (Zat (K:=K) rfl) (by rfl) B.isinstance ZZ (Za (qv 0) (Za (Zkz (v:=.ty "ValueError") rfl B.ValueError ZfP rfl) Ze)))))))) (Zo (Zx Zn)) ZH)
   (Zo (Zx (Z9 (zi (K:=K) rfl) (qv 2) Zl (λ_ _=>rfl))))))))))),stR ?_⟩
  have hsz:sizeLine=16777216:=jw;refine zD (λσ' H'=>Zt H H'/\∃p,Zbp H' p k 2/\σ'=[some (V.ref e),some (V.ref p),none]) ?_ ?_
  ·simp! [true_and];refine ⟨C,_,he,hg,⟨by omega,λp hp=>⟨C,_,(Zi (Zj he hp)).trans he,hg,⟨by omega,λp1 hp1=>⟨by omega,λp2 hp2=>?_⟩⟩,.inl (hj 1 (by decide))⟩⟩,.inl (hj 0 (by decide))⟩;obtain ⟨s3,a0,a1⟩:=Zs8 (o2:=HO.lst [V.ref p,V.ref p1]) hp hp1 hp2;refine ⟨s3,p2,⟨[p,p1],rfl,Zg,λj t e=>?_⟩,rfl⟩
   match j,e with
   |0,e=>cases e;exact a0
   |1,e=>cases e;exact a1
   |j+2,e=>cases e
  rintro _ H1 ⟨s1,p1,k1,rfl⟩;refine zD (λσ' H'=>Zt H H'/\∃p,Zbp H' p k 4/\σ'=[some (V.ref e),some (V.ref p),none]) ?_ ?_
  ·simp! [true_and];have he':=s1 e _ he;refine ⟨C,_,he',hg,⟨by omega,λp hp=>⟨C,_,(Zi (Zj he' hp)).trans he',hg,⟨by omega,λp' hp'=>⟨by omega,λp'' hp''=>?_⟩⟩,.inl (hj 3 (by decide))⟩⟩,.inl (hj 2 (by decide))⟩;obtain ⟨xs,xl,hx,hq⟩:=Zco (n:=2) k1 hp hp' hp'';refine ⟨p1,p'',xs,_,rfl,rfl,hx,Zg,by rw [xl];show _+2<=_;omega,λp3 hp3=>?_⟩;obtain ⟨a,b⟩:=hq p3 hp3;exact ⟨s1.trans a,p3,b,rfl⟩
  rintro _ H2 ⟨s2,p2,k2,rfl⟩;refine zD (λσ' H'=>Zt H H'/\∃p,Zbp H' p k 6/\σ'=[some (V.ref e),some (V.ref p),none]) ?_ ?_
  ·simp! [true_and];have he':=s2 e _ he;refine ⟨C,_,he',hg,⟨by omega,λp hp=>⟨C,_,(Zi (Zj he' hp)).trans he',hg,⟨by omega,λp' hp'=>⟨by omega,λp'' hp''=>?_⟩⟩,.inl (hj 5 (by decide))⟩⟩,.inl (hj 4 (by decide))⟩;obtain ⟨xs,xl,hx,hq⟩:=Zco (n:=4) k2 hp hp' hp'';refine ⟨p2,p'',xs,_,rfl,rfl,hx,Zg,by rw [xl];show _+2<=_;omega,λp3 hp3=>?_⟩;obtain ⟨a,b⟩:=hq p3 hp3;exact ⟨s2.trans a,p3,b,rfl⟩
  rintro _ H3 ⟨s3,p3,k3,rfl⟩;refine zD (λσ' H'=>Zt H H'/\∃p,Zbp H' p k 8/\σ'=[some (V.ref e),some (V.ref p),none]) ?_ ?_
  ·simp! [true_and];have he':=s3 e _ he;refine ⟨C,_,he',hg,⟨by omega,λp hp=>⟨C,_,(Zi (Zj he' hp)).trans he',hg,⟨by omega,λp' hp'=>⟨by omega,λp'' hp''=>?_⟩⟩,.inl (hj 7 (by decide))⟩⟩,.inl (hj 6 (by decide))⟩;obtain ⟨xs,xl,hx,hq⟩:=Zco (n:=6) k3 hp hp' hp'';refine ⟨p3,p'',xs,_,rfl,rfl,hx,Zg,by rw [xl];show _+2<=_;omega,λp3 hp3=>?_⟩;obtain ⟨a,b⟩:=hq p3 hp3;exact ⟨s3.trans a,p3,b,rfl⟩
  rintro _ H4 ⟨s4,p4,k4,rfl⟩;refine zD (λσ' H'=>Zt H H'/\∃p,Zbp H' p k 9/\σ'=[some (V.ref e),some (V.ref p),none]) ?_ ?_
  ·simp! [true_and];have he':=s4 e _ he;refine ⟨C,_,he',hg,⟨by omega,λp hp=>⟨by omega,λp' hp'=>?_⟩⟩,.inl (hj 8 (by decide))⟩;obtain ⟨ts,tl,hts,htt⟩:=k4;have s6:Zt H4 (upd (upd H4 p (HO.tup [V.str (nm9 8),V.bl (decide (8=k))])) p' (HO.lst [V.ref p])):=(Zt.updN hp).trans (Zt.updN hp');refine ⟨p4,p',ts.map V.ref,_,rfl,rfl,s6 _ _ hts,Zg,by rw [jr,tl];show _+1<=_;omega,λp'' hp''=>?_⟩;obtain ⟨u3,a0,a1⟩:=Zs8 (o2:=HO.lst (ts.map V.ref++[V.ref p])) hp hp' hp'';refine ⟨s4.trans u3,p'',Zbp.add (us:=[p]) tl htt u3 Zg λj t e=>?_,rfl⟩
   match j,e with
   |0,e=>cases e;exact a0
   |j+1,e=>cases e
  rintro _ H5 ⟨s5,p5,k5,rfl⟩;refine zD (λσ' H'=>Zt H H'/\∃m,H' m=some (.lst [.str (nm9 k)])/\σ'=[some (V.ref e),some (V.ref p5),some (V.ref m)]) ?_ ?_
  ·simp! [true_and];obtain ⟨ts,tl,hts,htt⟩:=k5;refine ⟨_,SqL.of hts,by rw [jr];omega,λi H' acc=>H'=H5/\acc=if k<i then [.str (nm9 k)] else [],⟨rfl,by rw [if_neg (by omega)]⟩,?_,?_,?_⟩
   ·rintro i H' acc _ ⟨rfl,_⟩;exact ⟨SqL.of hts,C,s5 e _ he⟩
   ·rintro i y H' acc hy ⟨rfl,rfl⟩;rw [Qh] at hy;obtain ⟨t,et,rfl⟩:=Qy.mp hy;have h1:=htt i t et;simp! [true_and];refine ⟨_,_,.inr (SqT.of h1),rfl,?_⟩;by_cases e:i=k
    ·subst e;rw [decide_eq_true rfl];refine Zdu ⟨_,_,.inr (SqT.of h1),rfl,?_⟩;rw [if_neg (by omega),if_pos (by omega)];rfl
    ·rw [decide_eq_false e];refine ZcN ?_;by_cases h2:k<i
     ·rw [if_pos h2,if_pos (by omega)]
     ·rw [if_neg h2,if_neg (by omega)]
   ·rintro H' acc ⟨rfl,rfl⟩ m hm;rw [jr,tl,if_pos hk];exact ⟨s5.upd hm,m,Zg,rfl⟩
  rintro _ H6 ⟨s6,m,hm,rfl⟩;simp! [true_and];refine ⟨_,.inl (SqL.of hm),ZcN ⟨C,true,s6 e _ he,hg,hv,ZcN ⟨_,_,.inl (SqL.of hm),rfl,q H6 s6⟩⟩⟩
theorem ZuY {c:Cs} (ER:Er K mg c):∀k,5<=k->k<9->ExC K (Zi8 c k)/\(JA K (Zi8 c k)).contains (.ref c.BackError)=true/\Zbh K (Zi8 c k)/\jE K (.ref (Zi8 c k)) (.type "ValueError")=some true/\∀j,j<9->jE K (.ref (Zi8 c k)) (.ref (cl9 c j))=some (decide (j=k)):=by
 intro k h5 h9
 match k,h5,h9 with
 |5,_,_=>exact ⟨ER.qbA,ER.qaj,ER.qcn,ER.qbO,λj hj=>match j,hj with
  |0,_=>ER.qaz
  |1,_=>ER.qaA
  |2,_=>ER.qaU
  |3,_=>ER.qaN
  |4,_=>ER.qaB
  |5,_=>ER.qaV
  |6,_=>ER.qaC
  |7,_=>ER.qaO
  |8,_=>ER.qaW⟩
 |6,_,_=>exact ⟨ER.qbd,ER.qah,ER.qci,ER.qbn,λj hj=>match j,hj with
  |0,_=>ER.qak
  |1,_=>ER.qal
  |2,_=>ER.qaD
  |3,_=>ER.qat
  |4,_=>ER.qam
  |5,_=>ER.qaE
  |6,_=>ER.qan
  |7,_=>ER.qau
  |8,_=>ER.qaF⟩
 |7,_,_=>exact ⟨ER.qbf,ER.qai,ER.qcm,ER.qbu,λj hj=>match j,hj with
  |0,_=>ER.qav
  |1,_=>ER.qaw
  |2,_=>ER.qaP
  |3,_=>ER.qaG
  |4,_=>ER.qax
  |5,_=>ER.qaQ
  |6,_=>ER.qay
  |7,_=>ER.qaH
  |8,_=>ER.qaR⟩
 |8,_,_=>exact ⟨ER.qbh,ER.qao,ER.qco,ER.qbP,λj hj=>match j,hj with
  |0,_=>ER.qaI
  |1,_=>ER.qaJ
  |2,_=>ER.qaX
  |3,_=>ER.qaS
  |4,_=>ER.qaK
  |5,_=>ER.qaY
  |6,_=>ER.qaL
  |7,_=>ER.qaT
  |8,_=>ER.qaZ⟩
noncomputable def qF (b:Bool):Str:=if b then Qc "said" else Qc "refused"
noncomputable def Yd (K:Qa) (CL CF C:jo) (tb2 tb1:jo):Sp:=λvs H Q _=>aR (λo=>aS (λz=>a0 (∃t kept,zJ C H o t kept/\kept.length<=1000/\(L z).length<=5000/\Zp tb1 H/\Zu tb2 H/\tb2≠tb1/\ql kept (L z) (λkept' x=>∀H' p,SD tb1 tb2 (upd H t (.dK (txK kept'))) H'->H p=none->H' p=some (.tup [.str (qF true),.str (T x)])->Q (.ref p) H')
 (λk=>∀H' p,SD tb1 tb2 H H'->H p=none->H' p=some (.tup [.str (qF false),.str (nm9 k)])->Q (.ref p) H')))) vs
theorem Zly (F:Fun K "_law_said" "_law_said" Zfu f fd) (ER:Er K mg c) (Zdi:FnZ P w K mg base 1 "_law_which" Zdl (Za8 K c)) (qbq:Md P w K mg base (CX1 P w) 9 Zy "say" ZaO [] (Jg K c Zd Zm Zy Zf Zc)):ZQ P w K mg base CX0 10 f fd Zbs (Yd K Zd Zm Zy Zf Zc):=by
 refine F.ok ZgB (λ_ _ _ _ hJ=>Zs hJ λ_ _ hJ=>Zz hJ λ_ _ hJ=>Zq hJ λ_=>rfl) (λcdv A outer s H vs Q E hr hJ=>Zs hJ λo _ hJ=>Zz hJ λz _ hJ=>Zq hJ λh=>?_)
 ·repeat clear hJ
  obtain ⟨t,kept,hD,hk,hz,b1,b2,ne,q⟩:=h;refine ⟨_,(Zo (ZsG rfl rfl (λpn E F T=>(Zo (Zx (ZR (Za Zn (Za (Zct T qbq (hr.mono (by decide)) (qv 0) (Za (qv 1) Ze)) Ze)))))) (ZlE (i:=2) rfl ER.qa8 rfl ER.qa7 ZgB.nd rfl rfl (λa=>(Zo (Zx (ZR (Za Zn (Za (Zsp (xa:=a) (by rfl) Zdi ((hr.toW.mono (by decide)).mark _) (Za (qv 2) Ze)) Ze)))))) Zsu) ZH)),stR ?_⟩;have hsz:sizeLine=16777216:=jw;simp! [Jg,Za8,aR,aS,aI,aB,a0];obtain ⟨⟨dx,ho⟩,ht⟩:=id hD;refine ⟨o,dx,_,rfl,ho,rfl,t,kept,hD,hk,hz,b1,b2,ne,ql.mono ?_ ?_ q⟩
  ·exact λkept' x qq H' s'=>⟨by omega,λp hp=>qq _ p (s'.trans (SD.of (Zt.updN hp) s'.b1 s'.b2)) (ZbL (s'.same.free hp)).1 Zg⟩
  rintro k qq k5 k9 H' s';obtain ⟨g1,g2,g3,g4,g5⟩:=ZuY ER k k5 k9;refine ⟨g1,(if_pos g2).symm▸λa ha=>⟨Zi8 c k,k,Zg,g3,g4,k9,g5,λH2 s2=>⟨by omega,λp hp=>?_⟩⟩⟩;have s3:Zt H' (upd H2 p (HO.tup [V.str (Qc "refused"),V.str (nm9 k)])):=((Zt.updN ha).trans s2).upd hp;exact qq _ p (s'.trans (SD.of s3 s'.b1 s'.b2)) (s'.same.free (((Zt.updN ha).trans s2).free hp)) Zg
noncomputable def zo (K:Qa):Sp:=λvs H Q _=>aR (λp=>aS (λx=>a0 (∃y,H p=some (.tup [.str (qF true),.str y])/\Q (.bl (decide (L y=L x))) H))) vs
theorem Zhe (F:Fun K "_law_is_said" "_law_is_said" ZbH f fd) (B:Bn mg):ZQ P w K mg base CX0 1 f fd Jk (zo K):=by
 refine F.ok Zhv (λ_ _ _ _ hJ=>Zs hJ λ_ _ hJ=>Zz hJ λ_ _ hJ=>Zq hJ λ_=>rfl) (λcdv A outer s H vs Q E hr hJ=>Zs hJ λp _ hJ=>Zz hJ λx _ hJ=>Zq hJ λh=>?_)
 ·repeat clear hJ
  obtain ⟨y,hp,q⟩:=h;refine ⟨_,(Zo (Zx (Zex (Zb8 ZbY (Z9 (zi (K:=K) rfl) (qv 0) Zl (λ_ _=>rfl)) Zn) (Zex (ZC (Zri (K:=K) rfl) (by rfl) B.isinstance ZZ (Za (Z9 (zi (K:=K) rfl) (qv 0) Zl (λ_ _=>rfl)) (Za (Zkz (v:=.ty "str") rfl B.str ZeT rfl) Ze))) (Zhg (Zb8 ZbY (Z9 (zi (K:=K) rfl) (qv 0) Zl (λ_ _=>rfl)) (qv 1))))))),stR ?_⟩;have es:qF true=Qc "said":=rfl;rw [es] at hp;simp! [true_and];refine ⟨_,_,.inr (SqT.of hp),rfl,?_⟩;simp! [true_and];refine ⟨_,_,.inr (SqT.of hp),rfl,?_⟩;simp! [true_and];refine ⟨_,_,.inr (SqT.of hp),rfl,?_⟩;simp! [true_and];exact q
noncomputable def Zdd (K:Qa):Sp:=λvs H Q _=>aR (λp=>aR (λp2=>a0 (∃b y,H p=some (.tup [.str (qF b),.str y])/\H p2=some (.tup [.str (qF b),.str y])/\Q (.bl true) H))) vs
theorem Zn4 (F:Fun K "_law_met" "_law_met" Zhs f fd) (zT:Fn P w K mg base 1 "_law_is_said" Jk (zo K)):ZQ P w K mg base CX0 2 f fd ZgL (Zdd K):=by
 refine F.ok Zoz (λ_ _ _ _ hJ=>Zs hJ λ_ _ hJ=>Zs hJ λ_ _ hJ=>Zq hJ λ_=>rfl) (λcdv A outer s H vs Q E hr hJ=>Zs hJ λp _ hJ=>Zs hJ λp2 _ hJ=>Zq hJ λh=>?_)
 ·repeat clear hJ
  obtain ⟨b,y,hp,hp2,q⟩:=h
  refine ⟨_,(Zh (zb (zr ZbY (Z9 (zi (K:=K) rfl) (qv 1) Zl (λ_ _=>rfl)) Zn) (Zo (Zx (Zb8 (Zkx (K:=K) rfl hr) (qv 0) (qv 1)))) ZH)
   (Zo (Zx (ZS zT (hr.mono (by decide)) (Za (qv 0) (Za (Z9 (zi (K:=K) rfl) (qv 1) Zl (λ_ _=>rfl)) Ze)))))),stR ?_⟩
  simp! [zo,aR,aS,aI,aB,a0];refine ⟨_,_,.inr (SqT.of hp2),rfl,?_⟩;have ne:decide (L (Qc "said")=L (Qc "refused"))=false:=by rfl'
  cases b with
  |true=>
   rw [show qF true=Qc "said" from rfl] at hp hp2 ⊢
   simp! [zo,ne,aR,aS,aI,aB,a0];refine ⟨_,_,.inr (SqT.of hp2),rfl,y,hp,?_⟩;rw [decide_eq_true rfl];exact q
  |false=>
   rw [show qF false=Qc "refused" from rfl] at hp hp2 ⊢
   simp! [true_and];exact ⟨ZeO (Zqz rfl rfl) hp hp2,q⟩
noncomputable def JW (K:Qa):Sp:=λvs H Q _=>aR (λa=>aI (λk=>a0 (∃ns:List Int,SqL K H a (ns.map V.int)/\0<=k/\Q (.int (ZmN ns k)) H))) vs
theorem Zhd (F:Fun K "_law_cell_at" "_law_cell_at" ZbG f fd) (B:Bn mg):ZQ P w K mg base CX0 1 f fd Zbr (JW K):=by
 refine F.pure Zhu (λ_ _ _ _ hJ=>Zs hJ λ_ _ hJ=>ZN hJ λ_ _ hJ=>Zq hJ λ_=>rfl) (λcdv A outer s H vs Q E hr hJ=>Zs hJ λa _ hJ=>ZN hJ λk _ hJ=>Zq hJ λh=>?_)
 ·repeat clear hJ
  obtain ⟨ns,hS,hk,q⟩:=h
  refine ⟨_,(Zh (zb (zr Ziv (qv 1) (ZC (zL (K:=K) rfl) (by rfl) B.len zK (Za (qv 0) Ze))) (Zo (Zx (Z9 (zi (K:=K) rfl) (qv 0) (qv 1) (λ_ _=>rfl)))) ZH)
   (Zo (Zx Zl))),stR ?_⟩
  dsimp! [true_and];refine ⟨_,.inl hS,?_⟩;unfold ZmN at q;rw [jr];refine YK (λh1=>?_) (λh1=>?_)
  ·rw [if_pos h1] at q;exact ⟨_,_,.inl hS,YV (.int 0) hk (by simpa using h1),Zt.refl _,by rw [Zh7];exact q⟩
  ·rw [if_neg h1] at q;exact ⟨Zt.refl _,q⟩
noncomputable def ZE (K:Qa):Sp:=λvs H Q _=>aI (λ_=>aI (λ_=>aI (λm=>a0 (0<m/\∀r:Int,0<=r->r<m->Q (.int r) H)))) vs
theorem Zjx (F:Fun K "_law_mixed" "_law_mixed" ZdR f fd):ZQ P w K mg base CX0 1 f fd qd (ZE K):=by
 refine F.pure Zcx (λ_ _ _ _ hJ=>ZN hJ λ_ _ hJ=>ZN hJ λ_ _ hJ=>ZN hJ λ_ _ hJ=>Zq hJ λ_=>rfl) (λcdv A outer s H vs Q E hr hJ=>ZN hJ λc _ hJ=>ZN hJ λt _ hJ=>ZN hJ λm _ hJ=>Zq hJ λh=>?_)
 ·repeat clear hJ
  obtain ⟨hm,q⟩:=h
  refine ⟨_,(Zh (ZF (ZD (i:=3) Zcx.nd rfl (by ac_nf) (ZR (Za Zl (Za Zl (Za Zl (Za Zl (Za Zl (Za Zl (Za Zl (Za Zl Ze)))))))))))
   (Zh (ZF (ZD (i:=4) Zcx.nd rfl (by ac_nf) (ZR (Za Zl (Za Zl (Za Zl (Za Zl (Za Zl (Za Zl (Za Zl (Za Zl Ze)))))))))))
   (Zo (Zx (Zr Zb7 (Zr Zb7 (Zr Zd8 (Zr Zw (Zr Zb7 (qv 0) (Zr ZqH Zl Zl)) Zl) (Z9 (zi (K:=K) rfl) (qv 3) (Zr Zb7 (qv 1) Zl) (λ_ _=>rfl))) (Z9 (zi (K:=K) rfl) (qv 4) (Zr Zb7 (qv 1) Zl) (λ_ _=>rfl))) (qv 2)))))),stR ?_⟩
  refine zD (λσ' H'=>∃p,Zt H H'/\H' p=some (.tup (byL.map V.int))/\σ'=[some (V.int c),some (V.int t),some (V.int m),some (V.ref p),none]) ?_ ?_
  ·dsimp! [true_and];exact ⟨by decide,λp hp=>⟨p,Zt.updN hp,Zg,rfl⟩⟩
  rintro _ H1 ⟨p,sm1,h1,rfl⟩;refine zD (λσ' H'=>∃p',Zt H H'/\H' p=some (.tup (byL.map V.int))/\H' p'=some (.tup (Zhk.map V.int))/\σ'=[some (V.int c),some (V.int t),some (V.int m),some (V.ref p),some (V.ref p')]) ?_ ?_
  ·dsimp! [true_and];exact ⟨by decide,λp' hp'=>⟨p',sm1.upd hp',(Zi (Zj h1 hp')).trans h1,Zg,rfl⟩⟩
  rintro _ H2 ⟨p',sm2,h1,h2,rfl⟩;dsimp! [true_and];have t0:0<=t%8:=UK _ (by decide);have t1:t%8<8:=Ud _ (by decide);have c0:0<=c%1000000000000000000:=UK _ (by decide);have c1:c%1000000000000000000<1000000000000000000:=Ud _ (by decide);have e18:(10:Int) ^ (18:Int).toNat=1000000000000000000:=by decide
  rw [e18];exact ⟨⟨by decide,by decide,by decide⟩,by decide,_,_,.inr (SqT.of h1),Zka (l:=byL) t0 t1,.inl ⟨by omega,by omega⟩,_,_,.inr (SqT.of h2),Zka (l:=Zhk) t0 t1,ZlH t0 t1,hm,sm2,q _ (UK _ (by omega)) (Ud _ hm)⟩
noncomputable def Za7 (K:Qa):Sp:=λvs H Q _=>a0 (Q (.str (T Zan)) H) vs
theorem Zjy (F:Fun K "_law_signs" "_law_signs" ZdS f fd):ZQ P w K mg base CX0 1 f fd Zdk (Za7 K):=by
 refine F.pure Zfz (λ_ _ _ _ hJ=>Zq hJ λ_=>rfl) (λcdv A outer s H vs Q E hr hJ=>Zq hJ λh=>?_)
 ·repeat clear hJ
  refine ⟨_,(Zh (ZD (i:=0) Zfz.nd rfl (by ac_nf) Zn)
   (Zo (Zx (Zr Zw (qv 0) Zn)))),stR ?_⟩
  dsimp! [true_and];refine ⟨by rfl',Zt.refl _,?_⟩;have e:L (Qc " !\"#$&'()*+,-./0123456789:;<=>?@ABCDEFGHIJKLMNOPQRSTUVWXYZ[\\]^_`")++L (Qc "abcdefghijklmnopqrstuvwxyz{|}~")=Zan:=by rfl'
  rw [e];exact h
noncomputable def abc:List Nat:=(Qj 26).map (97+·)
noncomputable def Ji (K:Qa):Sp:=λvs H Q _=>aI (λ_=>a0 (∀p H' (ns:List (List Nat)),Zt H H'->H p=none->H' p=some (.lst (ns.map λn=>V.str (T n)))->ns.length=4->(∀n∈ns,Zgb n)->Q (.ref p) H')) vs
theorem Zf1 (F:Fun K "_law_names_by" "_law_names_by" Za2 f fd) (B:Bn mg) (ZB:Fn P w K mg base 1 "_law_mixed" qd (ZE K)):ZQ P w K mg base CX0 2 f fd ZaQ (Ji K):=by
 refine F.ok zu (λ_ _ _ _ hJ=>ZN hJ λ_ _ hJ=>Zq hJ λ_=>rfl) (λcdv A outer s H vs Q E hr hJ=>ZN hJ λcl _ hJ=>Zq hJ λh=>?_)
 ·repeat clear hJ
  refine ⟨_,(Zh (ZD (i:=1) zu.nd rfl (by ac_nf) Zn)
   (Zh (ZD (i:=2) zu.nd rfl (by ac_nf) (Zr Zw Zl (ZS ZB (hr.mono (by decide)) (Za (qv 0) (Za Zl (Za Zl Ze))))))
   (Zh (ZD (i:=3) zu.nd rfl (by ac_nf) (ZS ZB (hr.mono (by decide)) (Za (qv 0) (Za Zl (Za (qv 2) Ze)))))
   (Zh (ZD (i:=4) zu.nd rfl (by ac_nf) (Z9 (zi (K:=K) rfl) (qv 1) (ZS ZB (hr.mono (by decide)) (Za (qv 0) (Za Zl (Za Zl Ze)))) (λ_ _=>rfl)))
   (Zh (ZF (ZD (i:=5) zu.nd rfl (by ac_nf) (JB Ze)))
   (Zh (ZpV PassesOwn.never rfl B.range (Za Zl Ze) (zf (i:=6) zu.nd rfl (by ac_nf)) (Zaj (Zh (ZF (ZD (i:=7) zu.nd rfl (by ac_nf) (Z9 (zi (K:=K) rfl) (qv 1) (Zr Zb7 (Zr Zw (ZS ZB (hr.mono (by decide)) (Za (qv 0) (Za Zl (Za Zl Ze)))) (qv 6)) Zl) (λ_ _=>rfl))))
   (Zo (JT (qA (K:=K) rfl VY PySem.F.slot_list_append PySem.F.type_list_append Zlt (qv 5) (Za (Zr Zw (Zr Zw (Zr Zd8 (qv 4) (qv 3)) (qv 7)) (Zr Zd8 (qv 4) (Zr Zfg (Zr Zfg (qv 2) Zl) (qv 3)))) Ze)))))))
   (Zo (Zx (qv 5))))))))),stR ?_⟩
  have hsz:sizeLine=16777216:=jw;have e1:L (Qc "abcdefghijklmnopqrstuvwxyz")=abc:=by rfl'
  have el:abc.length=26:=rfl;have ea:∀j:Nat,j<26->abc.getD j 0=97+j:=by decide
  simp! [ZE,e1,aR,aS,aI,aB,a0];refine λr0 a0 b0=>⟨by omega,λr1 a1 b1 r2 a2 b2=>⟨by rw [el];omega,_,YV 0 a2 (by rw [el];omega),?_⟩⟩;obtain ⟨p1,rfl⟩:∃k:Nat,r1=(k:Int):=⟨r1.toNat,by omega⟩;obtain ⟨j2,rfl⟩:∃k:Nat,r2=(k:Int):=⟨r2.toNat,by omega⟩;rw [Qm,ea j2 (by omega)];refine zD (λσ' H'=>Zt H H'/\∃p,H p=none/\H' p=some (.lst [])/\σ'=[some (V.int cl),some (V.str (Qc "abcdefghijklmnopqrstuvwxyz")),some (V.int (1+r0)),some (V.int (p1:Int)),some (V.str (T [97+j2])),some (V.ref p),none,none]) ?_ ?_
  ·simp! [true_and];exact ⟨by omega,λp hp=>⟨Zt.updN hp,p,hp,Zg,rfl⟩⟩
  rintro _ H1 ⟨s1,p,hp0,hp,rfl⟩;simp! [ZuG,Zt4];refine ⟨by decide,λi σ' H'=>Zt H H'/\(∃x y,σ'=[some (V.int cl),some (V.str (Qc "abcdefghijklmnopqrstuvwxyz")),some (V.int (1+r0)),some (V.int (p1:Int)),some (V.str (T [97+j2])),some (V.ref p),x,y])/\∃ns:List (List Nat),ns.length=i/\(∀n∈ns,Zgb n)/\H' p=some (.lst (ns.map λn=>V.str (T n))),⟨s1,⟨_,_,rfl⟩,[],rfl,by simp,hp⟩,?_,?_⟩
  ·rintro i σ' H2 hi ⟨s2,⟨x,y,rfl⟩,ns,nl,nf,h2⟩;refine zD (λσ' H'=>H'=H2/\∃j3:Nat,j3<26/\σ'=[some (V.int cl),some (V.str (Qc "abcdefghijklmnopqrstuvwxyz")),some (V.int (1+r0)),some (V.int (p1:Int)),some (V.str (T [97+j2])),some (V.ref p),some (V.int (0+(i:Int))),some (V.str (T [97+j3]))]) ?_ ?_
   ·simp! [ZE,Zls,e1,aR,aS,aI,aB,a0];intro r3 a3 b3;have m0:0<=(r3+(0+(i:Int)))%26:=UK _ (by decide);have m1:(r3+(0+(i:Int)))%26<26:=Ud _ (by decide);refine ⟨by rw [el];omega,_,YV 0 m0 (by rw [el];omega),((r3+(0+(i:Int)))%26).toNat,by omega,?_⟩;rw [ea _ (by omega)]
   rintro _ _ ⟨rfl,j3,hj3,rfl⟩;simp! [ZjN]
   have r1:∀(m b:Nat),rep m [b]=Qv m b:=λm b=>by
    unfold rep
    induction m with
    |zero=>rfl
    |succ m ih=>rw [uE,Uk,ih];rfl
   rw [r1,r1];have q1:((p1:Int)).toNat=p1:=Qm _;rw [q1];have q2:p1+(1+r0-1-(p1:Int)).toNat<8:=by omega
   refine ⟨.inl ⟨_,SqL.of h2⟩,⟨by omega,by omega,by omega⟩,by rw [uZ];omega,⟨by omega,by omega,by omega⟩,by rw [jv,uZ,uZ];simp only [jJ];omega,p,_,_,rfl,rfl,h2,by rw [jr,nl];omega,λb o hb=>?_,⟨_,_,rfl⟩,ns++[Qv p1 (97+j2)++[97+j3]++Qv (1+r0-1-(p1:Int)).toNat (97+j2)],by rw [jv,nl];rfl,λn hn=>?_,by rw [Zg,ux];rfl⟩
   ·rw [Zi (Zj hb hp0)];exact s2 b o hb
   ·rcases jN.mp hn with hn|hn
    ·exact nf n hn
    ·rw [jC.mp hn];exact ⟨p1,_,97+j2,97+j3,by simp,q2,by omega,by omega,by omega,by omega⟩
  ·rintro σ' H2 ⟨s2,⟨x,y,rfl⟩,ns,nl,nf,h2⟩;simp! [true_and];exact h p H2 ns s2 hp0 h2 nl nf
noncomputable def Yt (K:Qa):Sp:=λvs H Q _=>aI (λ_=>aI (λm=>a0 (0<=m/\m<=1000/\∀l:List Nat,l.length=m.toNat->(∀c∈l,c∈Zan)->∀H',Zt H H'->Q (.str (T l)) H'))) vs
theorem Zf3 (F:Fun K "_law_signs_by" "_law_signs_by" Za4 f fd) (B:Bn mg) (ZB:Fn P w K mg base 1 "_law_mixed" qd (ZE K)) (Zdh:Fn P w K mg base 1 "_law_signs" Zdk (Za7 K)):ZQ P w K mg base CX0 2 f fd ZaR (Yt K):=by
 refine F.ok Zcc (λ_ _ _ _ hJ=>ZN hJ λ_ _ hJ=>ZN hJ λ_ _ hJ=>Zq hJ λ_=>rfl) (λcdv A outer s H vs Q E hr hJ=>ZN hJ λcell _ hJ=>ZN hJ λm _ hJ=>Zq hJ λh=>?_)
 ·repeat clear hJ
  obtain ⟨m0,m1,q⟩:=h
  refine ⟨_,(Zh (ZD (i:=2) Zcc.nd rfl (by ac_nf) (Zso Zdh (hr.mono (by decide))))
   (Zo (Zx (qA (K:=K) rfl QC UN UM (Zew (K:=K) rfl) Zn (Za (Zoa B.range (own:=["_law_k"]) (cp:=[(("_law_cell":Str),0),(("_law_some":Str),2)]) rfl rfl rfl (by rfl') (by rfl') ⟨⟨rfl,rfl,rfl⟩,⟨rfl,rfl,rfl⟩,trivial⟩ (Za (qv 1) Ze) (by decide) (λ_ _ _ _=>zf (i:=0) (show UJ (["_law_k","_law_cell","_law_some"]:List Str) by rfl') rfl (Or.inl rfl) (Or.inr rfl)) (λ_ _ _ _=>Zhh) (λ_ _ _ _=>(Z9 (zi (K:=K) rfl) (qv 2) (ZS ZB (hr.mono (by decide)) (Za (Zr Zw (qv 1) (Zr Zd8 (qv 0) (qv 0))) (Za (Zr Zw Zl (Zr Zb7 (qv 0) Zl)) (Za Zl Ze)))) (λ_ _=>rfl)))) Ze))))),stR ?_⟩
  have hsz:sizeLine=16777216:=jw;have e0:L (Qc "")=[]:=by rfl'
  simp! [Zls,ZE,Za7,e0,aR,aS,aI,aB,a0];refine ⟨⟨by omega,by omega⟩,λj H' acc=>H'=H/\∃cs:List Nat,cs.length=j/\(∀c∈cs,c∈Zan)/\acc=cs.map λc=>V.str (T [c]),⟨rfl,[],rfl,(λc hc=>by cases hc),rfl⟩,?_,?_⟩
  ·rintro j H' acc hj ⟨rfl,cs,cl,cm,rfl⟩;refine ⟨.inl ⟨by omega,by omega⟩,λy y0 y1=>⟨by rw [hsz];decide,_,YV 0 y0 y1,rfl,cs++[Zan.getD y.toNat 0],by rw [jv,cl];rfl,λc hc=>?_,?_⟩⟩
   ·rcases jN.mp hc with hc|hc
    ·exact cm c hc
    ·rw [jC.mp hc];have:y.toNat<Zan.length:=by rw [ZlO];omega
     rw [Qb,Qd this];exact QU this
   ·rw [ux];rfl
  ·rintro H' acc ⟨rfl,cs,cl,cm,rfl⟩ l hl';refine ⟨cs.map λc=>[c],by rw [uM];exact SqL.of Zg,?_,?_⟩
   ·rw [ZsW (λc:Nat=>c),jr];omega
   ·rw [Zdv,Zng (λc:Nat=>c),je];exact q cs cl cm _ (Zt.updN hl')
noncomputable def ZaJ (K:Qa):Sp:=λvs H Q _=>aR (λd=>aS (λn=>aS (λx=>a0 (∃kept,H d=some (.dK (txK kept))/\kept.length<=1000/\(L x).length<=5000/\((L x).length<=300->∀H' p,Zt (upd H d (.dK (txK (J6 kept (L n) (L x))))) H'->H p=none->H' p=some (.tup [.str (qF true),.str (Qc "ok")])->Q (.ref p) H')/\(300<(L x).length->∀H' p,Zt H H'->H p=none->H' p=some (.tup [.str (qF false),.str (nm9 6)])->Q (.ref p) H'))))) vs
theorem Zlx (F:Fun K "_law_kept" "_law_kept" Zft f fd) (B:Bn mg):ZQ P w K mg base CX0 1 f fd ZeL (ZaJ K):=by
 refine F.ok ZlM (λ_ _ _ _ hJ=>Zs hJ λ_ _ hJ=>Zz hJ λ_ _ hJ=>Zz hJ λ_ _ hJ=>Zq hJ λ_=>rfl) (λcdv A outer s H vs Q E hr hJ=>Zs hJ λd _ hJ=>Zz hJ λn _ hJ=>Zz hJ λx _ hJ=>Zq hJ λh=>?_)
 ·repeat clear hJ
  obtain ⟨kept,ht,hk,hxl,q,e⟩:=h
  refine ⟨_,(Zh (zb (zr Zju (ZC (zL (K:=K) rfl) (by rfl) B.len zK (Za (qv 2) Ze)) Zl) (Zo (Zx (ZR (Za Zn (Za Zn Ze))))) ZH)
   (Zh (ZbU (ZX hr) (qv 0) (qv 1) (qv 2) rfl)
   (Zo (Zx (ZR (Za Zn (Za Zn Ze))))))),stR ?_⟩
  have hsz:sizeLine=16777216:=jw;simp! [gtV];refine ⟨by omega,YK (λh1=>⟨by omega,λp hp=>e (by omega) _ p (Zt.updN hp) hp Zg⟩) λh1=>⟨d,_,rfl,.inl ⟨_,.inr (T (L n)),ht,by rw [T_L];rfl,by unfold txK;rw [jr];omega,rfl⟩,by omega,λp hp=>?_⟩⟩;have:=Zc5 kept (L n) (L x);rw [T_L,T_L] at this
  rw [T_L,this] at hp ⊢
  exact q (by omega) _ p (Zt.updN hp) (ZbL hp).1 Zg
noncomputable def Odd (l:List Nat):Prop:=¬zX l/\32∉l/\l.length<=20
noncomputable def Ys (K:Qa):Sp:=λvs H Q _=>aS (λn=>aI (λ_=>a0 (zX (L n)/\∀l H',Odd l->Zt H H'->Q (.str (T l)) H'))) vs
theorem Zf2 (F:Fun K "_law_odd_name" "_law_odd_name" Za3 f fd) (B:Bn mg) (ZB:Fn P w K mg base 1 "_law_mixed" qd (ZE K)):ZQ P w K mg base CX0 2 f fd JQ (Ys K):=by
 refine F.ok Zf8 (λ_ _ _ _ hJ=>Zz hJ λ_ _ hJ=>ZN hJ λ_ _ hJ=>Zq hJ λ_=>rfl) (λcdv A outer s H vs Q E hr hJ=>Zz hJ λn _ hJ=>ZN hJ λcell _ hJ=>Zq hJ λh=>?_)
 ·repeat clear hJ
  obtain ⟨hn,q⟩:=h;refine ⟨_,(Zo (Zx (Z9 (zi (K:=K) rfl) (ZR (Za Zn (Za Zn (Za (Zr Zw (qv 0) (Zr Zd8 Zn (Zr Zfg Zl (ZC (zL (K:=K) rfl) (by rfl) B.len zK (Za (qv 0) Ze))))) (Za Zn (Za Zn (Za (Zr Zw (zE (Zaa (K:=K) rfl) (qv 0) YL (ZbD (ZkA ZkR Zl))) Zn) Ze))))))) (ZS ZB (hr.mono (by decide)) (Za (qv 1) (Za Zl (Za Zl Ze)))) (λ_ _=>rfl)))),stR ?_⟩;have hsz:sizeLine=16777216:=jw;simp! [ZjN,ZE,aR,aS,aI,aB,a0];obtain ⟨n1,n2,n3⟩:=id hn;have ea:L (Qc "a")=[97]:=by rfl'
  have eu:L (Qc "_")=[95]:=by rfl'
  have c1:=ZbO (L n) none (some (-1));rw [ea,eu];have rl:(rep (9-((L n).length:Int)).toNat [97]).length=9-(L n).length:=by rw [ZpZ];simp only [jJ];omega
  have r1:∀(m b:Nat),rep m [b]=Qv m b:=λm b=>by
   unfold rep
   induction m with
   |zero=>rfl
   |succ m ih=>rw [uE,Uk,ih];rfl
  have nb:=hn.noB;refine ⟨by omega,⟨by omega,by omega,by simp only [jJ];omega⟩,by omega,by omega,by simp only [jJ];omega,by omega,λp hp r r0 r6=>?_⟩;have od:∀l,Odd l->Q (V.str (T l)) (upd H p (HO.tup [V.str (Qc ""),V.str (Qc "A"),V.str (T (L n++rep (9-((L n).length:Int)).toNat [97])),V.str (Qc "a1"),V.str (Qc "a-b"),V.str (T (cut (L n) none (some (-1))++[95]))])):=λl ho=>q l _ ho (Zt.updN hp);obtain ⟨r,rfl⟩:∃k:Nat,r=(k:Int):=⟨r.toNat,by omega⟩;have r6:r<6:=by omega
  have oc:∀s:String,Odd (cd s)->Q (V.str (Qc s)) (upd H p (HO.tup [V.str (Qc ""),V.str (Qc "A"),V.str (T (L n++rep (9-((L n).length:Int)).toNat [97])),V.str (Qc "a1"),V.str (Qc "a-b"),V.str (T (cut (L n) none (some (-1))++[95]))])):=λs ho=>by have:=od _ ho;rwa [Zbv] at this
  have ds:∀s:String,decide (1<=(cd s).length/\(cd s).length<=8/\∀c∈cd s,97<=c/\c<=122)=false->decide (32∉cd s/\(cd s).length<=20)=true->Odd (cd s):=λs h1 h2=>⟨λz=>(of_decide_eq_false h1) z,of_decide_eq_true h2⟩
  match r,r6 with
  |0,_=>exact ⟨_,_,.inr (SqT.of Zg),rfl,oc "" (ds _ (by rfl') (by rfl'))⟩
  |1,_=>exact ⟨_,_,.inr (SqT.of Zg),rfl,oc "A" (ds _ (by rfl') (by rfl'))⟩
  |2,_=>
   refine ⟨_,_,.inr (SqT.of Zg),rfl,od _ ⟨λz=>?_,λz=>?_,?_⟩⟩
   ·have:=z.2.1;rw [jv,rl] at this;omega
   ·rcases jN.mp z with z|z
    ·exact nb z
    ·rw [r1] at z;have:=(VC.mp z).2;omega
   ·rw [jv,rl];omega
  |3,_=>exact ⟨_,_,.inr (SqT.of Zg),rfl,oc "a1" (ds _ (by rfl') (by rfl'))⟩
  |4,_=>exact ⟨_,_,.inr (SqT.of Zg),rfl,oc "a-b" (ds _ (by rfl') (by rfl'))⟩
  |5,_=>
   refine ⟨_,_,.inr (SqT.of Zg),rfl,od _ ⟨λz=>?_,λz=>?_,?_⟩⟩
   ·have:=z.2.2 95 (by simp);omega
   ·rcases jN.mp z with z|z
    ·exact nb (LW.ZcT z)
    ·have:=jC.mp z;omega
   ·rw [jv];simp only [jJ];omega
noncomputable def Y2 (kept:zh):Prop:=∀n x,ZM kept n=some x->zX n/\x.length<=300/\∀c∈x,c∈Zan
theorem Y2.put {kept:zh} {n x:List Nat} (h:Y2 kept) (hn:zX n) (hx:x.length<=300) (hs:∀c∈x,c∈Zan):Y2 (J6 kept n x):=λm y e=>by
 rw [ZnO] at e;split at e
 ·rename_i hm;cases e;exact ⟨hm▸hn,hx,hs⟩
 ·exact h m y e
theorem Y2.drop {kept:zh} {n:List Nat} (h:Y2 kept):Y2 (Zbx kept n):=λm y e=>by
 rw [Zgs] at e;split at e
 ·cases e
 ·exact h m y e
noncomputable def Due (kept:zh) (r:List Nat) (kept':zh) (b:Bool) (y:Str):Prop:=ql kept r (λk x=>k=kept'/\b=true/\y=T x) (λk=>kept'=kept/\b=false/\y=nm9 k)
theorem J7 {kept:zh} {r:List Nat} {i:Nat} {ws:List (List Nat)} {Qs:zh->List Nat->Prop} {Qr:Nat->Prop} (g:Yw r i ws) (h1:¬Zcg kept i ws->Qr 7) (h2:Zcg kept i ws->Zl3 kept i ws Qs Qr):ql kept r Qs Qr:=
 ⟨λn=>absurd ⟨_,_,g⟩ n,λi' ws' g'=>by
  obtain ⟨rfl,rfl⟩:=g'.uniq g;exact ⟨h1,h2⟩⟩
section
variable {kept:zh} {n x y:List Nat}
theorem Zpf (ho:Odd n):Due kept (cd "keep"++32::(n++32::x)) kept false (nm9 7):=
 J7 (qf (by rfl') (by rfl') ho.2.1) (λ_=>⟨rfl,rfl,rfl⟩) λnk=>absurd (nk.1 (.inl rfl)) ho.1
theorem Zm3 (hn:zX n) (hx:x.length<=300):Due kept (cd "keep"++32::(n++32::x)) (J6 kept n x) true (Qc "ok"):=
 J7 (qf (by rfl') (by rfl') hn.noB) (λnk=>absurd ⟨λ_=>hn,λz=>absurd (.inl rfl) z⟩ nk) λ_=>.inl ⟨rfl,rfl,λ_=>⟨rfl,rfl,(Zbv _).symm⟩,λl=>absurd hx (jk.mpr l)⟩
theorem Zk1 (hn:zX n) (hx:300<x.length):Due kept (cd "keep"++32::(n++32::x)) kept false (nm9 6):=
 J7 (qf (by rfl') (by rfl') hn.noB) (λnk=>absurd ⟨λ_=>hn,λz=>absurd (.inl rfl) z⟩ nk) λ_=>.inl ⟨rfl,rfl,λl=>absurd hx (jj.mpr l),λ_=>⟨rfl,rfl,rfl⟩⟩
theorem Yn {r:List Nat} {i:Nat} {ws:List (List Nat)} (g:Yw r i ws) (hw:ws.getD 0 []≠cd "keep"/\ws.getD 0 []≠cd "load") (hl:ZM kept (ws.getD 1 [])=none\/(i=4/\ZM kept (ws.getD 2 [])=none)):Due kept r kept false (nm9 7):=
 J7 g (λ_=>⟨rfl,rfl,rfl⟩) λnk=>by
  have h:=nk.2 λz=>z.elim hw.1 hw.2;rcases hl with hl|⟨h4,hl⟩
  ·rw [hl] at h;cases h.1
  ·have:=h.2 h4;rw [hl] at this;cases this
theorem ZaY {i:Nat} {ws:List (List Nat)} (hw:ws.getD 0 []≠cd "keep"/\ws.getD 0 []≠cd "load") (hl:ZM kept (ws.getD 1 [])=some y) (h4:i≠4):Zcg kept i ws:=
 ⟨λz=>absurd z λz=>z.elim hw.1 hw.2,λ_=>⟨by rw [hl];rfl,λz=>absurd z h4⟩⟩
theorem Zk0 (hn:zX n) (hl:ZM kept n=some y) (hx:x.length+y.length<=300):Due kept (cd "ahead"++32::(n++32::x)) (J6 kept n (x++y)) true (Qc "ok"):=
 J7 (qf (by rfl') (by rfl') hn.noB) (λnk=>absurd (ZaY (ws:=[cd "ahead",n,x]) (show cd "ahead"≠cd "keep"/\cd "ahead"≠cd "load" by rfl') hl (by decide)) nk) λ_=>.inr (.inr (.inl ⟨rfl,rfl,y,hl,QE hx (by decide),λ_=>⟨rfl,rfl,(Zbv _).symm⟩,λl=>absurd hx (jk.mpr l)⟩))
theorem Zjb (hn:zX n) (hl:ZM kept n=some y) (hx:300<x.length+y.length) (h5:x.length+y.length<=5000):Due kept (cd "ahead"++32::(n++32::x)) kept false (nm9 6):=
 J7 (qf (by rfl') (by rfl') hn.noB) (λnk=>absurd (ZaY (ws:=[cd "ahead",n,x]) (show cd "ahead"≠cd "keep"/\cd "ahead"≠cd "load" by rfl') hl (by decide)) nk) λ_=>.inr (.inr (.inl ⟨rfl,rfl,y,hl,h5,λl=>absurd hx (jj.mpr l),λ_=>⟨rfl,rfl,rfl⟩⟩))
theorem Zm1 (hn:zX n) (hl:ZM kept n=some y):Due kept (cd "drop"++32::n) (Zbx kept n) true (Qc "ok"):=
 J7 (JX (by rfl') (by rfl') hn.noB) (λnk=>absurd (ZaY (ws:=[cd "drop",n]) (show cd "drop"≠cd "keep"/\cd "drop"≠cd "load" by rfl') hl (by decide)) nk) λ_=>.inr (.inr (.inr (.inl ⟨rfl,y,hl,rfl,rfl,(Zbv _).symm⟩)))
theorem Zm4 {m:Nat} (hn:zX n) (hl:ZM kept n=some y) (hm:m<10 ^ 9) (h5:y.length<=5000) (hx:y.length<m):Due kept (cd "off"++32::(n++32::qj (m:Int))) kept false (nm9 5):=by have g:=Zgv hm;refine J7 (Y6 (.inl rfl) (by rfl') (by rfl') hn.noB (LD.qL.noB g) λ_=>g) (λnk=>absurd (ZaY (ws:=[cd "off",n,_]) (show cd "off"≠cd "keep"/\cd "off"≠cd "load" by rfl') hl (by decide)) nk) λ_=>.inr (.inr (.inr (.inr (.inl ⟨rfl,rfl,y,hl,h5,λ_=>⟨rfl,rfl,rfl⟩,λl=>?_⟩))));have l:digitsVal (qj (m:Int))<=y.length:=l;rw [ZcV] at l;omega
theorem Zpg {m:Nat} (hn:zX n) (hl:ZM kept n=some y) (hm:m<10 ^ 9) (h5:y.length<=5000) (hx:m<=y.length):Due kept (cd "off"++32::(n++32::qj (m:Int))) (J6 kept n (y.drop m)) true (T (y.take m)):=by
 have g:=Zgv hm;refine J7 (Y6 (.inl rfl) (by rfl') (by rfl') hn.noB (LD.qL.noB g) λ_=>g) (λnk=>absurd (ZaY (ws:=[cd "off",n,_]) (show cd "off"≠cd "keep"/\cd "off"≠cd "load" by rfl') hl (by decide)) nk) λ_=>.inr (.inr (.inr (.inr (.inl ⟨rfl,rfl,y,hl,h5,λl=>?_,λ_=>?_⟩))))
 ·have l:y.length<digitsVal (qj (m:Int)):=l;rw [ZcV] at l;omega
 ·show J6 kept n (y.drop (digitsVal (qj (m:Int))))=_/\_/\T (y.take m)=T (y.take (digitsVal (qj (m:Int))));rw [ZcV];exact ⟨rfl,rfl,rfl⟩
theorem Zm5 (hn:zX n) (hl:ZM kept n=some y):Due kept (cd "text"++32::n) kept true (T y):=
 J7 (JX (by rfl') (by rfl') hn.noB) (λnk=>absurd (ZaY (ws:=[cd "text",n]) (show cd "text"≠cd "keep"/\cd "text"≠cd "load" by rfl') hl (by decide)) nk) λ_=>.inr (.inl ⟨rfl,y,hl,rfl,rfl,rfl⟩)
theorem ZoA:∀c∈Zan,c≠10:=by decide
theorem Zm2 (hn:zX n) (hl:ZM kept n=some y) (ok:Y2 kept) (hx:x.length<=1000) (hs:∀c∈x,c∈Zan):Due kept (cd "find"++32::(n++32::x)) kept true (T (spn (plc y x))):=
 J7 (qf (by rfl') (by rfl') hn.noB) (λnk=>absurd (ZaY (ws:=[cd "find",n,x]) (show cd "find"≠cd "keep"/\cd "find"≠cd "load" by rfl') hl (by decide)) nk) λ_=>.inr (.inr (.inr (.inr (.inr ⟨rfl,rfl,y,hl,(ok n y hl).2.1,λc hc=>ZoA c ((ok n y hl).2.2 c hc),λc hc=>ZoA c (hs c hc),hx,rfl,rfl,rfl⟩))))
end
noncomputable def ZbV (K:Qa):Sp:=λvs H Q _=>aR (λd=>aS (λn=>aI (λ_=>aB (λ_=>a0 (∃kept,H d=some (.dK (txK kept))/\kept.length<=900/\Y2 kept/\zX (L n)/\∀r kept' b y H' p p2,Due kept r kept' b y->Y2 kept'->kept'.length<=kept.length+1->r.length<=1000->Zt (upd H d (.dK (txK kept'))) H'->H p=none->H' p=some (.tup [.str (T r),.ref p2])->H' p2=some (.tup [.str (qF b),.str y])->Q (.ref p) H'))))) vs
theorem Zlw (F:Fun K "_law_deed" "_law_deed" Zfs f fd) (B:Bn mg) (ZB:Fn P w K mg base 1 "_law_mixed" qd (ZE K)) (qp:Fn P w K mg base 2 "_law_signs_by" ZaR (Yt K)) (ZcC:Fn P w K mg base 1 "_law_kept" ZeL (ZaJ K)) (YH:Fn P w K mg base 2 "_law_odd_name" JQ (Ys K)):ZQ P w K mg base CX0 3 f fd ZeK (ZbV K):=by
 refine F.ok Yb (λ_ _ _ _ hJ=>Zs hJ λ_ _ hJ=>Zz hJ λ_ _ hJ=>ZN hJ λ_ _ hJ=>Zmv hJ λ_ _ hJ=>Zq hJ λ_=>rfl) (λcdv A outer s H vs Q E hr hJ=>Zs hJ λd _ hJ=>Zz hJ λn _ hJ=>ZN hJ λcell _ hJ=>Zmv hJ λearly _ hJ=>Zq hJ λh=>?_)
 ·repeat clear hJ
  obtain ⟨kept,hd,hk,ok,hn,q⟩:=h
  refine ⟨_,(Zh (ZD (i:=4) Yb.nd rfl (by ac_nf) (ZS ZB (hr.mono (by decide)) (Za (qv 2) (Za Zl (Za Zl Ze)))))
   (Zh (ZF (ZD (i:=5) Yb.nd rfl (by ac_nf) (Zex (qv 3) (Zhg (Zb8 ZbY (ZS ZB (hr.mono (by decide)) (Za (qv 2) (Za Zl (Za Zl Ze)))) Zl)))))
   (Zh (ZF (zb (zr Ziv (qv 4) Zl) (Zh (ZF (ZD (i:=6) Yb.nd rfl (by ac_nf) (zE (Zaa (K:=K) rfl) (ZS qp (hr.mono (by decide)) (Za (qv 2) (Za (Zr Zw (ZS ZB (hr.mono (by decide)) (Za (qv 2) (Za Zl (Za Zl Ze)))) (Zr Zd8 Zl (zQ ZhS (by rfl) B.int ZgR (Za (qv 5) Ze)))) Ze))) YL (ZbD Zl))))
   (Zh (ZF (zb (zr ZbY (ZS ZB (hr.mono (by decide)) (Za (qv 2) (Za Zl (Za Zl Ze)))) Zl) (Zo (Zx (ZR (Za (Zr Zw (Zr Zw (Zr Zw Zn (ZS YH (hr.mono (by decide)) (Za (qv 1) (Za (qv 2) Ze)))) Zn) (qv 6)) (Za (ZR (Za Zn (Za Zn Ze))) Ze))))) ZH))
   (Zo (Zx (ZR (Za (Zr Zw (Zr Zw (Zr Zw Zn (qv 1)) Zn) (qv 6)) (Za (ZS ZcC (hr.mono (by decide)) (Za (qv 0) (Za (qv 1) (Za (qv 6) Ze)))) Ze))))))) ZH))
   (Zh (ZF (zb (ZbE (ZdK (ZX hr) (qv 1) (qv 0))) (Zh (ZF (ZD (i:=6) Yb.nd rfl (by ac_nf) (ZS qp (hr.mono (by decide)) (Za (qv 2) (Za (Zr Zw Zl (Zr Zd8 Zl (zQ ZhS (by rfl) B.int ZgR (Za (qv 5) Ze)))) Ze)))))
   (Zh (ZF (ZD (i:=7) Yb.nd rfl (by ac_nf) (JB (Za (Zr Zw (Zr Zw (Zr Zw Zn (qv 1)) Zn) (qv 6)) (Za (Zr Zw (Zr Zw Zn (qv 1)) Zn) Ze)))))
   (Zh (ZF (ZD (i:=7) Yb.nd rfl (by ac_nf) (Zr Zw (qv 7) (JB (Za (Zr Zw Zn (qv 1)) (Za (Zr Zw (Zr Zw Zn (qv 1)) Zn) (Za (Zr Zw Zn (qv 1)) Ze)))))))
   (Zo (Zx (ZR (Za (Z9 (zi (K:=K) rfl) (qv 7) (Zr Zfg (qv 4) Zl) (λ_ _=>rfl)) (Za (ZR (Za Zn (Za Zn Ze))) Ze)))))))) ZH))
   (Zh (ZF (zb (zr Ziv (qv 4) Zl) (Zh (ZF (ZD (i:=6) Yb.nd rfl (by ac_nf) (ZS qp (hr.mono (by decide)) (Za (qv 2) (Za (Zr Zw (ZS ZB (hr.mono (by decide)) (Za (qv 2) (Za Zl (Za Zl Ze)))) (Zr Zd8 Zl (zQ ZhS (by rfl) B.int ZgR (Za (qv 5) Ze)))) Ze)))))
   (Zo (Zx (ZR (Za (Zr Zw (Zr Zw (Zr Zw Zn (qv 1)) Zn) (qv 6)) (Za (ZS ZcC (hr.mono (by decide)) (Za (qv 0) (Za (qv 1) (Za (Zr Zw (qv 6) (ZU (ZX hr) (qv 0) (qv 1) (λ_ _=>rfl))) Ze)))) Ze)))))) ZH))
   (Zh (ZF (zb (zr ZbY (qv 4) Zl) (Zh (JT (ZiC (qv 0) (qv 1) ⟨rfl,rfl,rfl,rfl⟩))
   (Zo (Zx (ZR (Za (Zr Zw Zn (qv 1)) (Za (ZR (Za Zn (Za Zn Ze))) Ze)))))) ZH))
   (Zh (ZD (i:=8) Yb.nd rfl (by ac_nf) (ZS ZB (hr.mono (by decide)) (Za (qv 2) (Za Zl (Za Zl Ze)))))
   (Zh (ZF (zb (ZaZ (K:=K) rfl (qv 5)) (Zo (ZD (i:=8) Yb.nd rfl (by ac_nf) (Zr Zb7 (Zr Zr0 (qv 2) Zl) (Zr ZqH Zl Zl)))) ZH))
   (Zh (ZF (zb (zr Zju (qv 8) (ZC (zL (K:=K) rfl) (by rfl) B.len zK (Za (ZU (ZX hr) (qv 0) (qv 1) (λ_ _=>rfl)) Ze))) (Zo (Zx (ZR (Za (Zr Zw (Zr Zw (Zr Zw Zn (qv 1)) Zn) (zQ Zke (by rfl) B.str ZeT (Za (qv 8) Ze))) (Za (ZR (Za Zn (Za Zn Ze))) Ze))))) ZH))
   (Zh (ZD (i:=6) Yb.nd rfl (by ac_nf) (ZU (ZX hr) (qv 0) (qv 1) (λ_ _=>rfl)))
   (Zh (ZbU (ZX hr) (qv 0) (qv 1) (zE (Zaa (K:=K) rfl) (qv 6) (ZbD (qv 8)) YL) rfl)
   (Zo (Zx (ZR (Za (Zr Zw (Zr Zw (Zr Zw Zn (qv 1)) Zn) (zQ Zke (by rfl) B.str ZeT (Za (qv 8) Ze))) (Za (ZR (Za Zn (Za (zE (Zaa (K:=K) rfl) (qv 6) YL (ZbD (qv 8))) Ze))) Ze)))))))))))))))),stR ?_⟩
  have hsz:sizeLine=16777216:=jw;have e1:L (Qc " ")=[32]:=by rfl'
  have ns:=hn.2.1;have fin:∀r kept' b y H' p2,Due kept r kept' b y->Y2 kept'->kept'.length<=kept.length+1->r.length<=1000->Zt (upd H d (.dK (txK kept'))) H'->H' p2=some (.tup [.str (qF b),.str y])->∀p,H' p=none->Q (.ref p) (upd H' p (.tup [.str (T r),.ref p2])):=λr kept' b y H' p2 h1 h2 h3 h4 h5 h6 p hp=>q r kept' b y _ p p2 h1 h2 h3 h4 (h5.upd hp) (ZbL (h5.free hp)).1 Zg ((Zi (Zj h6 hp)).trans h6);have s0:∀{H'},Zt H H'->Zt (upd H d (.dK (txK kept))) H':=λs=>ZlL hd s;clear q;simp! [ZE,aR,aS,aI,aB,a0];intro kind k0 k8;refine zD (λσ' H'=>H'=H/\∃far:Bool,σ'=[some (V.ref d),some (V.str n),some (V.int cell),some (V.bl early),some (V.int kind),some (V.bl far),none,none,none]) ?_ ?_
  ·simp! [ZE,aR,aS,aI,aB,a0];exact YK (λ_ r _ _=>⟨_,rfl⟩) λ_=>⟨_,rfl⟩
  rintro _ _ ⟨rfl,far,rfl⟩;rename_i H;have hb:b2i far=0\/b2i far=1:=by cases far<;>simp [b2i]
  refine zD (λσ' H'=>H'=H/\3<=kind/\σ'=[some (V.ref d),some (V.str n),some (V.int cell),some (V.bl early),some (V.int kind),some (V.bl far),none,none,none]) ?_ ?_
  ·simp! [true_and];refine YK (λh3=>?_) λ_=>by omega
   refine zD (λσ' H'=>Zt H H'/\∃x:List Nat,x.length<=303/\(∀c∈x,c∈Zan)/\σ'=[some (V.ref d),some (V.str n),some (V.int cell),some (V.bl early),some (V.int kind),some (V.bl far),some (V.str (T x)),none,none]) ?_ ?_
   ·simp! [ZE,Yt,Zic,aR,aS,aI,aB,a0];refine λr r0 r1=>⟨.inl ⟨by omega,by omega⟩,by omega,by omega,λl ll lm H' s'=>⟨by omega,s',cut l none (some 303),?_,λc hc=>lm c (LW.ZcT hc),rfl⟩⟩;have:=ZmS l 303 (by decide);omega
   rintro _ H1 ⟨s1,x,xl,xs,rfl⟩;have ek:L (Qc "keep ")=cd "keep"++[32]:=by rfl'
   have el:(cd "keep").length=4:=by rfl'
   refine zD (λσ' H'=>H'=H1/\σ'=[some (V.ref d),some (V.str n),some (V.int cell),some (V.bl early),some (V.int kind),some (V.bl far),some (V.str (T x)),none,none]) ?_ ?_
   ·simp! [ZE,Ys,ek,e1,aR,aS,aI,aB,a0];refine λr r0 r1=>YK (λ_=>⟨hn,λl H2 ho s2=>?_⟩) λ_=>trivial;have ol:=ho.2.2;refine ⟨by simp only [jv,jJ];omega,by simp only [jv,jJ];omega,by simp only [jv,jJ];omega,by omega,λp hp=>⟨by omega,λp1 hp1=>?_⟩⟩;rw [show cd "keep"++[32]++l++[32]++x=cd "keep"++32::(l++32::x) by simp];exact fin _ kept false (nm9 7) _ p (Zpf ho) ok (by omega) (by simp only [jv,jD];omega) (s0 ((s1.trans s2).upd hp)) Zg p1 hp1
   rintro _ H2 ⟨rfl,rfl⟩;simp! [ZaJ,ek,e1,aR,aS,aI,aB,a0];refine ⟨by simp only [jv,jJ];omega,by simp only [jv,jJ];omega,by simp only [jv,jJ];omega,kept,s1 _ _ hd,by omega,by omega,λh3 H3 p s3 hp h3p=>⟨by omega,λp1 hp1=>?_⟩,λh3 H3 p s3 hp h3p=>⟨by omega,λp1 hp1=>?_⟩⟩
   ·rw [show cd "keep"++[32]++L n++[32]++x=cd "keep"++32::(L n++32::x) by simp];exact fin _ (J6 kept (L n) x) true _ _ p (Zm3 hn h3) (ok.put hn h3 xs) (Zfa ..) (by simp only [jv,jD];omega) ((ZgA s1).trans s3) h3p p1 hp1
   ·rw [show cd "keep"++[32]++L n++[32]++x=cd "keep"++32::(L n++32::x) by simp];exact fin _ kept false _ _ p (Zk1 hn h3) ok (by omega) (by simp only [jv,jD];omega) (s0 (s1.trans s3)) h3p p1 hp1
  rintro _ _ ⟨rfl,k3,rfl⟩;rename_i H;have dg:=DGet.k (k:=.inr n) hd;have vn:Z8 (txK kept) (.inr n)=(ZM kept (L n)).map λx=>V.str (T x):=by have:=YB (L n) kept;rwa [T_L] at this
  rw [vn] at dg;refine zD (λσ' H'=>H'=H/\∃y,ZM kept (L n)=some y/\σ'=[some (V.ref d),some (V.str n),some (V.int cell),some (V.bl early),some (V.int kind),some (V.bl far),none,none,none]) ?_ ?_
  ·simp! [true_and];refine ⟨d,_,rfl,dg,_,rfl,?_⟩
   cases hl:ZM kept (L n) with
   |some y=>exact ZcN ⟨y,rfl⟩
   |none=>
    refine Zdu ?_;refine zD (λσ' H'=>Zt H H'/\∃x:List Nat,x.length<=302/\σ'=[some (V.ref d),some (V.str n),some (V.int cell),some (V.bl early),some (V.int kind),some (V.bl far),some (V.str (T x)),none,none]) ?_ ?_
    ·simp! [Yt,Zic,aR,aS,aI,aB,a0];exact ⟨.inl ⟨by omega,by omega⟩,by omega,by omega,λl ll lm H' s'=>⟨s',l,by omega,rfl⟩⟩
    rintro _ H1 ⟨s1,x,xl,rfl⟩;refine zD (λσ' H'=>Zt H H'/\∃p,H' p=some (.lst ([cd "ahead"++32::(L n++32::x),cd "off"++32::(L n++32::[49])].map λr=>V.str (T r)))/\σ'=[some (V.ref d),some (V.str n),some (V.int cell),some (V.bl early),some (V.int kind),some (V.bl far),some (V.str (T x)),some (V.ref p),none]) ?_ ?_
    ·simp! [e1];have ea:L (Qc "ahead ")=cd "ahead"++[32]:=by rfl'
     have eo:L (Qc "off ")=cd "off"++[32]:=by rfl'
     have e2:L (Qc " 1")=[32,49]:=by rfl'
     have la:(cd "ahead").length=5:=by rfl'
     have lo:(cd "off").length=3:=by rfl'
     rw [ea,eo,e2];refine ⟨by and_intros,by and_intros,by and_intros,by and_intros,by and_intros,by omega,λp hp=>⟨s1.upd hp,p,?_,rfl⟩⟩;rw [Zg];simp
    rintro _ H2 ⟨s2,p2,h2,rfl⟩;refine zD (λσ' H'=>Zt H H'/\∃p,H' p=some (.lst ([cd "ahead"++32::(L n++32::x),cd "off"++32::(L n++32::[49]),cd "drop"++32::L n,cd "off"++32::(L n++32::[48]),cd "text"++32::L n].map λr=>V.str (T r)))/\σ'=[some (V.ref d),some (V.str n),some (V.int cell),some (V.bl early),some (V.int kind),some (V.bl far),some (V.str (T x)),some (V.ref p),none]) ?_ ?_
    ·simp! [e1];have ea:L (Qc "drop ")=cd "drop"++[32]:=by rfl'
     have eo:L (Qc "off ")=cd "off"++[32]:=by rfl'
     have et:L (Qc "text ")=cd "text"++[32]:=by rfl'
     have e2:L (Qc " 0")=[32,48]:=by rfl'
     have la:(cd "drop").length=4:=by rfl'
     have lo:(cd "off").length=3:=by rfl'
     have lt:(cd "text").length=4:=by rfl'
     rw [ea,eo,et,e2];refine ⟨by and_intros,by and_intros,by and_intros,by and_intros,by omega,λp hp=>⟨p2,p,_,_,rfl,rfl,(Zi (Zj h2 hp)).trans h2,Zg,by simp only [jr,jD,ua];omega,λp1 hp1=>⟨(s2.upd hp).upd hp1,p1,?_,rfl⟩⟩⟩;rw [Zg];simp
    rintro _ H3 ⟨s3,p3,h3,rfl⟩;simp! [ZjN]
    have JD:∀r∈[cd "ahead"++32::(L n++32::x),cd "off"++32::(L n++32::[49]),cd "drop"++32::L n,cd "off"++32::(L n++32::[48]),cd "text"++32::L n],Due kept r kept false (nm9 7)/\r.length<=1000:=by
     have la:(cd "ahead").length=5:=by rfl'
     have lo:(cd "off").length=3:=by rfl'
     have ld:(cd "drop").length=4:=by rfl'
     have lt:(cd "text").length=4:=by rfl'
     have g1:qL [49]:=by refine ⟨by decide,by decide,λc hc=>?_,λz=>by cases z⟩;rw [jC.mp hc];decide
     have g0:qL [48]:=by refine ⟨by decide,by decide,λc hc=>?_,λ_=>rfl⟩;rw [jC.mp hc];decide
     intro r hr;simp only [jQ,QL,or_false] at hr;rcases hr with rfl|rfl|rfl|rfl|rfl
     ·exact ⟨Yn (qf (by rfl') (by rfl') hn.noB) (show cd "ahead"≠cd "keep"/\cd "ahead"≠cd "load" by rfl') (.inl hl),by and_intros⟩
     ·exact ⟨Yn (Y6 (.inl rfl) (by rfl') (by rfl') hn.noB (LD.qL.noB g1) λ_=>g1) (show cd "off"≠cd "keep"/\cd "off"≠cd "load" by rfl') (.inl hl),by and_intros⟩
     ·exact ⟨Yn (JX (by rfl') (by rfl') hn.noB) (show cd "drop"≠cd "keep"/\cd "drop"≠cd "load" by rfl') (.inl hl),by and_intros⟩
     ·exact ⟨Yn (Y6 (.inl rfl) (by rfl') (by rfl') hn.noB (LD.qL.noB g0) λ_=>g0) (show cd "off"≠cd "keep"/\cd "off"≠cd "load" by rfl') (.inl hl),by and_intros⟩
     ·exact ⟨Yn (JX (by rfl') (by rfl') hn.noB) (show cd "text"≠cd "keep"/\cd "text"≠cd "load" by rfl') (.inl hl),by and_intros⟩
    obtain ⟨r,hr,er⟩:=Zae (λr=>V.str (T r)) [cd "ahead"++32::(L n++32::x),cd "off"++32::(L n++32::[49]),cd "drop"++32::L n,cd "off"++32::(L n++32::[48]),cd "text"++32::L n] (r:=kind-3) (by omega) (by show kind-3<5;omega);refine ⟨_,_,.inl (SqL.of h3),er,by omega,λp hp=>⟨by omega,λp1 hp1=>?_⟩⟩;exact fin r kept false (nm9 7) _ p (JD r hr).1 ok (by omega) (JD r hr).2 (s0 (s3.upd hp)) Zg p1 hp1
  rintro _ _ ⟨rfl,y,hl,rfl⟩;rename_i H;obtain ⟨_,yl,ys⟩:=ok _ _ hl;rw [hl] at dg;refine zD (λσ' H'=>H'=H/\5<=kind/\σ'=[some (V.ref d),some (V.str n),some (V.int cell),some (V.bl early),some (V.int kind),some (V.bl far),none,none,none]) ?_ ?_
  ·simp! [true_and];refine YK (λh3=>?_) λ_=>by omega
   refine zD (λσ' H'=>Zt H H'/\∃x:List Nat,x.length<=300/\(∀c∈x,c∈Zan)/\σ'=[some (V.ref d),some (V.str n),some (V.int cell),some (V.bl early),some (V.int kind),some (V.bl far),some (V.str (T x)),none,none]) ?_ ?_
   ·simp! [ZE,Yt,Zic,aR,aS,aI,aB,a0];exact λr r0 r1=>⟨.inl ⟨by omega,by omega⟩,by omega,by omega,λl ll lm H' s'=>⟨s',l,by omega,lm,rfl⟩⟩
   rintro _ H1 ⟨s1,x,xl,xs,rfl⟩;simp! [ZaJ,e1,aR,aS,aI,aB,a0];have ea:L (Qc "ahead ")=cd "ahead"++[32]:=by rfl'
   have la:(cd "ahead").length=5:=by rfl'
   rw [ea];have dg1:=DGet.k (k:=.inr n) (s1 _ _ hd);rw [vn,hl] at dg1;refine ⟨by and_intros,by and_intros,by and_intros,d,_,rfl,dg1,?_⟩;simp only [L_T];refine ⟨by omega,kept,s1 _ _ hd,by omega,by rw [jv];omega,λh3 H3 p s3 hp h3p=>⟨by omega,λp1 hp1=>?_⟩,λh3 H3 p s3 hp h3p=>⟨by omega,λp1 hp1=>?_⟩⟩
   ·rw [show cd "ahead"++[32]++L n++[32]++x=cd "ahead"++32::(L n++32::x) by simp];refine fin _ (J6 kept (L n) (x++y)) true _ _ p (Zk0 hn hl (by rw [jv] at h3;exact h3)) (ok.put hn h3 λc hc=>(jN.mp hc).elim (xs c) (ys c)) (Zfa ..) (by simp only [jv,jD];omega) ((ZgA s1).trans s3) h3p p1 hp1
   ·rw [show cd "ahead"++[32]++L n++[32]++x=cd "ahead"++32::(L n++32::x) by simp];exact fin _ kept false _ _ p (Zjb hn hl (by rw [jv] at h3;exact h3) (by omega)) ok (by omega) (by simp only [jv,jD];omega) (s0 (s1.trans s3)) h3p p1 hp1
  rintro _ _ ⟨rfl,k5,rfl⟩;rename_i H;refine zD (λσ' H'=>H'=H/\σ'=[some (V.ref d),some (V.str n),some (V.int cell),some (V.bl early),some (V.int kind),some (V.bl far),none,none,none]) ?_ ?_
  ·simp! [true_and];refine YK (λh3=>?_) λ_=>trivial;have ea:L (Qc "drop ")=cd "drop"++[32]:=by rfl'
   have la:(cd "drop").length=4:=by rfl'
   rw [ea];have dd:=ZeY (L n) kept;rw [T_L] at dd;refine ⟨d,rfl,.inl ⟨_,.inl hd⟩,_,.inr n,_,hd,rfl,by rw [vn,hl];rfl,by and_intros,by omega,λp hp=>⟨by omega,λp1 hp1=>?_⟩⟩
   rw [dd] at hp hp1 ⊢
   rw [show cd "drop"++[32]++L n=cd "drop"++32::L n by simp];exact fin _ (Zbx kept (L n)) true _ _ p (Zm1 hn hl) ok.drop (VJ (Zlo ..)) (by simp only [jv,jD];omega) (Zt.updN hp) Zg p1 hp1
  rintro _ _ ⟨rfl,rfl⟩;rename_i H;simp! [ZE,aR,aS,aI,aB,a0];intro m m0 m5;refine zD (λσ' H'=>H'=H/\∃m:Nat,m<10 ^ 9/\σ'=[some (V.ref d),some (V.str n),some (V.int cell),some (V.bl early),some (V.int kind),some (V.bl far),none,none,some (V.int (m:Int))]) ?_ ?_
  ·simp! [Zls,Zqy];have t0:(0:Int)<10 ^ VU 9:=by decide
   have t1:=UK (cell/3) (b:=10 ^ VU 9) (by omega);have t2:=Ud (cell/3) (b:=10 ^ VU 9) t0;have t3:(10:Int) ^ VU 9=1000000000:=by decide
   refine YK (λ_=>⟨⟨by decide,by decide⟩,⟨by decide,by decide,by decide⟩,t0,(cell/3%10 ^ VU 9).toNat,by omega,?_⟩) λ_=>⟨m.toNat,by omega,?_⟩
   ·rw [VA t1]
   ·rw [VA m0]
  rintro _ _ ⟨rfl,m,hm,rfl⟩;rename_i H;refine zD (λσ' H'=>H'=H/\m<=y.length/\σ'=[some (V.ref d),some (V.str n),some (V.int cell),some (V.bl early),some (V.int kind),some (V.bl far),none,none,some (V.int (m:Int))]) ?_ ?_
  ·simp! [gtV,ZjL,e1];have eo:L (Qc "off ")=cd "off"++[32]:=by rfl'
   have lo:(cd "off").length=3:=by rfl'
   have nl:(qj (m:Int)).length<=9:=(ZbT m (by decide)).mpr hm;rw [eo];refine ⟨d,_,rfl,dg,?_⟩;simp only [L_T];refine ⟨by omega,YK (λh=>⟨by and_intros,by and_intros,ZbS (by show m<_;omega),by and_intros,by omega,λp hp=>⟨by omega,λp1 hp1=>?_⟩⟩) λh=>by omega⟩;rw [show cd "off"++[32]++L n++[32]++qj (m:Int)=cd "off"++32::(L n++32::qj (m:Int)) by simp];exact fin _ kept false (nm9 5) _ p (Zm4 hn hl hm (by omega) (by omega)) ok (by omega) (by simp only [jv,jD];omega) (s0 (Zt.updN hp)) Zg p1 hp1
  rintro _ _ ⟨rfl,hmy,rfl⟩;rename_i H;simp! [ZjL,e1];have eo:L (Qc "off ")=cd "off"++[32]:=by rfl'
  have lo:(cd "off").length=3:=by rfl'
  have nl:(qj (m:Int)).length<=9:=(ZbT m (by decide)).mpr hm;rw [eo];refine ⟨d,_,rfl,dg,?_⟩;have pt:=Zc5 kept (L n) (y.drop m);rw [T_L] at pt;simp only [L_T];rw [ZcG,ZgX];refine ⟨by omega,d,_,rfl,.inl ⟨_,.inr n,hd,rfl,by unfold txK;rw [jr];omega,rfl⟩,by and_intros,by and_intros,ZbS (by show m<_;omega),by and_intros,by omega,by omega,λp hp=>⟨by omega,λp1 hp1=>?_⟩⟩
  rw [pt] at hp hp1 ⊢
  rw [show cd "off"++[32]++L n++[32]++qj (m:Int)=cd "off"++32::(L n++32::qj (m:Int)) by simp];exact fin _ (J6 kept (L n) (y.drop m)) true (T (y.take m)) _ p (Zpg hn hl hm (by omega) hmy) (ok.put hn (by rw [jO];omega) λc hc=>ys c (UD hc)) (Zfa ..) (by simp only [jv,jD];omega) (Zt.updN hp) Zg p1 hp1
theorem ZcH {tb1 tb2:jo} {H:Hp} {t:jo} {kept kept':zh} {r:List Nat} {b:Bool} {y:Str} {R:jo->Hp->Prop} (ht:H t=some (.dK (txK kept))) (du:Due kept r kept' b y) (q:∀H' p,SD tb1 tb2 (upd H t (.dK (txK kept'))) H'->H p=none->H' p=some (.tup [.str (qF b),.str y])->R p H'):
 ql kept r (λkept' x=>∀H' p,SD tb1 tb2 (upd H t (.dK (txK kept'))) H'->H p=none->H' p=some (.tup [.str (qF true),.str (T x)])->R p H') (λk=>∀H' p,SD tb1 tb2 H H'->H p=none->H' p=some (.tup [.str (qF false),.str (nm9 k)])->R p H'):=by
 refine ql.mono ?_ ?_ du
 ·rintro k x ⟨rfl,rfl,rfl⟩ H' p s hp h;exact q H' p s hp h
 ·rintro k ⟨rfl,rfl,rfl⟩ _ _ H' p s hp h;exact q H' p (by rw [ZaL ht];exact s) hp h
noncomputable def zC (K:Qa) (CL CF C:jo) (tb2 tb1:jo):Sp:=λvs H Q _=>aR (λo=>aS (λn=>aS (λx=>a0 (∃t kept,zJ C H o t kept/\kept.length<=1000/\ZM kept (L n)=some (L x)/\Y2 kept/\Zp tb1 H/\Zu tb2 H/\tb2≠tb1/\∀H',SD tb1 tb2 H H'->Q (.bl true) H')))) vs
theorem ZdG (F:Fun K "_law_places_told" "_law_places_told" JM f fd) (B:Bn mg) (Yl:Fn P w K mg base 10 "_law_said" Zbs (Yd K Zd Zm Zy Zf Zc)) (zT:Fn P w K mg base 1 "_law_is_said" Jk (zo K)):ZQ P w K mg base CX0 11 f fd Y0 (zC K Zd Zm Zy Zf Zc):=by
 refine F.ok Jc (λ_ _ _ _ hJ=>Zs hJ λ_ _ hJ=>Zz hJ λ_ _ hJ=>Zz hJ λ_ _ hJ=>Zq hJ λ_=>rfl) (λcdv A outer s H vs Q E hr hJ=>Zs hJ λo _ hJ=>Zz hJ λn _ hJ=>Zz hJ λx _ hJ=>Zq hJ λh=>?_)
 ·repeat clear hJ
  obtain ⟨t,kept,hD,hk,hl,ok,b1,b2,ne,q⟩:=h
  refine ⟨_,(Zh (ZD (i:=3) Jc.nd rfl (by ac_nf) (zE (Zaa (K:=K) rfl) (qv 2) (ZbD (ZkA ZkR Zl)) YL))
   (Zh (ZF (Zok (i₀:=4) B.range (own:=["_law_spot"]) (cp:=[(("_law_text":Str),2),(("_law_sign":Str),3)]) rfl rfl rfl (by rfl') (by rfl') ⟨⟨rfl,rfl,rfl⟩,⟨rfl,rfl,rfl⟩,trivial⟩ (Za (Zr Zfg (Zr Zw (ZC (zL (K:=K) rfl) (by rfl) B.len zK (Za (qv 2) Ze)) Zl) (ZC (zL (K:=K) rfl) (by rfl) B.len zK (Za (qv 3) Ze))) Ze) (by decide) (λ_ _ _ _=>zf (i:=0) (show UJ (["_law_spot","_law_text","_law_sign"]:List Str) by rfl') rfl (Or.inl rfl) (Or.inr rfl)) (λ_ _ _ _=>Zhi (zr ZbY (zE (Zaa (K:=K) rfl) (qv 1) (ZbD (qv 0)) (ZbD (Zr Zw (qv 0) (ZC (zL (K:=K) rfl) (by rfl) B.len zK (Za (qv 2) Ze))))) (qv 2))) (λ_ _ _ _=>(zQ Zke (by rfl) B.str ZeT (Za (qv 0) Ze))) Jc.nd rfl rfl))
   (Zo (Zx (ZS zT (hr.mono (by decide)) (Za (ZS Yl (hr.mono (by decide)) (Za (qv 0) (Za (Zr Zw (Zr Zw (Zr Zw Zn (qv 1)) Zn) (qv 3)) Ze))) (Za (qA (K:=K) rfl QC UN UM (Zew (K:=K) rfl) Zn (Za (qv 4) Ze)) Ze))))))),stR ?_⟩
  have hsz:sizeLine=16777216:=jw;have e1:L (Qc " ")=[32]:=by rfl'
  have ef:L (Qc "find ")=cd "find"++[32]:=by rfl'
  have lf:(cd "find").length=4:=by rfl'
  obtain ⟨hn,xl,xs⟩:=ok _ _ hl
  have sl:(cut (L x) (some (-1)) none).length<=(L x).length:=ZbO ..
  have ss:∀c∈cut (L x) (some (-1)) none,c∈Zan:=λc hc=>xs c (LW.ZcT hc);simp! [true_and];refine ⟨by omega,?_⟩;generalize cut (L x) (some (-1)) none=sg at sl ss;refine zD (λσ' H'=>Zt H H'/\∃p,H' p=some (.lst (((plc (L x) sg).map λi:Nat=>qj (i:Int)).map λz=>V.str (T z)))/\σ'=[some (V.ref o),some (V.str n),some (V.str x),some (V.str (T sg)),some (V.ref p)]) ?_ ?_
  ·simp! [ZjN,ZjL];refine ⟨by omega,by omega,⟨by omega,by omega⟩,λi H2 acc=>H2=H/\acc=(((Qj i).filter λj=>decide (((L x).drop j).take sg.length=sg)).map λj:Nat=>qj (j:Int)).map λz=>V.str (T z),⟨rfl,rfl⟩,?_,?_⟩
   ·rintro i H2 acc hi ⟨rfl,rfl⟩;have ec:cut (L x) (some (i:Int)) (some ((i:Int)+(sg.length:Int)))=((L x).drop i).take sg.length:=Zpd (L x) i sg.length;rw [ec];refine ⟨by omega,by omega,YK (λh=>⟨ZbS (by show i<_;omega),rfl,?_⟩) λh=>⟨rfl,?_⟩⟩
    ·rw [Ut,UI];simp [h]
    ·rw [Ut,UI];simp [h]
   ·rintro H2 acc ⟨rfl,rfl⟩ l hl';refine ⟨Zt.updN hl',l,?_,rfl⟩;rw [Zg,show ((L x).length:Int)+1-(sg.length:Int)=((L x).length:Int)-(sg.length:Int)+1 by omega];rfl
  rintro _ H1 ⟨s1,p,hp,rfl⟩;simp! [Yd,zo,e1,ef,aR,aS,aI,aB,a0];rw [show cd "find"++[32]++L n++[32]++sg=cd "find"++32::(L n++32::sg) by simp];have nl:=hn.2.1;have sd:=SD.of s1 b1 b2;refine ⟨by and_intros,by and_intros,by and_intros,t,kept,hD.same s1.toN,hk,by simp only [jv,jD];omega,sd.b1,sd.b2,ne,ZcH (s1 _ _ hD.2) (Zm2 hn hl ok (by omega) ss) λH' p1 s2 hp1 h1=>?_⟩;rw [ZaL (s1 _ _ hD.2)] at s2;have pl:(plc (L x) sg).length<=301:=by rw [LO.Zfc];have:=LO.ZcM (L x) sg;omega
  refine ⟨_,SqL.of (s2.same.at hp (by nofun)),?_,_,h1,?_⟩
  ·have:=ZjO (k:=3) ((plc (L x) sg).map λi:Nat=>qj (i:Int)) λz hz=>by obtain ⟨i,hi,rfl⟩:=UF.mp hz;have:=LO.ZkC hi;exact (ZbT i (by decide)).mpr (by omega)
   rw [jr] at this ⊢
   omega
  ·rw [L_T];unfold spn;rw [decide_eq_true rfl];exact q H' (sd.trans s2)
noncomputable def Zac (K:Qa) (CL CF C:jo) (tb2 tb1:jo):Sp:=λvs H Q _=>aR (λo=>aR (λd=>aS (λn=>aI (λ_=>a0 (∃t kept,zJ C H o t kept/\H d=some (.dK (txK kept))/\kept.length<=1000/\Y2 kept/\zX (L n)/\Zp tb1 H/\Zu tb2 H/\tb2≠tb1/\∀H',SD tb1 tb2 H H'->Q (.bl true) H'))))) vs
theorem Zjw (F:Fun K "_law_asked" "_law_asked" ZdQ f fd) (B:Bn mg) (ZB:Fn P w K mg base 1 "_law_mixed" qd (ZE K)) (Yl:Fn P w K mg base 10 "_law_said" Zbs (Yd K Zd Zm Zy Zf Zc)) (zT:Fn P w K mg base 1 "_law_is_said" Jk (zo K)) (YH:Fn P w K mg base 2 "_law_odd_name" JQ (Ys K)) (zM:Fn P w K mg base 11 "_law_places_told" Y0 (zC K Zd Zm Zy Zf Zc)):ZQ P w K mg base CX0 12 f fd Zdj (Zac K Zd Zm Zy Zf Zc):=by
 refine F.ok qa (λ_ _ _ _ hJ=>Zs hJ λ_ _ hJ=>Zs hJ λ_ _ hJ=>Zz hJ λ_ _ hJ=>ZN hJ λ_ _ hJ=>Zq hJ λ_=>rfl) (λcdv A outer s H vs Q E hr hJ=>Zs hJ λo _ hJ=>Zs hJ λd _ hJ=>Zz hJ λn _ hJ=>ZN hJ λcell _ hJ=>Zq hJ λh=>?_)
 ·repeat clear hJ
  obtain ⟨t,kept,hD,hd,hk,ok,hn,b1,b2,ne,q⟩:=h
  refine ⟨_,(Zh (ZF (zb (zr ZbY (ZS ZB (hr.mono (by decide)) (Za (qv 3) (Za Zl (Za Zl Ze)))) Zl) (Zo (Zx (Zb8 (Zkx (K:=K) rfl hr) (ZS Yl (hr.mono (by decide)) (Za (qv 0) (Za (Zr Zw Zn (ZS YH (hr.mono (by decide)) (Za (qv 2) (Za (qv 3) Ze)))) Ze))) (ZR (Za Zn (Za Zn Ze)))))) ZH))
   (Zh (ZF (zb (zr ZbY (ZS ZB (hr.mono (by decide)) (Za (qv 3) (Za Zl (Za Zl Ze)))) Zl) (Zh (ZF (ZD (i:=4) qa.nd rfl (by ac_nf) (Z9 (zi (K:=K) rfl) (ZR (Za (zE (Zaa (K:=K) rfl) (qv 2) YL (ZbD (ZkA ZkR Zl))) (Za (Zr Zw (qv 2) Zn) Ze))) (ZS ZB (hr.mono (by decide)) (Za (qv 3) (Za Zl (Za Zl Ze)))) (λ_ _=>rfl))))
   (Zo (Zx (Zss (Zsm (ZdJ (ZX hr) (qv 4) (qv 1))) (Zhg (Zb8 (Zkx (K:=K) rfl hr) (ZS Yl (hr.mono (by decide)) (Za (qv 0) (Za (Zr Zw Zn (qv 4)) Ze))) (ZR (Za Zn (Za Zn Ze))))))))) ZH))
   (Zh (ZF (zb (PW.pt (Zfq (ZbE (ZdJ (ZX hr) (qv 2) (qv 1))) (Zfq (zr Ziv (ZC (zL (K:=K) rfl) (by rfl) B.len zK (Za (ZU (ZX hr) (qv 1) (qv 2) (λ_ _=>rfl)) Ze)) Zl) (Zez (zr ZbY (ZS ZB (hr.mono (by decide)) (Za (qv 3) (Za Zl (Za Zl Ze)))) Zl))))) (Zo (Zx (ZS zM (hr.mono (by decide)) (Za (qv 0) (Za (qv 2) (Za (ZU (ZX hr) (qv 1) (qv 2) (λ_ _=>rfl)) Ze)))))) ZH))
   (Zh (ZF (zb (ZbE (ZdJ (ZX hr) (qv 2) (qv 1))) (Zo (Zx (ZS zT (hr.mono (by decide)) (Za (ZS Yl (hr.mono (by decide)) (Za (qv 0) (Za (Zr Zw Zn (qv 2)) Ze))) (Za (ZU (ZX hr) (qv 1) (qv 2) (λ_ _=>rfl)) Ze))))) ZH))
   (Zh (ZF (ZD (i:=5) qa.nd rfl (by ac_nf) (JB (Za (Zr Zw Zn (qv 2)) (Za (Zr Zw Zn (qv 2)) (Za (Zr Zw (Zr Zw Zn (qv 2)) Zn) (Za (Zr Zw (Zr Zw Zn (qv 2)) Zn) (Za (Zr Zw (Zr Zw Zn (qv 2)) Zn) Ze))))))))
   (Zh (ZF (ZD (i:=5) qa.nd rfl (by ac_nf) (Zr Zw (qv 5) (JB (Za (Zr Zw (Zr Zw Zn (qv 2)) Zn) (Za (Zr Zw Zn (qv 2)) (Za (Zr Zw Zn (qv 2)) (Za (Zr Zw (Zr Zw Zn (qv 2)) Zn) Ze))))))))
   (Zh (ZF (ZkE (K:=K) rfl PassesOwn.never rfl (Zr Zw (zE (Zaa (K:=K) rfl) (zQ (Zo8 rfl) (by rfl) B.list Zo7 (Za (qv 1) Ze)) YL (ZbD Zl)) (JB (Za (qv 2) Ze))) (zf (i:=6) qa.nd rfl (by ac_nf)) (Zaj (Zo (ZD (i:=5) qa.nd rfl (by ac_nf) (Zr Zw (qv 5) (JB (Za (Zr Zw (Zr Zw (Zr Zw Zn (qv 2)) Zn) (qv 6)) (Za (Zr Zw (Zr Zw (Zr Zw Zn (qv 6)) Zn) (qv 2)) Ze)))))))))
   (Zh (ZF (ZD (i:=7) qa.nd rfl (by ac_nf) (Z9 (zi (K:=K) rfl) (qv 5) (ZS ZB (hr.mono (by decide)) (Za (qv 3) (Za Zl (Za (ZC (zL (K:=K) rfl) (by rfl) B.len zK (Za (qv 5) Ze)) Ze)))) (λ_ _=>rfl))))
   (Zo (Zx (Zb8 (Zkx (K:=K) rfl hr) (ZS Yl (hr.mono (by decide)) (Za (qv 0) (Za (qv 7) Ze))) (ZR (Za Zn (Za Zn Ze)))))))))))))),stR ?_⟩
  have hsz:sizeLine=16777216:=jw;have e1:L (Qc " ")=[32]:=by rfl'
  have et:L (Qc "text ")=cd "text"++[32]:=by rfl'
  have lt:(cd "text").length=4:=by rfl'
  have nl:=hn.2.1;have nm7:nm9 7=Qc "NoName":=rfl;have sf:qF false=Qc "refused":=rfl;have dg:=DGet.k (k:=.inr n) hd;have vn:Z8 (txK kept) (.inr n)=(ZM kept (L n)).map λx=>V.str (T x):=by have:=YB (L n) kept;rwa [T_L] at this
  rw [vn] at dg;have ans:∀H1,Zt H H1->∀r,Due kept r kept false (nm9 7)->ql kept r (λkept' x=>∀H' p,SD Zc Zf (upd H1 t (.dK (txK kept'))) H'->H1 p=none->H' p=some (.tup [.str (qF true),.str (T x)])->2<=sizeLine/\∀p1,H' p1=none->ZjW K (upd H' p1 (HO.tup [V.str (Qc "refused"),V.str (Qc "NoName")])) p p1/\Q (V.bl true) (upd H' p1 (HO.tup [V.str (Qc "refused"),V.str (Qc "NoName")]))) (λk=>∀H' p,SD Zc Zf H1 H'->H1 p=none->H' p=some (.tup [.str (qF false),.str (nm9 k)])->2<=sizeLine/\∀p1,H' p1=none->ZjW K (upd H' p1 (HO.tup [V.str (Qc "refused"),V.str (Qc "NoName")])) p p1/\Q (V.bl true) (upd H' p1 (HO.tup [V.str (Qc "refused"),V.str (Qc "NoName")]))):=λH1 s1 r du=>by refine ZcH (s1 _ _ hD.2) du λH' p s hp h=>⟨by omega,λp1 hp1=>⟨ZeO (Zqz rfl rfl) ((Zi (Zj h hp1)).trans h) Zg,q _ ?_⟩⟩;rw [ZaL (s1 _ _ hD.2)] at s;exact (SD.of s1 b1 b2).trans (s.trans (SD.of (Zt.updN hp1) s.b1 s.b2))
  have notext:∀m,32∉m->ZM kept m=none->Due kept (cd "text"++[32]++m) kept false (nm9 7):=λm m32 hl=>by rw [show cd "text"++[32]++m=cd "text"++32::m by simp];exact Yn (JX (by rfl') (by rfl') m32) (show cd "text"≠cd "keep"/\cd "text"≠cd "load" by rfl') (.inl hl)
  refine zD (λσ' H'=>H'=H/\σ'=[some (V.ref o),some (V.ref d),some (V.str n),some (V.int cell),none,none,none,none]) ?_ ?_
  ·simp! [ZE,Ys,Yd,et,aR,aS,aI,aB,a0];refine λr r0 r9=>YK (λ_=>⟨hn,λl H1 ho s1=>?_⟩) λ_=>trivial;have ol:=ho.2.2;have sd:=SD.of s1 b1 b2;refine ⟨by and_intros,t,kept,hD.same s1.toN,hk,by and_intros,sd.b1,sd.b2,ne,ans H1 s1 _ (notext l ho.2.1 ?_)⟩
   cases hl:ZM kept l with
   |none=>rfl
   |some x=>exact absurd (ok l x hl).1 ho.1
  rintro _ _ ⟨rfl,rfl⟩;rename_i H;refine zD (λσ' H'=>H'=H/\σ'=[some (V.ref o),some (V.ref d),some (V.str n),some (V.int cell),none,none,none,none]) ?_ ?_
  ·simp! [ZE,aR,aS,aI,aB,a0];refine λr r0 r9=>YK (λ_=>?_) λ_=>trivial;refine zD (λσ' H'=>Zt H H'/\∃m:List Nat,32∉m/\m.length<=9/\σ'=[some (V.ref o),some (V.ref d),some (V.str n),some (V.int cell),some (V.str (T m)),none,none,none]) ?_ ?_
   ·simp! [ZE,aR,aS,aI,aB,a0];have eq:L (Qc "q")=[113]:=by rfl'
    have c1:=ZbO (L n) none (some (-1));rw [eq];refine ⟨by omega,by and_intros,by omega,λp hp r r0 r2=>?_⟩;obtain ⟨r,rfl⟩:∃k:Nat,r=(k:Int):=⟨r.toNat,by omega⟩;have r2:r<2:=by omega
    match r,r2 with
    |0,_=>exact ⟨_,_,.inr (SqT.of Zg),rfl,Zt.updN hp,_,λz=>hn.noB (LW.ZcT z),by omega,rfl⟩
    |1,_=>
     refine ⟨_,_,.inr (SqT.of Zg),rfl,Zt.updN hp,_,λz=>?_,by and_intros,rfl⟩;rcases jN.mp z with z|z
     ·exact hn.noB z
     ·have:=jC.mp z;omega
   rintro _ H1 ⟨s1,m,m32,ml,rfl⟩;simp! [Yd,et,aR,aS,aI,aB,a0];have sd:=SD.of s1 b1 b2;have dm:=DGet.k (k:=.inr (T m)) (s1 _ _ hd);rw [YB] at dm;refine ⟨d,_,rfl,dm,?_⟩
   cases hl:ZM kept m with
   |some x=>exact Zdu (q _ sd)
   |none=>exact ZcN ⟨by and_intros,t,kept,hD.same s1.toN,hk,by and_intros,sd.b1,sd.b2,ne,ans H1 s1 _ (notext m m32 hl)⟩
  rintro _ _ ⟨rfl,rfl⟩;rename_i H;refine zD (λσ' H'=>H'=H/\σ'=[some (V.ref o),some (V.ref d),some (V.str n),some (V.int cell),none,none,none,none]) ?_ ?_
  ·simp! [ZE,zC,aR,aS,aI,aB,a0];refine ⟨d,_,rfl,dg,_,rfl,?_⟩
   cases hl:ZM kept (L n) with
   |none=>exact ZcN trivial
   |some x=>
    rw [hl] at dg;refine Zdu ⟨d,_,rfl,dg,?_⟩;obtain ⟨_,xl,_⟩:=ok _ _ hl;simp only [L_T];exact ⟨by omega,YK (λ_ r r0 r9=>YK (λ_=>⟨d,_,rfl,dg,t,kept,hD,hk,by rw [L_T];exact hl,ok,b1,b2,ne,q⟩) λ_=>trivial) λ_=>trivial⟩
  rintro _ _ ⟨rfl,rfl⟩;rename_i H;refine zD (λσ' H'=>H'=H/\ZM kept (L n)=none/\σ'=[some (V.ref o),some (V.ref d),some (V.str n),some (V.int cell),none,none,none,none]) ?_ ?_
  ·simp! [zo,Yd,et,aR,aS,aI,aB,a0];refine ⟨d,_,rfl,dg,_,rfl,?_⟩
   cases hl:ZM kept (L n) with
   |none=>exact ZcN rfl
   |some x=>
    rw [hl] at dg;refine Zdu ⟨by and_intros,t,kept,hD,hk,by and_intros,b1,b2,ne,?_⟩;rw [show cd "text"++[32]++L n=cd "text"++32::L n by simp];refine ZcH hD.2 (Zm5 hn hl) λH' p s2 hp h1=>?_;rw [ZaL hD.2] at s2;have dg2:=DGet.k (k:=.inr n) (s2.same.at hd (by nofun));rw [vn,hl] at dg2;refine ⟨d,_,rfl,dg2,_,h1,?_⟩;rw [decide_eq_true rfl];exact q H' s2
  rintro _ _ ⟨rfl,hl,rfl⟩;rename_i H;have qB:∀w:String,Zb5 (cd w)=some 0->32∉cd w->cd w≠cd "keep"/\cd w≠cd "load"->∀x,Due kept (cd w++32::(L n++32::x)) kept false (nm9 7):=λw h1 h2 h3 x=>Yn (qf h1 h2 hn.noB) h3 (.inl hl);have word:∀w:String,Zb5 (cd w)=some 1->32∉cd w->cd w≠cd "keep"/\cd w≠cd "load"->Due kept (cd w++32::L n) kept false (nm9 7):=λw h1 h2 h3=>Yn (JX h1 h2 hn.noB) h3 (.inl hl);have ZmD:∀m:List Nat,32∉m->Due kept (cd "both"++32::(L n++32::m)) kept false (nm9 7)/\Due kept (cd "both"++32::(m++32::L n)) kept false (nm9 7):=λm m32=>⟨Yn (Y6 (.inr rfl) (by rfl') (by rfl') hn.noB m32 (λz=>by cases z)) (show cd "both"≠cd "keep"/\cd "both"≠cd "load" by rfl') (.inl hl),Yn (Y6 (.inr rfl) (by rfl') (by rfl') m32 hn.noB (λz=>by cases z)) (show cd "both"≠cd "keep"/\cd "both"≠cd "load" by rfl') (.inr ⟨rfl,hl⟩)⟩;have fl:∀w∈["text","pack","count","find","near","often","kinds","lone","cut","both"],(cd w).length<=5:=by rfl'
  refine zD (λσ' H'=>Zt H H'/\∃p,∃R:List (List Nat),H' p=some (.lst (R.map λr=>V.str (T r)))/\R.length=5/\(∀r∈R,Due kept r kept false (nm9 7)/\r.length<=1000)/\σ'=[some (V.ref o),some (V.ref d),some (V.str n),some (V.int cell),none,some (V.ref p),none,none]) ?_ ?_
  ·simp! [true_and];have e_text:L (Qc "text ")=cd "text"++[32]:=by rfl'
   have l_text:=fl "text" (by decide);have e_pack:L (Qc "pack ")=cd "pack"++[32]:=by rfl'
   have l_pack:=fl "pack" (by decide);have e_count:L (Qc "count ")=cd "count"++[32]:=by rfl'
   have l_count:=fl "count" (by decide);have e_find:L (Qc "find ")=cd "find"++[32]:=by rfl'
   have l_find:=fl "find" (by decide);have e_near:L (Qc "near ")=cd "near"++[32]:=by rfl'
   have l_near:=fl "near" (by decide);have e_1:L (Qc " ")=[32]:=by rfl'
   have e_a:L (Qc " a")=[32,97]:=by rfl'
   have e_1a:L (Qc " 1 a")=[32,49,32,97]:=by rfl'
   have g1:qL [49]:=by refine ⟨by decide,by decide,λc hc=>?_,λz=>by cases z⟩;rw [jC.mp hc];decide
   rw [e_text,e_pack,e_count,e_find,e_near,e_1,e_a,e_1a];refine ⟨by and_intros,by and_intros,by and_intros,by and_intros,by and_intros,by and_intros,by and_intros,by and_intros,by omega,λp hp=>⟨Zt.updN hp,p,[cd "text"++32::L n,cd "pack"++32::L n,cd "count"++32::(L n++32::[]),cd "find"++32::(L n++32::[97]),cd "near"++32::(L n++32::([49]++32::[97]))],?_,rfl,?_,rfl⟩⟩
   ·rw [Zg];simp
   ·intro r hr;simp only [jQ,QL,or_false] at hr;rcases hr with rfl|rfl|rfl|rfl|rfl
    ·exact ⟨word "text" (by rfl') (by rfl') (by rfl'),by and_intros⟩
    ·exact ⟨word "pack" (by rfl') (by rfl') (by rfl'),by and_intros⟩
    ·exact ⟨qB "count" (by rfl') (by rfl') (by rfl') [],by and_intros⟩
    ·exact ⟨qB "find" (by rfl') (by rfl') (by rfl') [97],by and_intros⟩
    ·exact ⟨Yn (Zlc (by rfl') (by rfl') hn.noB (LD.qL.noB g1) g1) (show cd "near"≠cd "keep"/\cd "near"≠cd "load" by rfl') (.inl hl),by and_intros⟩
  rintro _ H1 ⟨s1,p1,R1,h1,l1,g1,rfl⟩;refine zD (λσ' H'=>Zt H H'/\∃p,∃R:List (List Nat),H' p=some (.lst (R.map λr=>V.str (T r)))/\R.length=9/\(∀r∈R,Due kept r kept false (nm9 7)/\r.length<=1000)/\σ'=[some (V.ref o),some (V.ref d),some (V.str n),some (V.int cell),none,some (V.ref p),none,none]) ?_ ?_
  ·simp! [true_and];have e_often:L (Qc "often ")=cd "often"++[32]:=by rfl'
   have l_often:=fl "often" (by decide);have e_kinds:L (Qc "kinds ")=cd "kinds"++[32]:=by rfl'
   have l_kinds:=fl "kinds" (by decide);have e_lone:L (Qc "lone ")=cd "lone"++[32]:=by rfl'
   have l_lone:=fl "lone" (by decide);have e_cut:L (Qc "cut ")=cd "cut"++[32]:=by rfl'
   have l_cut:=fl "cut" (by decide);have e_0:L (Qc " 0")=[32,48]:=by rfl'
   have e_ab:L (Qc " ab")=[32,97,98]:=by rfl'
   have g0:qL [48]:=by refine ⟨by decide,by decide,λc hc=>?_,λ_=>rfl⟩;rw [jC.mp hc];decide
   rw [e_often,e_kinds,e_lone,e_cut,e_0,e_ab];refine ⟨by and_intros,by and_intros,by and_intros,by and_intros,by and_intros,by and_intros,by omega,λp hp=>⟨p1,p,_,_,rfl,rfl,(Zi (Zj h1 hp)).trans h1,Zg,by simp only [jr,jD,ua];omega,λp2 hp2=>⟨(s1.upd hp).upd hp2,p2,R1++[cd "often"++32::(L n++32::[48]),cd "kinds"++32::L n,cd "lone"++32::L n,cd "cut"++32::(L n++32::[97,98])],?_,by rw [jv,l1];rfl,?_,rfl⟩⟩⟩
   ·rw [Zg];simp
   ·intro r hr;rcases jN.mp hr with hr|hr
    ·exact g1 r hr
    simp only [jQ,QL,or_false] at hr;rcases hr with rfl|rfl|rfl|rfl
    ·exact ⟨Yn (Y6 (.inl rfl) (by rfl') (by rfl') hn.noB (LD.qL.noB g0) λ_=>g0) (show cd "often"≠cd "keep"/\cd "often"≠cd "load" by rfl') (.inl hl),by and_intros⟩
    ·exact ⟨word "kinds" (by rfl') (by rfl') (by rfl'),by and_intros⟩
    ·exact ⟨word "lone" (by rfl') (by rfl') (by rfl'),by and_intros⟩
    ·exact ⟨qB "cut" (by rfl') (by rfl') (by rfl') [97,98],by and_intros⟩
  rintro _ H2 ⟨s2,p2,R2,h2,l2,g2,rfl⟩;refine zD (λσ' H'=>Zt H H'/\∃p u,∃R:List (List Nat),H' p=some (.lst (R.map λr=>V.str (T r)))/\0<R.length/\R.length<=100/\(∀r∈R,Due kept r kept false (nm9 7)/\r.length<=1000)/\σ'=[some (V.ref o),some (V.ref d),some (V.str n),some (V.int cell),none,some (V.ref p),u,none]) ?_ ?_
  ·simp! [Zrv,ZkO];have e_1:L (Qc " ")=[32]:=by rfl'
   have e_both:L (Qc "both ")=cd "both"++[32]:=by rfl'
   have l_both:=fl "both" (by decide)
   obtain ⟨O,eO,lO,gO⟩:∃O:List (List Nat),cut ((txK kept).map λp=>kV p.1) none (some 1)++[V.str n]=O.map (λr=>V.str (T r))/\O.length<=2/\∀m∈O,32∉m/\m.length<=8:=by
    refine ⟨(cut kept none (some 1)).map (·.1)++[L n],?_,?_,λm hm=>?_⟩
    ·unfold txK;rw [uM,ZgW,ux,uM,List.map_singleton,T_L];rfl
    ·have:=ZmS kept 1 (by decide);rw [jv,jr];simp only [jJ];omega
    ·rcases jN.mp hm with hm|hm
     ·obtain ⟨p,hp,rfl⟩:=UF.mp hm;have hp:=LW.ZcT hp;have:(ZM kept p.1).isSome=true:=by unfold ZM;rw [Ux,List.find?_isSome];exact ⟨p,hp,decide_eq_true rfl⟩
      obtain ⟨x,hx⟩:=U6.mp this;have:=(ok _ _ hx).1;exact ⟨this.noB,this.2.1⟩
     ·rw [jC.mp hm];exact ⟨hn.noB,nl⟩
   refine ⟨_,s2 _ _ hd,λl hl1=>⟨_,SqL.of Zg,λq1 hq1=>⟨by omega,λp hp=>⟨q1,p,_,_,rfl,rfl,(Zi (Zj Zg hp)).trans Zg,Zg,?_,λp4 hp4=>?_⟩⟩⟩⟩
   ·have:=congrArg Ui eO;rw [jv,jr] at this;omega
   rw [eO];have s4:Zt H (upd (upd (upd (upd H2 l (HO.lst ((txK kept).map λp=>kV p.1))) q1 (HO.lst (cut ((txK kept).map λp=>kV p.1) none (some 1)))) p (HO.lst [V.str n])) p4 (HO.lst (O.map λr=>V.str (T r)))):=(((s2.upd hl1).upd hq1).upd hp).upd hp4;have h4:upd (upd (upd (upd H2 l (HO.lst ((txK kept).map λp=>kV p.1))) q1 (HO.lst (cut ((txK kept).map λp=>kV p.1) none (some 1)))) p (HO.lst [V.str n])) p4 (HO.lst (O.map λr=>V.str (T r))) p4=some (HO.lst (O.map λr=>V.str (T r))):=Zg;have h2':upd (upd (upd (upd H2 l (HO.lst ((txK kept).map λp=>kV p.1))) q1 (HO.lst (cut ((txK kept).map λp=>kV p.1) none (some 1)))) p (HO.lst [V.str n])) p4 (HO.lst (O.map λr=>V.str (T r))) p2=some (HO.lst (R2.map λr=>V.str (T r))):=(((Zt.updN hl1).trans (Zt.updN hq1)).trans ((Zt.updN hp).trans (Zt.updN hp4))) _ _ h2
   generalize upd (upd (upd (upd H2 l (HO.lst ((txK kept).map λp=>kV p.1))) q1 (HO.lst (cut ((txK kept).map λp=>kV p.1) none (some 1)))) p (HO.lst [V.str n])) p4 (HO.lst (O.map λr=>V.str (T r)))=H4 at s4 h4 h2' ⊢
   refine ⟨_,SqL.of h4,λi σ' H'=>Zt H H'/\H' p4=some (HO.lst (O.map λr=>V.str (T r)))/\∃p u,∃R:List (List Nat),H' p=some (.lst (R.map λr=>V.str (T r)))/\R.length=9+2 * i/\(∀r∈R,Due kept r kept false (nm9 7)/\r.length<=1000)/\σ'=[some (V.ref o),some (V.ref d),some (V.str n),some (V.int cell),none,some (V.ref p),u,none],⟨s4,h4,p2,_,R2,h2',by omega,g2,rfl⟩,?_,?_,?_⟩
   ·rintro i σ' H' _ ⟨_,h,_⟩;exact SqL.of h
   ·rintro i x σ' H' hx ⟨s5,h5,p5,u,R,h6,lR,gR,rfl⟩;rw [Qh] at hx;obtain ⟨m,em,rfl⟩:=Qy.mp hx;have hi:=(Qn.mp em).1;obtain ⟨m32,ml⟩:=gO m (QF em);simp! [e_1,e_both];refine ⟨by and_intros,by and_intros,by and_intros,by and_intros,by and_intros,by and_intros,by omega,λp6 hp6=>⟨p5,p6,_,_,rfl,rfl,(Zi (Zj h6 hp6)).trans h6,Zg,by simp only [jr,jD,ua];omega,λp7 hp7=>⟨(s5.upd hp6).upd hp7,((Zt.updN hp6).trans (Zt.updN hp7)) _ _ h5,p7,_,R++[cd "both"++32::(L n++32::m),cd "both"++32::(m++32::L n)],?_,by rw [jv,lR];simp only [jD,ua];omega,?_,rfl⟩⟩⟩
    ·rw [Zg];simp
    ·intro r hr;rcases jN.mp hr with hr|hr
     ·exact gR r hr
     simp only [jQ,QL,or_false] at hr;rcases hr with rfl|rfl
     ·exact ⟨(ZmD m m32).1,by and_intros⟩
     ·exact ⟨(ZmD m m32).2,by and_intros⟩
   ·rintro σ' H' ⟨s5,h5,p5,u,R,h6,lR,gR,rfl⟩;rw [jr] at lR;exact ⟨s5,p5,u,R,h6,by omega,by omega,gR,rfl⟩
  rintro _ H3 ⟨s3,p3,u,R3,h3,l0,l3,g3,rfl⟩;refine zD (λσ' H'=>H'=H3/\∃r:List Nat,Due kept r kept false (nm9 7)/\r.length<=1000/\σ'=[some (V.ref o),some (V.ref d),some (V.str n),some (V.int cell),none,some (V.ref p3),u,some (V.str (T r))]) ?_ ?_
  ·simp! [ZE,aR,aS,aI,aB,a0];refine ⟨_,.inl (SqL.of h3),by rw [jr];omega,λr r0 r1=>?_⟩;rw [jr] at r1;obtain ⟨x,hx,ex⟩:=Zae (λr=>V.str (T r)) R3 r0 r1;exact ⟨_,_,.inl (SqL.of h3),ex,x,(g3 x hx).1,(g3 x hx).2,rfl⟩
  rintro _ H4 ⟨rfl,r,dr,rl,rfl⟩;simp! [Yd,aR,aS,aI,aB,a0];have sd:=SD.of s3 b1 b2;exact ⟨t,kept,hD.same s3.toN,hk,by omega,sd.b1,sd.b2,ne,ans H4 s3 r dr⟩
noncomputable def Zhy (K:Qa) (tb2 tb1:jo):Sp:=λvs H Q _=>∃(a:jo) (ns:List Int),vs=[.ref a]/\SqL K H a (ns.map V.int)/\ns.length<=63/\Zu tb2 H/\Zp tb1 H/\tb2≠tb1/\∀H',Q (.bl true) H'
theorem Zsa (F:Fun K "law" "law" Zda f fd) (B:Bn mg) (Zbo:Fn P w K mg base 1 "_law_cell_at" Zbr (JW K)) (ZB:Fn P w K mg base 1 "_law_mixed" qd (ZE K)) (ZaN:Fn P w K mg base 2 "_law_names_by" ZaQ (Ji K)) (Yl:Fn P w K mg base 10 "_law_said" Zbs (Yd K Zd Zm Zy Zf Zc)) (ZeI:Fn P w K mg base 3 "_law_deed" ZeK (ZbV K)) (ZgK:Fn P w K mg base 2 "_law_met" ZgL (Zdd K)) (zM:Fn P w K mg base 11 "_law_places_told" Y0 (zC K Zd Zm Zy Zf Zc)) (ZbN:Fn P w K mg base 12 "_law_asked" Zdj (Zac K Zd Zm Zy Zf Zc)) (qb9:Mkr P w K mg base CX0 1 "Desk" Zy YU [] (qH K Zy)):ZQ P w K mg base CX0 13 f fd Zj5 (Zhy K Zf Zc):=by
 refine F.ok Za5 (λvs H Q E h=>?_) (λcdv A outer s H vs Q E hr h=>?_)
 ·obtain ⟨a,ns,rfl,_⟩:=h;rfl
 ·obtain ⟨a,ns,rfl,hS,hlen,b2,b1,ne,q⟩:=h
  refine ⟨_,(Zh (ZF (ZD (i:=1) Za5.nd rfl (by ac_nf) (zE (Zaa (K:=K) rfl) (ZS ZaN (hr.mono (by decide)) (Za (ZS Zbo (hr.mono (by decide)) (Za (qv 0) (Za Zl Ze))) Ze)) YL (ZbD Zl))))
   (Zh (ZF (ZD (i:=2) Za5.nd rfl (by ac_nf) (Zsq qb9 (hr.mono (by decide)))))
   (Zh (ZF (ZD (i:=3) Za5.nd rfl (by ac_nf) Zfo))
   (Zh (ZF (ZkD (K:=K) rfl PassesOwn.never rfl B.enumerate (Za (zE (Zaa (K:=K) rfl) (qv 0) (ZbD Zl) (ZbD Zl)) Ze) (zf (i:=4) Za5.nd rfl (by ac_nf)) (zf (i:=5) Za5.nd rfl (by ac_nf)) (Zaj (Zh (ZF (ZsC (ZS ZeI (hr.mono (by decide)) (Za (qv 3) (Za (Z9 (zi (K:=K) rfl) (qv 1) (ZS ZB (hr.mono (by decide)) (Za (qv 5) (Za Zl (Za Zl Ze)))) (λ_ _=>rfl)) (Za (qv 5) (Za (Zb8 ZbY (Zr Zb7 (qv 4) Zl) Zl) Ze))))) (ZpN (K:=K) (n:=2) rfl rfl (ZaH (zf (i:=6) Za5.nd rfl (by ac_nf)) (ZaH (zf (i:=7) Za5.nd rfl (by ac_nf)) Zhj)))))
   (Zh (ZF (zb (ZdN (ZaZ (K:=K) rfl (ZS ZgK (hr.mono (by decide)) (Za (ZS Yl (hr.mono (by decide)) (Za (qv 2) (Za (qv 6) Ze))) (Za (qv 7) Ze))))) (Zo (Zx ZiA)) ZH))
   (Zo (zb (ZdN (ZaZ (K:=K) rfl (ZS ZbN (hr.mono (by decide)) (Za (qv 2) (Za (qv 3) (Za (Z9 (zi (K:=K) rfl) (qv 1) (ZS ZB (hr.mono (by decide)) (Za (qv 5) (Za Zl (Za Zl Ze)))) (λ_ _=>rfl)) (Za (qv 5) Ze))))))) (Zo (Zx ZiA)) ZH)))))))
   (Zh (ZkE (K:=K) rfl PassesOwn.never rfl (qv 1) (zf (i:=8) Za5.nd rfl (by ac_nf)) (Zaj (Zh (zb (ZdN (ZaZ (K:=K) rfl (ZS ZbN (hr.mono (by decide)) (Za (qv 2) (Za (qv 3) (Za (qv 8) (Za Zl Ze))))))) (Zo (Zx ZiA)) ZH)
   (Zo (zb (PW.pt (Zfq (ZbE (ZdJ (ZX hr) (qv 8) (qv 3))) (Zez (ZdN (ZaZ (K:=K) rfl (ZS zM (hr.mono (by decide)) (Za (qv 2) (Za (qv 8) (Za (ZU (ZX hr) (qv 3) (qv 8) (λ_ _=>rfl)) Ze))))))))) (Zo (Zx ZiA)) ZH)))))
   (Zo (Zx ZiA))))))),stR ?_⟩
  have hsz:sizeLine=16777216:=jw;refine zD (λσ' H'=>Zt H H'/\∃p,∃N:List (List Nat),H' p=some (.lst (N.map λn=>V.str (T n)))/\N.length=3/\(∀n∈N,zX n)/\σ'=[some (V.ref a),some (V.ref p),none,none,none,none,none,none,none]) ?_ ?_
  ·simp! [JW,Ji,aR,aS,aI,aB,a0];refine ⟨ns,hS,λp H1 N s1 hp h1 lN gN=>⟨_,SqL.of h1,λp2 hp2=>⟨s1.upd hp2,p2,N.take 3,?_,by rw [jF];omega,λn hn=>(gN n (Q7 hn)).is,rfl⟩⟩⟩;rw [Zg,ZgW];have:cut N none (some ((3:Nat):Int))=N.take 3:=ZgX N 3;rw [<-this];rfl
  rintro _ H1 ⟨s1,p,N,hp,lN,gN,rfl⟩;refine zD (λσ' H'=>Zt H H'/\H' p=some (.lst (N.map λn=>V.str (T n)))/\∃o t,zJ Zy H' o t []/\σ'=[some (V.ref a),some (V.ref p),some (V.ref o),none,none,none,none,none,none]) ?_ ?_
  ·simp! [qH,aR,aS,aI,aB,a0];intro x dx hx hdx hne;refine ⟨⟨dx,Zg⟩,λH2 t kp ht hD=>?_⟩;have s2:Zt H1 H2:=λb u h=>kp b u (Zj h hx) ((Zi (Zj h hx)).trans ((Zi (Zj h hdx)).trans h));exact ⟨s1.trans s2,s2 _ _ hp,x,t,hD,rfl⟩
  rintro _ H2 ⟨s2,hp2,o,t,hD,rfl⟩;refine zD (λσ' H'=>Zt H H'/\H' p=some (.lst (N.map λn=>V.str (T n)))/\zJ Zy H' o t []/\∃d,d≠t/\H' d=some (.dK (txK []))/\σ'=[some (V.ref a),some (V.ref p),some (V.ref o),some (V.ref d),none,none,none,none,none]) ?_ ?_
  ·simp! [true_and];exact λd hd=>⟨s2.upd hd,(Zi (Zj hp2 hd)).trans hp2,hD.same (Zt.updN hd).toN,d,Ne.symm (Zj hD.2 hd),Zg,rfl⟩
  rintro _ H3 ⟨s3,hp3,hD3,d,hdt,hd3,rfl⟩;refine zD (λσ' H'=>∃kept u1 u2 u3 u4,zJ Zy H' o t kept/\H' d=some (.dK (txK kept))/\Y2 kept/\kept.length<=100/\H' p=some (.lst (N.map λn=>V.str (T n)))/\Zp Zc H'/\Zu Zf H'/\σ'=[some (V.ref a),some (V.ref p),some (V.ref o),some (V.ref d),u1,u2,u3,u4,none]) ?_ ?_
  ·simp! [Zru];refine ⟨_,s3.seq hS,λe he=>?_⟩;have cn:=ZbO ns (some 2) (some 26);have b13:Zp Zc (upd H3 e (HO.lst (cut (ns.map V.int) (some 2) (some 26)))):=(qx b1 s3).put he;have b23:Zu Zf (upd H3 e (HO.lst (cut (ns.map V.int) (some 2) (some 26)))):=(qx b2 s3).put he;have hp4:upd H3 e (HO.lst (cut (ns.map V.int) (some 2) (some 26))) p=_:=(Zi (Zj hp3 he)).trans hp3;have hd4:upd H3 e (HO.lst (cut (ns.map V.int) (some 2) (some 26))) d=_:=(Zi (Zj hd3 he)).trans hd3;have hD4:zJ Zy (upd H3 e (HO.lst (cut (ns.map V.int) (some 2) (some 26)))) o t []:=hD3.same (Zt.updN he).toN;have he4:upd H3 e (HO.lst (cut (ns.map V.int) (some 2) (some 26))) e=some (HO.lst ((cut ns (some 2) (some 26)).map V.int)):=by rw [Zg,ZgW]
   generalize upd H3 e (HO.lst (cut (ns.map V.int) (some 2) (some 26)))=H4 at b13 b23 hp4 hd4 hD4 he4 ⊢
   generalize cut ns (some 2) (some 26)=cs at he4 cn;refine ⟨_,SqL.of he4,λk σ' H'=>H' e=some (HO.lst (cs.map V.int))/\∃kept u1 u2 u3 u4,zJ Zy H' o t kept/\H' d=some (.dK (txK kept))/\Y2 kept/\kept.length<=k/\H' p=some (.lst (N.map λn=>V.str (T n)))/\Zp Zc H'/\Zu Zf H'/\σ'=[some (V.ref a),some (V.ref p),some (V.ref o),some (V.ref d),u1,u2,u3,u4,none],⟨he4,[],_,_,_,_,hD4,hd4,(λn x z=>by cases z),Qf _,hp4,b13,b23,rfl⟩,?_,?_,?_⟩
   ·rintro k σ' H' _ ⟨h,_⟩;exact SqL.of h
   ·rintro k x σ' H5 t1 hx ⟨he5,kept,u1,u2,u3,u4,hD5,hd5,ok,lk,hp5,b15,b25,rfl⟩ ht1;rw [Qh] at hx;obtain ⟨cell,ec,rfl⟩:=Qy.mp hx;have hk:=(Qn.mp ec).1;have s6:Zt H5 (upd H5 t1 (HO.tup [V.int (k:Int),V.int cell])):=Zt.updN ht1;have he6:=s6 _ _ he5;have hd6:=s6 _ _ hd5;have hp6:=s6 _ _ hp5;have hD6:=hD5.same s6.toN;have b16:=qx b15 s6;have b26:=qx b25 s6
    generalize upd H5 t1 (HO.tup [V.int (k:Int),V.int cell])=H6 at he6 hd6 hp6 hD6 b16 b26 ⊢
    clear s6 he5 hd5 hp5 hD5 b15 b25 ht1;refine zD (λσ' H'=>∃kept' r b y p2,Due kept r kept' b y/\Y2 kept'/\kept'.length<=k+1/\r.length<=1000/\zJ Zy H' o t kept/\H' d=some (.dK (txK kept'))/\H' p=some (.lst (N.map λn=>V.str (T n)))/\H' e=some (HO.lst (cs.map V.int))/\Zp Zc H'/\Zu Zf H'/\H' p2=some (.tup [.str (qF b),.str y])/\σ'=[some (V.ref a),some (V.ref p),some (V.ref o),some (V.ref d),some (V.int (k:Int)),some (V.int cell),some (V.str (T r)),some (V.ref p2),none]) ?_ ?_
    ·simp! [ZE,ZbV,Zls,aR,aS,aI,aB,a0];refine λr r0 r3=>?_;obtain ⟨n,hn,en⟩:=Zae (λn=>V.str (T n)) N r0 (by omega);refine ⟨_,_,.inl (SqL.of hp6),en,?_⟩;simp only [L_T];refine ⟨kept,hd6,by omega,ok,gN n hn,λr kept' b y H7 p0 p2 du ok' lk' rl s7 hp0 h0 h2=>?_⟩;have ho6:∃dx,H6 o=some (.ins Zy dx (fsD t)):=hD6.1;obtain ⟨dx,ho6⟩:=ho6;have kp:∀b u,b≠d->H6 b=some u->H7 b=some u:=λb u n h=>s7 b u ((Zi n).trans h);have od:o≠d:=λz=>by rw [z,hd6] at ho6;cases ho6
     have pd:p≠d:=λz=>by rw [z,hd6] at hp6;cases hp6
     have ed:e≠d:=λz=>by rw [z,hd6] at he6;cases he6
     have b17:=qx (Zgg (o:=HO.dK (txK kept')) b16 hd6) s7;have b27:=qx (Zgg (o:=HO.dK (txK kept')) b26 hd6) s7;refine ⟨p0,_,rfl,SqT.of h0,rfl,_,_,rfl,_,_,rfl,rfl,kept',r,b,y,p2,du,ok',by omega,rl,⟨⟨dx,kp _ _ od ho6⟩,kp _ _ (Ne.symm hdt) hD6.2⟩,s7 _ _ Zg,kp _ _ pd hp6,kp _ _ ed he6,b17,b27,h2,rfl⟩
    rintro _ H7 ⟨kept',r,b,y,p2,du,ok',lk',rl,hD7,hd7,hp7,he7,b17,b27,h2,rfl⟩;refine zD (λσ' H'=>zJ Zy H' o t kept'/\H' d=some (.dK (txK kept'))/\H' p=some (.lst (N.map λn=>V.str (T n)))/\H' e=some (HO.lst (cs.map V.int))/\Zp Zc H'/\Zu Zf H'/\σ'=[some (V.ref a),some (V.ref p),some (V.ref o),some (V.ref d),some (V.int (k:Int)),some (V.int cell),some (V.str (T r)),some (V.ref p2),none]) ?_ ?_
    ·simp! [Yd,Zdd,aR,aS,aI,aB,a0];refine ⟨t,kept,hD7,by omega,by omega,b17,b27,ne,ZcH hD7.2 du λH8 p8 s8 hp8 h8=>⟨b,y,h8,?_,?_⟩⟩
     ·exact s8.same.at ((Zi (hD7.ne h2 (by nofun))).trans h2) (by nofun)
     ·exact ⟨hD7.put s8.same,s8.same.at ((Zi hdt).trans hd7) (by nofun),s8.same.at ((Zi (hD7.ne hp7 (by nofun))).trans hp7) (by nofun),s8.same.at ((Zi (hD7.ne he7 (by nofun))).trans he7) (by nofun),s8.b1,s8.b2⟩
    rintro _ H8 ⟨hD8,hd8,hp8,he8,b18,b28,rfl⟩;simp! [ZE,Zac,aR,aS,aI,aB,a0];refine λr r0 r3=>?_;obtain ⟨n,hn,en⟩:=Zae (λn=>V.str (T n)) N r0 (by omega);refine ⟨_,_,.inl (SqL.of hp8),en,?_⟩;simp only [L_T];refine ⟨t,kept',hD8,hd8,by omega,ok',gN n hn,b18,b28,ne,λH9 s9=>?_⟩;exact ⟨s9.same.at he8 (by nofun),kept',_,_,_,_,hD8.same s9.same,s9.same.at hd8 (by nofun),ok',lk',s9.same.at hp8 (by nofun),s9.b1,s9.b2,rfl⟩
   ·rintro σ' H' ⟨_,kept,u1,u2,u3,u4,hD5,hd5,ok,lk,hp5,b15,b25,rfl⟩;rw [jr] at lk;exact ⟨kept,u1,u2,u3,u4,hD5,hd5,ok,by omega,hp5,b15,b25,rfl⟩
  rintro _ H4 ⟨kept,u1,u2,u3,u4,hD4,hd4,ok,lk,hp4,b14,b24,rfl⟩;simp! [Zrv,ZkO];refine ⟨_,SqL.of hp4,λi σ' H'=>(∃u,σ'=[some (V.ref a),some (V.ref p),some (V.ref o),some (V.ref d),u1,u2,u3,u4,u])/\zJ Zy H' o t kept/\H' d=some (.dK (txK kept))/\H' p=some (.lst (N.map λn=>V.str (T n)))/\Zp Zc H'/\Zu Zf H',⟨⟨_,rfl⟩,hD4,hd4,hp4,b14,b24⟩,?_,?_,λσ' H' _=>q H'⟩
  ·rintro i σ' H' _ ⟨_,_,_,h,_⟩;exact SqL.of h
  ·rintro i x σ' H5 hx ⟨⟨u,rfl⟩,hD5,hd5,hp5,b15,b25⟩;rw [Qh] at hx;obtain ⟨n,en,rfl⟩:=Qy.mp hx;have hn:=gN n (QF en);simp! [Zac,zC,aR,aS,aI,aB,a0];have st:∀H',SD Zc Zf H5 H'->zJ Zy H' o t kept/\H' d=some (.dK (txK kept))/\H' p=some (.lst (N.map λn=>V.str (T n)))/\Zp Zc H'/\Zu Zf H':=λH' s=>⟨hD5.same s.same,s.same.at hd5 (by nofun),s.same.at hp5 (by nofun),s.b1,s.b2⟩;refine ⟨t,kept,hD5,hd5,by omega,ok,hn,b15,b25,ne,λH6 s6=>?_⟩;obtain ⟨hD6,hd6,hp6,b16,b26⟩:=st H6 s6;have dg:=DGet.k (k:=.inr (T n)) hd6;rw [YB] at dg;refine ⟨d,_,rfl,dg,_,rfl,?_⟩
   cases hl:ZM kept n with
   |none=>exact ZcN ⟨⟨_,rfl⟩,hD6,hd6,hp6,b16,b26⟩
   |some x=>
    rw [hl] at dg;refine Zdu ⟨d,_,rfl,dg,t,kept,hD6,by omega,hl,ok,b16,b26,ne,λH7 s7=>⟨⟨_,rfl⟩,st H7 (s6.trans s7)⟩⟩
end
theorem us0 {us:List Value} (h:us.length=0):us=[]:=VT h
theorem us1 {us:List Value} (h:us.length=1):∃x0,us=[x0]:=by
 cases us with
 |nil=>cases h
 |cons x r=>
  obtain rfl:=us0 (Nat.succ.inj h);exact ⟨x,rfl⟩
theorem us2 {us:List Value} (h:us.length=2):∃x0 x1,us=[x0,x1]:=by
 cases us with
 |nil=>cases h
 |cons x r=>
  obtain ⟨y0,rfl⟩:=us1 (Nat.succ.inj h);exact ⟨x,y0,rfl⟩
theorem us3 {us:List Value} (h:us.length=3):∃x0 x1 x2,us=[x0,x1,x2]:=by
 cases us with
 |nil=>cases h
 |cons x r=>
  obtain ⟨y0,y1,rfl⟩:=us2 (Nat.succ.inj h);exact ⟨x,y0,y1,rfl⟩
theorem us4 {us:List Value} (h:us.length=4):∃x0 x1 x2 x3,us=[x0,x1,x2,x3]:=by
 cases us with
 |nil=>cases h
 |cons x r=>
  obtain ⟨y0,y1,y2,rfl⟩:=us3 (Nat.succ.inj h);exact ⟨x,y0,y1,y2,rfl⟩
local macro_rules| `(tactic|walk_at "2")=> `(tactic|(intro _ _ _ _ _ _ us hl;obtain ⟨_,_,h⟩:=us2 hl;subst h;exact rfl))| `(tactic|walk_at "3")=> `(tactic|(intro _ _ _ _ _ _ us hl;obtain ⟨_,_,_,h⟩:=us3 hl;subst h;exact rfl))| `(tactic|walk_at "1")=> `(tactic|(intro _ _ _ _ _ _ us hl;obtain ⟨_,h⟩:=us1 hl;subst h;exact rfl))| `(tactic|walk_at "0")=> `(tactic|(intro _ _ _ _ _ _ us hl;obtain h:=us0 hl;subst h;exact rfl))| `(tactic|walk_at "4")=> `(tactic|(intro _ _ _ _ _ _ us hl;obtain ⟨_,_,_,_,h⟩:=us4 hl;subst h;exact rfl))
theorem Zq5 {l:VG} {w:jG} {K:Qa} {h:Heap} {mg:Str->Option Value} {fa Zei ZfR ZfT JR Zdp Zdq Ze1 Zg0 Zh2 Zeh ZfS Zjd Zbd ZaD Zbb Zbz Zbe Zbc Zh3 Zk5 Zk6 Zg1 Zk7 Zne Zh4 Zg3 Znd Zg2 Znc Zpk Zej Zk4 f_law z9 Zcn ZcJ Zcm Zby Zbi Zdo zP Zef Zeg ZcI YW ZgZ Yf qV qe Zag J3 qW Z2 ZI ZT Z3 Zd Zm Zy:jo} (X:K.In h) (G:h.Ns jy mg) (hfa:mg "law"=some (.ref fa))
 {Zuk ZtT Zr6 ZmA Zr7 Zq6 Zr8 Zq7 Zr9 Zq8:Option jo} {Zux ZsP ZsQ ZsR ZsS:Array (Option Value)} {Zuj Zuc Zt3 Zut Zt1 Zr2 Znx ZmV Zoi ZmR Zi5 Zr3 ZrI Zrp Zsx Zrm Zr4 ZrJ Zrq Zsy Zrn ZmL Zr5 ZrK Zrr Zsz Zro ZmM:Value}
 (ZqP:DfT K "check_place" JL Zei)
 (ZqQ:DfT K "check_gap" Zax ZfR)
 (ZqR:DfT K "number_in" Zaz ZfT)
 {ZhR Zf:jo} {Zqw:List Value}
 (Zq3:uY K jy "order_of"=some (some (.ref JR))) (ZrQ:K.lookup JR=some ⟨Zuj,Zuk,.func (vI "order_of" "order_of" (zd YM) (ZV YM) (Zk YM) .none Zuc Zt3 Zut ZtT (.ref ZhR) Zt1),Zux⟩) (Zrg:vF K (.ref ZhR) "order_of"=true) (Zpw:uR K (.ref JR)=true)
 (qbL:recIn K ZhR "code"=some Zqw) (ZuI:Zqw[11]?=some (.ref Zf)) (Zpq:QaJ K ZhR Zf=true) (ZrY:K.lookup Zf=none)
 (ZqS:DfT K "comes_before" q9 Zdp)
 (ZqT:DfT K "last_letters" Ja Zdq)
 (ZqU:DfT K "letters_of" J9 Ze1)
 (ZqV:DfT K "read_row" Za1 Zg0)
 (ZqW:DfT K "is_name" ZbF Zh2)
 (ZqX:DfT K "check_names" JK Zeh)
 (Zl5:DfT K "keep_text" Zay ZfS)
 (Zl6:DfT K "spaced" Zcv Zjd)
 (ZjX:DfT K "answer_keep" JI Zbd)
 (ZjY:DfT K "answer_ahead" qZ ZaD)
 (ZjZ:DfT K "answer_drop" JG Zbb)
 (Zj0:DfT K "answer_off" J8 Zbz)
 (Zj1:DfT K "answer_text" JJ Zbe)
 (Zj2:DfT K "answer_find" JH Zbc)
 (Zl7:DfT K "_law_cell_at" ZbG Zh3)
 (Zl8:DfT K "_law_mixed" ZdR Zk5)
 (Zl9:DfT K "_law_signs" ZdS Zk6)
 (Zma:DfT K "_law_names_by" Za2 Zg1)
 (Zmb:DfT K "_law_which" ZdT Zk7)
 (Zmc:DfT K "_law_said" Zfu Zne)
 (Zmd:DfT K "_law_is_said" ZbH Zh4)
 (Zme:DfT K "_law_signs_by" Za4 Zg3)
 (Zmf:DfT K "_law_kept" Zft Znd)
 (Zmg:DfT K "_law_odd_name" Za3 Zg2)
 (Zmh:DfT K "_law_deed" Zfs Znc)
 (Zmi:DfT K "_law_met" Zhs Zpk)
 (Zmj:DfT K "_law_places_told" JM Zej)
 (Zmk:DfT K "_law_asked" ZdQ Zk4)
 (Zmw:uY K jy "law"=some (some (.ref f_law))) (ZnG:K.lookup f_law=some ⟨Zr2,Zr6,.func (vI "law" "law" (zd Zda) (ZV Zda) (Zk Zda) .none Znx ZmV Zoi ZmA Zi5 ZmR),ZsP⟩) (ZmF:vF K Zi5 "law"=true) (Zny:uR K (.ref f_law)=true)
 {ZeU Zc:jo} {ZmT:List Value}
 (Zmx:j0 K (.ref Zd) "__init__"=some (some (.ref z9))) (Znp:isFn K (.ref z9)=true) (ZnH:K.lookup z9=some ⟨Zr3,Zr7,.func (vI "__init__" "Letters.__init__" (zd zw) (ZV zw) (Zk zw) .none ZrI Zrp Zsx Zq6 (.ref ZeU) Zrm),ZsQ⟩) (ZmG:vF K (.ref ZeU) "Letters.__init__"=true) (Znz:uR K (.ref z9)=true)
 (qbj:recIn K ZeU "code"=some ZmT) (ZqO:ZmT[11]?=some (.ref Zc)) (Zkn:QaJ K ZeU Zc=true) (ZnY:K.lookup Zc=none)
 (Zml:DfM K Zd "letter" "Letters.letter" Y9 Zcn)
 (Zmm:DfM K Zd "first" "Letters.first" qE ZcJ)
 (Zmn:DfM K Zd "before" "Letters.before" Y8 Zcm)
 (Zmo:DfM K Zd "row_with" "Letters.row_with" YE Zby)
 (Zmp:DfM K Zd "rows_with" "Letters.rows_with" Yv Zbi)
 (Zmq:DfM K Zd "back" "Letters.back" qY Zdo)
 {dT_m_Finder_init:jo} {qc_m_Finder_init:Value} {qo_m_Finder_init:Option jo} {qbM:Nat} {qs_m_Finder_init:Array (Option Value)} {qt_m_Finder_init:Tok}
 (Zj8:j0 K (.ref Zm) "__init__"=some (some (.ref zP))) (Zkq:isFn K (.ref zP)=true) (ZnI:K.lookup zP=some ⟨Zr4,Zr8,.func (vI "__init__" "Finder.__init__" (zd zR) (ZV zR) (Zk zR) (.ref dT_m_Finder_init) ZrJ Zrq Zsy Zq7 ZmL Zrn),ZsR⟩) (ZmH:vF K ZmL "Finder.__init__"=true) (ZnA:uR K (.ref zP)=true)
 (qa3:K.lookup dT_m_Finder_init=some ⟨qc_m_Finder_init,qo_m_Finder_init,.seq #[.int 4 qt_m_Finder_init] qbM,qs_m_Finder_init⟩)
 (Zmr:DfM K Zm "rows" "Finder.rows" JE Zef)
 (Zms:DfM K Zm "walk" "Finder.walk" JF Zeg)
 (Zmt:DfM K Zm "places" "Finder.places" qD ZcI)
 (Zmy:j0 K (.ref Zy) "__init__"=some (some (.ref YW))) (Znq:isFn K (.ref YW)=true) (ZnJ:K.lookup YW=some ⟨Zr5,Zr9,.func (vI "__init__" "Desk.__init__" (zd Yp) (ZV Yp) (Zk Yp) .none ZrK Zrr Zsz Zq8 ZmM Zro),ZsS⟩) (ZmI:vF K ZmM "Desk.__init__"=true) (ZnB:uR K (.ref YW)=true)
 (Zmu:DfM K Zy "say" "Desk.say" Za0 ZgZ)
 (qa7:uY K jy "BackError"=some (some (.ref Yf)))
 (qa8:QaI K Yf VE "ValueError.__new__"=true)
 (qbk:uY K jy "NoOrder"=some (some (.ref qV)))
 (qbb:uY K jy "NoPlace"=some (some (.ref qe)))
 (qbl:QaI K qe VE "ValueError.__new__"=true)
 (qby:uY K jy "NoGap"=some (some (.ref Zag)))
 (qbN:QaI K Zag VE "ValueError.__new__"=true)
 (qbt:uY K jy "NoText"=some (some (.ref J3)))
 (qbm:uY K jy "NoTimes"=some (some (.ref qW)))
 (qbz:uY K jy "Empty"=some (some (.ref Z2)))
 (qbA:QaI K Z2 VE "ValueError.__new__"=true)
 (g1_Empty:j0 K (.ref Z2) "__getattribute__"=some (some (.builtin "BaseException.__getattribute__"))) (g2_Empty:j0 K (.ref Z2) "__getattr__"=some none) (g3_Empty:j0 K (.ref Z2) "__class__"=some (some (.builtin "object.__class__")))
 (g4_Empty:Qab K (.builtin "object.__class__") "__get__"=some (some (.builtin "getset_descriptor.__get__"))) (g5_Empty:Qay K (.builtin "object.__class__")=some true) (g6_Empty:vw K Z2 (.type "object")=some true) (g7_Empty:vw K Z2 (.type "BaseException")=some true)
 (qbO:jE K (.ref Z2) (.type "ValueError")=some true)
 (qbc:uY K jy "TooLong"=some (some (.ref ZI)))
 (qbd:QaI K ZI VE "ValueError.__new__"=true)
 (g1_TooLong:j0 K (.ref ZI) "__getattribute__"=some (some (.builtin "BaseException.__getattribute__"))) (g2_TooLong:j0 K (.ref ZI) "__getattr__"=some none) (g3_TooLong:j0 K (.ref ZI) "__class__"=some (some (.builtin "object.__class__")))
 (g4_TooLong:Qab K (.builtin "object.__class__") "__get__"=some (some (.builtin "getset_descriptor.__get__"))) (g5_TooLong:Qay K (.builtin "object.__class__")=some true) (g6_TooLong:vw K ZI (.type "object")=some true) (g7_TooLong:vw K ZI (.type "BaseException")=some true)
 (qbn:jE K (.ref ZI) (.type "ValueError")=some true)
 (qbe:uY K jy "NoName"=some (some (.ref ZT)))
 (qbf:QaI K ZT VE "ValueError.__new__"=true)
 (g1_NoName:j0 K (.ref ZT) "__getattribute__"=some (some (.builtin "BaseException.__getattribute__"))) (g2_NoName:j0 K (.ref ZT) "__getattr__"=some none) (g3_NoName:j0 K (.ref ZT) "__class__"=some (some (.builtin "object.__class__")))
 (g4_NoName:Qab K (.builtin "object.__class__") "__get__"=some (some (.builtin "getset_descriptor.__get__"))) (g5_NoName:Qay K (.builtin "object.__class__")=some true) (g6_NoName:vw K ZT (.type "object")=some true) (g7_NoName:vw K ZT (.type "BaseException")=some true)
 (qbu:jE K (.ref ZT) (.type "ValueError")=some true)
 (qbg:uY K jy "NoRow"=some (some (.ref Z3)))
 (qbh:QaI K Z3 VE "ValueError.__new__"=true)
 (g1_NoRow:j0 K (.ref Z3) "__getattribute__"=some (some (.builtin "BaseException.__getattribute__"))) (g2_NoRow:j0 K (.ref Z3) "__getattr__"=some none) (g3_NoRow:j0 K (.ref Z3) "__class__"=some (some (.builtin "object.__class__")))
 (g4_NoRow:Qab K (.builtin "object.__class__") "__get__"=some (some (.builtin "getset_descriptor.__get__"))) (g5_NoRow:Qay K (.builtin "object.__class__")=some true) (g6_NoRow:vw K Z3 (.type "object")=some true) (g7_NoRow:vw K Z3 (.type "BaseException")=some true)
 (qbP:jE K (.ref Z3) (.type "ValueError")=some true)
 (qaj:vw K Z2 (.ref Yf)=some true)
 (qaz:jE K (.ref Z2) (.ref qV)=some false)
 (qaA:jE K (.ref Z2) (.ref qe)=some false)
 (qaU:jE K (.ref Z2) (.ref Zag)=some false)
 (qaN:jE K (.ref Z2) (.ref J3)=some false)
 (qaB:jE K (.ref Z2) (.ref qW)=some false)
 (qaV:jE K (.ref Z2) (.ref Z2)=some true)
 (qaC:jE K (.ref Z2) (.ref ZI)=some false)
 (qaO:jE K (.ref Z2) (.ref ZT)=some false)
 (qaW:jE K (.ref Z2) (.ref Z3)=some false)
 (qah:vw K ZI (.ref Yf)=some true)
 (qak:jE K (.ref ZI) (.ref qV)=some false)
 (qal:jE K (.ref ZI) (.ref qe)=some false)
 (qaD:jE K (.ref ZI) (.ref Zag)=some false)
 (qat:jE K (.ref ZI) (.ref J3)=some false)
 (qam:jE K (.ref ZI) (.ref qW)=some false)
 (qaE:jE K (.ref ZI) (.ref Z2)=some false)
 (qan:jE K (.ref ZI) (.ref ZI)=some true)
 (qau:jE K (.ref ZI) (.ref ZT)=some false)
 (qaF:jE K (.ref ZI) (.ref Z3)=some false)
 (qai:vw K ZT (.ref Yf)=some true)
 (qav:jE K (.ref ZT) (.ref qV)=some false)
 (qaw:jE K (.ref ZT) (.ref qe)=some false)
 (qaP:jE K (.ref ZT) (.ref Zag)=some false)
 (qaG:jE K (.ref ZT) (.ref J3)=some false)
 (qax:jE K (.ref ZT) (.ref qW)=some false)
 (qaQ:jE K (.ref ZT) (.ref Z2)=some false)
 (qay:jE K (.ref ZT) (.ref ZI)=some false)
 (qaH:jE K (.ref ZT) (.ref ZT)=some true)
 (qaR:jE K (.ref ZT) (.ref Z3)=some false)
 (qao:vw K Z3 (.ref Yf)=some true)
 (qaI:jE K (.ref Z3) (.ref qV)=some false)
 (qaJ:jE K (.ref Z3) (.ref qe)=some false)
 (qaX:jE K (.ref Z3) (.ref Zag)=some false)
 (qaS:jE K (.ref Z3) (.ref J3)=some false)
 (qaK:jE K (.ref Z3) (.ref qW)=some false)
 (qaY:jE K (.ref Z3) (.ref Z2)=some false)
 (qaL:jE K (.ref Z3) (.ref ZI)=some false)
 (qaT:jE K (.ref Z3) (.ref ZT)=some false)
 (qaZ:jE K (.ref Z3) (.ref Z3)=some true)
 (qbE:uY K jy "Letters"=some (some (.ref Zd))) (qbF:vW K Zd Vw=true) (qbG:Qaf K Zd=true) (qbH:Qas K Zd=true) (qbI:j0 K (.ref Zd) "__setattr__"=some (some (.builtin "object.__setattr__"))) (qbJ:makesIn K Zd=true) (qbK:uR K (.ref Zd)=true)
 (qad:j0 K (.ref Zd) "column"=some none)
 (qap:j0 K (.ref Zd) "forths"=some none)
 (qaq:j0 K (.ref Zd) "home"=some none)
 (qac:j0 K (.ref Zd) "last"=some none)
 (qag:j0 K (.ref Zd) "totals"=some none)
 (qbv:uY K jy "Finder"=some (some (.ref Zm))) (qbQ:vW K Zm Vw=true) (qbR:Qaf K Zm=true) (qbS:Qas K Zm=true) (qbT:j0 K (.ref Zm) "__setattr__"=some (some (.builtin "object.__setattr__"))) (qbw:makesIn K Zm=true) (qbx:uR K (.ref Zm)=true)
 (qa0:j0 K (.ref Zm) "gap"=some none)
 (qae:j0 K (.ref Zm) "held"=some none)
 (qaf:j0 K (.ref Zm) "known"=some none)
 (qca:uY K jy "Desk"=some (some (.ref Zy))) (qcb:vW K Zy Vw=true) (qcc:Qaf K Zy=true) (qcd:Qas K Zy=true) (qce:j0 K (.ref Zy) "__setattr__"=some (some (.builtin "object.__setattr__"))) (qcf:makesIn K Zy=true) (qcg:uR K (.ref Zy)=true)
 (qas:j0 K (.ref Zy) "texts"=some none)
 {qb5:Tok} (qbi:uY K jy "MOST_SIGNS"=some (some (.int 300 qb5)))
 {qb8:Tok} (qbr:uY K jy "NO_LETTER"=some (some (.str "\n" qb8)))
 {zF:jo} (qch:uY K jy "FORMS"=some (some (.ref zF)))
 (qbB:ZeN K w.params zF ZbA)
 {ZY:jo} (qbU:uY K jy "KEEPING"=some (some (.ref ZY)))
 (qbo:ZoX K ZY Za9)
 {Z6:jo} (qbV:uY K jy "ANSWERS"=some (some (.ref Z6)))
 {qbZ qb0 qbW qb1 qbX qbY qb2 qb6 qb3:jo}
 (qbp:ZeN K w.params Z6 [("keep",.ref Zbd),("load",.ref qbZ),("ahead",.ref ZaD),("drop",.ref Zbb),("off",.ref Zbz),("text",.ref Zbe),("pack",.ref qb0),("count",.ref qbW),("find",.ref Zbc),("near",.ref qb1),("often",.ref qbX),("kinds",.ref qbY),("lone",.ref qb2),("cut",.ref qb6),("both",.ref qb3)])
 (qbs:uY K jy "ValueError"=some none)
 (z_dict:uY K jy "dict"=some none)
 (z_enumerate:uY K jy "enumerate"=some none)
 (z_int:uY K jy "int"=some none)
 (z_isinstance:uY K jy "isinstance"=some none)
 (z_len:uY K jy "len"=some none)
 (z_list:uY K jy "list"=some none)
 (z_range:uY K jy "range"=some none)
 (z_reversed:uY K jy "reversed"=some none)
 (z_set:uY K jy "set"=some none)
 (z_sorted:uY K jy "sorted"=some none)
 (z_str:uY K jy "str"=some none)
 (z_sum:uY K jy "sum"=some none)
 (z_zip:uY K jy "zip"=some none)
 {ts:List jo} (hts:∀p∈ts,p=Zf\/p=Zc)
 :(∀p∈ts,K.lookup p=none/\∃c,QaJ K c p=true)/\∃fd:j9,(∀(s:jn) (v:Value),Qar s fd ⟨[v],[]⟩ [("_law_script",v)])/\∀base:Heap,K.In base->base.Ns jy mg->Ztc mg base->ZQ l.prog w K mg base CX0 13 fa fd Zj5 (Zhy K Zf Zc):=by
 have e:=hfa.symm.trans (uL X G Zmw);cases e;have B:Bn mg:=⟨uv X G qbs,uv X G z_dict,uv X G z_enumerate,uv X G z_int,uv X G z_isinstance,uv X G z_len,uv X G z_list,uv X G z_range,uv X G z_reversed,uv X G z_set,uv X G z_sorted,uv X G z_str,uv X G z_sum,uv X G z_zip⟩;have ER:Er K mg ⟨Yf,qV,qe,Zag,J3,qW,Z2,ZI,ZT,Z3⟩:=⟨uL X G qa7,qa8,uL X G qbk,uL X G qbb,qbl,uL X G qby,qbN,uL X G qbt,uL X G qbm,uL X G qbz,qbA,⟨g1_Empty,g2_Empty,g3_Empty,g4_Empty,g5_Empty,g6_Empty,g7_Empty⟩,qbO,Zha qaj,qaz,qaA,qaU,qaN,qaB,qaV,qaC,qaO,qaW,uL X G qbc,qbd,⟨g1_TooLong,g2_TooLong,g3_TooLong,g4_TooLong,g5_TooLong,g6_TooLong,g7_TooLong⟩,qbn,Zha qah,qak,qal,qaD,qat,qam,qaE,qan,qau,qaF,uL X G qbe,qbf,⟨g1_NoName,g2_NoName,g3_NoName,g4_NoName,g5_NoName,g6_NoName,g7_NoName⟩,qbu,Zha qai,qav,qaw,qaP,qaG,qax,qaQ,qay,qaH,qaR,uL X G qbg,qbh,⟨g1_NoRow,g2_NoRow,g3_NoRow,g4_NoRow,g5_NoRow,g6_NoRow,g7_NoRow⟩,qbP,Zha qao,qaI,qaJ,qaX,qaS,qaK,qaY,qaL,qaT,qaZ⟩;have CF:Cf K Zd Zm Zy:=⟨⟨qbF,qbG,qbH,qbI⟩,qad,qap,qaq,qac,qag,⟨qbQ,qbR,qbS,qbT⟩,qa0,qae,qaf,⟨qcb,qcc,qcd,qce⟩,qas⟩;have GC:Gc mg:=⟨⟨_,uL X G qbi⟩,⟨_,uL X G qbr⟩⟩;have TP:Tp K w.params mg zF ZY Z6:=⟨uL X G qch,qbB,uL X G qbU,qbo,uL X G qbV,Zqi qbp (by intro p hp;simp only [Ze9,jQ,QL,or_false] at hp;rcases hp with rfl|rfl|rfl|rfl|rfl|rfl;exact ⟨_,uL X G ZjX.a,by kernel_rfl⟩;exact ⟨_,uL X G ZjY.a,by kernel_rfl⟩;exact ⟨_,uL X G ZjZ.a,by kernel_rfl⟩;exact ⟨_,uL X G Zj0.a,by kernel_rfl⟩;exact ⟨_,uL X G Zj1.a,by kernel_rfl⟩;exact ⟨_,uL X G Zj2.a,by kernel_rfl⟩)⟩;have Ztz:=Zdr (st:=YM) ZrQ Zrg Zpw;have ZtC:=Zdr (st:=Zda) ZnG ZmF Zny;have Zqq:=Zdr (st:=zw) ZnH ZmG Znz;have Zj3:=Zpo (st:=zR) ZnI ZmH ZnA;have Zqr:=Zdr (st:=Yp) ZnJ ZmI ZnB;refine ⟨λp hp=>?_,?_⟩
 ·rcases hts p hp with rfl|rfl
  ·exact ⟨ZrY,_,Zpq⟩
  ·exact ⟨ZnY,_,Zkn⟩
 refine ⟨vI "law" "law" (zd Zda) (ZV Zda) (Zk Zda) .none Znx ZmV Zoi ZmA Zi5 ZmR,λs v=>.of_eq rfl,λbase kb nb bm=>?_⟩;have HH:Pw K l.prog w mg base h:=⟨X,G⟩;generalize (⟨Yf,qV,qe,Zag,J3,qW,Z2,ZI,ZT,Z3⟩:Cs)=c at ER;have LM_p_order_of:Lm mg base ZhR Zf:=⟨codeHd_of_K kb Zpq,bm⟩;have LM_m_Letters_init:Lm mg base ZeU Zc:=⟨codeHd_of_K kb Zkn,bm⟩;have Zbo:=Zl7.fn HH (JW K) (λZtn=>Zhd Ztn B) (by walk_at "2");have ZB:=Zl8.fn HH (ZE K) (λZto=>Zjx Zto) (by walk_at "3");have ZaN:=Zma.fn HH (Ji K) (λZtq=>Zf1 Ztq B ZB) (by walk_at "1");have Zdi:=Zmb.fnZ HH (Za8 K c) (λZtr=>Zjz Ztr B ER) (by walk_at "1");have Zaq:=ZqR.fnX HH (qJ K c) (λZuN=>Zfl ZuN B ER) (by walk_at "1");have ZaM:=ZqV.fnX HH (Jh K c) (λZuR=>Zf0 ZuR B ER TP Zaq) (by walk_at "1");have Zbn:=ZqW.fn HH (JV K) (λZuS=>Zhc ZuS B) (by walk_at "1");have Js:=ZqX.fnX HH (YS K c) (λZuT=>ZdE ZuT ER TP Zbn) (by walk_at "2");have Yo:=Zl5.fnX HH (Yc K c) (λZtf=>Zfk Ztf B ER GC) (by walk_at "3");have Jq:=ZjX.fnX HH (zA K c) (λZth=>ZdC Zth Yo) (by walk_at "2");have qO:=ZjY.fnX HH (zg K c) (λZti=>ZcZ Zti Yo) (by walk_at "2");have Jo:=ZjZ.fnX HH (zy K c) (λZtj=>ZdA Ztj) (by walk_at "2");have JZ:=Zj0.fnX HH (zS K c) (λZtk=>Zen Ztk B ER) (by walk_at "2");have Jr:=Zj1.fnX HH (zB K c) (λZtl=>ZdD Ztl) (by walk_at "2");have Zce:=Zl6.fn HH (Zao K) (λZtg=>Zix Ztg B) (by walk_at "1");have Jd:=ZqQ.fnX HH (qI K c) (λZuM=>Zfj ZuM ER) (by walk_at "1");have ZuZ:=Ztz.binds (ps:=YI) (by walk_at "1");have Yi:Fn l.prog w K mg base 3 "order_of" YI (Yr K Zf):=⟨⟨JR,_,ZfZ Ztz B LM_p_order_of rfl ER TP CF GC,uL X G Zq3,Zpw,ZuZ⟩⟩;have qQ:=ZqT.fn HH (YA K Zf) (λZuP=>Zc1 ZuP Yi) (by walk_at "1");have ZK:=ZqP.fnX HH (ZL K c) (λZuL=>ZdF ZuL ER) (by walk_at "2");have ZtU:=Zqq.binds (ps:=z6) (by walk_at "3");have qbC:Mkr l.prog w K mg base (CX1 l.prog w) 3 "Letters" Zd z6 [] (Yz K c Zd Zc):=⟨⟨z9,_,[],ZcY Zqq B LM_m_Letters_init rfl ER TP CF GC ZK,⟨qbJ,Zmx,Znp,qbK⟩,ZtU,.nil⟩,uL X G qbE⟩;have qm:=ZqU.fn HH (Y1 K Zd Zf Zc) (λZuQ=>Zeo ZuQ qQ qbC) (by walk_at "1");have ZtV:=Zj3.binds (ps:=Z7) (ds:=[]) qa3 λ_ _ _ _ _ _ us hl=>by obtain ⟨_,_,_,rfl⟩:=us3 hl;exact ⟨_,rfl,rfl⟩
 have bd_m_Finder_init:=Zj3.binds (ps:=Z7) (ds:=[.int 4 qt_m_Finder_init]) qa3 λ_ _ _ _ _ _ us hl=>by obtain ⟨_,_,rfl⟩:=us2 (Nat.succ.inj hl);exact ⟨_,rfl,rfl⟩
 have qb7:Mkr l.prog w K mg base (CX1 l.prog w) 6 "Finder" Zm Z7 [] (zx K c Zd Zm Zf Zc):=⟨⟨zP,_,[],ZaE Zj3 B ER TP CF GC Jd Yi qm,⟨qbw,Zj8,Zkq,qbx⟩,ZtV,.nil⟩,uL X G qbv⟩;have qbD:Mkr l.prog w K mg base (CX1 l.prog w) 6 "Finder" Zm Z7 [.int 4] (zx K c Zd Zm Zf Zc):=⟨⟨zP,_,[.int 4 qt_m_Finder_init],ZaE Zj3 B ER TP CF GC Jd Yi qm,⟨qbw,Zj8,Zkq,qbx⟩,bd_m_Finder_init,.cons ⟨_,rfl⟩ .nil⟩,uL X G qbv⟩;have qP:=ZqS.fn HH (zW K) (λZuO=>Zc0 ZuO) (by walk_at "2");have qa4:=Zmm.md HH CF.qaa (Yk K Zd) (λZtE=>Zcs ZtE B CF qP) (by walk_at "2");have qa1:=Zmn.md HH CF.qaa (z0 K c Zd) (λZtF=>ZbZ ZtF CF ZK) (by walk_at "3");have qab:=Zmo.md HH CF.qaa (ZJ K c Zd) (λZtG=>Zbk ZtG qa4 qa1) (by walk_at "3");have qaM:=Zmp.md HH CF.qaa (zn K c Zd) (λZtH=>ZaX ZtH qab) (by walk_at "3");have qa9:=Zmr.md HH CF.qar (YQ K Zd Zm) (λZtJ=>Zdy ZtJ B CF qaM) (by walk_at "2");have qa2:=Zml.md HH CF.qaa (z5 K c Zd) (λZtD=>Zb0 ZtD CF ZK) (by walk_at "2");have qa6:=Zmq.md HH CF.qaa (Yy K c Zd) (λZtI=>ZcX ZtI qa2 qab) (by walk_at "2");have qba:=Zms.md HH CF.qar (YR K c Zd Zm) (λZtK=>Zdz ZtK CF ZK qa6) (by walk_at "2");have qa5:=Zmt.md HH CF.qar (Yj K Zd Zm) (λZtL=>Zcr ZtL B qa9 qba) (by walk_at "2");have Jp:=Zj2.fnX HH (zz K c Zd Zm Zf Zc) (λZtm=>ZdB Ztm Zce qb7 qbD qa5) (by walk_at "2");have qbq:=Zmu.md HH CF.qb4 (Jg K c Zd Zm Zy Zf Zc) (λZtM=>ZfY ZtM TP CF ZaM Js Jq qO Jo JZ Jr Jp) (by walk_at "2");have Yl:=Zmc.fn HH (Yd K Zd Zm Zy Zf Zc) (λZts=>Zly Zts ER Zdi qbq) (by walk_at "2");have Zdh:=Zl9.fn HH (Za7 K) (λZtp=>Zjy Ztp) (by walk_at "0");have qp:=Zme.fn HH (Yt K) (λZtu=>Zf3 Ztu B ZB Zdh) (by walk_at "2");have ZcC:=Zmf.fn HH (ZaJ K) (λZtv=>Zlx Ztv B) (by walk_at "3");have YH:=Zmg.fn HH (Ys K) (λZtw=>Zf2 Ztw B ZB) (by walk_at "2");have ZeI:=Zmh.fn HH (ZbV K) (λZtx=>Zlw Ztx B ZB qp ZcC YH) (by walk_at "4");have zT:=Zmd.fn HH (zo K) (λZtt=>Zhe Ztt B) (by walk_at "2");have ZgK:=Zmi.fn HH (Zdd K) (λZty=>Zn4 Zty zT) (by walk_at "2");have zM:=Zmj.fn HH (zC K Zd Zm Zy Zf Zc) (λZtA=>ZdG ZtA B Yl zT) (by walk_at "3");have ZbN:=Zmk.fn HH (Zac K Zd Zm Zy Zf Zc) (λZtB=>Zjw ZtB B ZB Yl zT YH zM) (by walk_at "4");have ZtW:=Zqr.binds (ps:=YU) (by walk_at "1");have qb9:Mkr l.prog w K mg base CX0 1 "Desk" Zy YU [] (qH K Zy):=⟨⟨YW,_,[],Zfi Zqr CF,⟨qcf,Zmy,Znq,qcg⟩,ZtW,.nil⟩,uL X G qca⟩;exact Zsa ZtC B Zbo ZB ZaN Yl ZeI ZgK zM ZbN qb9
theorem Zvm {l:VG} {q:jx} {loose:List Str} {XP:(Str->Option Value)->Heap->Prop} {YP:jG->Heap->Prop} {d:DefRec} {K:v9->Qa} {ts:List jo} (Zf Zc:jo) (hn:l.most=some 63) (hdf:d.params.defaults=[])
 (hY:∀(w:jG) (h:Heap),YP w h->(K w.params).In h/\∀p∈ts,h.get? p=some (QaE #[]))
 (F:∀(w:jG) (mg:Str->Option Value) (fa:jo) (h:Heap),(K w.params).In h->h.Ns jy mg->mg d.name=some (.ref fa)->
  (∀p∈ts,(K w.params).lookup p=none/\∃c,QaJ (K w.params) c p=true)/\∃fd:j9,(∀(s:jn) (u:Value),Qar s fd ⟨[u],[]⟩ [("_law_script",u)])/\∀base:Heap,(K w.params).In base->base.Ns jy mg->Ztc mg base->ZQ l.prog w (K w.params) mg base CX0 13 fa fd Zj5 (Zhy (K w.params) Zf Zc))
 (m_p_order_of:Zf∈ts) (m_m_Letters_init:Zc∈ts) (ne_p_order_of_m_Letters_init:Zf≠Zc):
 WQ q loose XP YP l.row.toRowW d [] (λf vs=>PySem.call f vs):=
 L2.ZoU (n:=63) (k:=13) (x:="_law_script") (ts:=ts) (CX:=λ_=>CX0) (sp:=λw=>Zhy (K w.params) Zf Zc) hn (by decide) hdf ⟨rfl,by decide,by decide⟩ hY F (λ_ H a ns hl hS hT=>⟨a,ns,rfl,hS,hl,.inl (hT _ m_p_order_of),.inl (hT _ m_m_Letters_init),ne_p_order_of_m_Letters_init,λ_=>rfl⟩) λ_ _ _ _ _ z=>z
end My
end
open PySem PySem.W PyProof.Rows
set_option maxRecDepth 100000 in
set_option maxHeartbeats 0 in
theorem PySem.Challenge.cw_backindex_k90_texts_kept_holds : PySem.Challenge.rw_backindex_k90_texts_kept.Holds := by
 w_on;o_law;k_head;(case hw=>w_witness2)
 k_fill
 refine' My.Zvm (l:=PySem.Challenge.rw_backindex_k90_texts_kept) ?Zf ?Zc rfl rfl (λw h Y=>⟨PySem.W.km_in_of Y,PySem.W.km_tabs_of Y⟩) ?F ?m_p_order_of ?m_m_Letters_init ?ne_p_order_of_m_Letters_init
 case F=>
  intro w mg fa h KX G hmg;refine' My.Zq5 KX G hmg ?ZqP ?ZqQ ?ZqR ?Zq3 ?ZrQ ?Zrg ?Zpw ?qbL ?ZuI ?Zpq ?ZrY ?ZqS ?ZqT ?ZqU ?ZqV ?ZqW ?ZqX ?Zl5 ?Zl6 ?ZjX ?ZjY ?ZjZ ?Zj0 ?Zj1 ?Zj2 ?Zl7 ?Zl8 ?Zl9 ?Zma ?Zmb ?Zmc ?Zmd ?Zme ?Zmf ?Zmg ?Zmh ?Zmi ?Zmj ?Zmk ?Zmw ?ZnG ?ZmF ?Zny ?Zmx ?Znp ?ZnH ?ZmG ?Znz ?qbj ?ZqO ?Zkn ?ZnY ?Zml ?Zmm ?Zmn ?Zmo ?Zmp ?Zmq ?Zj8 ?Zkq ?ZnI ?ZmH ?ZnA ?qa3 ?Zmr ?Zms ?Zmt ?Zmy ?Znq ?ZnJ ?ZmI ?ZnB ?Zmu ?qa7 ?qa8 ?qbk ?qbb ?qbl ?qby ?qbN ?qbt ?qbm ?qbz ?qbA ?g1_Empty ?g2_Empty ?g3_Empty ?g4_Empty ?g5_Empty ?g6_Empty ?g7_Empty ?qbO ?qbc ?qbd ?g1_TooLong ?g2_TooLong ?g3_TooLong ?g4_TooLong ?g5_TooLong ?g6_TooLong ?g7_TooLong ?qbn ?qbe ?qbf ?g1_NoName ?g2_NoName ?g3_NoName ?g4_NoName ?g5_NoName ?g6_NoName ?g7_NoName ?qbu ?qbg ?qbh ?g1_NoRow ?g2_NoRow ?g3_NoRow ?g4_NoRow ?g5_NoRow ?g6_NoRow ?g7_NoRow ?qbP ?qaj ?qaz ?qaA ?qaU ?qaN ?qaB ?qaV ?qaC ?qaO ?qaW ?qah ?qak ?qal ?qaD ?qat ?qam ?qaE ?qan ?qau ?qaF ?qai ?qav ?qaw ?qaP ?qaG ?qax ?qaQ ?qay ?qaH ?qaR ?qao ?qaI ?qaJ ?qaX ?qaS ?qaK ?qaY ?qaL ?qaT ?qaZ ?qbE ?qbF ?qbG ?qbH ?qbI ?qbJ ?qbK ?qad ?qap ?qaq ?qac ?qag ?qbv ?qbQ ?qbR ?qbS ?qbT ?qbw ?qbx ?qa0 ?qae ?qaf ?qca ?qcb ?qcc ?qcd ?qce ?qcf ?qcg ?qas ?qbi ?qbr ?qch ?qbB ?qbU ?qbo ?qbV ?qbp ?qbs ?z_dict ?z_enumerate ?z_int ?z_isinstance ?z_len ?z_list ?z_range ?z_reversed ?z_set ?z_sorted ?z_str ?z_sum ?z_zip ?hts
  (case qbE|qbv|qca=>k_is)
  (case ZqP|ZqQ|ZqR|ZqS|ZqT|ZqU|ZqV|ZqW|ZqX|Zl5|Zl6|ZjX|ZjY|ZjZ|Zj0|Zj1|Zj2|Zl7|Zl8|Zl9|Zma|Zmb|Zmc|Zmd|Zme|Zmf|Zmg|Zmh|Zmi|Zmj|Zmk=>(refine' L2.DfT.mk2 ?a ?l ?c ?k;(case a=>k_is);(case l=>k_is);(case c=>k_is);(case k=>k_is)))
  (case Zml|Zmm|Zmn|Zmo|Zmp|Zmq|Zmr|Zms|Zmt|Zmu=>(refine' L2.DfM.mk2 ?a ?i ?l ?c ?k;(case a=>k_is);(case i=>k_is);(case l=>k_is);(case c=>k_is);(case k=>k_is)))
  (case Zq3|ZrQ|Zrg|Zpw|qbL=>k_is)
  (case ZuI=>rfl)
  (case Zpq=>kernel_rfl)
  (case ZrY=>rfl)
  (case Zmw|ZnG|ZmF|Zny|Zmx|Znp|ZnH|ZmG|Znz|qbj=>k_is)
  (case ZqO=>rfl)
  (case Zkn=>kernel_rfl)
  (case ZnY=>rfl)
  (case Zj8|Zkq|ZnI|ZmH|ZnA|qa3|Zmy|Znq|ZnJ|ZmI|ZnB|qa7=>k_is)
  (case qa8=>k_exc)
  (case qbk|qbb=>k_is)
  (case qbl=>k_exc)
  (case qby=>k_is)
  (case qbN=>k_exc)
  (case qbt|qbm|qbz=>k_is)
  (case qbA=>k_exc)
  (case g1_Empty|g2_Empty|g3_Empty|g4_Empty|g5_Empty|g6_Empty|g7_Empty=>k_is)
  (case qbO=>kit_is)
  (case qbc=>k_is)
  (case qbd=>k_exc)
  (case g1_TooLong|g2_TooLong|g3_TooLong|g4_TooLong|g5_TooLong|g6_TooLong|g7_TooLong=>k_is)
  (case qbn=>kit_is)
  (case qbe=>k_is)
  (case qbf=>k_exc)
  (case g1_NoName|g2_NoName|g3_NoName|g4_NoName|g5_NoName|g6_NoName|g7_NoName=>k_is)
  (case qbu=>kit_is)
  (case qbg=>k_is)
  (case qbh=>k_exc)
  (case g1_NoRow|g2_NoRow|g3_NoRow|g4_NoRow|g5_NoRow|g6_NoRow|g7_NoRow=>k_is)
  (case qbP=>kit_is)
  (case qaj=>k_is)
  (case qaz|qaA|qaU|qaN|qaB|qaV|qaC|qaO|qaW=>kit_is)
  (case qah=>k_is)
  (case qak|qal|qaD|qat|qam|qaE|qan|qau|qaF=>kit_is)
  (case qai=>k_is)
  (case qav|qaw|qaP|qaG|qax|qaQ|qay|qaH|qaR=>kit_is)
  (case qao=>k_is)
  (case qaI|qaJ|qaX|qaS|qaK|qaY|qaL|qaT|qaZ=>kit_is)
  (case qbF|qbG|qbH|qbI|qbJ|qbK|qad|qap|qaq|qac|qag|qbQ|qbR|qbS|qbT|qbw|qbx|qa0|qae|qaf|qcb|qcc|qcd|qce|qcf|qcg|qas|qbi|qbr|qch=>k_is)
  (case qbB=>exact ⟨⟨_,_,by k_is,by k_keys,by repeat (first|exact True.intro|refine ⟨⟨_,rfl⟩,?_,?_⟩|exact ⟨_,rfl⟩|rfl)⟩,by decide⟩)
  (case qbU=>k_is)
  (case qbo=>exact ⟨_,_,_,by k_is,rfl,rfl,by decide,.cons ⟨_,rfl⟩ (.cons ⟨_,rfl⟩ (.nil))⟩)
  (case qbV=>k_is)
  (case qbp=>exact ⟨⟨_,_,by k_is,by k_keys,by repeat (first|exact True.intro|refine ⟨⟨_,rfl⟩,?_,?_⟩|exact ⟨_,rfl⟩|rfl)⟩,by decide⟩)
  (case qbs|z_dict|z_enumerate|z_int|z_isinstance|z_len|z_list|z_range|z_reversed|z_set|z_sorted|z_str|z_sum|z_zip=>k_is)
  (case hts=>decide)
 (case m_p_order_of|m_m_Letters_init|ne_p_order_of_m_Letters_init=>decide)
