import PyProof.Rows.All
import Wide.All
import OpenK.AllK
import Wide.FinOn
import Lean
import PyProof.EqAt
import PyProof.EqKinds
import PyProof.TupleCall
import PySem.Challenge.RW_backindex_k90_texts_kept
import KE.KRevIter
import KE.KSortAsk
import KE.KSortTup
import PyProof.Rows.SortKeyStr
import KE.KLam
import KE.KSortKey
import OpenK.KOwn
import KE.RegKIsAll
import PyProof.EnumMake
import PyProof.EnumFor
import PyProof.EnumStmt
import KE.KNestM
import PyProof.Rows.CallKwBuiltin
import PyProof.StrWalks
import KE.KDictOf
import PyProof.CompUse
import PyProof.NeKinds
import PyProof.ZipIter
import PyProof.Rows.SumAny
import PyProof.Rows.SetFrom
import PyProof.ListRange
import PyProof.StrLawsIn
import PyProof.CollectIter
import PyProof.JoinWalk
import PyProof.Conv_int_bool
import KE.IntBitsLaws
import PyProof.FactsAll.str
import PyProof.ListStr
import PyProof.Draws
import PyProof.CallStr
import PyProof.StrLawsFrom
import PyProof.Rows.StrNews2
import PyProof.StrCalls
import KE.KIntText
import PyProof.Rows.RegStrFacts
import PyProof.DictWalks
import PyProof.AttrMissHeap
import PyProof.LongRange
import PyProof.Rows.Range3
import PyProof.Rows.StrSplitMax
import OpenK.KTop
import PyProof.Rows.Chain
import KE.KDictList
open PySem.W renaming Frag → Qa, kas_item → VB, OpenLaw → VC, kas_range → Ws, WalkO → WL, kitOne → jA, keepIn → jI, codeIn → jN, findIn → jQ, mg_of → jY, nsIn → ud, kas_item → um, fnOf → ur, mg_none_of → uv, emptyDict → vd, callWith_K → ve, mroIn → vm, kia_one → vp, plainGet → vR, specialIn → v5, kas_ask → v6, instObj → v7, hasDictIn → v9, looks_findIn → Qah, kla_obj → Qai, isFn → Qaj, plainOver → Qan, takesIn → Qat, hideAll → Qau, tabObj → Qaz, excIn → QaD, codeHdIn → QaE, cellsFrom_some → QaF
open List renaming getD_eq_getElem?_getD → Qb, getElem?_eq_getElem → Qd, getElem?_map → Qi, range → Qk, getElem?_eq_some_iff → Qo, getElem?_append_right → Qt, replicate → Qv, countP_cons → Qw, getElem?_append_left → Qx, toArray → QA, mem_range → QB, take_of_length_le → QD, mem_of_getElem? → QE, take_length → QF, not_mem_nil → QG, lookup_cons → QH, pairwise_cons → QJ, cons_lt_cons_iff → QL, find?_cons → QN, take_succ_cons → QO, take_append_drop → QP, getElem_mem → QT, countP_eq_zero → QY, drop_eq_getElem_cons → Q1, take_zero → Q5, mem_of_mem_take → Q6, drop_eq_nil_of_le → Q9, take_succ → Ua, getElem?_drop → Ub, drop_zero → Uc, pairwise_iff_getElem → Ue, getElem?_set_ne → Ui, flatten_cons → Uj, getElem?_range → Ul, filterMap_cons → Um, not_lt → Uq, length → Ur, countP_append → Us, range_succ → Ut, nodup_cons → Uu, forIn_cons → Uv, countP_map → Uw, take_sublist → Uz, pairwise_append → UB, mem_of_mem_drop → UC, mem_map → UD, filter_cons → UE, getElem?_take → UG, filter_append → UH, Nodup → UI, getElem?_replicate → UK, drop_sublist → UN, drop_drop → UO, perm_append_comm → US, getElem?_toArray → UT, mem_iff_getElem → UV, lookup → UW, mem_filter → UX, mem_filterMap → UY, isPrefixOf_iff_prefix → UZ, pairwise_map → U4, getElem_take → U5, getElem_drop → U6, any_cons → U8, head_eq_of_cons_eq → Vc, getElem?_cons_succ → Vd, drop_length → Ve, getElem?_set_self → Vg, of_mem_zip → Vj, getElem?_reverse → Vk, getElem?_eq_none → Vl, filterMap_append → Vm, eq_nil_or_concat → Vn, concat_eq_append → Vo, range' → Vp, lt_irrefl → Vq, getElem?_of_mem → Vr, filter_sublist → Vv, sum_cons → Vw, mem_replicate → Vz, getElem_map → VL, ext_getElem → VM, any_eq_true → VN, take_append_of_le_length → VP, idxOf_lt_length_of_mem → VT, takeWhile_cons_of_pos → VV, nodup_iff_pairwise_ne → VW, length_eraseIdx_of_lt → VX, foldl → VY, mem_of_find?_eq_some → V5, getElem?_zip_eq_some → V6, length_erase_of_mem → V8, getElem?_take_of_lt → V9, pairwise_singleton → Wd, countP_cons_of_pos → We, countP_cons_of_neg → Wf, set_nil → Wi, range_succ_eq_map → Wj, length_filter_le → Wn, isPrefixOf_cons₂ → Wo, countP_le_length → Wp, reverse_reverse → Wt, mem_erase_of_ne → Wu, takeWhile_cons → Wx, replicate_zero → Wy, lt_of_le_of_lt → Wz, drop_succ_cons → WA, set_cons_zero → WE, set_cons_succ → WF, getElem_range → WG, ext_getElem? → WJ, range'_succ → WM, getElem_inj → WN, length_zip → WQ, foldl_cons → WR, count_cons → WS, take_take → WT, take_add → WX, lt_trans → WY, all_cons → WZ, map_id' → W8, filter → jd, length_map → jn, length_append → jq, mem_append_right → js, mem_singleton → ju, length_cons → jy, length_take → jz, size_toArray → jC, length_singleton → jE, mem_cons_of_mem → jH, length_drop → jJ, mem_cons → jK, mem_append → jL, map_cons → jT, mem_cons_self → jW, append_assoc → j5, length_nil → j8, mem_append_left → uk, map_append → uw, replicate_succ → uD, map_congr_left → uE, nil_append → uH, map_map → uJ, length_replicate → uK, cons_append → uM, length_range → uO, length_eq_zero_iff → uP, append_nil → vf, length_reverse → vx, length_pos_iff → vT, map_take → QaB
open PySem.Str renaming ofString → Qc, empty → Vt, length → VA, join → WV, append → je
open PySem.Heap renaming get?_push_of_some → Qe, get?_push_size → Qh, lt_size → Qj, get?_update_other → QW, get?_update_self → Q3, size_push → Uo, FlyingW → Vh, ExtBut → Wv, HeldW → WH, MadeExcOf → WU
open Nat renaming le_refl → Qf, lt_of_lt_of_le → Ql, ne_of_lt → Qm, zero_le → Qu, le_trans → QI, le_of_lt → QQ, lt_irrefl → QV, ne_of_gt → QX, min_eq_left → Uh, add_zero → Uk, sub_self → UP, lt_succ_of_lt → UQ, lt_succ_self → UU, le_succ → U7, min_eq_right → Vf, zero_add → VD, sub_zero → VF, lt_trans → VG, le_succ_of_le → VH, le_of_eq → VI, le_of_not_lt → VO, add_assoc → Wc, add_sub_cancel_left → Wh, lt_or_ge → Wm, lt_of_le_of_lt → WI, le_add_right → WP, add_comm → jc, not_lt → jf, not_le → jg, mod_lt → jh
open Bool renaming false_ne_true → Qg, and_eq_true → QM, not_eq_true' → QR, or_eq_true → QS, false_eq_true → Q4, eq_iff_iff → Ug, and_false → Vs, not_false → VZ, or_false → Wb, or_eq_false_iff → Ww, not_eq_false → WK, true_and → W3, not_true → W4, or_true → W9
open Int renaming toNat_natCast → Qn, emod_lt_of_pos → Ud, emod_nonneg → UJ, toNat_of_nonneg → Vx, zero_add → VJ, toNat → VQ
open Array renaming length_toList → Qp, getD_eq_getD_getElem? → QK, getElem?_eq_getElem → QZ, getElem?_eq_none → Q8, getElem?_toList → Uy, size_push → Vi, forIn_toList → Vy, getElem?_setIfInBounds → VR, toList → Wg, mem_toList_iff → Wq, ext_getElem? → WB, append_assoc → WC
open PySem.Value renaming none → Qq, isStrOf → QU, type → UA, str → UR, int → U9, bool → VS, builtin → V0, float → Wl, isStrOf_shape → Wr, isStr → W5, isInt → W6, bytes → W7
open PyProof.Rows.KeyOrd renaming kle_trans → Qy, kle_refl → Q7, kle_of_klt → Uf
open Option renaming map_eq_some_iff → Qz, isSome_map → Ux, map_some → UF, isSome_iff_exists → U0, map → Vu, getD_none → WD, toList → WO, none → WW
open PySem.F renaming plainAttrs_str → QC, type_str_join → UL, slot_str_join → UM, type_str_split → Va, slot_str_split → Vb, plainAttrs_list → VU, type_str_strip → V1, type_str_count → V2, slot_str_strip → V3, slot_str_count → V4, slot_dict_pop → V7
open PySem renaming wpAny_bind → ji, Shared → jj, Addr → jk, wpAny_pure → jl, mainGlobals → jm, wpAny → jo, model → jr, sizeLine_eq → jt, Program → jw, starEach → jx, World → jB, Expr → jF, foldedSetIterable → jG, wpAny_callSpecial?_slot → jM, assignEach → jO, wpAny_call_entry → jP, bootBuiltins → jR, wpAny_holding → jS, wpAny_mono → jU, wpAny_attempt → jV, compareOp → jX, wpAny_newObj_type → jZ, wpAny_Call_Name_kw → j0, builtinsNs → j4, FuncData → j7, codeAny_builtin → j9, rawInt → ua, codeAny_mono → ub, compEnvC → uc, wpAny_askSetting → ue, pyNext → uf, wpAny_setState_of → uh, typeIs_str → ui, wpAny_field → uj, builtinLookup_eq_fast → uo, wpAny_setField_rec → uq, backTo → uu, wpAny_setEntries_of → ux, wpAny_rule → uC, isSubtype_type → uF, binaryOp → uG, call_meets → uI, Model → uL, wpAny_call → uN, wpAny_passesOwn → uQ, typeLookup_type → uR, wpAny_truthy_bool → uS, wpAny_of_eq → uT, sysModules → uU, SetTable → uV, codeAny → uW, plainId_quiet → uX, behindInMarks → uY, swapsWith → uZ, pickOrder → u0, PassesOwn → u5, wpAny_seqItems → u6, wpAny_fieldsOf → u7, firstArgMember → u8, wpAny_isInstance → vb, scanBound → vc, attributeBase → vh, sliceBounds → vi, keywordEach → vj, wpAny_setField → vt, setsByText → vw, assign → vA, ExceptHandler → vB, entryFor_of_tree → vD, entryFor → vE, NameKind → vF, typeLookup → vG, holding → vH, wpAny_specialOf → vI, wpAny_execs_nil → vJ, letOwnedTupleGo → vK, wpAny_runValue → vM, wpAny_newTuple → vN, wpAny_newFunctionEnv → vO, slotArgs → vP, relayAll → vQ, isSubtype_stop → vU, entryFor_alias → vV, codeAny_call_builtin → vW, backToKw → vX, ZipApart → vY, Params → vZ, IsPair → v4, inplaceOp → v8, wpAny_newList → Qaa, tupleKind_room_in1 → Qab, pyIter → Qac, argsOk → Qad, wpAny_typeOf → Qae, wpAny_pyIter_slot → Qaf, relabel → Qag, callerA → Qak, GenState → Qal, BindsTo → Qam, getMethod → Qao, checkBuiltinCall → Qap, Result → Qaq, subscripted → Qar, getItem → Qav, Keyword → Qaw, ItemsOf → Qax, wpAny_newFunctionEnv_cells → Qay, setField → QaA, bindArgs → QaG
open PyProof.Rows renaming wpS_bind → jp, wpS_pure → jv, SortSt → jD, wpS_forRange → j6, wpS_mono → ug, envOfC → ul, seqObj → ut, SortKind → uz, Keyed → uA, pendingOf → uB, KeyOrd → u9, wpS_modify → va, listUpdate_at → vg, get?_update_seq → vk, wpS_get → vo, AllBare → vq, failedOf → vy, wpS_lift → vC, arrOf → vL, oneType' → vS, seqEpoch_at → Qas, keyKind' → QaC
set_option Elab.async false
set_option linter.all false
set_option maxRecDepth 100000
set_option maxHeartbeats 4000000
noncomputable section
open List (append_assoc append_nil cons_append length_append length_cons length_drop length_eq_zero_iff length_map length_nil length_pos_iff length_range length_replicate length_reverse length_singleton length_take map_append map_congr_left map_cons map_drop map_map map_nil map_take mem_append mem_append_left mem_append_right mem_cons mem_cons_of_mem mem_cons_self mem_singleton nil_append replicate_succ size_toArray)
open PySem.W (CodeHd InstAt KitX callWith_K callWith_K0 cellsFrom_some clsIn codeHdIn codeHd_of_K codeIn codeRec_of emptyDict excIn findIn fnOf handedIn hasDictIn hideAll hideAll_get instObj isFn kas_ask kas_kind kat_snds keepIn kia_one kitAny kitOne kitx_list kla_fn kla_obj lookIn looks_findIn looks_mroIn makesIn methodCall_KW methodObj mg_none_of mg_of mroIn nsIn of_hideAll plainGet plainGet_of plainOver recIn specialIn tabObj takerIn takesIn typeIn)
inductive PySem.W.Fast
 |tw3782796346803380791
 |tw16332304466755086438
 |tw15795670122866673770
 |tw11659858894242397761
 |tw9061224425425580552
 |tw1709594133360510848
 |tw16695229107831408136
 |tw18065714835499537096
 |tw13782619558804000039
 |tw3322979452561736100
 |tw17442394102324802511
 |tw18281418059628921366
 |tw7219489884561982477
 |tw15193342541337399959
 |tw14460626285558962995
 |tw839693561095149648
 |tw3099212947447149009
 |tw1043702748045444883
 |tw16377455675624544477
 |tw15903171834712909754
 |tw1801280773836714863
 |tw11880037569479318146
 |tw10982103714437915354
 |tw462231996230705254
 |tw15158239479116665344
 |tw13980575408589676577
 |tw10644981075251204878
 |tw2989003207661719548
 |tw1100632108686469499
 |tw13907638499468910426
 |tw2189482205546431688
 |tw6301902753261872371
 |tw7632131622439205600
 |tw16734510117110991058
 |tw18030952563150095385
 |tw1765517628756908520
 |tw13594900250201673591
 |tw3582821509427086000
 |tw473169661814536158
 |tw783949968873365214
 |tw5420624713233163194
 |tw4364895833642430804
 |tw16329413183133273735
 |tw5309569704676812170
 |tw3841121064697873918
 |tw10832563290639515651
 |tw3232453673879301512
 |tw5016335672191345073
 |tw10190363911815245300
 |tw12745618239326755249
 |tw15105947980551559691
 |tw9948545383213719990
 |tw10743252616952598467
 |tw6373814367063455961
 |tw3164635058390543347
 |tw8499176143346092860
 |tw12660296853461538031
 |tw10695332645741044474
 |tw4631061350902792131
 |tw969285430957632615
 |tw13165069324799564237
 |tw13871657334700619604
 |tw4792062593426116419
 |tw1579363858538563421
 |tw6177001905413182077
 |tw8602343082316006281
 |tw13581652510486074909
 |tw18360797754950285829
 |tw14888665535468384854
 |tw15267336046836627620
 |tw4321798619667983756
 |tw14075417697798590336
 |tw7798446217140132081
 |tw15619846230654838797
 |tw12480498914899012114
 |tw4888830773377558531
 |tw15849786834502712069
 |tw10172482805996187372
 |tw5959440414886236484
 |tw10495379065456878460
 |tw17142358191369881907
 |tw5561902202293888440
 |tw910260922632016829
 |tw10352341952997982932
 |tw2390820740457538292
 |tw5371825679816824770
 |tw738801847883387356
 |tw17168895266979591432
 |tw9488301803204719918
 |tw1008926629831722865
 |tw12055213182950491095
 |tw2543647482598251384
 |tw17074354193926710718
 |tw5626094666968489587
 |tw16840070631850863182
 |tw1770057723791208686
 |tw7933543443681195365
 |tw6925219269480657622
 |tw16584239216099738864
 |tw4104228848098048665
 |tw3614582148878384735
 |tw5287778883771857867
 |tw5453932012850746362
 |tw8313499169272333644
 |tw828913563221021589
 |tw16233356789091773790
 |tw9048631663962289304
 |tw15569990896149515688
 |tw11986614966523462409
 |tw7289756472414947790
 |tw3952794575116638166
 |tw4761841982714295128
 |tw545107255490309504
 |tw11450324088369000860
 |tw8241738212080414553
 |tw6349965787776783396
 |tw11865490067586007935
 |tw8906963436694820220
 |tw16182051232219644145
 |tw9011766210537711300
 |tw10874130880881465563
 |tw15794461336963814578
 |tw1427393640153094308
 |tw13099348988846334877
 |tw5944305909172470785
 |tw2081921025512310983
 |tw14205714451276601561
 |tw12095328730767724785
 |tw4208344868082012324
 |tw1112678603023784334
 |tw16057718915305438215
 |tw12734496531616507444
 |tw528912774291702907
 |tw11449706009697305404
 |tw12649375103064732136
 |tw3082265529257245096
 |tw2274975920929454301
 |tw18323409080679523924
 |tw7506767882523738613
 |tw16983724867978612204
 |tw13441637696614881289
 |tw16843852649902395470
 |tw8664114546322823979
 |tw11993430568660210119
 |tw12157953496312221007
 |tw2182800270559943319
 |tw9858232847932323549
 |tw13878739210028739842
 |tw13998813098972512995
 |tw14935275186950123243
 |tw4437674984217122557
 |tw670770506063057757
 |tw8881852808140218188
 |tw4140614665695736359
 |tw9553499873322121641
 |tw5322002445565573350
 |tw5719341458752102534
 |tw10121843595958576236
 |tw10336896545657107604
 |tw3960413220965395899
 |tw17640447149831504269
 |tw11769435640933256509
 |tw11002178004752560482
 |tw12040328915583083800
 |tw3470705287593143549
 |tw16408341203769865796
 |tw9702736780351525489
 |tw7330003332916443434
 |tw2667629228309344871
 |tw15945767787931108263
 |tw6470449297607432988
 |tw4642292811715162991
 |tw17595060847514443911
 |tw5062280087248339932
 |tw11164752319769322165
 |tw2088745055124503861
 |tw812088824505514482
 |tw17592565255514912270
 |tw5627731698263996086
 |tw18049899266925309546
 |tw9831561334059223526
 |tw3422570021972592216
 |tw17861300836212644840
 |tw12128734560990195379
 |tw2950145417024654661
 |tw1722813945404449407
 |tw12541118547522420916
 |tw3627851962969786326
 |tw4163851254998846970
 |tw7734790639232032450
 |tw14522604940886200128
 |tw16661276573970797085
 |tw14944835963348397311
 |tw15174923733124089611
 |tw6874068656461799928
 |tw1240590318861558919
 |tw15982117357730646941
 |tw3346386081832719632
 |tw638313341204669242
 |tw10049729270043596418
 |tw10861522783787539608
 |tw4011334428094789085
 |tw14729575967094612040
 |tw6641950526008166395
 |tw12096787279558654055
 |tw8834880948204541577
 |tw9556198285300648604
 |tw14786163937429034480
noncomputable section
section
local macro_rules| `(tactic|rfl')=> `(tactic|decide +kernel)| `(tactic|ac_nf)=> `(tactic|(first|exact Or.inl rfl|exact Or.inr rfl))
namespace L2
open PySem PySem.Spec PyProof.Rows
abbrev Key:=Sum Int Str
def Zdt:Key->Value->Bool
 | .inl k,v=>W6 k v
 | .inr x,v=>QU x v
def ZDD (w:jB):Key->Int
 | .inl k=>hashInt k
 | .inr x=>hashStr w x
theorem zR:∀{k:Key} {v:Value},Zdt k v=true->(∃i t,k=Sum.inl i/\v=U9 i t)\/(∃x t,k=Sum.inr x/\v=UR x t)
 | .inl i,v,h=>by obtain ⟨t,e⟩:=Value.isInt_shape (k:=i) (v:=v) h;exact .inl ⟨i,t,rfl,e⟩
 | .inr x,v,h=>by obtain ⟨t,e⟩:=Wr (x:=x) (v:=v) h;exact .inr ⟨x,t,rfl,e⟩
theorem ZlN (i:Int) (t:Tok):Zdt (.inl i) (.int i t)=true:=by simp [Zdt,W6]
theorem ZlP (x:Str) (t:Tok):Zdt (.inr x) (.str x t)=true:=by simp [Zdt,QU]
theorem ZwP (a b:Int):decide ((Sum.inl a:Key)=Sum.inl b)=(a==b):=by
 by_cases e:a=b
 ·subst e;simp
 ·have h:¬(Sum.inl a:Key)=Sum.inl b:=fun q=>e (Sum.inl.inj q);rw [decide_eq_false h];exact (beq_eq_false_iff_ne.mpr e).symm
theorem ZwS (a b:Str):decide ((Sum.inr a:Key)=Sum.inr b)=decide (a=b):=by
 by_cases e:a=b
 ·subst e;simp
 ·have h:¬(Sum.inr a:Key)=Sum.inr b:=fun q=>e (Sum.inr.inj q);rw [decide_eq_false h,decide_eq_false e]
theorem ZwQ (a:Int) (b:Str):decide ((Sum.inl a:Key)=Sum.inr b)=false:=decide_eq_false (fun q=>nomatch q)
theorem ZwR (a:Str) (b:Int):decide ((Sum.inr a:Key)=Sum.inl b)=false:=decide_eq_false (fun q=>nomatch q)
def zO (prog:jw) (w:jB):PySem.KeyKind prog w Key where
 is:=Zdt
 hash:=ZDD w
 inj:=fun v a b ha hb=>by
  rcases zR ha with ⟨i,t,rfl,rfl⟩|⟨x,t,rfl,rfl⟩
  ·rcases zR hb with ⟨j,u,rfl,e⟩|⟨y,u,rfl,e⟩
   ·injection e with e1 _;rw [e1]
   ·exact nomatch e
  ·rcases zR hb with ⟨j,u,rfl,e⟩|⟨y,u,rfl,e⟩
   ·exact nomatch e
   ·injection e with e1 _;rw [e1]
 byValue:=fun k v h=>by rcases zR h with ⟨i,t,rfl,rfl⟩|⟨x,t,rfl,rfl⟩<;>rfl
 pyHash:=fun hv h=>by
  rcases zR hv with ⟨i,t,rfl,rfl⟩|⟨x,t,rfl,rfl⟩
  ·exact wpAny_pyHash_int h
  ·exact wpAny_pyHash_str h
 eqBool:=fun hu hv h=>by
  rcases zR hu with ⟨i,t,rfl,rfl⟩|⟨x,t,rfl,rfl⟩
  ·rcases zR hv with ⟨j,u,rfl,rfl⟩|⟨y,u,rfl,rfl⟩
   ·rw [ZwP] at h;exact wpAny_eqBool_int h
   ·rw [ZwQ] at h;exact SeqAt.EqAt.int_str i t y u _ _ _ _ h
  ·rcases zR hv with ⟨j,u,rfl,rfl⟩|⟨y,u,rfl,rfl⟩
   ·rw [ZwR] at h;exact SeqAt.EqAt.str_int x t j u _ _ _ _ h
   ·rw [ZwS] at h;exact wpAny_eqBool_str h
 «strs»:=fun k x t v h=>by
  rcases zR h with ⟨i,u,rfl,e⟩|⟨y,u,rfl,e⟩
  ·exact nomatch e
  ·injection e with e1 _;subst e1;cases v<;>rfl
theorem Ziv (prog:jw) (w:jB) (i:Int) (t:Tok):(zO prog w).is (.inl i) (.int i t)=true:=ZlN i t
theorem Ziw (prog:jw) (w:jB) (x:Str) (t:Tok):(zO prog w).is (.inr x) (.str x t)=true:=ZlP x t
inductive V where
 |non|bl (b:Bool)|int (i:Int)|str (x:Str)|byt (b:Array UInt8)|flt (b:UInt64)|ref (a:jk)|ty (n:String)
 deriving DecidableEq
def ZW:V->Value->Prop
 | .non,u=>u=Qq
 | .bl b,u=>u=VS b
 | .int i,u=>∃t,u=U9 i t
 | .str x,u=>∃t,u=UR x t
 | .byt b,u=>∃t,u=W7 b t
 | .flt b,u=>∃t,u=Wl b t
 | .ref a,u=>u=Value.ref a
 | .ty n,u=>u=UA n
abbrev ZE:List V->List Value->Prop:=Paired ZW
theorem ZE.length {xs:List V} {us:List Value} (r:ZE xs us):xs.length=us.length:=Paired.length r
theorem ZE.get:∀{xs:List V} {us:List Value} {i:Nat} {x:V},ZE xs us->xs[i]?=some x->∃u,us[i]?=some u/\ZW x u
 |_,_,_,_,.nil,e=>by simp at e
 |_,_,0,_,.cons r _,e=>by simp at e;subst e;exact ⟨_,rfl,r⟩
 |_,_,i+1,x,.cons _ t,e=>by obtain ⟨u,h1,h2⟩:=ZE.get (i:=i) (x:=x) t (by simpa using e);exact ⟨u,by simpa using h1,h2⟩
theorem ZE.append:∀{xs ys:List V} {us ws:List Value},ZE xs us->ZE ys ws->ZE (xs++ys) (us++ws)
 |_,_,_,_,.nil,s=>s
 |_,_,_,_,.cons r t,s=>.cons r (ZE.append t s)
theorem ZE.take:∀{xs:List V} {us:List Value} (n:Nat),ZE xs us->ZE (xs.take n) (us.take n)
 |_,_,0,_=>.nil
 |_,_,_+1,.nil=>.nil
 |_,_,n+1,.cons r t=>.cons r (ZE.take n t)
theorem ZE.drop:∀{xs:List V} {us:List Value} (n:Nat),ZE xs us->ZE (xs.drop n) (us.drop n)
 |_,_,0,r=>r
 |_,_,_+1,.nil=>.nil
 |_,_,n+1,.cons _ t=>ZE.drop n t
def Zcc:Option V->Option Value->Prop
 |some v,some u=>ZW v u
 |none,none=>True
 |_,_=>False
def KV {κ:Type}:List (κ×V)->List (κ×Value)->Prop:=Paired fun (p:κ×V) (q:κ×Value)=>p.1=q.1/\ZW p.2 q.2
def kV:Key->V
 | .inl i=>.int i
 | .inr x=>.str x
inductive HO where
 |lst (xs:List V)
 |tup (xs:List V)
 |dK (kvs:List (Key×V))|dT (kvs:List (List Key×V))
 |set (S:Int->Bool) (n:Nat)
 |ins (C dx:jk) (fs:List (Str×V))
 |own (x:jk)
 |xd (fs:List (Str×V))
 |met (f x:jk)
 |rng (lo hi:Int)
 |frz (o:Obj) (u:HO)
 |tbl (ps:Array Value)
 |ext (φ:Heap->Prop)
abbrev Hp:=jk->Option HO
def upd (H:Hp) (a:jk) (o:HO):Hp:=fun b=>if b=a then some o else H b
theorem Zh {H:Hp} {a:jk} {o:HO}:upd H a o a=some o:=by unfold upd;rw [if_pos rfl]
theorem Zj {H:Hp} {a b:jk} {o:HO} (h:b≠a):upd H a o b=H b:=by unfold upd;rw [if_neg h]
theorem ZhN {H:Hp} {a:jk} {o u:HO}:upd (upd H a o) a u=upd H a u:=by
 funext b;unfold upd;split<;>rfl
theorem Zdy {H:Hp} {a b:jk} {o u:HO} (h:H a=some o) (h':H b=some u) (d:o≠u):a≠b:=by intro e;subst e;rw [h] at h';exact d (Option.some.inj h')
theorem Zk {H:Hp} {a b:jk} {o:HO} (h:H a=some o) (h':H b=none):a≠b:=by intro e;subst e;rw [h] at h';cases h'
section
variable (P:jw) (w:jB)
def zy (H:Hp) (h:Heap) (a:jk):HO->Prop
 | .lst xs=>xs.length<=sizeLine/\∃(its:List Value) (n:Nat),ZE xs its/\h.get? a=some {cls:=.type "list",data:=.seq its.toArray n}
 | .tup xs=>xs.length<=sizeLine/\∃its:List Value,ZE xs its/\IsTup h a its.toArray
 | .dK kvs=>kvs.length<=sizeLine/\(a==uU)=false/\∃vs,KV kvs vs/\h.DictOf (zO P w) a vs
 | .dT _=>False
 | .set S n=>h.SetOf (intKind P w) a S n
 | .ins C dx fs=>H dx=some (.own a)/\fs.length<=1000/\dx≠a/\h.get? a=some (v7 C dx)/\
  ∃mA,h.Ns1 dx mA/\(∀f,Zcc (fs.lookup f) (mA f))/\PySem.Within mA (fs.map (·.1))
 | .own _=>∃o,h.get? a=some o
 | .xd fs=>∃mA,h.Ns1 a mA/\∀f,Zcc (fs.lookup f) (mA f)
 | .rng lo hi=>∃t u v,h.get? a=some {cls:=.type "range",data:=.fields #[.int lo t,.int hi u,.int 1 v]}
 | .frz o u=>h.get? a=some o/\zy H h a u
 | .tbl ps=>h.get? a=some {cls:=.none,data:=.fields ps}
 | .met f x=>h.get? a=some (methodObj (.ref f) (.ref x))
 | .ext φ=>φ h/\(∃o,h.get? a=some o)/\∀h1 h2:Heap,φ h1->(∀o,h1.get? a=some o->h2.get? a=some o)->φ h2
def HOk (H:Hp) (h:Heap):Prop:=∀a o,H a=some o->zy P w H h a o
end
section
variable {P:jw} {w:jB} {H H':Hp} {h h':Heap} {a:jk} {o:HO}
theorem zy.lt (x:zy P w H h a o):a<h.objs.size:=by
 cases o with
 |lst xs=>obtain ⟨_,_,_,_,e⟩:=x;exact Qj e
 |tup xs=>obtain ⟨_,_,_,p⟩:=x;exact p.lt
 |dK kvs=>obtain ⟨_,_,_,_,o,_,_,e,_⟩:=x;exact Qj e
 |dT kvs=>exact False.elim x
 |set S n=>obtain ⟨o,_,_,_,e,_⟩:=x;exact Qj e
 |ins C dx fs=>obtain ⟨_,_,_,e,_⟩:=x;exact Qj e
 |own y=>obtain ⟨_,e⟩:=x;exact Qj e
 |xd fs=>obtain ⟨_,⟨_,_,_,e,_⟩,_⟩:=x;exact Qj e
 |rng lo hi=>obtain ⟨_,_,_,e⟩:=x;exact Qj e
 |frz ob u=>obtain ⟨e,_⟩:=x;exact Qj e
 |tbl ps=>exact Qj (show h.get? a=some _ from x)
 |met f y=>exact Qj (show h.get? a=some _ from x)
 |ext φ=>obtain ⟨_,⟨_,e⟩,_⟩:=x;exact Qj e
theorem zy.stay (x:zy P w H h a o) (k:∀b u,(b=a\/H b=some (.own a))->h.get? b=some u->h'.get? b=some u)
 (ho:∀b,H b=some (.own a)->H' b=some (.own a)) (ht:∀b xs,H b=some (.tup xs)->H' b=some (.tup xs)):zy P w H' h' a o:=by
 induction o with
 |lst xs=>obtain ⟨z,its,n,r,e⟩:=x;exact ⟨z,its,n,r,k _ _ (.inl rfl) e⟩
 |tup xs=>obtain ⟨z,its,r,ob,e,c⟩:=x;exact ⟨z,its,r,ob,k _ _ (.inl rfl) e,c⟩
 |dK kvs=>obtain ⟨z,y,vs,r,ob,es,ep,e,c⟩:=x;exact ⟨z,y,vs,r,ob,es,ep,k _ _ (.inl rfl) e,c⟩
 |dT kvs=>exact False.elim x
 |set S n=>obtain ⟨ob,es,ep,t,e,c⟩:=x;exact ⟨ob,es,ep,t,k _ _ (.inl rfl) e,c⟩
 |ins C dx fs=>
  obtain ⟨d,z,ne,e,mA,⟨od,es,ep,e2,c⟩,r⟩:=x;exact ⟨ho _ d,z,ne,k _ _ (.inl rfl) e,mA,⟨od,es,ep,k _ _ (.inr d) e2,c⟩,r⟩
 |own y=>obtain ⟨ob,e⟩:=x;exact ⟨ob,k _ _ (.inl rfl) e⟩
 |xd fs=>obtain ⟨mA,⟨od,es,ep,e,c⟩,r⟩:=x;exact ⟨mA,⟨od,es,ep,k _ _ (.inl rfl) e,c⟩,r⟩
 |rng lo hi=>obtain ⟨t,u,v,e⟩:=x;exact ⟨t,u,v,k _ _ (.inl rfl) e⟩
 |frz ob u ih=>obtain ⟨e,q⟩:=x;exact ⟨k _ _ (.inl rfl) e,ih q⟩
 |tbl ps=>
  have e:h.get? a=some {cls:=.none,data:=.fields ps}:=x;show h'.get? a=some {cls:=.none,data:=.fields ps};exact k a _ (.inl rfl) e
 |met f y=>
  have e:h.get? a=some (methodObj (.ref f) (.ref y)):=x;show h'.get? a=some (methodObj (.ref f) (.ref y));exact k a _ (.inl rfl) e
 |ext φ=>obtain ⟨p,⟨o,e⟩,st⟩:=x;exact ⟨st _ _ p fun o q=>k _ _ (.inl rfl) q,⟨o,k _ _ (.inl rfl) e⟩,st⟩
theorem HOk.lt (x:HOk P w H h) (e:H a=some o):a<h.objs.size:=(x a o e).lt
theorem HOk.fresh (x:HOk P w H h) (e:h.objs.size<=a):H a=none:=by
 cases q:H a with
 |none=>rfl
 |some u=>exact absurd (Ql (x.lt q) e) (QV _)
theorem HOk.kept (x:HOk P w H h) (k:∀b u,h.get? b=some u->h'.get? b=some u):HOk P w H h':=fun a o e=>
 (x a o e).stay (fun b u _ q=>k b u q) (fun _ q=>q) fun _ _ q=>q
theorem HOk.laid (x:HOk P w H h) (k:∀b u,h.get? b=some u->h'.get? b=some u) (hp:h.objs.size<=a) (new:zy P w (upd H a o) h' a o):HOk P w (upd H a o) h':=fun b u e=>by
 have hn:=x.fresh hp;by_cases hb:b=a
 ·subst hb;rw [Zh] at e;cases e;exact new
 ·rw [Zj hb] at e;exact (x b u e).stay (fun c v _ q=>k c v q) (fun c q=>by rw [Zj (Zk q hn)];exact q) fun c xs q=>by rw [Zj (Zk q hn)];exact q
end
def Rd (H:Hp) (a:jk) (u:HO):Prop:=H a=some u\/∃o,H a=some (.frz o u)
theorem Rd.of {H:Hp} {a:jk} {u:HO} (h:H a=some u):Rd H a u:=.inl h
theorem Rd.ok {P:jw} {w:jB} {H:Hp} {h:Heap} {a:jk} {u:HO} (r:Rd H a u) (x:HOk P w H h):zy P w H h a u:=by
 rcases r with r|⟨o,r⟩
 ·exact x a u r
 ·obtain ⟨_,q⟩:=x a _ r;exact q
def Mut:Option HO->Prop
 |some (.lst _)=>True
 |some (.dK _)=>True
 |some (.dT _)=>True
 |some (.set _ _)=>True
 |some (.ins _ _ _)=>True
 |some (.ext _)=>True
 |_=>False
section
variable {P:jw} {w:jB} {H:Hp} {h h':Heap} {x e:jk} {o':HO}
theorem HOk.write (ok:HOk P w H h) (mu:Mut (H x)) (he:e=x\/H e=some (.own x)) (k:∀b u,b≠e->h.get? b=some u->h'.get? b=some u) (heo:∃u,h'.get? e=some u)
 (new:zy P w (upd H x o') h' x o'):HOk P w (upd H x o') h':=fun b u q=>by
 have nown:∀c y,H c=some (.own y)->c≠x:=fun c y r z=>by subst z;rw [r] at mu;exact mu
 have ntup:∀c xs,H c=some (.tup xs)->c≠x:=fun c xs r z=>by subst z;rw [r] at mu;exact mu
 by_cases hb:b=x
 ·subst hb;rw [Zh] at q;cases q;exact new
 ·rw [Zj hb] at q;by_cases hbe:b=e
  ·have q':H b=some (.own x):=by
    rcases he with z|z
    ·exact absurd (hbe.trans z) hb
    ·rw [hbe];exact z
   rw [q] at q';cases q';obtain ⟨v,hv⟩:=heo;exact ⟨v,by rw [hbe];exact hv⟩
  ·refine (ok b u q).stay (fun c v hc r=>k c v ?_ r) (fun c r=>by rw [Zj (nown c b r)];exact r) fun c xs r=>by rw [Zj (ntup c xs r)];exact r
   rcases hc with rfl|hc
   ·exact hbe
   ·rintro rfl;rcases he with z|z
    ·exact nown c b hc z
    ·rw [hc] at z;cases z;exact hb rfl
end
structure Un (fs ex:List jk) (H H':Hp) (h h':Heap):Prop where
 keep:∀b o,h.get? b=some o->H b=none->b∉fs->b∉ex->h'.get? b=some o
 slot:∀b o,h.get? b=some o->H b=none->b∈fs->b∉ex->∃sl,h'.get? b=some {o with slots:=sl}
 free:∀b o,h.get? b=some o->H b=none->b∉ex->H' b=none
 there:∀b o,h.get? b=some o->b∉ex->∃o',h'.get? b=some o'
 tups:∀b xs,H b=some (.tup xs)->H' b=some (.tup xs)
 frzs:∀b o u,H b=some (.frz o u)->H' b=some (.frz o u)
 tbls:∀b ps,H b=some (.tbl ps)->∃more,H' b=some (.tbl (ps++more))
section
variable {fs fs' ex ex':List jk} {H H1 H2:Hp} {h h1 h2 h':Heap} {a x e:jk} {o:HO}
theorem Un.any (u:Un fs ex H H1 h h1) {b:jk} {ob:Obj} (q:h.get? b=some ob) (n:H b=none) (hx:b∉ex):∃sl,h1.get? b=some {ob with slots:=sl}:=by
 by_cases hb:b∈fs
 ·exact u.slot b ob q n hb hx
 ·exact ⟨ob.slots,u.keep b ob q n hb hx⟩
theorem Un.kept (k:∀b u,h.get? b=some u->h'.get? b=some u):Un fs ex H H h h':=
 ⟨fun b ob q _ _ _=>k b ob q,fun b ob q _ _ _=>⟨ob.slots,k b ob q⟩,fun _ _ _ n _=>n,fun b ob q _=>⟨ob,k b ob q⟩,fun _ _ q=>q,fun _ _ _ q=>q,fun _ ps q=>⟨#[],by rw [q];simp⟩⟩
theorem Un.refl:Un fs ex H H h h:=Un.kept fun _ _ q=>q
theorem Un.laid (k:∀b u,h.get? b=some u->h'.get? b=some u) (hp:h.objs.size<=a) (hn:H a=none):Un fs ex H (upd H a o) h h' where
 keep:=fun b u q _ _ _=>k b u q
 slot:=fun b u q _ _ _=>⟨u.slots,k b u q⟩
 free:=fun b u q n _=>by rw [Zj (Qm (Ql (Qj q) hp))];exact n
 there:=fun b u q _=>⟨u,k b u q⟩
 tups:=fun b xs q=>by rw [Zj (Zk q hn)];exact q
 frzs:=fun b u xs q=>by rw [Zj (Zk q hn)];exact q
 tbls:=fun b ps q=>⟨#[],by rw [Zj (Zk q hn),q];simp⟩
theorem Un.write (mu:Mut (H x)) (he:e=x\/H e=some (.own x)) (k:∀b u,b≠e->h.get? b=some u->h'.get? b=some u) (heo:∃u,h'.get? e=some u):Un fs ex H (upd H x o) h h':=by
 have hx:∀b,H b=none->b≠x:=fun b n z=>by subst z;rw [n] at mu;exact mu
 have hb:∀b,H b=none->b≠e:=fun b n z=>by
  subst z;rcases he with r|r
  ·exact hx b n r
  ·rw [n] at r;cases r
 have hm:∀b u,H b=some u->¬Mut (some u)->b≠x:=fun b u q nm z=>by subst z;rw [q] at mu;exact nm mu
 refine ⟨fun b u q n _ _=>k b u (hb b n) q,fun b u q n _ _=>⟨u.slots,k b u (hb b n) q⟩,fun b u q n _=>by rw [Zj (hx b n)];exact n,fun b u q _=>?_,
  fun b xs q=>by rw [Zj (hm b _ q fun z=>z)];exact q,fun b u xs q=>by rw [Zj (hm b _ q fun z=>z)];exact q,fun b ps q=>⟨#[],by rw [Zj (hm b _ q fun z=>z),q];simp⟩⟩
 by_cases hbe:b=e
 ·subst hbe;exact heo
 ·exact ⟨u,k b u hbe q⟩
end
def trk (h:Heap) (H:Hp):List jk:=(Qk h.objs.size).filter fun a=>(H a).isSome
def Zf9 (h:Heap) (H:Hp):Heap:=Qau h (trk h H)
theorem ZlJ (h:Heap) (H:Hp):(Zf9 h H).objs.size=h.objs.size:=PySem.W.hideAll_size _ _
theorem ZoP {h:Heap} {H:Hp} {b:jk} {o:Obj} (e:h.get? b=some o) (n:H b=none):(Zf9 h H).get? b=some o:=
 hideAll_get _ e fun hm=>by have q:(H b).isSome=true:=(UX.mp hm).2;rw [n] at q;simp at q
theorem ZrS {h:Heap} {H:Hp} {b:jk} {o:Obj} (e:(Zf9 h H).get? b=some o):h.get? b=some o/\H b=none:=by
 have e':h.get? b=some o:=of_hideAll (trk h H) e;refine ⟨e',?_⟩
 cases q:H b with
 |none=>rfl
 |some x=>
  have hm:b∈trk h H:=UX.mpr ⟨QB.mpr (Qj e'),by simp [q]⟩;have z:(Zf9 h H).get? b=none:=PySem.W.hideAll_none (trk h H) hm;rw [z] at e;cases e
def Zq5 (g h:Heap) (L:jk):List (jk×Obj):=(Qk h.objs.size).filterMap fun a=>if a=L\/(g.get? a).isSome=true then none else (h.get? a).map fun o=>(a,o)
def J0 (g h:Heap) (L d:jk):List (jk×Obj):=(Zq5 g h L).filter fun p=>decide (p.1≠d)
structure Mod (K:Qa) (mg:Str->Option Value) (base:Heap):Prop where
 kin:K.In base
 glob:base.Ns jm mg
 blt:∃mb,base.Ns j4 mb/\∀x:Str,x≠"__name__"->mb x=jR x
 nolimit:base.NoLimit
structure Cx where
 prog:jw
 w:jB
 K:Qa
 mg:Str->Option Value
 base:Heap
 A:Around
 N:List Str
 s₀:jj
 H₀:Hp
 env:Env
 outer:List Env
 stack:List Env
 ex:List jk
 fn:Str->Bool
 calm:Bool
 pn:List (jk×Obj)
 xe:Value->jj->Prop
def frs (l:List Env):List jk:=l.filterMap (·.frame)
abbrev Cx.fs (X:Cx):List jk:=frs X.outer
def Vis (sc:Scope) (x:Str):Prop:=sc.names.lookup x=some .local\/sc.names.lookup x=some .cell\/sc.names.lookup x=some .free
def Loc (sc:Scope) (x:Str):Prop:=sc.names.lookup x=some .local\/sc.names.lookup x=some .cell
def ZDk (env:Env) (h:Heap) (m:Str->Option Value) (x:Str) (u:Value):Prop:=
 (env.kindOf x=some .local/\m x=some u)\/((env.kindOf x=some .cell\/env.kindOf x=some .free)/\∃c,env.cells.lookup x=some c/\h.IsCell c (some u))
structure Cx.Ok (X:Cx):Prop where
 mod:Mod X.K X.mg X.base
 kind:X.env.scope.kind=.function
 glob:X.env.globals=jm
 blt:X.env.builtins=j4
 above:X.s₀.heap.objs.size<=X.env.locals
 inj:∀x y c,X.env.cells.lookup x=some c->X.env.cells.lookup y=some c->x=y
 has:∀x,(X.env.kindOf x=some .cell\/X.env.kindOf x=some .free)->∃c,X.env.cells.lookup x=some c
 cab:∀x c,X.fn x=true->X.env.cells.lookup x=some c->X.s₀.heap.objs.size<=c
 hd:X.calm=true->X.A.handled=none
 frames:X.A.frames=some X.stack
 stk:X.stack=X.outer\/(X.stack=X.env::X.outer/\X.env.frame=some X.env.locals)
 exf:∀b∈X.ex,b≠X.env.locals/\∀x c,X.env.cells.lookup x=some c->c≠b
 bs:∀b o,X.base.get? b=some o->X.s₀.heap.get? b=some o/\X.H₀ b=none
 bsz:X.base.objs.size<=X.s₀.heap.objs.size
 noex:∀b o,X.base.get? b=some o->b∉X.ex
 exfs:∀b∈X.ex,b∉X.fs
 funs:X.s₀.heap.FunFrames X.base X.outer
 frf:∀b∈X.fs,X.H₀ b=none
structure Inv (X:Cx) (Zb:List (jk×Obj)) (σ:List (Option V)) (H:Hp) (s:jj):Prop where
 ok:X.Ok
 os:s.os=X.s₀.os
 bare:vq s.gens
 base:Un X.fs X.ex X.H₀ H X.s₀.heap s.heap
 loc:∃m,s.heap.Ns X.env.locals m/\∀(i:Nat) (x:Str) (v:V),X.N[i]?=some x->σ[i]?=some (some v)->Vis X.env.scope x->∃u,ZW v u/\ZDk X.env s.heap m x u
 cell:∀x c,X.env.cells.lookup x=some c->∃v,s.heap.IsCell c v
 free:H X.env.locals=none
 freeC:∀x c,X.env.cells.lookup x=some c->H c=none
 pin:∀p∈X.pn++Zb,s.heap.get? p.1=some p.2/\H p.1=none/\p.1≠X.env.locals/\p.1∉X.fs/\∀v,p.2.data≠ .cell v
 hok:HOk X.prog X.w H s.heap
 len:σ.length=X.N.length
section
variable {X:Cx} {Zb:List (jk×Obj)} {σ:List (Option V)} {H H':Hp} {s:jj} {h':Heap}
theorem Cx.Ok.nofr (ok:X.Ok) {b:jk} {o:Obj} (e:X.base.get? b=some o):b∉X.fs:=fun hb=>by have:=(ok.funs.mem hb).1;rw [e] at this;cases this
theorem Inv.bs (I:Inv X Zb σ H s):∀b o,X.base.get? b=some o->s.heap.get? b=some o/\H b=none:=fun b o e=>
 ⟨I.base.keep b o (I.ok.bs b o e).1 (I.ok.bs b o e).2 (I.ok.nofr e) (I.ok.noex b o e),I.base.free b o (I.ok.bs b o e).1 (I.ok.bs b o e).2 (I.ok.noex b o e)⟩
theorem Inv.bk (I:Inv X Zb σ H s):∀b o,X.base.get? b=some o->s.heap.get? b=some o:=fun b o e=>(I.bs b o e).1
theorem Inv.mod (I:Inv X Zb σ H s):Mod X.K X.mg X.base:=I.ok.mod
theorem Inv.kIn (I:Inv X Zb σ H s):X.K.In s.heap:=I.ok.mod.kin.keeps I.bk
theorem Inv.nolimit (I:Inv X Zb σ H s):s.heap.NoLimit:=I.ok.mod.nolimit.keeps I.bk
theorem Inv.lt (I:Inv X Zb σ H s):X.env.locals<s.heap.objs.size:=let ⟨_,hn,_⟩:=I.loc;hn.lt
theorem Inv.sz (I:Inv X Zb σ H s):X.s₀.heap.objs.size<=s.heap.objs.size:=QI I.ok.above (QQ I.lt)
theorem Inv.nofs (I:Inv X Zb σ H s) {a:jk} (h:s.heap.objs.size<=a):a∉X.fs:=fun hb=>by obtain ⟨_,o,ho,_⟩:=I.ok.funs.mem hb;exact absurd (Ql (Qj ho) (QI I.sz h)) (QV _)
theorem Inv.cne (I:Inv X Zb σ H s):∀x c,X.env.cells.lookup x=some c->c≠X.env.locals:=fun x c e z=>by obtain ⟨v,o,ho,hd⟩:=I.cell x c e;obtain ⟨m,⟨o',es,ep,ho',hd',_⟩,_⟩:=I.loc;rw [z,ho'] at ho;cases ho;rw [hd'] at hd;cases hd
theorem Inv.funs (I:Inv X Zb σ H s):s.heap.FunFrames X.base X.outer:=by
 have all:∀(l:List Env),(∀b∈frs l,b∈X.fs)->X.s₀.heap.FunFrames X.base l->s.heap.FunFrames X.base l:=by
  intro l
  induction l with
  |nil=>intro _ _;trivial
  |cons env r ih=>
   intro hs hl;obtain ⟨hk,⟨L,o,hf,hn,ho,hd⟩,hr⟩:=hl;have hL:L∈X.fs:=hs L (by unfold frs;rw [Um,hf];exact jW);obtain ⟨sl,e⟩:=I.base.slot L o ho (I.ok.frf L hL) hL fun z=>I.ok.exfs L z hL;exact ⟨hk,⟨L,_,hf,hn,e,hd⟩,ih (fun b hb=>hs b (by unfold frs;rw [Um,hf];exact jH _ hb)) hr⟩
 exact all X.outer (fun _ hb=>hb) I.ok.funs
theorem Inv.stack (I:Inv X Zb σ H s):s.heap.FunFrames X.base X.stack:=by
 rcases I.ok.stk with e|⟨e,hf⟩
 ·rw [e];exact I.funs
 ·rw [e];obtain ⟨m,hn,_⟩:=I.loc;refine .cons (by rw [I.ok.kind];decide) hf hn ?_ I.funs;exact Heap.get?_none_of_le (QI I.ok.bsz I.ok.above)
theorem Inv.stkSub (I:Inv X Zb σ H s):∀b∈frs X.stack,b∈X.env.locals::X.fs:=fun b hb=>by
 rcases I.ok.stk with e|⟨e,hf⟩
 ·rw [e] at hb;exact jH _ hb
 ·rw [e] at hb;unfold frs at hb;rw [Um,hf] at hb;exact hb
theorem Inv.stkFree (I:Inv X Zb σ H s):∀b∈frs X.stack,H b=none:=fun b hb=>by
 rcases jK.mp (I.stkSub b hb) with e|hb
 ·rw [e];exact I.free
 ·obtain ⟨_,o,ho,_⟩:=I.ok.funs.mem hb;exact I.base.free b o ho (I.ok.frf b hb) fun z=>I.ok.exfs b z hb
theorem Inv.step {g':Array Qal} {t':Nat} {d':Drawn} {ch:List jk} (I:Inv X Zb σ H s)
 (hch:∀b∈ch,(b∈X.ex\/X.s₀.heap.objs.size<=b)/\b≠X.env.locals/\(∀x c,X.env.cells.lookup x=some c->c≠b)/\∀p∈X.pn++Zb,p.1≠b)
 (keep:∀b o,b≠X.env.locals->b∉X.fs->b∉ch->s.heap.get? b=some o->H b=none->h'.get? b=some o)
 (slot:∀b o,b≠X.env.locals->b∈X.fs->b∉ch->s.heap.get? b=some o->H b=none->∃sl,h'.get? b=some {o with slots:=sl}) (free:∀b o,b∉ch->s.heap.get? b=some o->H b=none->H' b=none)
 (there:∀b o,b∉ch->s.heap.get? b=some o->∃o',h'.get? b=some o')
 (tups:∀b xs,H b=some (.tup xs)->H' b=some (.tup xs)) (frzs:∀b o u,H b=some (.frz o u)->H' b=some (.frz o u)) (tbls:∀b ps,H b=some (.tbl ps)->∃more,H' b=some (.tbl (ps++more)))
 (ns:∀m,s.heap.Ns X.env.locals m->h'.Ns X.env.locals m) (hok:HOk X.prog X.w H' h') (hg:vq g'):
 Inv X Zb σ H' {s with heap:=h',gens:=g',drawn:=d',toks:=t'}:=by
 have neL:∀b o,X.s₀.heap.get? b=some o->b≠X.env.locals:=fun b o e=>Qm (Ql (Qj e) I.ok.above)
 have neC:∀b o,X.s₀.heap.get? b=some o->b∉X.ex->b∉ch:=fun b o e hx hb=>by
  rcases (hch b hb).1 with z|z
  ·exact hx z
  ·exact absurd (Ql (Qj e) z) (QV _)
 have cellK:∀x c,X.env.cells.lookup x=some c->∀v,s.heap.IsCell c v->h'.IsCell c v:=fun x c e v ⟨o,ho,hd⟩=>by
  have nch:c∉ch:=fun z=>(hch c z).2.2.1 x c e rfl;by_cases hc:c∈X.fs
  ·obtain ⟨sl,q⟩:=slot c o (I.cne x c e) hc nch ho (I.freeC x c e);exact ⟨_,q,hd⟩
  ·exact ⟨o,keep c o (I.cne x c e) hc nch ho (I.freeC x c e),hd⟩
 refine ⟨I.ok,I.os,hg,⟨fun b o e n hb hx=>?_,fun b o e n hb hx=>?_,fun b o e n hx=>?_,fun b o e hx=>?_,fun b xs e=>tups b xs (I.base.tups b xs e),fun b o xs e=>frzs b o xs (I.base.frzs b o xs e),fun b ps e=>?_⟩,?_,fun x c e=>?_,?_,fun x c e=>?_,fun p hp=>?_,hok,I.len⟩
 ·exact keep b o (neL b o e) hb (neC b o e hx) (I.base.keep b o e n hb hx) (I.base.free b o e n hx)
 ·obtain ⟨sl,e1⟩:=I.base.slot b o e n hb hx;obtain ⟨sl',e2⟩:=slot b _ (neL b o e) hb (neC b o e hx) e1 (I.base.free b o e n hx);exact ⟨sl',e2⟩
 ·obtain ⟨o',e1⟩:=I.base.there b o e hx;exact free b o' (neC b o e hx) e1 (I.base.free b o e n hx)
 ·obtain ⟨o',e1⟩:=I.base.there b o e hx;exact there b o' (neC b o e hx) e1
 ·obtain ⟨m1,e1⟩:=I.base.tbls b ps e;obtain ⟨m2,e2⟩:=tbls b _ e1;exact ⟨m1++m2,by rw [e2,WC]⟩
 ·obtain ⟨m,hn,hl⟩:=I.loc;refine ⟨m,ns m hn,fun i x v e1 e2 e3=>?_⟩;obtain ⟨u,r,l⟩:=hl i x v e1 e2 e3;refine ⟨u,r,?_⟩;rcases l with l|⟨k,c,e,z⟩
  ·exact .inl l
  ·exact .inr ⟨k,c,e,cellK x c e _ z⟩
 ·obtain ⟨v,z⟩:=I.cell x c e;exact ⟨v,cellK x c e v z⟩
 ·obtain ⟨m,⟨o,_,_,ho,_⟩,_⟩:=I.loc;exact free _ o (fun z=>(hch _ z).2.1 rfl) ho I.free
 ·obtain ⟨v,o,ho,hd⟩:=I.cell x c e;exact free c o (fun z=>(hch c z).2.2.1 x c e rfl) ho (I.freeC x c e)
 ·obtain ⟨e,n,ne,nf,d⟩:=I.pin p hp;have nch:p.1∉ch:=fun z=>(hch p.1 z).2.2.2 p hp rfl;exact ⟨keep p.1 p.2 ne nf nch e n,free p.1 p.2 nch e n,ne,nf,d⟩
theorem Inv.un {t':Nat} (I:Inv X Zb σ H s) (u:Un X.fs [] H H' s.heap h') (hok:HOk X.prog X.w H' h'):Inv X Zb σ H' {s with heap:=h',toks:=t'}:=by
 obtain ⟨m,⟨o,es,ep,ho,r⟩,_⟩:=id I.loc;obtain ⟨sl,hL⟩:=u.any ho I.free (by simp)
 exact I.step (g':=s.gens) (d':=s.drawn) (ch:=[]) (fun _ z=>nomatch z) (fun b o _ hb _ e n=>u.keep b o e n hb (by simp)) (fun b o _ hb _ e n=>u.slot b o e n hb (by simp)) (fun b o _ e n=>u.free b o e n (by simp)) (fun b o _ e=>u.there b o e (by simp)) u.tups u.frzs u.tbls (fun m' hm=>by
  obtain ⟨o',es',ep',ho',r'⟩:=hm;rw [ho] at ho';cases ho';exact ⟨_,es',ep',hL,r'⟩) hok I.bare
theorem Inv.call {g':Array Qal} {t':Nat} {d':Drawn} {ch:List jk} (I:Inv X Zb σ H s) (u:Un (frs X.stack) ch H H' s.heap h') (hok:HOk X.prog X.w H' h') (hg:vq g')
 (hch:∀b∈ch,(b∈X.ex\/X.s₀.heap.objs.size<=b)/\b≠X.env.locals/\(∀x c,X.env.cells.lookup x=some c->c≠b)/\∀p∈X.pn++Zb,p.1≠b):
 Inv X Zb σ H' {s with heap:=h',gens:=g',drawn:=d',toks:=t'}:=by
 obtain ⟨m,⟨o,es,ep,ho,r⟩,_⟩:=id I.loc;obtain ⟨sl,hL⟩:=u.any ho I.free fun z=>(hch _ z).2.1 rfl
 exact I.step (ch:=ch) hch (fun b o hL hb hc e n=>u.keep b o e n (fun z=>(jK.mp (I.stkSub b z)).elim hL hb) hc) (fun b o _ _ hc e n=>u.any e n hc) (fun b o hc e n=>u.free b o e n hc) (fun b o hc e=>u.there b o e hc) u.tups u.frzs u.tbls (fun m' hm=>by
  obtain ⟨o',es',ep',ho',r'⟩:=hm;rw [ho] at ho';cases ho';exact ⟨_,es',ep',hL,r'⟩) hok hg
theorem Inv.turned {t':Nat} {it:jk} (I:Inv X Zb σ H s) (k:∀b o,b≠it->s.heap.get? b=some o->h'.get? b=some o) (hn:H it=none) (hL:it≠X.env.locals)
 (h1:it∈X.ex\/X.s₀.heap.objs.size<=it) (h2:∀x c,X.env.cells.lookup x=some c->c≠it) (h3:∀p∈X.pn++Zb,p.1≠it):Inv X Zb σ H {s with heap:=h',toks:=t'}:=by
 have nit:∀b u,H b=some u->b≠it:=fun b u e z=>by rw [z,hn] at e;cases e
 refine I.step (g':=s.gens) (d':=s.drawn) (ch:=[it]) (fun b hb=>?_) (fun b o _ _ hc e _=>k b o (fun z=>hc (by simp [z])) e) (fun b o _ _ hc e _=>⟨o.slots,k b o (fun z=>hc (by simp [z])) e⟩) (fun _ _ _ _ n=>n)
  (fun b o hc e=>⟨o,k b o (fun z=>hc (by simp [z])) e⟩) (fun _ _ e=>e) (fun _ _ _ e=>e) (fun b ps e=>⟨#[],by rw [e];simp⟩) (fun m hm=>?_) (fun b u e=>?_) I.bare
 ·have e:b=it:=by simpa using hb
  subst e;exact ⟨h1,hL,h2,h3⟩
 ·obtain ⟨o,es,ep,ho,r⟩:=hm;exact ⟨o,es,ep,k _ o (Ne.symm hL) ho,r⟩
 ·refine (I.hok b u e).stay (fun c v hc q=>k c v ?_ q) (fun _ q=>q) fun _ _ q=>q;rcases hc with z|z
  ·rw [z];exact nit b u e
  ·exact nit c _ z
theorem Inv.tok (I:Inv X Zb σ H s) (t:Nat):Inv X Zb σ H {s with toks:=t}:=I.un (h':=s.heap) (t':=t) Un.refl I.hok
theorem Inv.kept {t':Nat} (I:Inv X Zb σ H s) (k:∀b u,s.heap.get? b=some u->h'.get? b=some u):Inv X Zb σ H {s with heap:=h',toks:=t'}:=I.un (Un.kept k) (I.hok.kept k)
theorem Inv.laid {a:jk} {o:HO} {t':Nat} (I:Inv X Zb σ H s) (k:∀b u,s.heap.get? b=some u->h'.get? b=some u) (hp:s.heap.objs.size<=a) (new:zy X.prog X.w (upd H a o) h' a o):
 Inv X Zb σ (upd H a o) {s with heap:=h',toks:=t'}:=I.un (Un.laid k hp (I.hok.fresh hp)) (I.hok.laid k hp new)
theorem Inv.write {x e:jk} {o:HO} {t':Nat} (I:Inv X Zb σ H s) (mu:Mut (H x)) (he:e=x\/H e=some (.own x)) (k:∀b u,b≠e->s.heap.get? b=some u->h'.get? b=some u) (heo:∃u,h'.get? e=some u)
 (new:zy X.prog X.w (upd H x o) h' x o):Inv X Zb σ (upd H x o) {s with heap:=h',toks:=t'}:=I.un (Un.write mu he k heo) (I.hok.write mu he k heo new)
theorem Inv.weak {σ':List (Option V)} (I:Inv X Zb σ H s) (hl:σ'.length=σ.length) (w:∀(i:Nat) v,σ'[i]?=some (some v)->σ[i]?=some (some v)):Inv X Zb σ' H s:=
 ⟨I.ok,I.os,I.bare,I.base,let ⟨m,hn,hl'⟩:=I.loc;⟨m,hn,fun i x v e1 e2 e3=>hl' i x v e1 (w i v e2) e3⟩,I.cell,I.free,I.freeC,I.pin,I.hok,hl.trans I.len⟩
theorem Inv.pins_of {pins':List (jk×Obj)} (I:Inv X Zb σ H s) (h:∀p∈pins',s.heap.get? p.1=some p.2/\H p.1=none/\p.1≠X.env.locals/\p.1∉X.fs/\∀v,p.2.data≠ .cell v):Inv X pins' σ H s:=
 ⟨I.ok,I.os,I.bare,I.base,I.loc,I.cell,I.free,I.freeC,fun p hp=>(jL.mp hp).elim (fun z=>I.pin p (uk _ z)) (h p),I.hok,I.len⟩
theorem ZfA {N:List Str} (hN:N.Nodup) {i j:Nat} {x:Str} (a:N[i]?=some x) (b:N[j]?=some x):i=j:=by obtain ⟨h1,e1⟩:=Qo.mp a;obtain ⟨h2,e2⟩:=Qo.mp b;exact (WN hN).mp (e1.trans e2.symm)
theorem Zmm {M:uL} {A:Around} {E:Value->jj->Prop} {i:Nat} {x:Str} {v:V} {u:Value} {Q:Unit->jj->Prop} (I:Inv X Zb σ H s) (hN:X.N.Nodup) (hi:X.N[i]?=some x) (hx:Loc X.env.scope x) (r:ZW v u)
 (h:∀s',Inv X Zb (σ.set i (some v)) H s'->(∃a,Heap.SameBut a s.heap s'.heap/\(a=X.env.locals\/X.env.cells.lookup x=some a))->Q () s') (hf:X.fn x=true\/X.env.scope.names.lookup x=some .local:=by first|exact .inl rfl|exact .inr rfl|assumption):jo M A (storeName X.env x u) Q E s:=by
 obtain ⟨m,hn,hl⟩:=id I.loc;have hcls:(X.env.scope.kind==.class || (X.env.scope.kind==.module && X.env.locals !=X.env.globals))=false:=by rw [I.ok.kind];rfl
 have hiσ:i<σ.length:=by rw [I.len];exact (Qo.mp hi).1
 have cne:=I.cne
 have tracked:∀{a:jk} {h':Heap},(∃o,s.heap.get? a=some o/\H a=none)->Heap.SameBut a s.heap h'->HOk X.prog X.w H h':=fun {a h'} ha hs b ob e=>by
  obtain ⟨_,_,hfree⟩:=ha;refine (I.hok b ob e).stay (fun c w' hc q=>(hs.2 c ?_).trans q) (fun _ q=>q) fun _ _ q=>q;rintro rfl;rcases hc with rfl|hc
  ·rw [hfree] at e;cases e
  ·rw [hfree] at hc;cases hc
 rcases hx with hk|hk
 ·refine wpAny_storeName_local hk hn (fun h' hn' hs=>?_) hcls;obtain ⟨oL,_,_,hoL,_⟩:=id hn;refine h _ ⟨I.ok,I.os,I.bare,⟨fun b o e n hb hx=>?_,fun b o e n hb hx=>?_,I.base.free,fun b o e hx=>?_,I.base.tups,I.base.frzs,I.base.tbls⟩,⟨_,hn',fun j y v' e1 e2 e3=>?_⟩,fun y c e=>?_,I.free,I.freeC,fun p hp=>?_,tracked ⟨oL,hoL,I.free⟩ hs,by simpa using I.len⟩ ⟨_,hs,.inl rfl⟩
  ·exact (hs.2 b (Qm (Ql (Qj e) I.ok.above))).trans (I.base.keep b o e n hb hx)
  ·obtain ⟨sl,e1⟩:=I.base.slot b o e n hb hx;exact ⟨sl,(hs.2 b (Qm (Ql (Qj e) I.ok.above))).trans e1⟩
  ·obtain ⟨o',e1⟩:=I.base.there b o e hx;exact ⟨o',(hs.2 b (Qm (Ql (Qj e) I.ok.above))).trans e1⟩
  ·by_cases hj:j=i
   ·subst hj;rw [hi] at e1;cases e1;rw [Vg hiσ] at e2;cases e2;exact ⟨u,r,.inl ⟨hk,by simp⟩⟩
   ·rw [Ui (Ne.symm hj)] at e2;obtain ⟨u',r',q⟩:=hl j y v' e1 e2 e3;refine ⟨u',r',?_⟩;rcases q with ⟨k,e⟩|⟨k,c,e,z⟩
    ·refine .inl ⟨k,?_⟩;have:y≠x:=fun e=>hj (ZfA hN e1 (e▸hi));simp [this,e]
    ·exact .inr ⟨k,c,e,z.sameBut hs (cne y c e)⟩
  ·obtain ⟨w',z⟩:=I.cell y c e;exact ⟨w',z.sameBut hs (cne y c e)⟩
  ·obtain ⟨e,n,ne,nf,d⟩:=I.pin p hp;exact ⟨(hs.2 p.1 ne).trans e,n,ne,nf,d⟩
 ·have hfn:X.fn x=true:=by
   rcases hf with z|z
   ·exact z
   ·rw [z] at hk;cases hk
  obtain ⟨c,hc⟩:=I.ok.has x (.inl hk);obtain ⟨w',z⟩:=I.cell x c hc;refine wpAny_storeName_cell I.ok.kind hk hc z (fun h' hc' hs=>?_);obtain ⟨oc,hoc,hocd⟩:=id z;refine h {s with heap:=h'} ⟨I.ok,I.os,I.bare,⟨fun b o e n hb hx=>?_,fun b o e n hb hx=>?_,I.base.free,fun b o e hx=>?_,I.base.tups,I.base.frzs,I.base.tbls⟩,⟨m,hn.sameBut hs (Ne.symm (cne x c hc)),fun j y v' e1 e2 e3=>?_⟩,fun y c' e=>?_,I.free,I.freeC,fun p hp=>?_,tracked ⟨oc,hoc,I.freeC x c hc⟩ hs,by simpa using I.len⟩ ⟨c,hs,.inr hc⟩
  ·exact (hs.2 b (Qm (Ql (Qj e) (I.ok.cab x c hfn hc)))).trans (I.base.keep b o e n hb hx)
  ·obtain ⟨sl,e1⟩:=I.base.slot b o e n hb hx;exact ⟨sl,(hs.2 b (Qm (Ql (Qj e) (I.ok.cab x c hfn hc)))).trans e1⟩
  ·obtain ⟨o',e1⟩:=I.base.there b o e hx;exact ⟨o',(hs.2 b (Qm (Ql (Qj e) (I.ok.cab x c hfn hc)))).trans e1⟩
  ·by_cases hj:j=i
   ·subst hj;rw [hi] at e1;cases e1;rw [Vg hiσ] at e2;cases e2;exact ⟨u,r,.inr ⟨.inl hk,c,hc,hc'⟩⟩
   ·rw [Ui (Ne.symm hj)] at e2;obtain ⟨u',r',q⟩:=hl j y v' e1 e2 e3;refine ⟨u',r',?_⟩;rcases q with q|⟨k,c',e,z'⟩
    ·exact .inl q
    ·refine .inr ⟨k,c',e,z'.sameBut hs ?_⟩;rintro rfl;exact hj (ZfA hN e1 (I.ok.inj _ _ _ e hc▸hi))
  ·by_cases hcc:c'=c
   ·subst hcc;exact ⟨_,hc'⟩
   ·obtain ⟨w2,z2⟩:=I.cell y c' e;exact ⟨w2,z2.sameBut hs hcc⟩
  ·obtain ⟨e,n,ne,nf,d⟩:=I.pin p hp;refine ⟨(hs.2 p.1 ?_).trans e,n,ne,nf,d⟩;intro q;rw [q,hoc] at e;have q':oc=p.2:=Option.some.inj e;exact d w' (by rw [<-q'];exact hocd)
theorem Zcm {M:uL} {A:Around} {E:Value->jj->Prop} {i:Nat} {x:Str} {v:V} {u:Value} {Q:Unit->jj->Prop} (I:Inv X Zb σ H s) (hN:X.N.Nodup) (hi:X.N[i]?=some x) (hx:Loc X.env.scope x) (r:ZW v u)
 (h:∀s',Inv X Zb (σ.set i (some v)) H s'->Q () s') (hf:X.fn x=true\/X.env.scope.names.lookup x=some .local:=by first|exact .inl rfl|exact .inr rfl|assumption):jo M A (storeName X.env x u) Q E s:=
 Zmm I hN hi hx r (fun s' I' _=>h s' I') hf
theorem Inv.call' {s':jj} {ch:List jk} (I:Inv X Zb σ H s) (ho:s'.os=s.os) (u:Un (frs X.stack) ch H H' s.heap s'.heap) (hok:HOk X.prog X.w H' s'.heap) (hg:vq s'.gens)
 (hch:∀b∈ch,(b∈X.ex\/X.s₀.heap.objs.size<=b)/\b≠X.env.locals/\(∀x c,X.env.cells.lookup x=some c->c≠b)/\∀p∈X.pn++Zb,p.1≠b):Inv X Zb σ H' s':=by
 obtain ⟨h',g',d',t',o'⟩:=s';have e:o'=s.os:=ho;subst e;exact I.call (g':=g') (t':=t') (d':=d') u hok hg hch
end
abbrev XK:=Value->Option jk->Hp->Prop
abbrev St:=List (Option V)
abbrev VK:=V->Hp->Prop
abbrev TE:=St->Hp->VK->Prop
abbrev TT:=St->Hp->(Bool->Hp->Prop)->Prop
abbrev TA:=St->Hp->(List V->Hp->Prop)->Prop
structure ZbL where
 nx:St->Hp->Prop
 rt:VK
 bk:St->Hp->Prop:=fun _ _=>False
 ct:St->Hp->Prop:=fun _ _=>False
abbrev TS:=ZbL->St->Hp->Prop
def EP (X:Cx) (Zb:List (jk×Obj)) (σ:St) (Q:VK) (u:Value) (s':jj):Prop:=∃v H',Inv X Zb σ H' s'/\ZW v u/\Q v H'
def TP (X:Cx) (Zb:List (jk×Obj)) (σ:St) (Q:Bool->Hp->Prop) (b:Bool) (s':jj):Prop:=∃H',Inv X Zb σ H' s'/\Q b H'
def AP (X:Cx) (Zb:List (jk×Obj)) (σ:St) (Q:List V->Hp->Prop) (us:List Value) (s':jj):Prop:=∃vs H',Inv X Zb σ H' s'/\ZE vs us/\Q vs H'
def SP (X:Cx) (Zb:List (jk×Obj)) (D:ZbL) (f:Flow) (s':jj):Prop:=
 match f with
 | .next=>∃σ' H',Inv X Zb σ' H' s'/\D.nx σ' H'
 | .brk=>∃σ' H',Inv X Zb σ' H' s'/\D.bk σ' H'
 | .cont=>∃σ' H',Inv X Zb σ' H' s'/\D.ct σ' H'
 | .ret u=>∃v σ' H',Inv X Zb σ' H' s'/\ZW v u/\D.rt v H'
def PE (X:Cx) (e:jF) (t:TE):Prop:=
 ∀(Zb:List (jk×Obj)) (s:jj) (σ:St) (H:Hp) (Q:VK),Inv X Zb σ H s->t σ H Q->jo (jr X.prog X.w) X.A (eval e X.env) (EP X Zb σ Q) X.xe s
def PT (X:Cx) (e:jF) (t:TT):Prop:=
 ∀(Zb:List (jk×Obj)) (s:jj) (σ:St) (H:Hp) (Q:Bool->Hp->Prop),Inv X Zb σ H s->t σ H Q->jo (jr X.prog X.w) X.A (isTrue e X.env (eval e X.env)) (TP X Zb σ Q) X.xe s
def PW (X:Cx) (e:jF) (t:TT):Prop:=
 ∀(whole:Sem Value) (Zb:List (jk×Obj)) (s:jj) (σ:St) (H:Hp) (Q:Bool->Hp->Prop),Inv X Zb σ H s->t σ H Q->jo (jr X.prog X.w) X.A (isTrue e X.env whole) (TP X Zb σ Q) X.xe s
theorem PW.pt {X:Cx} {e:jF} {t:TT} (h:PW X e t):PT X e t:=h _
def PA (X:Cx) (es:List jF) (t:TA):Prop:=
 ∀(pos:Pos) (Zb:List (jk×Obj)) (s:jj) (σ:St) (H:Hp) (Q:List V->Hp->Prop),Inv X Zb σ H s->t σ H Q->jo (jr X.prog X.w) X.A (spliced (uu pos (jx es X.env))) (AP X Zb σ Q) X.xe s
def PS (X:Cx) (st:Stmt) (t:TS):Prop:=
 ∀(Zb:List (jk×Obj)) (s:jj) (σ:St) (H:Hp) (D:ZbL),Inv X Zb σ H s->t D σ H->jo (jr X.prog X.w) X.A (exec st X.env) (SP X Zb D) X.xe s
def PSs (X:Cx) (st:List Stmt) (t:TS):Prop:=
 ∀(Zb:List (jk×Obj)) (s:jj) (σ:St) (H:Hp) (D:ZbL),Inv X Zb σ H s->t D σ H->jo (jr X.prog X.w) X.A (execs st X.env) (SP X Zb D) X.xe s
theorem thn {α:Type} {t:Sem α} {Q Q':α->jj->Prop} {M:uL} {A:Around} {E:Value->jj->Prop} {s:jj} (h:jo M A t Q E s) (hQ:∀a s,Q a s->Q' a s):jo M A t Q' E s:=jU h hQ fun _ _ x=>x
section
variable {X:Cx}
def ZDg (i:Nat):TE:=fun σ H Q=>∃v,σ[i]?=some (some v)/\Q v H
def tC (v:V):TE:=fun _ H Q=>Q v H
theorem ZyI {i:Nat} {x:Str} {pos:Pos} (hN:X.N[i]?=some x) (hv:Vis X.env.scope x) (hd:(x==("__debug__":Str))=false:=by decide) (hcd:(x==("__classdict__":Str))=false:=by decide):PE X (.Name x pos) (ZDg i):=by
 intro Zb s σ H Q I h;obtain ⟨v,e,h⟩:=h;obtain ⟨m,hn,hl⟩:=I.loc;obtain ⟨u,r,l⟩:=hl i x v hN e hv;have fin:EP X Zb σ Q u s:=⟨v,H,I,r,h⟩;rcases l with ⟨hk,hm⟩|⟨hk,c,hc,hcell⟩
 ·exact wpAny_Name (wpAny_loadName_local I.ok.kind hk hn hm fin) hd
 ·rcases hk with hk|hk
  ·exact wpAny_Name (wpAny_loadName_cell I.ok.kind hk hc hcell fin) hd
  ·exact wpAny_Name (wpAny_loadName_free I.ok.kind hk hc hcell fin hcd) hd
theorem Zm {i j pos}:PE X (.Constant (.int i) j pos) (tC (.int i)):=fun _ _ _ H _ I h=>wpAny_Constant_int ⟨.int i,H,I.tok _,⟨_,rfl⟩,h⟩
theorem ZiE {b j pos}:PE X (.Constant (.bool b) j pos) (tC (.bl b)):=fun _ _ _ H _ I h=>Constant_bool ⟨.bl b,H,I,rfl,h⟩
theorem ZjD {j pos}:PE X (.Constant .none j pos) (tC .non):=fun _ _ _ H _ I h=>Constant_none ⟨.non,H,I,rfl,h⟩
theorem Zn {x j pos}:PE X (.Constant (.str x) j pos) (tC (.str x)):=fun _ _ _ H _ I h=>Calls.Constant_str ⟨.str x,H,I.tok _,⟨_,rfl⟩,h⟩
def Gl (X:Cx) (x:Str):Prop:=X.env.kindOf x=some .globalImplicit
theorem Zap {E:Value->jj->Prop} {Zb:List (jk×Obj)} {s:jj} {σ:St} {H:Hp} {x:Str} {u:Value} {pos:Pos} {Q:Value->jj->Prop} (I:Inv X Zb σ H s) (hg:Gl X x) (hm:X.mg x=some u) (h:Q u s)
 (hd:(x==("__debug__":Str))=false:=by decide):jo (jr X.prog X.w) X.A (eval (.Name x pos) X.env) Q E s:=
 Calls.Name_function_global I.ok.kind hg (Calls.loadGlobal_global (by rw [I.ok.glob];exact I.mod.glob.keeps I.bk) hm h) hd
theorem Zbr {E:Value->jj->Prop} {Zb:List (jk×Obj)} {s:jj} {σ:St} {H:Hp} {x:Str} {u:Value} {pos:Pos} {Q:Value->jj->Prop} (I:Inv X Zb σ H s) (hg:Gl X x) (hm:X.mg x=none) (hv:jR x=some u) (h:Q u s)
 (hn:x≠"__name__":=by decide) (hd:(x==("__debug__":Str))=false:=by decide):jo (jr X.prog X.w) X.A (eval (.Name x pos) X.env) Q E s:=by
 obtain ⟨mb,h1,h2⟩:=I.mod.blt;exact Calls.Name_function_global I.ok.kind hg (Calls.loadGlobal_builtin (by rw [I.ok.glob];exact I.mod.glob.keeps I.bk) hm (by rw [I.ok.blt];exact h1.keeps I.bk) ((h2 x hn).trans hv) h) hd
theorem YN {x:Str} {v:V} {u:Value} {pos:Pos} (hg:Gl X x) (hm:X.mg x=some u) (r:ZW v u) (hd:(x==("__debug__":Str))=false:=by decide):PE X (.Name x pos) (tC v):=
 fun _ _ _ H _ I h=>Zap I hg hm ⟨v,H,I,r,h⟩ hd
theorem Zk7 {x:Str} {v:V} {u:Value} {pos:Pos} (hg:Gl X x) (hm:X.mg x=none) (hv:jR x=some u) (r:ZW v u) (hn:x≠"__name__":=by decide) (hd:(x==("__debug__":Str))=false:=by decide):PE X (.Name x pos) (tC v):=
 fun _ _ _ H _ I h=>Zbr I hg hm hv ⟨v,H,I,r,h⟩ hn hd
variable {a b:jF} {ta tb:TE} {pos:Pos}
def PC (X:Cx) (op:CmpOp) (a b:jF) (t:TE):Prop:=
 ∀(Zb:List (jk×Obj)) (s:jj) (σ:St) (H:Hp) (Q:VK),Inv X Zb σ H s->t σ H Q->
  jo (jr X.prog X.w) X.A (eval a X.env) (fun v s₁=>jo (jr X.prog X.w) X.A (eval b X.env) (fun u s₂=>jo (jr X.prog X.w) X.A (jX op v u) (EP X Zb σ Q) X.xe s₂) X.xe s₁) X.xe s
def tB (t:TE):TT:=fun σ H Q=>t σ H fun x H1=>∃c,x=.bl c/\Q c H1
theorem ZyB {op:CmpOp} {t:TE} (h:PC X op a b t) (h1:uY op b=false:=by first|exact nobehind _ (by decide) (by decide)|rfl):PE X (.Compare a [op] [b] pos) t:=fun Zb s σ H Q I hw=>wpAny_Compare1 (h Zb s σ H Q I hw) h1
theorem Zcj {op:CmpOp} {t:TE} (h:PC X op a b t) (h1:uY op b=false:=by first|exact nobehind _ (by decide) (by decide)|rfl):PT X (.Compare a [op] [b] pos) (tB t):=by intro Zb s σ H Q I hw;refine wpAny_isTrue_Compare1 (thn (h Zb s σ H _ I hw) fun v s1 h1=>thn h1 fun u s2 h2=>thn h2 fun c s3 ⟨x,H1,I1,r1,q1⟩=>?_) h1;obtain ⟨d,rfl,q⟩:=q1;cases r1;exact uS ⟨H1,I1,q⟩
variable {tA tB':TT} {J0:List jF}
def ZAd (t u:TT):TT:=fun σ H Q=>t σ H fun c H1=>if c=true then u σ H1 Q else Q false H1
def tOr (t u:TT):TT:=fun σ H Q=>t σ H fun c H1=>if c=true then Q true H1 else u σ H1 Q
def ZAg (t:TT):TT:=fun σ H Q=>t σ H fun c H1=>Q (!c) H1
theorem ZeX (ha:PT X a tA):PW X (.BoolOp .And [a] pos) tA:=by
 intro wh Zb s σ H Q I h;refine isTrue_and (thn (ha Zb s σ H Q I h) fun c s1 e=>?_)
 cases c with
 |true=>exact isTrue_and_nil e
 |false=>exact e
theorem ZjH (ha:PT X a tA):PW X (.BoolOp .Or [a] pos) tA:=by
 intro wh Zb s σ H Q I h;refine isTrue_or (thn (ha Zb s σ H Q I h) fun c s1 e=>?_)
 cases c with
 |false=>exact isTrue_or_nil e
 |true=>exact e
theorem ZfL (ha:PT X a tA) (hb:PW X (.BoolOp .And (b::J0) pos) tB'):PW X (.BoolOp .And (a::b::J0) pos) (ZAd tA tB'):=by
 intro wh Zb s σ H Q I h;refine isTrue_and (thn (ha Zb s σ H _ I h) fun c s1 ⟨H1,I1,q1⟩=>?_)
 cases c with
 |true=>exact hb wh Zb s1 σ H1 Q I1 q1
 |false=>exact ⟨H1,I1,q1⟩
theorem Zld (ha:PT X a tA) (hb:PW X (.BoolOp .Or (b::J0) pos) tB'):PW X (.BoolOp .Or (a::b::J0) pos) (tOr tA tB'):=by
 intro wh Zb s σ H Q I h;refine isTrue_or (thn (ha Zb s σ H _ I h) fun c s1 ⟨H1,I1,q1⟩=>?_)
 cases c with
 |true=>exact ⟨H1,I1,q1⟩
 |false=>exact hb wh Zb s1 σ H1 Q I1 q1
theorem Zek (ha:PT X a tA):PT X (.UnaryOp .Not a pos) (ZAg tA):=by intro Zb s σ H Q I h;exact isTrue_not (ha Zb s σ H (fun c H1=>Q (!c) H1) I h)
def ZC8 (ta tb:TE):TE:=fun σ H Q=>ta σ H fun x H1=>∃c,x=.bl c/\if c=true then tb σ H1 Q else Q (.bl false) H1
def ZDS (ta tb:TE):TE:=fun σ H Q=>ta σ H fun x H1=>∃c,x=.bl c/\if c=true then Q (.bl true) H1 else tb σ H1 Q
theorem Zhp {op} {t:TE} (h:PE X a t):PE X (.BoolOp op [a] pos) t:=fun Zb s σ H Q I hw=>BoolOp_one (h Zb s σ H Q I hw)
theorem ZyA (ha:PE X a ta) (hb:PE X (.BoolOp .And (b::J0) pos) tb):PE X (.BoolOp .And (a::b::J0) pos) (ZC8 ta tb):=by
 intro Zb s σ H Q I h;refine BoolOp_and (thn (ha Zb s σ H _ I h) fun v s1 ⟨x,H1,I1,r1,q1⟩=>?_);obtain ⟨c,rfl,q1⟩:=q1;cases r1;refine uS ?_
 cases c with
 |true=>exact hb Zb s1 σ H1 Q I1 q1
 |false=>exact ⟨.bl false,H1,I1,rfl,q1⟩
theorem ZCJ (ha:PE X a ta) (hb:PE X (.BoolOp .Or (b::J0) pos) tb):PE X (.BoolOp .Or (a::b::J0) pos) (ZDS ta tb):=by
 intro Zb s σ H Q I h;refine BoolOp_or (thn (ha Zb s σ H _ I h) fun v s1 ⟨x,H1,I1,r1,q1⟩=>?_);obtain ⟨c,rfl,q1⟩:=q1;cases r1;refine uS ?_
 cases c with
 |false=>exact hb Zb s1 σ H1 Q I1 q1
 |true=>exact ⟨.bl true,H1,I1,rfl,q1⟩
end
def SqL (K:Qa) (H:Hp) (a:jk) (xs:List V):Prop:=
 Rd H a (.lst xs)\/
  ∃(o:Obj) (its:Array Value) (n:Nat),K.lookup a=some o/\o.cls=.type "list"/\o.dict=none/\o.data=.seq its n/\its.size<=sizeLine/\ZE xs its.toList
def SqT (K:Qa) (H:Hp) (a:jk) (xs:List V):Prop:=
 Rd H a (.tup xs)\/
  ∃(o:Obj) (its:Array Value) (n:Nat),K.lookup a=some o/\o.cls=.type "tuple"/\o.data=.seq its n/\its.size<=sizeLine/\ZE xs its.toList
def ZDn:Value->Option V
 | .none=>some .non
 | .bool b=>some (.bl b)
 | .int i _=>some (.int i)
 | .str x _=>some (.str x)
 | .bytes b _=>some (.byt b)
 | .float b _=>some (.flt b)
 | .ref a=>some (.ref a)
 | .type n=>some (.ty n)
 |_=>none
theorem ZW.abs {x:V} {u:Value} (r:ZW x u):ZDn u=some x:=by
 cases x with
 |non=>cases r;rfl
 |bl _=>cases r;rfl
 |int _=>obtain ⟨t,rfl⟩:=r;rfl
 |str _=>obtain ⟨t,rfl⟩:=r;rfl
 |byt _=>obtain ⟨t,rfl⟩:=r;rfl
 |flt _=>obtain ⟨t,rfl⟩:=r;rfl
 |ref _=>cases r;rfl
 |ty _=>cases r;rfl
theorem ZW.inj {x y:V} {u:Value} (r:ZW x u) (q:ZW y u):x=y:=Option.some.inj (r.abs.symm.trans q.abs)
theorem ZE.inj:∀{xs ys:List V} {us:List Value},ZE xs us->ZE ys us->xs=ys
 |_,_,_,.nil,.nil=>rfl
 |_,_,_,.cons r t,.cons r' t'=>by rw [r.inj r',ZE.inj t t']
section
variable {X:Cx} {Zb:List (jk×Obj)} {σ:St} {H:Hp} {s:jj} {a:jk} {xs ys:List V}
theorem SqL.of {K:Qa} (h:H a=some (.lst xs)):SqL K H a xs:=.inl (.inl h)
theorem SqT.of {K:Qa} (h:H a=some (.tup xs)):SqT K H a xs:=.inl (.inl h)
theorem Inv.list (I:Inv X Zb σ H s) (h:SqL X.K H a xs):∃its:List Value,ZE xs its/\PlainL s.heap a its.toArray/\xs.length<=sizeLine:=by
 rcases h with h|⟨o,its,n,hk,hc,hd,hs,hz,r⟩
 ·obtain ⟨z,its,n,r,e⟩:=h.ok I.hok;exact ⟨its,r,⟨_,n,e,rfl,rfl,rfl⟩,z⟩
 ·refine ⟨its.toList,r,⟨o,n,I.kIn a o hk,hc,hd,by simpa using hs⟩,?_⟩;have e:=r.length;simp only [Qp] at e;omega
theorem Inv.tuple (I:Inv X Zb σ H s) (h:SqT X.K H a xs):∃its:List Value,ZE xs its/\IsTup s.heap a its.toArray/\xs.length<=sizeLine:=by
 rcases h with h|⟨o,its,n,hk,hc,hs,hz,r⟩
 ·obtain ⟨z,its,r,p⟩:=h.ok I.hok;exact ⟨its,r,p,z⟩
 ·refine ⟨its.toList,r,⟨o,I.kIn a o hk,hc,n,by simpa using hs⟩,?_⟩;have e:=r.length;simp only [Qp] at e;omega
theorem Inv.list_inj (I:Inv X Zb σ H s) (h:SqL X.K H a xs) (h':SqL X.K H a ys):xs=ys:=by
 obtain ⟨its,r,⟨o,n,e,_,_,d⟩,_⟩:=I.list h;obtain ⟨its',r',⟨o',n',e',_,_,d'⟩,_⟩:=I.list h';rw [e] at e';cases e';rw [d] at d';injection d' with d1 _;have:its=its':=by simpa using congrArg Wg d1
 subst this;exact r.inj r'
theorem Inv.tuple_inj (I:Inv X Zb σ H s) (h:SqT X.K H a xs) (h':SqT X.K H a ys):xs=ys:=by
 obtain ⟨its,r,⟨o,e,_,n,d⟩,_⟩:=I.tuple h;obtain ⟨its',r',⟨o',e',_,n',d'⟩,_⟩:=I.tuple h';rw [e] at e';cases e';rw [d] at d';injection d' with d1 _;have:its=its':=by simpa using congrArg Wg d1
 subst this;exact r.inj r'
end
abbrev Cx.wish (X:Cx) (E:Value->jj->Prop):Cx:= {X with xe:=E}
abbrev Cx.nox (X:Cx):Cx:=X.wish fun _ _=>False
theorem Cx.Ok.wish {X:Cx} (ok:X.Ok) (E:Value->jj->Prop):(X.wish E).Ok:=
 ⟨ok.mod,ok.kind,ok.glob,ok.blt,ok.above,ok.inj,ok.has,ok.cab,ok.hd,ok.frames,ok.stk,ok.exf,ok.bs,ok.bsz,ok.noex,ok.exfs,ok.funs,ok.frf⟩
theorem Cx.Ok.unwish {X:Cx} {E:Value->jj->Prop} (ok:(X.wish E).Ok):X.Ok:=
 ⟨ok.mod,ok.kind,ok.glob,ok.blt,ok.above,ok.inj,ok.has,ok.cab,ok.hd,ok.frames,ok.stk,ok.exf,ok.bs,ok.bsz,ok.noex,ok.exfs,ok.funs,ok.frf⟩
section
variable {X:Cx} {Zb:List (jk×Obj)} {σ:St} {H:Hp} {s:jj} {E:Value->jj->Prop}
theorem Inv.wish (I:Inv X Zb σ H s) (E:Value->jj->Prop):Inv (X.wish E) Zb σ H s:=⟨I.ok.wish E,I.os,I.bare,I.base,I.loc,I.cell,I.free,I.freeC,I.pin,I.hok,I.len⟩
theorem Inv.unwish (I:Inv (X.wish E) Zb σ H s):Inv X Zb σ H s:=⟨I.ok.unwish,I.os,I.bare,I.base,I.loc,I.cell,I.free,I.freeC,I.pin,I.hok,I.len⟩
theorem SP.unwish {D:ZbL} {f:Flow} {s':jj} (h:SP (X.wish E) Zb D f s'):SP X Zb D f s':=by
 cases f with
 |next=>obtain ⟨σ',H',I,q⟩:=h;exact ⟨σ',H',I.unwish,q⟩
 |brk=>obtain ⟨σ',H',I,q⟩:=h;exact ⟨σ',H',I.unwish,q⟩
 |cont=>obtain ⟨σ',H',I,q⟩:=h;exact ⟨σ',H',I.unwish,q⟩
 |ret u=>obtain ⟨v,σ',H',I,r,q⟩:=h;exact ⟨v,σ',H',I.unwish,r,q⟩
theorem PSs.nox {st:List Stmt} {t:TS} (h:PSs X.nox st t):PSs X st t:=fun Zb s σ H D I hw=>
 jU (h Zb s σ H D (I.wish _) hw) (fun _ _ q=>q.unwish) fun _ _ z=>False.elim z
end
section
variable {X:Cx} {st:Stmt} {J0:List Stmt} {t u:TS} {e:jF} {te:TE} {pos:Pos}
def ZqS:TS:=fun D σ H=>D.nx σ H
def ZAi (t u:TS):TS:=fun D σ H=>t {D with nx:=u D} σ H
theorem ZP:PSs X [] ZqS:=fun _ _ σ H _ I h=>vJ ⟨σ,H,I,h⟩
theorem Zi (h1:PS X st t) (h2:PSs X J0 u):PSs X (st::J0) (ZAi t u):=by
 intro Zb s σ H D I h;refine wpAny_execs_cons (thn (h1 Zb s σ H {D with nx:=u D} I h) fun f s1 q=>?_)
 cases f with
 |next=>
  obtain ⟨σ',H',I',q⟩:=q;exact h2 Zb s1 σ' H' D I' q
 |ret v=>exact q
 |brk=>exact q
 |cont=>exact q
theorem Zo (h1:PS X st t):PSs X [st] t:=by
 intro Zb s σ H D I h;refine wpAny_execs_cons (thn (h1 Zb s σ H D I h) fun f s1 q=>?_)
 cases f with
 |next=>exact vJ q
 |ret v=>exact q
 |brk=>exact q
 |cont=>exact q
theorem Inv.quiet {Zb:List (jk×Obj)} {σ:St} {H:Hp} {s:jj} (I:Inv X Zb σ H s):interactive X.env=false:=by simp [interactive,I.ok.kind]
def ZqN (te:TE):TS:=fun D σ H=>te σ H fun _ H1=>D.nx σ H1
theorem ZaS (he:PE X e te) (hs:uZ e none pos.line X.env=pure false:=by rfl):PS X (.Expr e pos) (ZqN te):=by intro Zb s σ H D I h;exact wpAny_Expr_any (thn (he Zb s σ H _ I h) fun v s1 ⟨x,H1,I1,r1,q1⟩=>⟨σ,H1,I1,q1⟩) I.quiet hs
def ZAh (te:TE):TS:=fun D σ H=>te σ H D.rt
theorem ZA (he:PE X e te):PS X (.Return (some e) pos) (ZAh te):=by intro Zb s σ H D I h;exact wpAny_Return_some (thn (he Zb s σ H _ I h) fun v s1 ⟨x,H1,I1,r1,q1⟩=>⟨x,σ,H1,I1,r1,q1⟩)
def ZqT:TS:=fun D _ H=>D.rt .non H
theorem Zr7:PS X (.Return none pos) ZqT:=fun _ _ σ H _ I h=>wpAny_Return_none ⟨.non,σ,H,I,rfl,h⟩
def ZAe (c:TT) (t u:TS):TS:=fun D σ H=>c σ H fun b H1=>if b=true then t D σ H1 else u D σ H1
theorem zA {c:jF} {a b:List Stmt} {tc:TT} (hc:PT X c tc) (ha:PSs X a t) (hb:PSs X b u):PS X (.If c a b pos) (ZAe tc t u):=by
 intro Zb s σ H D I h;refine wpAny_If (thn (hc Zb s σ H _ I h) fun d s1 ⟨H1,I1,q1⟩=>?_)
 cases d with
 |true=>exact ha Zb s1 σ H1 D I1 q1
 |false=>exact hb Zb s1 σ H1 D I1 q1
end
abbrev TG:=V->St->Hp->(St->Hp->Prop)->Prop
abbrev TGs:=List V->St->Hp->(St->Hp->Prop)->Prop
def PG (X:Cx) (target:jF) (t:TG):Prop:=
 ∀(Zb:List (jk×Obj)) (s:jj) (σ:St) (H:Hp) (v:V) (u:Value) (Q:St->Hp->Prop),Inv X Zb σ H s->ZW v u->t v σ H Q->
  jo (jr X.prog X.w) X.A (vA target X.env u) (fun _ s'=>∃σ' H',Inv X Zb σ' H' s'/\Q σ' H') X.xe s
def PGs (X:Cx) (ts:List jF) (t:TGs):Prop:=
 ∀(Zb:List (jk×Obj)) (s:jj) (σ:St) (H:Hp) (vs:List V) (us:List Value) (Q:St->Hp->Prop),Inv X Zb σ H s->ZE vs us->t vs σ H Q->
  jo (jr X.prog X.w) X.A (assignInOrder ((jO ts X.env).map (·.2)) us) (fun _ s'=>∃σ' H',Inv X Zb σ' H' s'/\Q σ' H') X.xe s
abbrev TIp:=V->V->Hp->VK->Prop
def PIp (X:Cx) (op:Operator) (t:TIp):Prop:=
 ∀(Zb:List (jk×Obj)) (s:jj) (σ:St) (H:Hp) (x y:V) (v u:Value) (Q:VK),Inv X Zb σ H s->ZW x v->ZW y u->t x y H Q->
  jo (jr X.prog X.w) X.A (v8 op v u) (EP X Zb σ Q) X.xe s
section
variable {X:Cx} {pos:Pos}
def Y6 (i:Nat):TG:=fun v σ H Q=>Q (σ.set i (some v)) H
theorem zD {i:Nat} {x:Str} (hN:X.N.Nodup) (hi:X.N[i]?=some x) (hx:Loc X.env.scope x) (hf:X.fn x=true\/X.env.scope.names.lookup x=some .local:=by first|exact .inl rfl|exact .inr rfl|assumption):PG X (.Name x pos) (Y6 i):=by intro Zb s σ H v u Q I r h;exact wpAny_assign_Name (Zcm I hN hi hx r (fun s' I'=>⟨_,H,I',h⟩) hf)
def ZoM:TGs:=fun vs σ H Q=>vs=[]/\Q σ H
def ZgC (t:TG) (u:TGs):TGs:=fun vs σ H Q=>∃v r,vs=v::r/\t v σ H fun σ' H'=>u r σ' H' Q
theorem Zhs:PGs X [] ZoM:=by intro Zb s σ H vs us Q I r h;obtain ⟨e,h⟩:=h;subst e;cases r;exact assignInOrder_nil ⟨σ,H,I,h⟩
theorem ZbD {e:jF} {es:List jF} {t:TG} {u:TGs} (h1:PG X e t) (h2:PGs X es u)
 (hs:(jO (e::es) X.env).map (·.2)=vA e X.env::(jO es X.env).map (·.2):=by rfl):PGs X (e::es) (ZgC t u):=by
 intro Zb s σ H vs us Q I r h;obtain ⟨v,vr,e1,h⟩:=h;subst e1
 cases r with
 |cons r rr=>
  rw [hs];refine assignInOrder_cons (thn (h1 Zb s σ H _ _ _ I r h) fun _ s1 ⟨σ1,H1,I1,q1⟩=>?_);exact h2 Zb s1 σ1 H1 _ _ Q I1 rr q1
def ZlG (K:Qa) (n:Nat) (t:TGs):TG:=fun v σ H Q=>∃a xs,v=.ref a/\SqT K H a xs/\xs.length=n/\t xs σ H Q
theorem ZjE {es:List jF} {k:Nat} {t:TGs} {n:Nat} (hc:X.calm=true) (h:PGs X es t)
 (hn:(jO es X.env).length=n:=by rfl) (hst:(jO es X.env).findIdx? (·.1)=none:=by rfl):PG X (.Tuple es k pos) (ZlG X.K n t):=by
 intro Zb s σ H v u Q I r hw;obtain ⟨a,xs,e1,hq,hl,hw⟩:=hw;subst e1;cases r;obtain ⟨its,rv,ht,hz⟩:=I.tuple hq;refine assign_Tuple_tuple (I.ok.hd hc) ht (by simp [hn,<-hl,rv.length]) hst fun h' hx=>?_;have I1:Inv X Zb σ H {s with heap:=h'}:=I.kept (t':=s.toks) fun b o e=>hx b o (Qm (Qj e)) e;exact h Zb _ σ H xs _ Q I1 (by simpa using rv) hw
def ZhI (te:TE) (g:TG):TS:=fun D σ H=>te σ H fun x H1=>g x σ H1 D.nx
theorem Zzn {tg e:jF} {te:TE} {g:TG} (he:PE X e te) (hg:PG X tg g) (hs:swapsWithSole [tg] e pos.line X.env=pure false:=by rfl) (hw:swappedStores [tg] e X.env=pure none:=by rfl)
 (h1:(jO [tg] X.env).map (·.2)=[vA tg X.env]:=by rfl):PS X (.Assign [tg] e pos) (ZhI te g):=by
 intro Zb s σ H D I h;refine wpAny_Assign_stores (thn (he Zb s σ H _ I h) fun v s1 ⟨x,H1,I1,r1,q1⟩=>?_) hs hw;rw [h1];exact thn (hg Zb s1 σ H1 x v _ I1 r1 q1) fun _ s2 q=>q
theorem ZJ {i:Nat} {x:Str} {e:jF} {te:TE} {pos':Pos} (hN:X.N.Nodup) (hi:X.N[i]?=some x) (hx:Loc X.env.scope x) (he:PE X e te) (hs:uZ e (some (.Name x pos')) pos.line X.env=pure false:=by rfl) (hf:X.fn x=true\/X.env.scope.names.lookup x=some .local:=by first|exact .inl rfl|exact .inr rfl|assumption):
 PS X (.Assign [.Name x pos'] e pos) (ZhI te (Y6 i)):=by
 intro Zb s σ H D I h;refine wpAny_Assign_Name (thn (he Zb s σ H _ I h) fun v s1 ⟨y,H1,I1,r1,q1⟩=>?_) hs;exact Zcm I1 hN hi hx r1 (fun s2 I2=>⟨_,H1,I2,q1⟩) hf
def ZDP (i:Nat) (te:TE) (ti:TIp):TS:=fun D σ H=>∃x,σ[i]?=some (some x)/\te σ H fun y H1=>ti x y H1 fun z H2=>D.nx (σ.set i (some z)) H2
theorem Zzo {i:Nat} {x:Str} {e:jF} {te:TE} {op:Operator} {ti:TIp} {pos':Pos} (hN:X.N.Nodup) (hi:X.N[i]?=some x) (hx:Loc X.env.scope x) (he:PE X e te) (ho:PIp X op ti) (hf:X.fn x=true\/X.env.scope.names.lookup x=some .local:=by first|exact .inl rfl|exact .inr rfl|assumption):
 PS X (.AugAssign (.Name x pos') op e pos) (ZDP i te ti):=by
 intro Zb s σ H D I h;obtain ⟨v,e1,h⟩:=h;obtain ⟨m,hn,hl⟩:=I.loc;have vis:Vis X.env.scope x:=by rcases hx with k|k;exact .inl k;exact .inr (.inl k)
 obtain ⟨u,r,l⟩:=hl i x v hi e1 vis;refine wpAny_AugAssign_Name ?_;have go:jo (jr X.prog X.w) X.A (eval e X.env) (fun w s₂=>jo (jr X.prog X.w) X.A (v8 op u w) (fun r s₃=>jo (jr X.prog X.w) X.A (storeName X.env x r) (fun _=>SP X Zb D .next) X.xe s₃) X.xe s₂) X.xe s:=by refine thn (he Zb s σ H _ I h) fun w s1 ⟨y,H1,I1,r1,q1⟩=>?_;refine thn (ho Zb s1 σ H1 v y u w _ I1 r r1 q1) fun z s2 ⟨zv,H2,I2,r2,q2⟩=>?_;exact Zcm I2 hN hi hx r2 (fun s3 I3=>⟨_,H2,I3,q2⟩) hf
 rcases l with ⟨hk,hm⟩|⟨hk,c,hc,hcell⟩
 ·exact wpAny_loadName_local I.ok.kind hk hn hm go
 ·rcases hk with hk|hk
  ·exact wpAny_loadName_cell I.ok.kind hk hc hcell go
  ·rcases hx with k|k
   ·have:X.env.scope.names.lookup x=some .free:=hk;rw [k] at this;cases this
   ·have:X.env.scope.names.lookup x=some .free:=hk;rw [k] at this;cases this
end
section
variable {X:Cx} {pos:Pos}
def ZAk (c:TT) (tb:TS):TS:=fun D σ H=>∃W:Nat->St->Hp->Prop,(∃m,W m σ H)/\∀m σ H,W m σ H->
 c σ H fun b H1=>if b=true then ∃N:St->Hp->Prop,(∀σ' H',N σ' H'->∃m',m'<m/\W m' σ' H')/\tb {D with nx:=N,ct:=N,bk:=D.nx} σ H1 else D.nx σ H1
theorem Zqs {c:jF} {body:List Stmt} {tc:TT} {tb:TS} (hp:u5 (jr X.prog X.w) X.A X.env X.xe) (hc:PT X c tc) (hb:PSs X body tb):PS X (.While c body [] pos) (ZAk tc tb):=by
 intro Zb s σ H D I h;obtain ⟨W,⟨m0,w0⟩,turn⟩:=h;refine wpAny_While (codeAny_whileLoop (fun n s'=>∃σ' H',Inv X Zb σ' H' s'/\W n σ' H') ?_ m0 ⟨σ,H,I,w0⟩);rintro n s1 ⟨σ1,H1,I1,w1⟩;refine uQ hp (thn (hc Zb s1 σ1 H1 _ I1 (turn n σ1 H1 w1)) fun b s2 ⟨H2,I2,q2⟩=>?_)
 cases b with
 |true=>
  obtain ⟨N,hN,q2⟩:=q2;rw [if_pos rfl];refine uQ hp (thn (hb Zb s2 σ1 H2 _ I2 q2) fun f s3 q3=>?_)
  cases f with
  |next=>
   obtain ⟨σ3,H3,I3,n3⟩:=q3;obtain ⟨m',hm,w3⟩:=hN σ3 H3 n3;exact ⟨m',hm,σ3,H3,I3,w3⟩
  |cont=>
   obtain ⟨σ3,H3,I3,n3⟩:=q3;obtain ⟨m',hm,w3⟩:=hN σ3 H3 n3;exact ⟨m',hm,σ3,H3,I3,w3⟩
  |brk=>exact q3
  |ret v=>exact q3
 |false=>
  rw [if_neg Qg];exact vJ ⟨σ1,H2,I2,q2⟩
end
structure It where
 go:Nat->Hp->Prop
 yld:Nat->Hp->V->Hp->Prop
 stop:Nat->Hp->Prop
def ZcE (X:Cx) (Zb:List (jk×Obj)) (H:Hp) (b:jk):Prop:=
 H b=none/\b≠X.env.locals/\b∉X.fs/\(b∈X.ex\/X.s₀.heap.objs.size<=b)/\(∀x c,X.env.cells.lookup x=some c->c≠b)/\∀p∈X.pn++Zb,p.1≠b
theorem Inv.fpOk {X:Cx} {Zb:List (jk×Obj)} {σ:St} {H H':Hp} {s:jj} {b:jk} (I:Inv X Zb σ H s) (hb:s.heap.objs.size<=b) (hn:H' b=none):ZcE X Zb H' b:=by
 refine ⟨hn,QX (Ql I.lt hb),I.nofs hb,.inr (QI I.sz hb),fun x c e z=>?_,fun p hp z=>?_⟩
 ·obtain ⟨v,q⟩:=I.cell x c e;exact absurd (Ql q.lt (by rw [z];exact hb)) (QV _)
 ·exact absurd (Ql (Qj (I.pin p hp).1) (by rw [z];exact hb)) (QV _)
structure Zlu (P:jw) (w:jB) (K:Qa) (tg:jF) (J:It) (fp:List jk) (it:jk) (tn:Nat->Heap->Prop):Prop where
 mem:it∈fp
 obj:∀i h,tn i h->∀b∈fp,∃o,h.get? b=some o/\∀v,o.data≠ .cell v
 keep:∀i h h',tn i h->(∀b∈fp,∀o,h.get? b=some o->h'.get? b=some o)->tn i h'
 item:∀(X:Cx),X.prog=P->X.w=w->X.K=K->X.calm=true->∀(i:Nat) (Zb:List (jk×Obj)) (s:jj) (σ:St) (H:Hp) (E:Value->jj->Prop),Inv X Zb σ H s->(∀b∈fp,ZcE X Zb H b)->tn i s.heap->J.go i H->
  jo (jr P w) X.A (uf (.ref it)) (fun r s1=>∃u,r=some u/\
   jo (jr P w) X.A (vK tg (.ref it) u) (fun _ s2=>∃x H',Inv X Zb σ H' s2/\ZW x u/\J.yld i H x H'/\tn (i+1) s2.heap/\∀b∈fp,H' b=none) E s1) E s
 done:∀(X:Cx),X.prog=P->X.w=w->X.K=K->X.calm=true->∀(i:Nat) (Zb:List (jk×Obj)) (s:jj) (σ:St) (H:Hp) (E:Value->jj->Prop),Inv X Zb σ H s->(∀b∈fp,ZcE X Zb H b)->tn i s.heap->J.stop i H->
  jo (jr P w) X.A (uf (.ref it)) (fun r s1=>r=none/\Inv X Zb σ H s1) E s
 self:∀(A:Around) (i:Nat) (s:jj) (Q:Value->jj->Prop) (E:Value->jj->Prop),tn i s.heap->Q (.ref it) s->jo (jr P w) A (Qac (.ref it)) Q E s
abbrev TI:=St->Hp->(It->Hp->Prop)->Prop
def PIE (X:Cx) (Zb:List (jk×Obj)) (σ:St) (tg:jF) (R:It->Hp->Prop) (itv:Value) (s2:jj):Prop:=
 ∃(it:jk) (fp:List jk) (tn:Nat->Heap->Prop) (J:It) (H':Hp),itv=.ref it/\Inv X Zb σ H' s2/\Zlu X.prog X.w X.K tg J fp it tn/\tn 0 s2.heap/\(∀b∈fp,ZcE X Zb H' b)/\R J H'
def PI (X:Cx) (tg iter:jF) (wi:TI):Prop:=
 ∀(Zb:List (jk×Obj)) (s:jj) (σ:St) (H:Hp) (R:It->Hp->Prop),Inv X Zb σ H s->wi σ H R->
  jo (jr X.prog X.w) X.A (eval iter X.env) (fun v s1=>jo (jr X.prog X.w) X.A (Qac v) (PIE X Zb σ tg R) X.xe s1) X.xe s
theorem Zic {M:uL} {A:Around} {E:Value->jj->Prop} {s:jj} {tg:jF} {it:jk} {u:Value} {o:Obj} {n:String} {vs:Array Value} {Q:Unit->jj->Prop} (ho:s.heap.get? it=some o) (hc:o.cls=.type n) (hd:o.data=.fields vs)
 (hn:["enumerate","zip","dict_itemiterator","dict_reverseitemiterator","odict_iterator","itertools.zip_longest","itertools.pairwise"].contains n=false) (hQ:Q () s):jo M A (vK tg (.ref it) u) Q E s:=by
 unfold vK
 cases tg<;>first
  |exact jl hQ
  |(cases u<;>first
   |exact jl hQ
   |(refine ji (wpAny_load ho ?_)
     rw [hc,hd];show jo M A (if (["enumerate","zip","dict_itemiterator","dict_reverseitemiterator","odict_iterator","itertools.zip_longest","itertools.pairwise"].contains n && vs[0]?==some (ua _))=true then _ else _) Q E s;rw [if_neg (by intro h;rw [hn,Bool.false_and] at h;cases h)];exact jl hQ))
def Itl (K:Qa) (a:jk):It:=
 ⟨fun i H=>∃xs x,SqL K H a xs/\xs[i]?=some x,fun i H x H'=>H'=H/\∀xs,SqL K H a xs->xs[i]?=some x,fun i H=>∃xs,SqL K H a xs/\xs.length<=i⟩
def Itt (K:Qa) (a:jk):It:=
 ⟨fun i H=>∃xs x,SqT K H a xs/\xs[i]?=some x,fun i H x H'=>H'=H/\∀xs,SqT K H a xs->xs[i]?=some x,fun i H=>∃xs,SqT K H a xs/\xs.length<=i⟩
def Itr (lo:Int) (n:Nat):It:=⟨fun i _=>i<n,fun i H x H'=>H'=H/\x=.int (lo+i),fun i _=>n<=i⟩
theorem ZbJ {P:jw} {w:jB} {K:Qa} {tg:jF} (a it:jk):Zlu P w K tg (Itl K a) [it] it (fun i h=>h.IsListIter it a i) where
 mem:=by simp
 obj:=fun i h st b hb=>by
  have e:b=it:=by simpa using hb
  subst e;obtain ⟨o,e,c,d⟩:=st;exact ⟨o,e,fun v z=>by rw [d] at z;cases z⟩
 keep:=fun i h h' st k=>st.at fun o e=>k it (by simp) o e
 item:=by intro X hP hw hK hc i Zb s σ H E I hf st hg;subst hP hw hK;obtain ⟨xs,x,hq,hx⟩:=hg;obtain ⟨its,rv,p,hz⟩:=I.list hq;obtain ⟨u,hu,ru⟩:=rv.get hx;obtain ⟨f0,f1,f2,f3,f4,f5⟩:=hf it (by simp);refine wpAny_pyNext_list_item st p.isList (x:=u) (by simpa using hu) fun h' st' sb=>?_;have I1:Inv X Zb σ H {s with heap:=h'}:=I.turned (t':=s.toks) (fun b o hb e=>(sb.2 b hb).trans e) f0 f1 f3 f4 f5;obtain ⟨o,e,c,d⟩:=id st';exact ⟨u,rfl,Zic (s:= {s with heap:=h'}) e c d (by decide) ⟨x,H,I1,ru,⟨rfl,fun ys hy=>by rw [I.list_inj hy hq];exact hx⟩,st',fun b hb=>(hf b hb).1⟩⟩
 done:=by intro X hP hw hK hc i Zb s σ H E I hf st hg;subst hP hw hK;obtain ⟨xs,hq,hx⟩:=hg;obtain ⟨its,rv,p,hz⟩:=I.list hq;obtain ⟨f0,f1,f2,f3,f4,f5⟩:=hf it (by simp);have hl:=rv.length;exact wpAny_pyNext_list_end (I.ok.hd hc) st p.isList (by simp;omega) fun h' eb=>⟨rfl,I.turned (t':=s.toks) (fun b o hb e=>eb b o hb e) f0 f1 f3 f4 f5⟩
 self:=fun _ _ _ _ _ st h=>wpAny_pyIter_listiter st h
theorem ZjU {P:jw} {w:jB} {K:Qa} {tg:jF} (a it:jk):Zlu P w K tg (Itt K a) [it] it (fun i h=>h.IsTupleIter it a i) where
 mem:=by simp
 obj:=fun i h st b hb=>by
  have e:b=it:=by simpa using hb
  subst e;obtain ⟨o,e,c,d⟩:=st;exact ⟨o,e,fun v z=>by rw [d] at z;cases z⟩
 keep:=fun i h h' st k=>st.at fun o e=>k it (by simp) o e
 item:=by intro X hP hw hK hc i Zb s σ H E I hf st hg;subst hP hw hK;obtain ⟨xs,x,hq,hx⟩:=hg;obtain ⟨its,rv,p,hz⟩:=I.tuple hq;obtain ⟨u,hu,ru⟩:=rv.get hx;obtain ⟨f0,f1,f2,f3,f4,f5⟩:=hf it (by simp);refine wpAny_pyNext_tuple_item st (show s.heap.IsTuple a its.toArray from p) (x:=u) (by simpa using hu) fun h' st' sb=>?_;have I1:Inv X Zb σ H {s with heap:=h'}:=I.turned (t':=s.toks) (fun b o hb e=>(sb.2 b hb).trans e) f0 f1 f3 f4 f5;obtain ⟨o,e,c,d⟩:=id st';exact ⟨u,rfl,Zic (s:= {s with heap:=h'}) e c d (by decide) ⟨x,H,I1,ru,⟨rfl,fun ys hy=>by rw [I.tuple_inj hy hq];exact hx⟩,st',fun b hb=>(hf b hb).1⟩⟩
 done:=by intro X hP hw hK hc i Zb s σ H E I hf st hg;subst hP hw hK;obtain ⟨xs,hq,hx⟩:=hg;obtain ⟨its,rv,p,hz⟩:=I.tuple hq;obtain ⟨f0,f1,f2,f3,f4,f5⟩:=hf it (by simp);have hl:=rv.length;exact wpAny_pyNext_tuple_end (I.ok.hd hc) st (show s.heap.IsTuple a its.toArray from p) (by simp;omega) fun h' eb=>⟨rfl,I.turned (t':=s.toks) (fun b o hb e=>eb b o hb e) f0 f1 f3 f4 f5⟩
 self:=fun _ _ _ _ _ st h=>wpAny_pyIter_tupleiter st h
theorem ZjT {P:jw} {w:jB} {K:Qa} {tg:jF} (it:jk) (lo:Int) (n:Nat):Zlu P w K tg (Itr lo n) [it] it (fun i h=>IsRangeIter h it (lo+(i:Nat) * 1) ((n:Int)-(i:Nat)) 1) where
 mem:=by simp
 obj:=fun i h st b hb=>by
  have e:b=it:=by simpa using hb
  subst e
  exact ⟨_,st,fun v z=>by
   have z':Data.fields _=Data.cell v:=z;cases z'⟩
 keep:=fun i h h' st k=>k it (by simp) _ st
 item:=by intro X hP hw hK hc i Zb s σ H E I hf st hg;subst hP hw hK;obtain ⟨f0,f1,f2,f3,f4,f5⟩:=hf it (by simp);have W:=Walks.range (prog:=X.prog) (w:=X.w) (I.ok.hd hc) it lo 1 n;refine W.item i s _ _ hg st fun v h' tk hv st' kk=>?_;obtain ⟨t,rfl⟩:=hv;have I1:Inv X Zb σ H {s with heap:=h',toks:=tk}:=I.turned (fun b o hb e=>kk b o (by simpa using hb) e) f0 f1 f3 f4 f5;refine ⟨_,rfl,Zic (s:= {s with heap:=h',toks:=tk}) (n:="range_iterator") st' rfl rfl (by decide) ⟨.int (lo+i),H,I1,⟨t,?_⟩,⟨rfl,rfl⟩,st',fun b hb=>(hf b hb).1⟩⟩;rw [Int.mul_one]
 done:=by intro X hP hw hK hc i Zb s σ H E I hf st hg;subst hP hw hK;obtain ⟨f0,f1,f2,f3,f4,f5⟩:=hf it (by simp);exact wpAny_pyNext_range_end (I.ok.hd hc) st (by have:n<=i:=hg;omega) fun h' eb=>⟨rfl,I.turned (t':=s.toks) (fun b o hb e=>eb b o hb e) f0 f1 f3 f4 f5⟩
 self:=fun _ _ _ _ _ st h=>wpAny_pyIter_rangeiter st h
section
variable {X:Cx} {tg:jF}
def ZBY (K:Qa) (tl:TE):TI:=fun σ H R=>tl σ H fun x H1=>∃a,x=.ref a/\(∃xs,SqL K H1 a xs)/\R (Itl K a) H1
def ZDB (K:Qa) (tl:TE):TI:=fun σ H R=>tl σ H fun x H1=>∃a,x=.ref a/\(∃xs,SqT K H1 a xs)/\R (Itt K a) H1
theorem ZeW {l:jF} {tl:TE} (hl:PE X l tl):PI X tg l (ZBY X.K tl):=by
 intro Zb s σ H R I h;refine thn (hl Zb s σ H _ I h) fun v s1 ⟨x,H1,I1,r1,q1⟩=>?_;obtain ⟨a,e,⟨xs,hq⟩,q⟩:=q1;subst e;cases r1;obtain ⟨its,rv,p,hz⟩:=I1.list hq;refine wpAny_pyIter_list p.isList ?_;refine ⟨s1.heap.objs.size,[s1.heap.objs.size],_,_,H1,rfl,I1.kept (t':=s1.toks) fun b o e=>Qe _ e,ZbJ a _,⟨_,Qh _ rfl,rfl,rfl⟩,fun b hb=>?_,q⟩;have e:b=s1.heap.objs.size:=by simpa using hb
 subst e;exact I1.fpOk (Qf _) (I1.hok.fresh (Qf _))
theorem ZyK {l:jF} {tl:TE} (hl:PE X l tl):PI X tg l (ZDB X.K tl):=by
 intro Zb s σ H R I h;refine thn (hl Zb s σ H _ I h) fun v s1 ⟨x,H1,I1,r1,q1⟩=>?_;obtain ⟨a,e,⟨xs,hq⟩,q⟩:=q1;subst e;cases r1;obtain ⟨its,rv,p,hz⟩:=I1.tuple hq;refine wpAny_pyIter_tuple (show s1.heap.IsTuple a its.toArray from p) ?_;refine ⟨s1.heap.objs.size,[s1.heap.objs.size],_,_,H1,rfl,I1.kept (t':=s1.toks) fun b o e=>Qe _ e,ZjU a _,⟨_,Qh _ rfl,rfl,rfl⟩,fun b hb=>?_,q⟩;have e:b=s1.heap.objs.size:=by simpa using hb
 subst e;exact I1.fpOk (Qf _) (I1.hok.fresh (Qf _))
theorem ZiL {Zb:List (jk×Obj)} {σ:St} {H:Hp} {s:jj} {R:It->Hp->Prop} {E:Value->jj->Prop} {lo hi:Int} {t u v:Tok} {tk:Nat} (I:Inv X Zb σ H s) (h1: -(2 ^ 62)<=lo) (h2:lo<2 ^ 62) (h3: -(2 ^ 62)<=hi) (h4:hi<2 ^ 62)
 (q:R (Itr lo (hi-lo).toNat) H):jo (jr X.prog X.w) X.A (Qac (.ref s.heap.objs.size)) (PIE X Zb σ tg R) E {s with heap:=s.heap.push {cls:=.type "range",data:=.fields #[.int lo t,.int hi u,.int 1 v]},toks:=tk}:=by
 refine wpAny_pyIter_range (IsRange.new ..) (small_one h1 h2 h3 h4) ?_;have I1:Inv X Zb σ H {s with heap:=s.heap.push {cls:=.type "range",data:=.fields #[.int lo t,.int hi u,.int 1 v]},toks:=tk}:=I.kept fun b o e=>Qe _ e
 refine ⟨(s.heap.push {cls:=.type "range",data:=.fields #[.int lo t,.int hi u,.int 1 v]}).objs.size,[(s.heap.push {cls:=.type "range",data:=.fields #[.int lo t,.int hi u,.int 1 v]}).objs.size],_,_,H,rfl,
  I1.kept (t':=tk) fun b o e=>Qe _ e,ZjT _ lo (hi-lo).toNat,?_,fun b hb=>?_,q⟩
 ·have e1:lo+((0:Nat):Int) * 1=lo:=by simp
  have e2:(((hi-lo).toNat:Nat):Int)-((0:Nat):Int)=Builtin.Range.rangeSize lo hi 1:=by rw [rangeSize_one];split<;>omega
  show IsRangeIter _ _ (lo+((0:Nat):Int) * 1) ((((hi-lo).toNat:Nat):Int)-((0:Nat):Int)) 1;rw [e1,e2];exact Qh _ rfl
 ·have e:b=(s.heap.push {cls:=.type "range",data:=.fields #[.int lo t,.int hi u,.int 1 v]}).objs.size:=by simpa using hb
  subst e;exact I1.fpOk (Qf _) (I1.hok.fresh (Qf _))
def ZB0 (ta:TA):TI:=fun σ H R=>ta σ H fun vs H1=>∃j:Int,vs=[.int j]/\ -(2 ^ 62)<=j/\j<2 ^ 62/\R (Itr 0 j.toNat) H1
def ZB1 (ta:TA):TI:=fun σ H R=>ta σ H fun vs H1=>∃i j:Int,vs=[.int i,.int j]/\(-(2 ^ 62)<=i/\i<2 ^ 62/\ -(2 ^ 62)<=j/\j<2 ^ 62)/\R (Itr i (j-i).toNat) H1
theorem Zei {a:jF} {ta:TA} {p pos:Pos} (hg:Gl X "range") (hm:X.mg "range"=none) (ha:PA X [a] ta) (hs:jx [a] X.env=[(false,eval a X.env)]:=by rfl):PI X tg (.Call (.Name "range" p) [a] [] pos) (ZB0 ta):=by
 intro Zb s σ H R I h;refine Call_ (Zbr I hg hm boot_range (PyProof.Rows.callWith_type1 (thn (ha pos Zb s σ H _ I h) fun us s1 ⟨vs,H1,I1,r1,q1⟩=>?_) hs rfl));obtain ⟨j,e,q1,q2,q⟩:=q1;subst e
 cases r1 with
 |cons r rr=>
  cases rr;obtain ⟨t,rfl⟩:=r;exact call_range_1 (ZiL I1 (by omega) (by omega) q1 q2 (by simpa using q))
theorem Zma {a b:jF} {ta:TA} {p pos:Pos} (hg:Gl X "range") (hm:X.mg "range"=none) (ha:PA X [a,b] ta) (hs:jx [a,b] X.env=[(false,eval a X.env),(false,eval b X.env)]:=by rfl) (hs2:jx [b] X.env=[(false,eval b X.env)]:=by rfl):
 PI X tg (.Call (.Name "range" p) [a,b] [] pos) (ZB1 ta):=by
 intro Zb s σ H R I h;refine Call_ (Zbr I hg hm boot_range (PyProof.Rows.callWith_type1 (thn (ha pos Zb s σ H _ I h) fun us s1 ⟨vs,H1,I1,r1,q1⟩=>?_) (by rw [hs,hs2]) (by rw [hs2];rfl)));obtain ⟨i,j,e,⟨q1,q2,q3,q4⟩,q⟩:=q1;subst e
 cases r1 with
 |cons r rr=>
  cases rr with
  |cons r' rr=>
   cases rr;obtain ⟨t,rfl⟩:=r;obtain ⟨t',rfl⟩:=r';exact call_range_2 (ZiL I1 q1 q2 q3 q4 q)
def ZDR (wi:TI) (g:TG) (tb:TS):TS:=fun D σ H=>wi σ H fun J H1=>∃W:Nat->Nat->St->Hp->Prop,(∃m,W 0 m σ H1)/\∀i m σ H,W i m σ H->
 (J.stop i H/\D.nx σ H)\/(J.go i H/\∃N:St->Hp->Prop,(∀σ' H',N σ' H'->∃m',m'<m/\W (i+1) m' σ' H')/\∀x H',J.yld i H x H'->g x σ H' fun σ2 H2=>tb {D with nx:=N,ct:=N,bk:=D.nx} σ2 H2)
def ZaE (fp:List jk) (h:Heap):List (jk×Obj):=fp.filterMap fun b=>(h.get? b).map fun o=>(b,o)
theorem Zaf {fp:List jk} {h:Heap} {b:jk} {o:Obj} (hb:b∈fp) (e:h.get? b=some o):(b,o)∈ZaE fp h:=UY.mpr ⟨b,hb,by rw [e];rfl⟩
theorem Zd4 {fp:List jk} {h:Heap} {p:jk×Obj} (hp:p∈ZaE fp h):p.1∈fp/\h.get? p.1=some p.2:=by
 obtain ⟨b,hb,e⟩:=UY.mp hp
 cases q:h.get? b with
 |none=>rw [q] at e;cases e
 |some o=>
  rw [q] at e;have e':(b,o)=p:=Option.some.inj e;subst e';exact ⟨hb,q⟩
theorem Inv.pinned {Zb:List (jk×Obj)} {σ:St} {H:Hp} {s:jj} {fp:List jk} (I:Inv X Zb σ H s) (hf:∀b∈fp,ZcE X Zb H b) (ho:∀b∈fp,∃o,s.heap.get? b=some o/\∀v,o.data≠ .cell v):Inv X (Zb++ZaE fp s.heap) σ H s:=
 I.pins_of fun p hp=>(jL.mp hp).elim (fun z=>I.pin p (js _ z)) fun z=>by obtain ⟨hb,e⟩:=Zd4 z;obtain ⟨f0,f1,f2,_⟩:=hf p.1 hb;obtain ⟨o,e',d⟩:=ho p.1 hb;rw [e] at e';cases e';exact ⟨e,f0,f1,f2,d⟩
theorem Inv.unpinned {Zb pl:List (jk×Obj)} {σ:St} {H:Hp} {s:jj} (I:Inv X (Zb++pl) σ H s):Inv X Zb σ H s:=I.pins_of fun p hp=>I.pin p (js _ (uk _ hp))
theorem ZfK {iter:jF} {body:List Stmt} {wi:TI} {g:TG} {tb:TS} {pos:Pos} (hp:u5 (jr X.prog X.w) X.A X.env X.xe) (hc:X.calm=true) (hi:PI X tg iter wi) (hg:PG X tg g) (hb:PSs X body tb)
 (hs:∀x,jG iter X.env x=pure x:=by intro _;rfl):PS X (.For tg iter body [] pos) (ZDR wi g tb):=by
 intro Zb s σ H D I h;refine wpAny_For (thn (hi Zb s σ H _ I h) fun v s1 h1=>thn h1 fun itv s2 h2=>?_) hs;obtain ⟨it,fp,tn,J,H2,e,I2,T,st2,f2,W,⟨m0,w0⟩,turn⟩:=h2;subst e;have stat:∀{H':Hp},(∀b∈fp,H' b=none)->∀b∈fp,ZcE X Zb H' b:=fun hn b hb=>⟨hn b hb,(f2 b hb).2⟩;refine codeAny_forLoop_any (fun n s'=>∃i σ' H',Inv X Zb σ' H' s'/\tn i s'.heap/\(∀b∈fp,H' b=none)/\W i n σ' H') ?_ m0 ⟨0,σ,H2,I2,st2,fun b hb=>(f2 b hb).1,w0⟩;rintro n s3 ⟨i,σ3,H3,I3,st3,fr3,w3⟩;rcases turn i n σ3 H3 w3 with ⟨stop,qn⟩|⟨go,N,hN,step⟩
 ·refine uQ hp (thn (T.done X rfl rfl rfl hc i Zb s3 σ3 H3 X.xe I3 (stat fr3) st3 stop) fun r s4 ⟨hr,I4⟩=>?_);subst hr;exact vJ ⟨σ3,H3,I4,qn⟩
 ·refine uQ hp (thn (T.item X rfl rfl rfl hc i Zb s3 σ3 H3 X.xe I3 (stat fr3) st3 go) fun r s4 ⟨u,hr,h4⟩=>?_);subst hr;refine uQ hp (thn h4 fun _ s5 ⟨x,H5,I5,r5,y5,st5,fr5⟩=>?_);have I5':=I5.pinned (stat fr5) (T.obj _ _ st5);refine uQ hp (thn (hg _ s5 σ3 H5 x u _ I5' r5 (step x H5 y5)) fun _ s6 ⟨σ6,H6,I6,q6⟩=>?_);refine uQ hp (thn (hb _ s6 σ6 H6 _ I6 q6) fun f s7 q7=>?_);have again:∀{σ7:St} {H7:Hp},Inv X (Zb++ZaE fp s5.heap) σ7 H7 s7->N σ7 H7->∃m,m<n/\∃i σ' H',Inv X Zb σ' H' s7/\tn i s7.heap/\(∀b∈fp,H' b=none)/\W i m σ' H':=fun {σ7 H7} I7 n7=>by obtain ⟨m',hm,w7⟩:=hN σ7 H7 n7;refine ⟨m',hm,i+1,σ7,H7,I7.unpinned,T.keep _ _ _ st5 fun b hb o e=>(I7.pin (b,o) (js _ (js _ (Zaf hb e)))).1,fun b hb=>?_,w7⟩;obtain ⟨o,e,d⟩:=T.obj _ _ st5 b hb;exact (I7.pin (b,o) (js _ (js _ (Zaf hb e)))).2.1
  cases f with
  |next=>obtain ⟨σ7,H7,I7,n7⟩:=q7;exact again I7 n7
  |cont=>obtain ⟨σ7,H7,I7,n7⟩:=q7;exact again I7 n7
  |brk=>obtain ⟨σ7,H7,I7,q7⟩:=q7;exact ⟨σ7,H7,I7.unpinned,q7⟩
  |ret v=>obtain ⟨x7,σ7,H7,I7,r7,q7⟩:=q7;exact ⟨x7,σ7,H7,I7.unpinned,r7,q7⟩
end
theorem ZoJ {K:Qa} {a:jk} {xs:List V} {g:TG} {tb:TS} {D:ZbL} {σ:St} {H:Hp} (Pv:Nat->St->Hp->Prop) (h0:Pv 0 σ H) (hl:∀i σ H,i<=xs.length->Pv i σ H->SqL K H a xs)
 (hs:∀i x σ H,xs[i]?=some x->Pv i σ H->g x σ H fun σ2 H2=>tb {D with nx:=Pv (i+1),ct:=Pv (i+1),bk:=D.nx} σ2 H2) (hd:∀σ H,Pv xs.length σ H->D.nx σ H):
 ∃W:Nat->Nat->St->Hp->Prop,(∃m,W 0 m σ H)/\∀i m σ H,W i m σ H->
  ((Itl K a).stop i H/\D.nx σ H)\/((Itl K a).go i H/\∃N:St->Hp->Prop,(∀σ' H',N σ' H'->∃m',m'<m/\W (i+1) m' σ' H')/\∀x H',(Itl K a).yld i H x H'->g x σ H' fun σ2 H2=>tb {D with nx:=N,ct:=N,bk:=D.nx} σ2 H2):=by
 refine ⟨fun i m σ H=>m=xs.length-i/\i<=xs.length/\Pv i σ H,⟨xs.length,by simp,Qu _,h0⟩,?_⟩;rintro i m σ H ⟨rfl,hi,p⟩;have q:=hl i σ H hi p;by_cases hlt:i<xs.length
 ·refine .inr ⟨⟨xs,xs[i],q,by simp [hlt]⟩,Pv (i+1),fun σ' H' p'=>⟨xs.length-(i+1),by omega,rfl,hlt,p'⟩,fun x H' y=>?_⟩;obtain ⟨e,y⟩:=y;subst e;exact hs i x σ _ (y xs q) p
 ·have e:i=xs.length:=by omega
  subst e;exact .inl ⟨⟨xs,q,Qf _⟩,hd σ H p⟩
theorem Zrr {K:Qa} {a:jk} {xs:List V} {g:TG} {tb:TS} {D:ZbL} {σ:St} {H:Hp} (Pv:Nat->St->Hp->Prop) (h0:Pv 0 σ H) (hl:∀i σ H,i<=xs.length->Pv i σ H->SqT K H a xs)
 (hs:∀i x σ H,xs[i]?=some x->Pv i σ H->g x σ H fun σ2 H2=>tb {D with nx:=Pv (i+1),ct:=Pv (i+1),bk:=D.nx} σ2 H2) (hd:∀σ H,Pv xs.length σ H->D.nx σ H):
 ∃W:Nat->Nat->St->Hp->Prop,(∃m,W 0 m σ H)/\∀i m σ H,W i m σ H->
  ((Itt K a).stop i H/\D.nx σ H)\/((Itt K a).go i H/\∃N:St->Hp->Prop,(∀σ' H',N σ' H'->∃m',m'<m/\W (i+1) m' σ' H')/\∀x H',(Itt K a).yld i H x H'->g x σ H' fun σ2 H2=>tb {D with nx:=N,ct:=N,bk:=D.nx} σ2 H2):=by
 refine ⟨fun i m σ H=>m=xs.length-i/\i<=xs.length/\Pv i σ H,⟨xs.length,by simp,Qu _,h0⟩,?_⟩;rintro i m σ H ⟨rfl,hi,p⟩;have q:=hl i σ H hi p;by_cases hlt:i<xs.length
 ·refine .inr ⟨⟨xs,xs[i],q,by simp [hlt]⟩,Pv (i+1),fun σ' H' p'=>⟨xs.length-(i+1),by omega,rfl,hlt,p'⟩,fun x H' y=>?_⟩;obtain ⟨e,y⟩:=y;subst e;exact hs i x σ _ (y xs q) p
 ·have e:i=xs.length:=by omega
  subst e;exact .inl ⟨⟨xs,q,Qf _⟩,hd σ H p⟩
theorem ZlF {lo:Int} {n:Nat} {g:TG} {tb:TS} {D:ZbL} {σ:St} {H:Hp} (Pv:Nat->St->Hp->Prop) (h0:Pv 0 σ H)
 (hs:∀i σ H,i<n->Pv i σ H->g (.int (lo+i)) σ H fun σ2 H2=>tb {D with nx:=Pv (i+1),ct:=Pv (i+1),bk:=D.nx} σ2 H2) (hd:∀σ H,Pv n σ H->D.nx σ H):
 ∃W:Nat->Nat->St->Hp->Prop,(∃m,W 0 m σ H)/\∀i m σ H,W i m σ H->
  ((Itr lo n).stop i H/\D.nx σ H)\/((Itr lo n).go i H/\∃N:St->Hp->Prop,(∀σ' H',N σ' H'->∃m',m'<m/\W (i+1) m' σ' H')/\∀x H',(Itr lo n).yld i H x H'->g x σ H' fun σ2 H2=>tb {D with nx:=N,ct:=N,bk:=D.nx} σ2 H2):=by
 refine ⟨fun i m σ H=>m=n-i/\i<=n/\Pv i σ H,⟨n,by simp,Qu _,h0⟩,?_⟩;rintro i m σ H ⟨rfl,hi,p⟩;by_cases hlt:i<n
 ·refine .inr ⟨hlt,Pv (i+1),fun σ' H' p'=>⟨n-(i+1),by omega,rfl,hlt,p'⟩,fun x H' y=>?_⟩;obtain ⟨e,y⟩:=y;subst e y;exact hs i σ _ hlt p
 ·have e:i=n:=by omega
  subst e;exact .inl ⟨Qf _,hd σ H p⟩
abbrev R2:=V->V->Hp->VK->Prop
def OpR (X:Cx) (f:Value->Value->Sem Value) (r:R2):Prop:=
 ∀(Zb:List (jk×Obj)) (s:jj) (σ:St) (H:Hp) (x y:V) (v u:Value) (Q:VK),Inv X Zb σ H s->ZW x v->ZW y u->r x y H Q->
  jo (jr X.prog X.w) X.A (f v u) (EP X Zb σ Q) X.xe s
def UnR (X:Cx) (f:Value->Sem Value) (r:V->Hp->VK->Prop):Prop:=
 ∀(Zb:List (jk×Obj)) (s:jj) (σ:St) (H:Hp) (x:V) (v:Value) (Q:VK),Inv X Zb σ H s->ZW x v->r x H Q->
  jo (jr X.prog X.w) X.A (f v) (EP X Zb σ Q) X.xe s
def JM (X:Cx) (f:Value) (r:List V->Hp->VK->Prop):Prop:=
 ∀(Zb:List (jk×Obj)) (s:jj) (σ:St) (H:Hp) (xs:List V) (us:List Value) (Q:VK),Inv X Zb σ H s->ZE xs us->r xs H Q->
  jo (jr X.prog X.w) X.A (call f us) (EP X Zb σ Q) X.xe s
def ZDm (X:Cx) (r:V->Hp->(Bool->Hp->Prop)->Prop):Prop:=
 ∀(Zb:List (jk×Obj)) (s:jj) (σ:St) (H:Hp) (x:V) (v:Value) (Q:Bool->Hp->Prop),Inv X Zb σ H s->ZW x v->r x H Q->
  jo (jr X.prog X.w) X.A (truthy v) (TP X Zb σ Q) X.xe s
def tOp (r:R2) (ta tb:TE):TE:=fun σ H Q=>ta σ H fun x H1=>tb σ H1 fun y H2=>r x y H2 Q
def tUn (r:V->Hp->VK->Prop) (ta:TE):TE:=fun σ H Q=>ta σ H fun x H1=>r x H1 Q
def rI (C:Int->Int->Prop) (g:Int->Int->V):R2:=fun x y H Q=>∃i j,x=.int i/\y=.int j/\C i j/\Q (g i j) H
def rI0 (g:Int->Int->V):R2:=fun x y H Q=>∃i j,x=.int i/\y=.int j/\Q (g i j) H
def rU (g:Int->V):V->Hp->VK->Prop:=fun x H Q=>∃i,x=.int i/\Q (g i) H
section
variable {X:Cx} {a b c:jF} {ta tb tc:TE} {pos:Pos}
theorem Zuz (ha:PE X a ta) (hb:PE X b tb) {Zb:List (jk×Obj)} {s:jj} {σ:St} {H:Hp} {R:V->V->Hp->Prop} (I:Inv X Zb σ H s)
 (h:ta σ H fun x H1=>tb σ H1 fun y H2=>R x y H2) {Q:Value->jj->Prop} {f:Value->Value->Sem Value}
 (hf:∀v u s2 x y H2,Inv X Zb σ H2 s2->ZW x v->ZW y u->R x y H2->jo (jr X.prog X.w) X.A (f v u) Q X.xe s2):
 jo (jr X.prog X.w) X.A (eval a X.env) (fun v s₁=>jo (jr X.prog X.w) X.A (eval b X.env) (fun u s₂=>jo (jr X.prog X.w) X.A (f v u) Q X.xe s₂) X.xe s₁) X.xe s:=by
 refine thn (ha Zb s σ H _ I h) fun v s1 ⟨x,H1,I1,r1,q1⟩=>?_;refine thn (hb Zb s1 σ H1 _ I1 q1) fun u s2 ⟨y,H2,I2,r2,q2⟩=>?_;exact hf v u s2 x y H2 I2 r1 r2 q2
theorem Zq {op:Operator} {r:R2} (ho:OpR X (uG op) r) (ha:PE X a ta) (hb:PE X b tb):PE X (.BinOp a op b pos) (tOp r ta tb):=by intro Zb s σ H Q I h;exact wpAny_BinOp (Zuz ha hb I h fun v u s2 x y H2 I2 rx ry q=>ho Zb s2 σ H2 x y v u Q I2 rx ry q)
theorem Zk8 {op:UnaryOp} {r:V->Hp->VK->Prop} (ho:UnR X (unaryOp op) r) (ha:PE X a ta):PE X (.UnaryOp op a pos) (tUn r ta):=by intro Zb s σ H Q I h;exact UnaryOp_ (thn (ha Zb s σ H _ I h) fun v s1 ⟨x,H1,I1,r1,q1⟩=>ho Zb s1 σ H1 x v Q I1 r1 q1)
theorem opI {f:Value->Value->Sem Value} {C:Int->Int->Prop} {g:Int->Int->Int}
 (rule:∀(i j:Int) (t u:Tok) (s:jj) (Q:Value->jj->Prop) (E:Value->jj->Prop),C i j->Q (.int (g i j) s.toks) {s with toks:=s.toks+1}->jo (jr X.prog X.w) X.A (f (.int i t) (.int j u)) Q E s):
 OpR X f (rI C fun i j=>.int (g i j)):=by
 intro Zb s σ H x y v u Q I rx ry h;obtain ⟨i,j,rfl,rfl,hc,q⟩:=h;obtain ⟨t,rfl⟩:=rx;obtain ⟨t',rfl⟩:=ry;exact rule i j t t' s _ _ hc ⟨.int (g i j),H,I.tok _,⟨_,rfl⟩,q⟩
theorem Zyr {f:Value->Value->Sem Value} {g:Int->Int->Int}
 (rule:∀(i j:Int) (t u:Tok) (s:jj) (Q:Value->jj->Prop) (E:Value->jj->Prop),Q (.int (g i j) s.toks) {s with toks:=s.toks+1}->jo (jr X.prog X.w) X.A (f (.int i t) (.int j u)) Q E s):
 OpR X f (rI0 fun i j=>.int (g i j)):=by
 intro Zb s σ H x y v u Q I rx ry h;obtain ⟨i,j,rfl,rfl,q⟩:=h;obtain ⟨t,rfl⟩:=rx;obtain ⟨t',rfl⟩:=ry;exact rule i j t t' s _ _ ⟨.int (g i j),H,I.tok _,⟨_,rfl⟩,q⟩
theorem Zyq {f:Value->Value->Sem Value} {g:Int->Int->Bool}
 (rule:∀(i j:Int) (t u:Tok) (s:jj) (Q:Value->jj->Prop) (E:Value->jj->Prop),Q (.bool (g i j)) s->jo (jr X.prog X.w) X.A (f (.int i t) (.int j u)) Q E s):
 OpR X f (rI0 fun i j=>.bl (g i j)):=by
 intro Zb s σ H x y v u Q I rx ry h;obtain ⟨i,j,rfl,rfl,q⟩:=h;obtain ⟨t,rfl⟩:=rx;obtain ⟨t',rfl⟩:=ry;exact rule i j t t' s _ _ ⟨.bl (g i j),H,I,rfl,q⟩
def ZAt (i j:Int):Prop:=0<j/\j<1073741824
def ZAu (i j:Int):Prop:=0<=j/\j<=1000000/\i.natAbs<2 ^ 64
def Zq2 (i j:Int):Prop:=(-(2 ^ 64)<i/\i<2 ^ 64)\/(-(2 ^ 64)<j/\j<2 ^ 64)
theorem Zq2.ok {i j:Int} (h:Zq2 i j):IntMulOk i j:=by
 rcases h with ⟨h1,h2⟩|⟨h1,h2⟩
 ·exact .of_left (intBits_le_64 h1 h2)
 ·exact .of_right (intBits_le_64 h1 h2)
theorem Zys:OpR X (uG .Add) (rI0 fun i j=>.int (i+j)):=Zyr fun _ _ _ _ _ _ _ q=>add_int q
theorem Zyz:OpR X (uG .Sub) (rI0 fun i j=>.int (i-j)):=Zyr fun _ _ _ _ _ _ _ q=>sub_int q
theorem Zyw:OpR X (uG .Mult) (rI Zq2 fun i j=>.int (i * j)):=opI fun _ _ _ _ _ _ _ hc q=>mul_int q hc.ok
theorem ZrT:OpR X (uG .FloorDiv) (rI ZAt fun i j=>.int (i/j)):=opI fun i j _ _ _ _ _ hc q=>by have h1:(0:Int)<j:=hc.1;have h2:j<1073741824:=hc.2;exact floordiv_int (by omega) (by rw [Int.fdiv_eq_ediv_of_nonneg i (by omega)];exact q) (.inl (PyProof.noPylong_small (by omega)))
theorem Zyv:OpR X (uG .Mod) (rI (fun _ j=>0<j) fun i j=>.int (i%j)):=opI fun i j _ _ _ _ _ hc q=>by have h1:(0:Int)<j:=hc;exact mod_int' (by omega) (by rw [Int.fmod_eq_emod_of_nonneg i (by omega)];exact q)
theorem Zyx:OpR X (uG .Pow) (rI ZAu fun i j=>.int (i ^ j.toNat)):=opI fun _ _ _ _ _ _ _ hc q=>pow_int_small hc.1 hc.2.1 hc.2.2 q
theorem Zry:OpR X (v8 .Add) (rI0 fun i j=>.int (i+j)):=Zyr fun _ _ _ _ _ _ _ q=>iadd_int q
theorem unI {f:Value->Sem Value} {g:Int->Int}
 (rule:∀(i:Int) (t:Tok) (s:jj) (Q:Value->jj->Prop) (E:Value->jj->Prop),Q (.int (g i) s.toks) {s with toks:=s.toks+1}->jo (jr X.prog X.w) X.A (f (.int i t)) Q E s):
 UnR X f (rU fun i=>.int (g i)):=by
 intro Zb s σ H x v Q I rx h;obtain ⟨i,rfl,q⟩:=h;obtain ⟨t,rfl⟩:=rx;exact rule i t s _ _ ⟨.int (g i),H,I.tok _,⟨_,rfl⟩,q⟩
theorem ZAn:UnR X (unaryOp .USub) (rU fun i=>.int (-i)):=unI fun _ _ _ _ _ q=>neg_int q
end
def Zzw:V->V->Bool
 | .non,.non=>true| .non,.int _=>true| .int _,.non=>true| .non,.bl _=>true| .bl _,.non=>true| .non,.str _=>true| .str _,.non=>true
 | .int _,.int _=>true| .bl _,.bl _=>true| .str _,.str _=>true| .byt _,.byt _=>true
 | .int _,.str _=>true| .str _,.int _=>true| .bl _,.str _=>true| .str _,.bl _=>true
 |_,_=>false
def rEq:R2:=fun x y H Q=>Zzw x y=true/\Q (.bl (decide (x=y))) H
def rNe:R2:=fun x y H Q=>Zzw x y=true/\Q (.bl (!decide (x=y))) H
theorem Zkk {i j:Int}:decide (V.int i=V.int j)=(i==j):=by rw [Ug];simp
theorem Zor {i j:Bool}:decide (V.bl i=V.bl j)=(i==j):=by rw [Ug];simp
theorem Zkl {i j:Str}:decide (V.str i=V.str j)=(i==j):=by rw [Ug];simp
theorem Zkj {i j:Array UInt8}:decide (V.byt i=V.byt j)=(i.toList==j.toList):=by rw [Ug];cases i;cases j;simp
section
variable {X:Cx} {a b c:jF} {ta tb tc:TE} {pos:Pos}
theorem ZV {Zb:List (jk×Obj)} {σ:St} {H:Hp} {s:jj} {Q:VK} {k k':Bool} (I:Inv X Zb σ H s) (q:Q (.bl k) H) (e:k=k'):EP X Zb σ Q (.bool k') s:=by subst e;exact ⟨.bl k,H,I,rfl,q⟩
theorem ZCC:OpR X (jX .Eq) rEq:=by
 intro Zb s σ H x y v u Q I rx ry h;obtain ⟨hs,q⟩:=h
 cases x with
 |non=>
  cases rx
  cases y with
  |non=>cases ry;exact PySem.EqNone.eq_none_none (ZV I q (by simp))
  |bl j=>cases ry;exact PySem.EqNone.eq_none_bool (ZV I q (by simp))
  |int j=>obtain ⟨t',rfl⟩:=ry;exact PySem.EqNone.eq_none_int (ZV I q (by simp))
  |str j=>obtain ⟨t',rfl⟩:=ry;exact PySem.EqNone.eq_none_str (ZV I q (by simp))
  |_=>exact absurd (show false=true from hs) Qg
 |bl i=>
  cases rx
  cases y with
  |non=>cases ry;exact PySem.EqNone.eq_bool_none (ZV I q (by simp))
  |bl j=>cases ry;exact eq_bool (ZV I q Zor)
  |str j=>obtain ⟨t',rfl⟩:=ry;exact PySem.EqMixed.eq_bool_str (ZV I q (by simp))
  |_=>exact absurd (show false=true from hs) Qg
 |int i=>
  obtain ⟨t,rfl⟩:=rx
  cases y with
  |non=>cases ry;exact PySem.EqNone.eq_int_none (ZV I q (by simp))
  |int j=>obtain ⟨t',rfl⟩:=ry;exact eq_int (ZV I q Zkk)
  |str j=>obtain ⟨t',rfl⟩:=ry;exact PySem.EqMixed.eq_int_str (ZV I q (by simp))
  |_=>exact absurd (show false=true from hs) Qg
 |str i=>
  obtain ⟨t,rfl⟩:=rx
  cases y with
  |non=>cases ry;exact PySem.EqNone.eq_str_none (ZV I q (by simp))
  |bl j=>cases ry;exact PySem.EqMixed.eq_str_bool (ZV I q (by simp))
  |int j=>obtain ⟨t',rfl⟩:=ry;exact PySem.EqMixed.eq_str_int (ZV I q (by simp))
  |str j=>obtain ⟨t',rfl⟩:=ry;exact eq_str (ZV I q Zkl)
  |_=>exact absurd (show false=true from hs) Qg
 |byt i=>
  obtain ⟨t,rfl⟩:=rx
  cases y with
  |byt j=>obtain ⟨t',rfl⟩:=ry;exact PySem.W.eq_bytes (ZV I q Zkj)
  |_=>exact absurd (show false=true from hs) Qg
 |_=>cases y<;>exact absurd (show false=true from hs) Qg
theorem ZCG:OpR X (jX .NotEq) rNe:=by
 intro Zb s σ H x y v u Q I rx ry h;obtain ⟨hs,q⟩:=h
 cases x with
 |non=>
  cases rx
  cases y with
  |non=>cases ry;exact PySem.EqNone.ne_none_none (ZV I q (by simp))
  |bl j=>cases ry;exact PySem.EqNone.ne_none_bool (ZV I q (by simp))
  |int j=>obtain ⟨t',rfl⟩:=ry;exact PySem.EqNone.ne_none_int (ZV I q (by simp))
  |str j=>obtain ⟨t',rfl⟩:=ry;exact PySem.EqNone.ne_none_str (ZV I q (by simp))
  |_=>exact absurd (show false=true from hs) Qg
 |bl i=>
  cases rx
  cases y with
  |non=>cases ry;exact PySem.EqNone.ne_bool_none (ZV I q (by simp))
  |bl j=>cases ry;exact ne_bool (ZV I q (congrArg not Zor))
  |str j=>obtain ⟨t',rfl⟩:=ry;exact PySem.EqMixed.ne_bool_str (ZV I q (by simp))
  |_=>exact absurd (show false=true from hs) Qg
 |int i=>
  obtain ⟨t,rfl⟩:=rx
  cases y with
  |non=>cases ry;exact PySem.EqNone.ne_int_none (ZV I q (by simp))
  |int j=>obtain ⟨t',rfl⟩:=ry;exact ne_int (ZV I q (congrArg not Zkk))
  |str j=>obtain ⟨t',rfl⟩:=ry;exact PySem.EqMixed.ne_int_str (ZV I q (by simp))
  |_=>exact absurd (show false=true from hs) Qg
 |str i=>
  obtain ⟨t,rfl⟩:=rx
  cases y with
  |non=>cases ry;exact PySem.EqNone.ne_str_none (ZV I q (by simp))
  |bl j=>cases ry;exact PySem.EqMixed.ne_str_bool (ZV I q (by simp))
  |int j=>obtain ⟨t',rfl⟩:=ry;exact PySem.EqMixed.ne_str_int (ZV I q (by simp))
  |str j=>obtain ⟨t',rfl⟩:=ry;exact ne_str (ZV I q (congrArg not Zkl))
  |_=>exact absurd (show false=true from hs) Qg
 |byt i=>
  obtain ⟨t,rfl⟩:=rx
  cases y with
  |byt j=>obtain ⟨t',rfl⟩:=ry;exact PySem.W.ne_bytes (ZV I q (congrArg not Zkj))
  |_=>exact absurd (show false=true from hs) Qg
 |_=>cases y<;>exact absurd (show false=true from hs) Qg
theorem ZCF:OpR X (jX .Lt) (rI0 fun i j=>.bl (decide (i<j))):=Zyq fun _ _ _ _ _ _ _ q=>lt_int q
theorem ZCE:OpR X (jX .LtE) (rI0 fun i j=>.bl (decide (i<=j))):=Zyq fun _ _ _ _ _ _ _ q=>le_int q
theorem ZCD:OpR X (jX .Gt) (rI0 fun i j=>.bl (decide (j<i))):=Zyq fun _ _ _ _ _ _ _ q=>gt_int q
theorem Zl5:OpR X (jX .Lt) (fun x y H Q=>∃i j,x=.str i/\y=.str j/\Q (.bl (decide (i.cps.toList<j.cps.toList))) H):=by intro Zb s σ H x y v u Q I rx ry h;obtain ⟨i,j,rfl,rfl,q⟩:=h;obtain ⟨t,rfl⟩:=rx;obtain ⟨t',rfl⟩:=ry;exact lt_str (ZV I q rfl)
theorem Zyu:OpR X (jX .Is) (fun x y H Q=>y=.non/\Q (.bl (decide (x=.non))) H):=by
 intro Zb s σ H x y v u Q I rx ry h;obtain ⟨rfl,q⟩:=h;cases ry;refine is_none_gen (ZV I q ?_)
 cases x<;>first
  |(cases rx;rfl)
  |(obtain ⟨t,rfl⟩:=rx;rfl)
theorem Zp7 (b:jF) {op:CmpOp} (h:op≠ .In:=by decide) (h2:op≠ .NotIn:=by decide):uY op b=false:=by
 have e1:(op==CmpOp.In)=false:=by cases op<;>first|rfl|exact absurd rfl h
 have e2:(op==CmpOp.NotIn)=false:=by cases op<;>first|rfl|exact absurd rfl h2
 cases b<;>simp [uY,e1,e2]
theorem ZrX {op:CmpOp} {r:R2} (ho:OpR X (jX op) r) (ha:PE X a ta) (hb:PE X b tb) (hm:uY op b=false):PE X (.Compare a [op] [b] pos) (tOp r ta tb):=by intro Zb s σ H Q I h;exact wpAny_Compare1 (Zuz ha hb I h fun v u s2 x y H2 I2 rx ry q=>ho Zb s2 σ H2 x y v u Q I2 rx ry q) hm
def ZAL (K:Qa) (x:V) (H:Hp) (k:Bool):Prop:=
 match x with
 | .non=>k=false
 | .bl b=>k=b
 | .int i=>k=(i !=0)
 | .str y=>y.length<=sizeLine/\k=((y.length:Int) !=0)
 | .byt y=>y.size<=sizeLine/\k=((y.size:Int) !=0)
 | .ref p=>(∃xs,SqL K H p xs/\k= !xs.isEmpty)\/(∃xs,SqT K H p xs/\k= !xs.isEmpty)\/∃kvs,H p=some (.dK kvs)/\k= !kvs.isEmpty
 |_=>False
theorem Zjj {κ:Type} {kvs:List (κ×V)} {vs:List (κ×Value)} (r:KV kvs vs):(!vs.isEmpty)= !kvs.isEmpty:=by cases r<;>rfl
theorem Zfq {xs:List V} {its:List Value} (r:ZE xs its):(!its.toArray.isEmpty)= !xs.isEmpty:=by cases r<;>simp
theorem Zc3:(sizeLine:Nat)<2 ^ 63:=by rw [jt];decide
theorem ZAl:ZDm X (fun x H Q=>∃k,ZAL X.K x H k/\Q k H):=by
 intro Zb s σ H x v Q I rx h;obtain ⟨k,e,q⟩:=h;have hl:=Zc3;have hs:sizeLine=16777216:=jt
 cases x with
 |non=>
  cases rx;have e':k=false:=e;subst e';exact truthy_none ⟨H,I,q⟩
 |bl b=>
  cases rx;have e':k=b:=e;subst e';exact uS ⟨H,I,q⟩
 |int i=>
  obtain ⟨t,rfl⟩:=rx;have e':k=(i !=0):=e;subst e';exact PySem.P.truthy_int ⟨H,I,q⟩
 |str y=>
  obtain ⟨t,rfl⟩:=rx;obtain ⟨hy,e'⟩:y.length<=sizeLine/\k=((y.length:Int) !=0):=e;subst e';exact PySem.P.truthy_str (by omega) ⟨H,I.tok _,q⟩
 |byt y=>
  obtain ⟨t,rfl⟩:=rx;obtain ⟨hy,e'⟩:y.size<=sizeLine/\k=((y.size:Int) !=0):=e;subst e';exact PySem.W.truthy_bytes (by omega) ⟨H,I.tok _,q⟩
 |ref p=>
  cases rx;have e':(∃xs,SqL X.K H p xs/\k= !xs.isEmpty)\/(∃xs,SqT X.K H p xs/\k= !xs.isEmpty)\/∃kvs,H p=some (.dK kvs)/\k= !kvs.isEmpty:=e;rcases e' with ⟨xs,hx,e'⟩|⟨xs,hx,e'⟩|⟨kvs,hx,e'⟩
  ·subst e';obtain ⟨its,r,pl,hz⟩:=I.list hx;have hlen:=r.length;exact wpAny_truthy_list pl.isList (by simp only [jC];omega) ⟨H,I.tok _,by rw [Zfq r];exact q⟩
  ·subst e';obtain ⟨its,r,pl,hz⟩:=I.tuple hx;have hlen:=r.length;exact truthy_tuple pl (by simp only [jC];omega) ⟨H,I.tok _,by rw [Zfq r];exact q⟩
  ·subst e';obtain ⟨hz,hS,vs,r,m⟩:kvs.length<=sizeLine/\(p==uU)=false/\∃vs,KV kvs vs/\s.heap.DictOf (zO X.prog X.w) p vs:=I.hok p _ hx;have hlen:kvs.length=vs.length:=Paired.length r;exact wpAny_truthy_dict hS m (by omega) ⟨H,I.tok _,by rw [Zjj r];exact q⟩
 |_=>exact (show False from e).elim
theorem ZjC:OpR X (uG .Add) (fun x y H Q=>∃i j,x=.str i/\y=.str j/\i.length+j.length<=sizeLine/\Q (.str (i++j)) H):=by intro Zb s σ H x y v u Q I rx ry h;obtain ⟨i,j,rfl,rfl,hz,q⟩:=h;obtain ⟨t,rfl⟩:=rx;obtain ⟨t',rfl⟩:=ry;exact add_str (fun t' tk=>⟨.str (i++j),H,I.tok _,⟨_,rfl⟩,q⟩) hz
theorem Zih:OpR X (v8 .Add) (fun x y H Q=>∃i j,x=.str i/\y=.str j/\i.length+j.length<=sizeLine/\Q (.str (i++j)) H):=by intro Zb s σ H x y v u Q I rx ry h;obtain ⟨i,j,rfl,rfl,hz,q⟩:=h;obtain ⟨t,rfl⟩:=rx;obtain ⟨t',rfl⟩:=ry;exact iadd_str (fun t' tk=>⟨.str (i++j),H,I.tok _,⟨_,rfl⟩,q⟩) hz
theorem Zab {x:V} {us:List Value} (r:ZE [x] us):∃u,us=[u]/\ZW x u:=by
 cases r with
 |cons r1 r2=>cases r2;exact ⟨_,rfl,r1⟩
theorem Zf5 {x y:V} {us:List Value} (r:ZE [x,y] us):∃u w',us=[u,w']/\ZW x u/\ZW y w':=by
 cases r with
 |cons r1 r2=>
  cases r2 with
  |cons r3 r4=>cases r4;exact ⟨_,_,rfl,r1,r3⟩
end
structure Zi4 (h:Heap) (x dx C:jk) (mA:Str->Option Value):Prop where
 obj:h.get? x=some (v7 C dx)
 ns:h.Ns1 dx mA
 ne:dx≠x
theorem ZlV {h:Heap} {dx:jk} {mA:Str->Option Value} (n:h.Ns1 dx mA):∃od,h.get? dx=some od/\∀name,lookIn name od=some (mA name):=by
 obtain ⟨o,es,ep,ho,hd,hk,_,hm⟩:=n;refine ⟨o,ho,fun name=>?_⟩;have e:=hm name;unfold nsFind findBy at e;rw [<-Array.find?_toList] at e;unfold lookIn;rw [hd];dsimp only;split
 ·rename_i y q;rw [q] at e;exact congrArg some e
 ·rename_i q;rw [q] at e;have a:es.toList.any (·.refKey)=false:=by rw [List.any_eq_false];intro y hy;obtain ⟨z,t,hkey⟩:=hk y (Wq.mp hy);simp [DictEntry.refKey,hkey]
  have a':¬es.toList.any (·.refKey)=true:=by rw [a];exact Qg
  rw [if_neg a'];exact congrArg some e
theorem Zi4.look {h:Heap} {x dx C:jk} {mA:Str->Option Value} (I:Zi4 h x dx C mA):∃od,InstAt h x (v7 C dx) C (some od)/\∀name,lookIn name od=some (mA name):=
 let ⟨od,ho,hl⟩:=ZlV I.ns
 ⟨od,⟨I.obj,rfl,rfl,ho⟩,hl⟩
section
variable {prog:jw} {w:jB} {A:Around} {E:Value->jj->Prop} {s:jj} {K:Qa} {x dx C f:jk} {mA:Str->Option Value} {name:Str} {v:Value}
theorem Zru {expr:Bool} {Q:Value->jj->Prop} (X:K.In s.heap) (I:Zi4 s.heap x dx C mA) (hg:vR K C name=true) (hh:v9 K C=true)
 (ha:jQ K (.ref C) name=some none) (hv:mA name=some v) (hv':handedIn v=true) (h:Q v {s with toks:=s.toks+1}):
 jo (jr prog w) A (getAttr (.ref x) name expr) Q E s:=by
 obtain ⟨od,J,hl⟩:=I.look;exact PySem.W.get_value X J (plainGet_of hg).1 (PySem.W.findObj_own hh ha rfl (by rw [hl,hv])) hv' h
theorem ZoN {pl:Sem Bool} {Q:Value×List Value->jj->Prop} (X:K.In s.heap) (I:Zi4 s.heap x dx C mA) (hg:vR K C name=true)
 (hf:jQ K (.ref C) name=some (some (.ref f))) (ht:Qaj K (.ref f)=true) (hv:mA name=none) (h:Q (.ref f,[.ref x]) s):
 jo (jr prog w) A (Qao (.ref x) name pl) Q E s:=by
 obtain ⟨od,J,hl⟩:=I.look;exact PySem.W.method_fn X J (plainGet_of hg).1 (plainGet_of hg).2 hf (beq_iff_eq.mp ht) (by show (lookIn name od).map (·.isSome)=some false;rw [hl,hv];rfl) h
theorem Zsl {ns:List Str} {Q:Unit->jj->Prop} (X:K.In s.heap) (I:Zi4 s.heap x dx C mA)
 (hs:jQ K (.ref C) "__setattr__"=some (some (.builtin "object.__setattr__"))) (hp:Qan K C=true) (ht:takerIn K C name=some none) (hh:v9 K C=true)
 (hw:PySem.Within mA ns) (hsz:ns.length<=sizeLine)
 (h:∀h',Zi4 h' x dx C (fun y=>if y=name then some v else mA y)->Heap.SameBut dx s.heap h'->Q () {s with heap:=h',toks:=s.toks+2}):
 jo (jr prog w) A (setAttr (.ref x) name v) Q E s:=by
 obtain ⟨od,J,hl⟩:=I.look;refine PySem.W.set_plain X J hs (PySem.W.osa_open (s:= {s with toks:=s.toks+1}) (r:=none) X J hp ht fun b=>?_);obtain ⟨cd,hc,hd'⟩:=PySem.W.any_some hh;have hx:s.heap.get? x=some ⟨.ref C,some dx,.plain,#[]⟩:=I.obj;refine ji (jl (ji (ji (wpAny_loadPart hx (ji (PySem.W.Looks.here (s:= {s with toks:=s.toks+1}) (PySem.W.looks_clsIn X hc) ?_))))));rw [hd'];refine jl (a:=some dx) (ji (jl (ji ?_)));refine wpAny_nsSet1 (s:= {s with toks:=s.toks+1}) I.ns fun h' hn2 hs2=>?_;obtain ⟨oD,esD,epD,hoD,hdD,hcD⟩:=hn2.count (PySem.Within.cons name v hw);refine ji (wpAny_lookBehind hoD (by rw [hdD];exact pastItsLine_dict (QI hcD (by rw [jy];omega))) ?_);exact jl (h _ ⟨(hs2.2 _ (Ne.symm I.ne)).trans I.obj,hn2,I.ne⟩ hs2)
theorem Zir {R:Qaq->jj->Prop} {vs:List Value} {kw:List (Str×Value)} (X:K.In s.heap) (hm:makesIn K C=true)
 (hi:jQ K (.ref C) "__init__"=some (some (.ref f))) (hf:typeIn K (.ref f)=some (.type "function"))
 (h:uW (jr prog w) (A.under (.builtin "type.__call__" ⟨.ref C::vs,kw⟩)) (.call (.ref f) ⟨.ref (s.heap.objs.size+1)::vs,kw⟩) (PySem.W.InitBack (s.heap.objs.size+1) R)
  {s with heap:=(s.heap.push vd).push (v7 C s.heap.objs.size)}):
 uW (jr prog w) A (.call (.ref C) ⟨vs,kw⟩) R s:=by
 obtain ⟨hh,g,d,t,os⟩:=s;exact PySem.W.make_core (PySem.W.makes_of X hm) (Qah X hi) (fun self=>PySem.W.bind_fn X self hf) (.inl rfl) h
end
def YZ (f:Str) (v:V):List (Str×V)->List (Str×V)
 |[]=>[(f,v)]
 |(g,x)::r=>if g=f then (g,v)::r else (g,x)::YZ f v r
theorem Zey (f g:Str) (v:V):∀fs:List (Str×V),(YZ f v fs).lookup g=if g=f then some v else fs.lookup g
 |[]=>by
  show UW g [(f,v)]=_;by_cases h:g=f
  ·have hb:(g==f)=true:=beq_iff_eq.mpr h;simp only [UW,hb,if_pos h]
  ·have hb:(g==f)=false:=beq_eq_false_iff_ne.mpr h;simp only [UW,hb,if_neg h]
 |(k,x)::r=>by
  have ih:=Zey f g v r;rw [show YZ f v ((k,x)::r)=(if k=f then (k,v)::r else (k,x)::YZ f v r) from rfl];by_cases hk:k=f
  ·rw [if_pos hk];by_cases h:g=k
   ·have hb:(g==k)=true:=beq_iff_eq.mpr h;simp only [UW,hb,if_pos (h.trans hk)]
   ·have hb:(g==k)=false:=beq_eq_false_iff_ne.mpr h;simp only [UW,hb,if_neg (fun e:g=f=>h (e.trans hk.symm))]
  ·rw [if_neg hk];by_cases h:g=k
   ·have hb:(g==k)=true:=beq_iff_eq.mpr h;simp only [UW,hb,if_neg (fun e:g=f=>hk (h.symm.trans e))]
   ·have hb:(g==k)=false:=beq_eq_false_iff_ne.mpr h;simp only [UW,hb];exact ih
theorem Zd2 (f:Str) (v:V):∀fs:List (Str×V),f∈(YZ f v fs).map (·.1)/\∀g,g∈fs.map (·.1)->g∈(YZ f v fs).map (·.1)
 |[]=>⟨by simp [YZ],fun g h=>by simp at h⟩
 |(k,x)::r=>by
  obtain ⟨i1,i2⟩:=Zd2 f v r;rw [show YZ f v ((k,x)::r)=(if k=f then (k,v)::r else (k,x)::YZ f v r) from rfl];by_cases hk:k=f
  ·rw [if_pos hk];subst hk;exact ⟨by simp,fun g h=>by simpa using h⟩
  ·rw [if_neg hk];refine ⟨?_,fun g h=>?_⟩
   ·rw [jT];exact jH _ i1
   ·rw [jT] at h ⊢
    rcases jK.mp h with e|e
    ·exact jK.mpr (.inl e)
    ·exact jH _ (i2 g e)
theorem Zew (f:Str) (v:V):∀fs:List (Str×V),(YZ f v fs).length<=fs.length+1
 |[]=>by simp [YZ]
 |(k,x)::r=>by
  have ih:=Zew f v r;rw [show YZ f v ((k,x)::r)=(if k=f then (k,v)::r else (k,x)::YZ f v r) from rfl];by_cases hk:k=f
  ·rw [if_pos hk,jy,jy];omega
  ·rw [if_neg hk,jy,jy];omega
theorem Zcc.some_of {v:V} {o:Option Value} (r:Zcc (some v) o):∃u,o=some u/\ZW v u:=by
 cases o with
 |none=>exact (show False from r).elim
 |some u=>exact ⟨u,rfl,r⟩
theorem Zcc.none_of {o:Option Value} (r:Zcc none o):o=none:=by
 cases o with
 |none=>rfl
 |some u=>exact (show False from r).elim
theorem ZlI {v:V} {u:Value} (r:ZW v u):handedIn u=true:=by
 cases v with
 |non=>cases (show u=Qq from r);rfl
 |bl b=>cases (show u=VS b from r);rfl
 |int i=>obtain ⟨t,e⟩:=(show ∃t,u=U9 i t from r);cases e;rfl
 |str x=>obtain ⟨t,e⟩:=(show ∃t,u=UR x t from r);cases e;rfl
 |byt b=>obtain ⟨t,e⟩:=(show ∃t,u=W7 b t from r);cases e;rfl
 |flt b=>obtain ⟨t,e⟩:=(show ∃t,u=Wl b t from r);cases e;rfl
 |ref a=>cases (show u=Value.ref a from r);rfl
 |ty n=>cases (show u=UA n from r);rfl
section
variable {P:jw} {w:jB} {H H':Hp} {h h':Heap} {a C dx:jk} {fs fs':List (Str×V)}
theorem ZeS (hok:HOk P w H h) (e:H a=some (.ins C dx fs)):∃mA,Zi4 h a dx C mA/\(∀f,Zcc (fs.lookup f) (mA f))/\PySem.Within mA (fs.map (·.1))/\fs.length<=1000/\H dx=some (.own a):=by obtain ⟨d,z,ne,ob,mA,n,r,q⟩:=(show zy P w H h a (.ins C dx fs) from hok a _ e);exact ⟨mA,⟨ob,n,ne⟩,r,q,z,d⟩
end
structure Cls (K:Qa) (C:jk):Prop where
 pg:vR K C Vt=true
 hd:v9 K C=true
 po:Qan K C=true
 sa:jQ K (.ref C) "__setattr__"=some (some (.builtin "object.__setattr__"))
theorem Cls.get {K:Qa} {C:jk} (c:Cls K C) (f:Str):vR K C f=true:=c.pg
def qK (K:Qa) (C:jk) (f:Str):Prop:=jQ K (.ref C) f=some none
theorem qK.taker {K:Qa} {C:jk} {f:Str} (n:qK K C f):takerIn K C f=some none:=by unfold takerIn;rw [show jQ K (.ref C) f=some none from n];rfl
structure ZtK (K:Qa) (C:jk) (m:Str) (f:jk):Prop where
 at_:jQ K (.ref C) m=some (some (.ref f))
 fn:Qaj K (.ref f)=true
 kp:jI K (.ref f)=true
section
variable {X:Cx} {Zb:List (jk×Obj)} {σ:St} {H:Hp} {s:jj} {a C dx:jk} {fs:List (Str×V)} {f:Str} {v:V} {A:Around} {E:Value->jj->Prop}
theorem Zjh {b:Bool} {Q:Value->jj->Prop} (I:Inv X Zb σ H s) (e:H a=some (.ins C dx fs)) (c:Cls X.K C) (n:qK X.K C f) (l:fs.lookup f=some v)
 (h:∀u s',Inv X Zb σ H s'->ZW v u->Q u s'):jo (jr X.prog X.w) A (getAttr (.ref a) f b) Q E s:=by
 obtain ⟨mA,O,r,_,_,_⟩:=ZeS I.hok e;obtain ⟨u,hu,ru⟩:=Zcc.some_of (v:=v) (o:=mA f) (by rw [<-l];exact r f);exact Zru I.kIn O (c.get f) c.hd n hu (ZlI ru) (h u _ (I.tok _) ru)
theorem Zfo {m:Str} {g:jk} {pl:Sem Bool} {Q:Value×List Value->jj->Prop} (I:Inv X Zb σ H s) (e:H a=some (.ins C dx fs)) (c:Cls X.K C) (k:ZtK X.K C m g) (l:fs.lookup m=none)
 (h:Q (.ref g,[.ref a]) s):jo (jr X.prog X.w) A (Qao (.ref a) m pl) Q E s:=by
 obtain ⟨mA,O,r,_,_,_⟩:=ZeS I.hok e;have hn:mA m=none:=Zcc.none_of (by rw [<-l];exact r m);exact ZoN I.kIn O (c.get m) k.at_ k.fn hn h
theorem ZjL {y:V} {u:Value} {Q:Unit->jj->Prop} (I:Inv X Zb σ H s) (e:H a=some (.ins C dx fs)) (c:Cls X.K C) (n:qK X.K C f) (hl:fs.length<1000) (ry:ZW y u)
 (h:∀s',Inv X Zb σ (upd H a (.ins C dx (YZ f y fs))) s'->Q () s'):jo (jr X.prog X.w) A (setAttr (.ref a) f u) Q E s:=by
 obtain ⟨mA,O,r,wi,_,ho⟩:=ZeS I.hok e;have hz:(fs.map (·.1)).length<=sizeLine:=by rw [jn,jt];omega
 refine Zsl I.kIn O c.sa c.po n.taker c.hd wi hz fun h' O' sb=>h _ ?_;have hd:∃o,h'.get? dx=some o:=let ⟨o,_,_,e',_⟩:=O'.ns;⟨o,e'⟩;refine I.write (x:=a) (e:=dx) (by rw [e];exact True.intro) (.inr ho) (fun b q hb z=>(sb.2 b hb).trans z) hd ?_;refine ⟨by rw [Zj O.ne];exact ho,?_,O.ne,O'.obj,_,O'.ns,fun g=>?_,fun g hg=>?_⟩
 ·have:=Zew f y fs;omega
 ·show Zcc ((YZ f y fs).lookup g) (if g=f then some u else mA g);rw [Zey];by_cases q:g=f
  ·rw [if_pos q,if_pos q];exact ry
  ·rw [if_neg q,if_neg q];exact r g
 ·by_cases q:g=f
  ·rw [q];exact (Zd2 f y fs).1
  ·refine (Zd2 f y fs).2 g (wi g fun z=>hg ?_);show (if g=f then some u else mA g)=none;rw [if_neg q];exact z
theorem Inv.made (I:Inv X Zb σ H s):Inv X Zb σ (upd (upd H s.heap.objs.size (.own (s.heap.objs.size+1))) (s.heap.objs.size+1) (.ins C s.heap.objs.size []))
 {s with heap:=(s.heap.push vd).push (v7 C s.heap.objs.size)}:=by
 have e1:(s.heap.push vd).get? s.heap.objs.size=some vd:=Qh s.heap rfl;have e2:((s.heap.push vd).push (v7 C s.heap.objs.size)).get? (s.heap.objs.size+1)=some (v7 C s.heap.objs.size):=by have:=Qh (s.heap.push vd) (o:=v7 C s.heap.objs.size) rfl;rwa [Uo] at this
 have e3:(s.heap.push vd).Ns s.heap.objs.size (fun _=>none):=⟨vd,#[],_,e1,rfl,(fun e he=>absurd he (by simp)),fun _=>rfl⟩;have I1:=I.laid (a:=s.heap.objs.size) (o:=.own (s.heap.objs.size+1)) (h':=s.heap.push vd) (t':=s.toks) (fun b u q=>Qe _ q) (Qf _) ⟨_,e1⟩;refine I1.laid (a:=s.heap.objs.size+1) (o:=.ins C s.heap.objs.size []) (t':=s.toks) (fun b u q=>Qe _ q) (VI (Uo _ _)) ?_;have ne:s.heap.objs.size≠s.heap.objs.size+1:=Qm (UU _);refine ⟨by rw [Zj ne,Zh],Qu _,ne,e2,fun _=>none,(Heap.Ns1.of_empty e3).at fun o q=>Qe _ q,fun _=>True.intro,fun y hy=>absurd rfl hy⟩
theorem Zq8 {prog:jw} {w:jB} {env:Env} {e:jF} {f:Str} {pos:Pos} {s:jj} {Q:Value->jj->Prop} (hb:vh e f env (eval e env)=eval e env)
 (h:jo (jr prog w) A (eval e env) (fun o s₁=>jo (jr prog w) A (getAttr o f true) Q E s₁) E s):jo (jr prog w) A (eval (.Attribute e f pos) env) Q E s:=
 Attribute_any_ h (by rw [arm_eval_Attribute,hb])
end
def ZDQ (K:Qa) (ta:TE) (f:Str):TE:=fun σ H Q=>ta σ H fun x H1=>∃a C dx fs v,x=.ref a/\H1 a=some (.ins C dx fs)/\Cls K C/\qK K C f/\fs.lookup f=some v/\Q v H1
def ZDM (K:Qa) (ta tv:TE) (f:Str):TS:=fun D σ H=>tv σ H fun y H1=>ta σ H1 fun x H2=>∃a C dx fs,x=.ref a/\H2 a=some (.ins C dx fs)/\Cls K C/\qK K C f/\fs.length<1000/\
 D.nx σ (upd H2 a (.ins C dx (YZ f y fs)))
section
variable {X:Cx} {o e value:jF} {f:Str} {pos pos' tpos:Pos} {ta tv:TE}
theorem ZyC (he:PE X e ta) (hb:vh e f X.env (eval e X.env)=eval e X.env):PE X (.Attribute e f pos) (ZDQ X.K ta f):=by intro Zb s σ H Q I h;refine Zq8 hb (thn (he Zb s σ H _ I h) fun u s1 ⟨x,H1,I1,rx,a,C,dx,fs,v,ex,ea,c,n,l,q⟩=>?_);subst ex;obtain rfl:u=Value.ref a:=rx;exact Zjh I1 ea c n l fun u' s2 I2 ru=>⟨v,H1,I2,ru,q⟩
theorem Zzp (ha:PE X o ta) (hv:PE X value tv) (hs:uZ value (some (.Attribute o f pos')) pos.line X.env=pure false):PS X (.Assign [.Attribute o f pos'] value pos) (ZDM X.K ta tv f):=by intro Zb s σ H D I h;refine plainObj_wpAny_Assign_Attribute (thn (hv Zb s σ H _ I h) fun u s1 ⟨y,H1,I1,ry,q⟩=>thn (ha Zb s1 σ H1 _ I1 q) fun ov s2 ⟨x,H2,I2,rx,a,C,dx,fs,ex,ea,c,n,l,q2⟩=>?_) hs;subst ex;obtain rfl:ov=Value.ref a:=rx;exact ZjL I2 ea c n l ry fun s3 I3=>⟨σ,_,I3,q2⟩
end
section
variable {X:Cx} {Zb:List (jk×Obj)} {σ:St} {H:Hp} {s:jj} {A:Around} {E:Value->jj->Prop} {Q:Value->jj->Prop} {c:Value} {b:Bool}
inductive Zdg (K:Qa) (H:Hp):V->Value->Prop where
 |non:Zdg K H .non (.type "NoneType")
 |bl (x:Bool):Zdg K H (.bl x) (.type "bool")
 |int (i:Int):Zdg K H (.int i) (.type "int")
 |str (x:Str):Zdg K H (.str x) (.type "str")
 |flt (x:UInt64):Zdg K H (.flt x) (.type "float")
 |lst {a:jk} {xs:List V} (e:H a=some (.lst xs)):Zdg K H (.ref a) (.type "list")
 |frz {a:jk} {o:Obj} {xs:List V} (e:H a=some (.frz o (.lst xs))):Zdg K H (.ref a) (.type "list")
 |tup {a:jk} {xs:List V} (e:H a=some (.tup xs)):Zdg K H (.ref a) (.type "tuple")
 |dK {a:jk} {kvs:List (Key×V)} (e:H a=some (.dK kvs)):Zdg K H (.ref a) (.type "dict")
 |dT {a:jk} {kvs:List (List Key×V)} (e:H a=some (.dT kvs)):Zdg K H (.ref a) (.type "dict")
 |ins {a C dx:jk} {fs:List (Str×V)} (e:H a=some (.ins C dx fs)) (cl:Cls K C) (ha:jQ K (.ref C) "__class__"=some (some (.builtin "object.__class__")))
  (hn:v5 K (.builtin "object.__class__") "__get__"=some (some (.builtin "getset_descriptor.__get__"))) (htk:Qat K (.builtin "object.__class__")=some true)
  (hm:vm K C (.type "object")=some true):Zdg K H (.ref a) (.ref C)
theorem ZgF {x:V} {u t:Value} (I:Inv X Zb σ H s) (rx:ZW x u) (ty:Zdg X.K H x t) (e:jA X.K t c=some b) (h:∀tk,Q (.bool b) {s with toks:=tk}):
 jo (jr X.prog X.w) A (call (.builtin "isinstance") [u,c]) Q E s:=by
 cases ty with
 |non=>cases (show u=Qq from rx);exact vp PySem.W.kitx_none I.kIn True.intro e (fun z=>nomatch z) h
 |bl y=>cases (show u=VS y from rx);exact vp PySem.W.kitx_bool I.kIn True.intro e (fun z=>nomatch z) h
 |int i=>obtain ⟨t,q⟩:=(show ∃t,u=U9 i t from rx);cases q;exact vp PySem.W.kitx_int I.kIn True.intro e (fun z=>nomatch z) h
 |str y=>obtain ⟨t,q⟩:=(show ∃t,u=UR y t from rx);cases q;exact vp PySem.W.kitx_str I.kIn True.intro e (fun z=>nomatch z) h
 |flt y=>obtain ⟨t,q⟩:=(show ∃t,u=Wl y t from rx);cases q;exact vp PySem.W.kitx_float I.kIn True.intro e (fun z=>nomatch z) h
 |@lst a xs ea=>
  cases (show u=Value.ref a from rx);obtain ⟨_,_,n,_,h1⟩:=(show zy X.prog X.w H s.heap a (.lst xs) from I.hok a _ ea);exact vp kitx_list I.kIn ⟨_,h1,rfl⟩ e (fun z=>nomatch z) h
 |@frz a ob xs ea=>
  cases (show u=Value.ref a from rx);obtain ⟨_,_,_,n,_,h1⟩:=(show zy X.prog X.w H s.heap a (.frz ob (.lst xs)) from I.hok a _ ea);exact vp kitx_list I.kIn ⟨_,h1,rfl⟩ e (fun z=>nomatch z) h
 |@tup a xs ea=>
  cases (show u=Value.ref a from rx);obtain ⟨_,_,_,p⟩:=(show zy X.prog X.w H s.heap a (.tup xs) from I.hok a _ ea);obtain ⟨o,h1,h2,_⟩:=p;exact vp PySem.W.kitx_tuple I.kIn ⟨o,h1,h2⟩ e (fun z=>nomatch z) h
 |@dK a kvs ea=>
  cases (show u=Value.ref a from rx);obtain ⟨_,_,vs,_,p⟩:=(show zy X.prog X.w H s.heap a (.dK kvs) from I.hok a _ ea);obtain ⟨o,es,ep,h1,h2,_⟩:=p;exact vp PySem.W.kitx_dict I.kIn ⟨o,h1,h2.1⟩ e (fun z=>nomatch z) h
 |@dT a kvs ea=>exact False.elim (show zy X.prog X.w H s.heap a (.dT kvs) from I.hok a _ ea)
 |@ins a C dx fs ea cl ha hn htk hm=>
  cases (show u=Value.ref a from rx);obtain ⟨mA,O,_⟩:=ZeS I.hok ea;obtain ⟨od,J,_⟩:=O.look;exact vp (PySem.W.kitx_own (cl.get _) cl.hd ha hn htk hm) I.kIn J e (fun z=>nomatch z) h
end
structure Ye (k:Nat) (A:Around):Prop where
 hd:A.handled=none
 dp:A.depth+3 * k+5<recursionLimit
 un:A.units+16 * k+200<cLine
theorem Ye.mono {j k:Nat} {A:Around} (r:Ye k A) (h:j<=k):Ye j A:=⟨r.hd,by have:=r.dp;omega,by have:=r.un;omega⟩
theorem Ye.deeper {k:Nat} {A:Around} (r:Ye (k+1) A) (env:Env):Ye k (A.deeper env):=
 ⟨r.hd,by have:=r.dp;show A.depth+1+3 * k+5<_;omega,by have:=r.un;show A.units+3+16 * k+200<_;omega⟩
theorem Zjq {A:Around} {C:jk} {us:List Value} {kw:List (Str×Value)}:(A.under (.builtin "type.__call__" ⟨.ref C::us,kw⟩)).depth=A.depth+1:=by
 first|rfl|simp [Around.under,Code.weight,Code.isCreation,Code.isGuard,Code.isCaller,Code.frames,Code.isFrame,guardIds]
theorem Zjr {A:Around} {C:jk} {us:List Value} {kw:List (Str×Value)}:(A.under (.builtin "type.__call__" ⟨.ref C::us,kw⟩)).units=A.units+1:=by
 first|rfl|simp [Around.under,Code.cUnits,Code.frames,Code.isFrame]
theorem Ye.make {k:Nat} {A:Around} (r:Ye (k+1) A) (C:jk) (us:List Value) (kw:List (Str×Value)):Ye k (A.under (.builtin "type.__call__" ⟨.ref C::us,kw⟩)):=
 ⟨r.hd,by have:=r.dp;rw [Zjq];omega,by have:=r.un;rw [Zjr];omega⟩
theorem Ye.depth {k:Nat} {A:Around} (r:Ye k A):A.depth<recursionLimit:=by have:=r.dp;omega
theorem Ye.units {k:Nat} {A:Around} (r:Ye k A):A.units+64<cLine:=by have:=r.un;omega
def Zmp:TA:=fun _ H Q=>Q [] H
def ZqL (ta:TE) (tr:TA):TA:=fun σ H Q=>ta σ H fun x H1=>tr σ H1 fun xs H2=>Q (x::xs) H2
section
variable {X:Cx} {e:jF} {es:List jF} {te:TE} {t:TA} {pos:Pos}
theorem Ze:PA X [] Zmp:=fun _ _ _ _ H Q I h=>Calls.spliced_nil ⟨[],H,I,.nil,h⟩
theorem Za (ha:PE X e te) (hr:PA X es t) (hs:jx (e::es) X.env=(false,eval e X.env)::jx es X.env:=by rfl):PA X (e::es) (ZqL te t):=by intro pos Zb s σ H Q I h;rw [hs];show jo _ _ (spliced ((false,eval e X.env)::uu pos (jx es X.env))) _ _ s;refine Calls.spliced_cons (thn (ha Zb s σ H _ I h) fun u s1 ⟨x,H1,I1,r1,q1⟩=>?_);exact thn (hr pos Zb s1 σ H1 _ I1 q1) fun us s2 ⟨xs,H2,I2,r2,q2⟩=>⟨x::xs,H2,I2,.cons r1 r2,q2⟩
def ZAj (t:TA):TE:=fun σ H Q=>t σ H fun xs H1=>xs.length<=sizeLine/\∀p,H1 p=none->Q (.ref p) (upd H1 p (.tup xs))
def ZAf (t:TA):TE:=fun σ H Q=>t σ H fun xs H1=>xs.length<=sizeLine/\∀p,H1 p=none->Q (.ref p) (upd H1 p (.lst xs))
theorem ZX {x1} (h:PA X es t):PE X (.Tuple es x1 pos) (ZAj t):=by intro Zb s σ H Q I hq;refine wpAny_Tuple_spliced (thn (h pos Zb s σ H _ I hq) fun us s1 ⟨xs,H1,I1,r,z,q⟩=>⟨by rw [<-r.length];exact z,?_⟩);have hf:H1 s1.heap.objs.size=none:=I1.hok.fresh (Qf _);refine ⟨.ref s1.heap.objs.size,upd H1 s1.heap.objs.size (.tup xs),I1.laid (t':=s1.toks) (fun b u e=>Qe _ e) (Qf _) ?_,rfl,q _ hf⟩;exact ⟨z,us,r,⟨_,Qh _ rfl,rfl,_,rfl⟩⟩
theorem ZaD (h:PA X es t):PE X (.List es pos) (ZAf t):=by intro Zb s σ H Q I hq;refine wpAny_List_spliced (thn (h pos Zb s σ H _ I hq) fun us s1 ⟨xs,H1,I1,r,z,q⟩=>⟨by rw [<-r.length];exact z,?_⟩);have hf:H1 s1.heap.objs.size=none:=I1.hok.fresh (Qf _);refine ⟨.ref s1.heap.objs.size,upd H1 s1.heap.objs.size (.lst xs),I1.laid (t':=s1.toks) (fun b u e=>Qe _ e) (Qf _) ?_,rfl,q _ hf⟩;exact ⟨z,us,0,r,Qh _ rfl⟩
end
abbrev Sp:=List V->Hp->VK->XK->Prop
abbrev CXT:=List Env->Hp->jj->XK->Value->jj->Prop
structure Ze4 (P:jw) (w:jB) (K:Qa) (mg:Str->Option Value) (base:Heap) (A:Around) (outer:List Env) (s:jj) (H:Hp):Prop where
 frames:A.frames=some outer
 mod:Mod K mg base
 bs:∀b o,base.get? b=some o->s.heap.get? b=some o/\H b=none
 bsz:base.objs.size<=s.heap.objs.size
 funs:s.heap.FunFrames base outer
 frf:∀b∈frs outer,H b=none
 hok:HOk P w H s.heap
 bare:vq s.gens
def CE (outer:List Env) (P:jw) (w:jB) (H:Hp) (s:jj) (Q:VK) (u:Value) (s':jj):Prop:=
 ∃v H',s'.os=s.os/\vq s'.gens/\Un (frs outer) [] H H' s.heap s'.heap/\HOk P w H' s'.heap/\ZW v u/\Q v H'
def CR (CX:CXT) (outer:List Env) (P:jw) (w:jB) (H:Hp) (s:jj) (Q:VK) (E:XK) (r:Qaq) (s':jj):Prop:=
 match r with
 | .ok (.ret u)=>CE outer P w H s Q u s'
 | .ok _=>False
 | .error e=>CX outer H s E e s'
structure Z0 (P:jw) (w:jB) (K:Qa) (mg:Str->Option Value) (base:Heap) (CX:CXT) (k:Nat) (f:jk) (fd:j7) (ps:List Str) (sp:Sp):Prop where
 len:∀vs H Q E,sp vs H Q E->vs.length=ps.length
 run:∀(A:Around) (outer:List Env) (s:jj) (H:Hp) (args:Args) (us:List Value) (vs:List V) (Q:VK) (E:XK),Ye k A->Ze4 P w K mg base A outer s H->Qam s fd args (ps.zip us)->ZE vs us->sp vs H Q E->
  uW (jr P w) A (.call (.ref f) args) (CR CX outer P w H s Q E) s
theorem Z0.imp {P:jw} {w:jB} {K:Qa} {mg:Str->Option Value} {base:Heap} {CX:CXT} {k:Nat} {f:jk} {fd:j7} {ps:List Str} {sp sp':Sp} (F:Z0 P w K mg base CX k f fd ps sp)
 (h:∀vs H Q E,sp' vs H Q E->sp vs H Q E):Z0 P w K mg base CX k f fd ps sp':=
 ⟨fun vs H Q E q=>F.len vs H Q E (h _ _ _ _ q),fun A outer s H args us vs Q E hr he hb hv hs=>F.run A outer s H args us vs Q E hr he hb hv (h _ _ _ _ hs)⟩
theorem Ze4.make {P:jw} {w:jB} {K:Qa} {mg:Str->Option Value} {base:Heap} {A:Around} {outer:List Env} {s:jj} {H:Hp} (e:Ze4 P w K mg base A outer s H) (C:jk) (us:List Value) (kw:List (Str×Value)):
 Ze4 P w K mg base (A.under (.builtin "type.__call__" ⟨.ref C::us,kw⟩)) outer s H:=⟨by first|exact e.frames|(simpa [Around.under,Code.envs,Code.isFrame,pushEnvs] using e.frames),e.mod,e.bs,e.bsz,e.funs,e.frf,e.hok,e.bare⟩
section
variable {X:Cx} {Zb:List (jk×Obj)} {σ:St} {H:Hp} {s s':jj}
theorem Inv.env0 (I:Inv X Zb σ H s):Ze4 X.prog X.w X.K X.mg X.base X.A X.stack s H:=
 ⟨I.ok.frames,I.ok.mod,I.bs,QI I.ok.bsz I.sz,I.stack,I.stkFree,I.hok,I.bare⟩
theorem Inv.after {Q:VK} {u:Value} (I:Inv X Zb σ H s) (h:CE X.stack X.prog X.w H s Q u s'):EP X Zb σ Q u s':=by obtain ⟨v,H',os,bare,un,hok,r,q⟩:=h;obtain ⟨hh,g,d,t,os'⟩:=s';obtain rfl:os'=s.os:=os;exact ⟨v,H',I.call (h':=hh) (g':=g) (d':=d) (t':=t) (ch:=[]) un hok bare (fun b z=>absurd z (by simp)),r,q⟩
end
def ZtC (sp:Sp) (dvs:List V) (E:XK) (t:TA):TE:=fun σ H Q=>t σ H fun vs H1=>sp (vs++dvs) H1 Q E
def ZqQ (C:jk) (m:Str) (sp:Sp) (dvs:List V) (E:XK) (ta:TE) (t:TA):TE:=fun σ H Q=>ta σ H fun x H1=>∃a dx fs,x=.ref a/\H1 a=some (.ins C dx fs)/\fs.lookup m=none/\
 t σ H1 fun vs H2=>sp (x::(vs++dvs)) H2 Q E
def ZiW (C:jk) (sp:Sp) (dvs:List V) (E:XK) (t:TA):TE:=fun σ H Q=>t σ H fun vs H1=>∀x dx,H1 x=none->H1 dx=none->dx≠x->
 sp (.ref x::(vs++dvs)) (upd (upd H1 dx (.own x)) x (.ins C dx [])) (fun v H2=>v=.non/\Q (.ref x) H2) E
def Zaq (K:Qa) (fd:j7) (ps:List Str) (ds:List Value):Prop:=
 ∀(s:jj) (us:List Value),K.In s.heap->(us++ds).length=ps.length->Qam s fd ⟨us,[]⟩ (ps.zip (us++ds))
theorem Zaq.all {K:Qa} {fd:j7} {ps:List Str} (h:∀us:List Value,us.length=ps.length->QaG fd ⟨us,[]⟩=pure (ps.zip us)):Zaq K fd ps []:=fun s us _ hl=>by
 rw [vf] at hl ⊢
 exact .of_eq (h us hl)
def Zcb (CX:CXT) (X:Cx) (E:XK):Prop:=∀(Zb:List (jk×Obj)) (σ:St) (H:Hp) (s:jj) (e:Value) (s':jj),Inv X Zb σ H s->CX X.stack H s E e s'->X.xe e s'
section
variable {X:Cx} {CX:CXT} {k:Nat} {f C:jk} {fd:j7} {ps:List Str} {sp:Sp} {dvs:List V} {ds:List Value} {E:XK} {x m:Str} {p pos apos:Pos} {e o:jF} {es:List jF} {ta:TE} {t:TA}
theorem ZjK {Zb:List (jk×Obj)} {σ:St} {H:Hp} {s:jj} {Q:VK} {us:List Value} {vs:List V} (F:Z0 X.prog X.w X.K X.mg X.base CX k f fd ps sp) (hr:Ye k X.A) (hb:Zaq X.K fd ps ds) (hd:ZE dvs ds) (hx:Zcb CX X E)
 (I:Inv X Zb σ H s) (r:ZE vs us) (h:sp (vs++dvs) H Q E):jo (jr X.prog X.w) X.A (call (.ref f) us) (EP X Zb σ Q) X.xe s:=by
 have r2:ZE (vs++dvs) (us++ds):=r.append hd;have hl:(us++ds).length=ps.length:=by rw [<-r2.length];exact F.len _ _ _ _ h
 refine uN (ub (F.run X.A X.stack s H ⟨us,[]⟩ (us++ds) (vs++dvs) Q E hr I.env0 (hb s us I.kIn hl) r2 h) fun r s' hq=>?_)
 cases r with
 |error e=>exact hx Zb σ H s e s' I hq
 |ok fl=>
  cases fl with
  |ret u=>exact I.after hq
  |next=>exact False.elim hq
  |brk=>exact False.elim hq
  |cont=>exact False.elim hq
theorem ZrW (F:Z0 X.prog X.w X.K X.mg X.base CX k f fd ps sp) (hr:Ye k X.A) (hg:Gl X x) (hm:X.mg x=some (.ref f)) (hk:jI X.K (.ref f)=true) (hb:Zaq X.K fd ps ds) (hd:ZE dvs ds) (hx:Zcb CX X E)
 (ha:PA X (e::es) t) (hdb:(x==("__debug__":Str))=false:=by decide) (he:jx (e::es) X.env=(false,eval e X.env)::jx es X.env:=by rfl) (hpl:(uu pos (jx es X.env)).any (·.1)=false:=by rfl):
 PE X (.Call (.Name x p) (e::es) [] pos) (ZtC sp dvs E t):=by
 intro Zb s σ H Q I h;refine j0 (Zap I hg hm ?_ hdb);refine ve (h₀:=X.base) I.ok.mod.kin hk (thn (ha pos Zb s σ H _ I h) fun us s1 ⟨vs,H1,I1,r,q⟩=>⟨I1.kIn,?_⟩) he hpl;exact ZjK F hr hb hd hx I1 r q
theorem Zqf (F:Z0 X.prog X.w X.K X.mg X.base CX k f fd ps sp) (hr:Ye k X.A) (hg:Gl X x) (hm:X.mg x=some (.ref f)) (hk:jI X.K (.ref f)=true) (hb:Zaq X.K fd ps ds) (hd:ZE dvs ds) (hx:Zcb CX X E)
 (hdb:(x==("__debug__":Str))=false:=by decide):PE X (.Call (.Name x p) [] [] pos) (ZtC sp dvs E Zmp):=by
 intro Zb s σ H Q I h;refine j0 (Zap I hg hm ?_ hdb);exact callWith_K0 I.kIn hk (ZjK (us:=[]) F hr hb hd hx I .nil h)
theorem Zr0 {pl:Sem Bool} (he:PE X o ta) (c:Cls X.K C) (hm:ZtK X.K C m f) (F:Z0 X.prog X.w X.K X.mg X.base CX k f fd ps sp) (hr:Ye k X.A) (hb:Zaq X.K fd ps ds) (hd:ZE dvs ds) (hx:Zcb CX X E) (ha:PA X (e::es) t)
 (hst:jx (e::es) X.env=(false,eval e X.env)::jx es X.env:=by rfl) (hpl:(uu pos (jx es X.env)).any (·.1)=false:=by rfl)
 (ht:eval (.Call (.Attribute o m apos) (e::es) [] pos) X.env=(do
  let ov <-eval o X.env
  standAt apos.atName
  let (f,first) <-vH [ov] (Qao ov m pl)
  callWith pos f first (uu pos (jx (e::es) X.env)) (vX pos (vj [] X.env))):=by rfl):
 PE X (.Call (.Attribute o m apos) (e::es) [] pos) (ZqQ C m sp dvs E ta t):=by
 intro Zb s σ H Q I h;refine methodCall_KW (pl:=pl) (thn (he Zb s σ H _ I h) fun u s1 ⟨x,H1,I1,rx,a,dx,fs,ex,ea,l,q⟩=>?_) ht;subst ex;obtain rfl:u=Value.ref a:=rx;refine Zfo I1 ea c hm l ?_;refine ve (first:=[.ref a]) (h₀:=X.base) I.ok.mod.kin hm.kp (thn (ha pos Zb s1 σ H1 _ I1 q) fun us s2 ⟨vs,H2,I2,r,q2⟩=>⟨I2.kIn,?_⟩) hst hpl;exact ZjK (us:=.ref a::us) (vs:=.ref a::vs) F hr hb hd hx I2 (.cons rfl r) q2
structure Mk (K:Qa) (C f:jk):Prop where
 makes:makesIn K C=true
 init:jQ K (.ref C) "__init__"=some (some (.ref f))
 fn:Qaj K (.ref f)=true
 kp:jI K (.ref C)=true
theorem ZiN {Zb:List (jk×Obj)} {σ:St} {H:Hp} {s:jj} {Q:VK} {us:List Value} {vs:List V} (M:Mk X.K C f) (F:Z0 X.prog X.w X.K X.mg X.base CX k f fd ps sp) (hr:Ye (k+1) X.A) (hb:Zaq X.K fd ps ds) (hd:ZE dvs ds)
 (hx:Zcb CX X E) (I:Inv X Zb σ H s) (r:ZE vs us)
 (h:∀x dx,H x=none->H dx=none->dx≠x->sp (.ref x::(vs++dvs)) (upd (upd H dx (.own x)) x (.ins C dx [])) (fun v H2=>v=.non/\Q (.ref x) H2) E):
 jo (jr X.prog X.w) X.A (call (.ref C) us) (EP X Zb σ Q) X.xe s:=by
 have hq:=h (s.heap.objs.size+1) s.heap.objs.size (I.hok.fresh (U7 _)) (I.hok.fresh (Qf _)) (Qm (UU _));have I2:=Inv.made (C:=C) I;have r2:ZE (V.ref (s.heap.objs.size+1)::(vs++dvs)) (Value.ref (s.heap.objs.size+1)::(us++ds)):=.cons rfl (r.append hd);have hl:(Value.ref (s.heap.objs.size+1)::us++ds).length=ps.length:=by have e:=r2.length;rw [F.len _ _ _ _ hq] at e;exact e.symm
 refine uN (Zir (f:=f) I.kIn M.makes M.init (beq_iff_eq.mp M.fn) (ub (F.run _ X.stack _ _ ⟨Value.ref (s.heap.objs.size+1)::us,[]⟩ (Value.ref (s.heap.objs.size+1)::(us++ds)) _ _ E (hr.make C us [])
  (I2.env0.make C us []) (hb _ (Value.ref (s.heap.objs.size+1)::us) I2.kIn hl) r2 hq) fun r s' hq'=>?_))
 cases r with
 |error e=>exact hx Zb σ _ _ e s' I2 hq'
 |ok fl=>
  cases fl with
  |ret u=>
   obtain ⟨v,H',I3,rv,ev,q3⟩:=I2.after hq';subst ev;exact ⟨rv,⟨V.ref (s.heap.objs.size+1),H',I3,rfl,q3⟩⟩
  |next=>exact False.elim hq'
  |brk=>exact False.elim hq'
  |cont=>exact False.elim hq'
theorem ZrY (M:Mk X.K C f) (F:Z0 X.prog X.w X.K X.mg X.base CX k f fd ps sp) (hr:Ye (k+1) X.A) (hg:Gl X x) (hm:X.mg x=some (.ref C)) (hb:Zaq X.K fd ps ds) (hd:ZE dvs ds) (hx:Zcb CX X E)
 (ha:PA X (e::es) t) (hdb:(x==("__debug__":Str))=false:=by decide) (he:jx (e::es) X.env=(false,eval e X.env)::jx es X.env:=by rfl) (hpl:(uu pos (jx es X.env)).any (·.1)=false:=by rfl):
 PE X (.Call (.Name x p) (e::es) [] pos) (ZiW C sp dvs E t):=by
 intro Zb s σ H Q I h;refine j0 (Zap I hg hm ?_ hdb);refine ve (h₀:=X.base) I.ok.mod.kin M.kp (thn (ha pos Zb s σ H _ I h) fun us s1 ⟨vs,H1,I1,r,q⟩=>⟨I1.kIn,?_⟩) he hpl;exact ZiN M F hr hb hd hx I1 r q
theorem Zql (M:Mk X.K C f) (F:Z0 X.prog X.w X.K X.mg X.base CX k f fd ps sp) (hr:Ye (k+1) X.A) (hg:Gl X x) (hm:X.mg x=some (.ref C)) (hb:Zaq X.K fd ps ds) (hd:ZE dvs ds) (hx:Zcb CX X E)
 (hdb:(x==("__debug__":Str))=false:=by decide):PE X (.Call (.Name x p) [] [] pos) (ZiW C sp dvs E Zmp):=by
 intro Zb s σ H Q I h;refine j0 (Zap I hg hm ?_ hdb);exact callWith_K0 I.kIn M.kp (ZiN (us:=[]) M F hr hb hd hx I .nil h)
end
structure Zw (N P:List Str) (sc:Scope):Prop where
 kind:sc.kind=.function
 co:sc.isCoroutine=false
 gen:sc.isGenerator=false
 nd:N.Nodup
 pre:N.take P.length=P
 par:∀x∈P,sc.names.lookup x=some .local\/sc.names.lookup x=some .cell
 nofree:∀y∈sc.names,y.2≠ .free
theorem Zgv {kindOf:Str->Option vF} {x:Str}:∀{binds:List (Str×Value)} {m:Str->Option Value},(∀v,(x,v)∉binds)->bindL kindOf binds m x=m x
 |[],_,_=>rfl
 |(n,v)::r,m,h=>by
  unfold bindL;rw [Zgv fun w hw=>h w (jH _ hw)];split
  ·have:x≠n:=by rintro rfl;exact h v jW
   simp [this]
  ·rfl
theorem Zgt {kindOf:Str->Option vF} {x:Str}:∀{binds:List (Str×Value)} {m:Str->Option Value},(∀v,(x,v)∉binds)->bindC kindOf binds m x=m x
 |[],_,_=>rfl
 |(n,v)::r,m,h=>by
  unfold bindC;rw [Zgt fun w hw=>h w (jH _ hw)];split
  ·rfl
  ·have:x≠n:=by rintro rfl;exact h v jW
   simp [this]
theorem Zgu {kindOf:Str->Option vF} {x:Str} {v:Value}:∀{P:List Str} {vs:List Value} {i:Nat} {m:Str->Option Value},P.Nodup->P[i]?=some x->vs[i]?=some v->kindOf x=some .local->
 bindL kindOf (P.zip vs) m x=some v
 |[],_,_,_,_,h,_,_=>by simp at h
 |_::_,[],_,_,_,_,h,_=>by simp at h
 |p::P,w::vs,0,m,nd,h1,h2,hk=>by simp at h1 h2;subst h1;subst h2;show bindL kindOf ((p,w)::P.zip vs) m p=_;unfold bindL;rw [Zgv fun v hv=>(Uu.mp nd).1 (Vj hv).1,if_pos hk];simp
 |p::P,w::vs,i+1,m,nd,h1,h2,hk=>by show bindL kindOf ((p,w)::P.zip vs) m x=_;unfold bindL;exact Zgu (i:=i) (Uu.mp nd).2 (by simpa using h1) (by simpa using h2) hk
theorem Zgs {kindOf:Str->Option vF} {x:Str} {v:Value}:∀{P:List Str} {vs:List Value} {i:Nat} {m:Str->Option Value},P.Nodup->P[i]?=some x->vs[i]?=some v->kindOf x≠some .local->
 bindC kindOf (P.zip vs) m x=some v
 |[],_,_,_,_,h,_,_=>by simp at h
 |_::_,[],_,_,_,_,h,_=>by simp at h
 |p::P,w::vs,0,m,nd,h1,h2,hk=>by simp at h1 h2;subst h1;subst h2;show bindC kindOf ((p,w)::P.zip vs) m p=_;unfold bindC;rw [Zgt fun v hv=>(Uu.mp nd).1 (Vj hv).1,if_neg hk];simp
 |p::P,w::vs,i+1,m,nd,h1,h2,hk=>by show bindC kindOf ((p,w)::P.zip vs) m x=_;unfold bindC;exact Zgs (i:=i) (Uu.mp nd).2 (by simpa using h1) (by simpa using h2) hk
def Zaa (N:List Str) (vs:List V):St:=vs.map some++Qv (N.length-vs.length) none
def Zau (CX:CXT) (P:jw) (w:jB) (K:Qa) (mg:Str->Option Value) (base:Heap) (N:List Str) (qual:Str) (scope:Scope) (f:jk) (cd:Value) (A:Around) (outer:List Env) (s:jj) (H:Hp) (E:XK):Cx where
 prog:=P
 w:=w
 K:=K
 mg:=mg
 base:=base
 A:=A.deeper (ul qual scope s.heap.objs.size f cd)
 N:=N
 s₀:=s
 H₀:=H
 env:=ul qual scope s.heap.objs.size f cd
 outer:=outer
 stack:=ul qual scope s.heap.objs.size f cd::outer
 ex:=[]
 calm:=true
 fn:=fun _=>true
 pn:=[]
 xe:=fun e s'=>jo (jr P w) (A.deeper (ul qual scope s.heap.objs.size f cd)) (leaving (ul qual scope s.heap.objs.size f cd) e) (fun _ s''=>CX outer H s E e s'') (fun e' s''=>CX outer H s E e' s'') s'
theorem Zh0 {sc:Scope} {n:Nat} {x:Str} (h:sc.names.lookup x=some .cell):∃c,(cellsFrom n sc.names []).lookup x=some c:=by have q:=QaF sc.names n [] (.inl h);exact U0.mp q
theorem ZgE {CX:CXT} {P:jw} {w:jB} {K:Qa} {mg:Str->Option Value} {base:Heap} {N ps:List Str} {qual:Str} {scope:Scope} {f:jk} {cd:Value} {A:Around} {outer:List Env} {s s1:jj} {H:Hp} {E:XK} {us:List Value} {vs:List V}
 (S:Zw N ps scope) (hd:A.handled=none) (e0:Ze4 P w K mg base A outer s H) (hl:vs.length=ps.length) (r:ZE vs us)
 (x:InCallC s s.heap.objs.size (bindL (ul qual scope s.heap.objs.size f cd).kindOf (ps.zip us) fun _=>none) (cellsFrom (s.heap.objs.size+1) scope.names []) (bindC (ul qual scope s.heap.objs.size f cd).kindOf (ps.zip us) fun _=>none) s1):
 Inv (Zau CX P w K mg base N qual scope f cd A outer s H E) [] (Zaa N vs) H s1:=by
 have hpl:ps.length<=N.length:=by have:=congrArg Ur S.pre;rw [jz] at this;omega
 obtain ⟨h1,tk,rfl,hk⟩:=x.done;have noA:∀b:jk,b∉(Zau CX P w K mg base N qual scope f cd A outer s H E).ex:=fun b z=>absurd (show b∈([]:List jk) from z) (by simp)
 refine ⟨⟨e0.mod,S.kind,rfl,rfl,Qf _,fun y z c h1 h2=>?_,fun y hy=>?_,fun y c _ h=>?_,fun _=>hd,Around.frames_deeper e0.frames,.inr ⟨rfl,rfl⟩,fun b z=>absurd z (noA b),e0.bs,e0.bsz,fun b _ _=>noA b,fun b z=>absurd z (noA b),e0.funs,e0.frf⟩,
  rfl,e0.bare,Un.kept hk,⟨_,x.toInCall.ns,fun i y v h1 h2 h3=>?_⟩,fun y c h=>⟨_,x.cell y c h⟩,e0.hok.fresh (Qf _),fun y c h=>?_,fun p hp=>absurd (show p∈([]:List (jk×Obj)) from hp) (by simp),e0.hok.kept hk,?_⟩
 ·exact name_of_addr x.apart (PySem.mem_of_lookup h1) (PySem.mem_of_lookup h2)
 ·have hy:scope.names.lookup y=some .cell\/scope.names.lookup y=some .free:=hy;rcases hy with hy|hy
  ·exact Zh0 hy
  ·exact absurd rfl (S.nofree _ (PySem.mem_of_lookup hy))
 ·exact QQ (x.above y c (PySem.mem_of_lookup h))
 ·have hi:i<vs.length:=by
   unfold Zaa at h2;by_cases hi:i<vs.length
   ·exact hi
   ·rw [Qt (by simpa using hi)] at h2;rw [UK] at h2;split at h2<;>cases h2
  have ha:vs[i]?=some v:=by
   unfold Zaa at h2;rw [Qx (by simpa using hi),Qi] at h2
   cases e:vs[i]? with
   |none=>rw [e] at h2;cases h2
   |some a=>rw [e] at h2;cases h2;rfl
  obtain ⟨u,hu,rv⟩:=r.get ha;have hp:ps[i]?=some y:=by rw [<-S.pre,V9 (by omega)];exact h1
  have ndP:ps.Nodup:=by rw [<-S.pre];exact S.nd.sublist (Uz _ _)
  refine ⟨u,rv,?_⟩;rcases S.par y (QE hp) with k|k
  ·exact .inl ⟨k,Zgu ndP hp hu k⟩
  ·obtain ⟨c,e⟩:=Zh0 (n:=s.heap.objs.size+1) k;refine .inr ⟨.inl k,c,e,?_⟩;have q:=x.cell y c e;rw [Zgs ndP hp hu (by show scope.names.lookup y≠_;rw [k];decide)] at q;exact q
 ·exact e0.hok.fresh (QQ (x.above y c (PySem.mem_of_lookup h)))
 ·unfold Zaa;show _=N.length;rw [jq,jn,uK];omega
theorem Zh9 {CX:CXT} {P:jw} {w:jB} {K:Qa} {mg:Str->Option Value} {base:Heap} {k:Nat} {f:jk} {name qual:Str} {params:Arguments} {body:List Stmt} {scope:Scope} {dV kV doc pm cdv ct oc:Value} {an od:Option jk}
 {osl:Array (Option Value)} {N ps:List Str} {sp:Sp} (lk:K.lookup f=some ⟨oc,od,.func (ur name qual params body scope dV kV doc pm an cdv ct),osl⟩) (hcd:jN K cdv qual=true) (S:Zw N ps scope)
 (len:∀vs H Q E,sp vs H Q E->vs.length=ps.length)
 (hbody:∀(A:Around) (outer:List Env) (s:jj) (H:Hp) (vs:List V) (Q:VK) (E:XK),Ye k (A.deeper (ul qual scope s.heap.objs.size f cdv))->sp vs H Q E->
  ∃t,PSs (Zau CX P w K mg base N qual scope f cdv A outer s H E) body t/\t {nx:=fun _ H'=>Q .non H',rt:=Q} (Zaa N vs) H):
 Z0 P w K mg base CX (k+1) f (ur name qual params body scope dV kV doc pm an cdv ct) ps sp:=by
 refine ⟨len,fun A outer s H args us vs Q E hr e0 hb r hsp=>?_⟩;have hl:=len _ _ _ _ hsp;have KX:K.In s.heap:=e0.mod.kin.keeps fun b o e=>(e0.bs b o e).1;have lim:s.heap.NoLimit:=e0.mod.nolimit.keeps fun b o e=>(e0.bs b o e).1
 have hkind:∀y∈ps.zip us,scope.names.lookup y.1=some .local\/(scope.names.lookup y.1=some .cell/\((cellsFrom (s.heap.objs.size+1) scope.names []).lookup y.1).isSome=true):=fun ⟨n,v⟩ hy=>by
  rcases S.par n (Vj hy).1 with q|q
  ·exact .inl q
  ·exact .inr ⟨q,QaF _ _ _ (.inl q)⟩
 refine codeAny_call_function hr.depth (KX _ _ lk) rfl S.co S.gen rfl (codeRec_of KX hcd) (hb _ _ _ _ ?_);refine Qay S.kind hkind fun env he s1 x=>?_;subst he;refine ⟨lim.keeps x.toInCall.keep,codeAny_func ?_⟩;obtain ⟨t,ht,hq⟩:=hbody A outer s H vs Q E (hr.deeper _) hsp;have I:Inv (Zau CX P w K mg base N qual scope f cdv A outer s H E) [] (Zaa N vs) H s1:=ZgE S hr.hd e0 hl r x;refine jU (ht [] s1 (Zaa N vs) H _ I hq) (fun fl s' hs=>?_) fun e s' hs=>hs
 have fin:∀{σ':St} {H':Hp} {v:V} {u:Value},Inv (Zau CX P w K mg base N qual scope f cdv A outer s H E) [] σ' H' s'->ZW v u->Q v H'->CE outer P w H s Q u s':=
  fun {σ' H' v u} J rv q=>⟨v,H',J.os,J.bare,J.base,J.hok,rv,q⟩
 cases fl with
 |ret u=>
  obtain ⟨v,σ',H',J,rv,q⟩:=hs;exact fin J rv q
 |next=>
  obtain ⟨σ',H',J,q⟩:=hs;exact fin (v:=V.non) (u:=Qq) J rfl q
 |brk=>
  obtain ⟨_,_,_,q⟩:=hs;exact False.elim q
 |cont=>
  obtain ⟨_,_,_,q⟩:=hs;exact False.elim q
section
variable {X:Cx} {x:Str} {p pos:Pos} {e:jF} {es:List jF} {t:TA} {id T:String} {r:List V->Hp->VK->Prop}
def tCB (r:List V->Hp->VK->Prop) (t:TA):TE:=fun σ H Q=>t σ H fun vs H1=>r vs H1 Q
theorem ZG (hc:JM X (.builtin id) r) (hg:Gl X x) (hm:X.mg x=none) (hv:jR x=some (.builtin id)) (ha:PA X (e::es) t) (hn:x≠"__name__":=by decide) (hdb:(x==("__debug__":Str))=false:=by decide)
 (he:jx (e::es) X.env=(false,eval e X.env)::jx es X.env:=by rfl) (hpl:(uu pos (jx es X.env)).any (·.1)=false:=by rfl):PE X (.Call (.Name x p) (e::es) [] pos) (tCB r t):=by
 intro Zb s σ H Q I h;refine j0 (Zbr I hg hm hv ?_ hn hdb);exact PyProof.Rows.callWith_builtin1 (thn (ha pos Zb s σ H _ I h) fun us s1 ⟨vs,H1,I1,r1,q1⟩=>hc Zb s1 σ H1 vs us Q I1 r1 q1) he hpl
theorem Yn (hc:JM X (.type T) r) (hg:Gl X x) (hm:X.mg x=none) (hv:jR x=some (.type T)) (ha:PA X (e::es) t) (hn:x≠"__name__":=by decide) (hdb:(x==("__debug__":Str))=false:=by decide)
 (he:jx (e::es) X.env=(false,eval e X.env)::jx es X.env:=by rfl) (hpl:(uu pos (jx es X.env)).any (·.1)=false:=by rfl):PE X (.Call (.Name x p) (e::es) [] pos) (tCB r t):=by
 intro Zb s σ H Q I h;refine j0 (Zbr I hg hm hv ?_ hn hdb);exact PyProof.Rows.callWith_type1 (thn (ha pos Zb s σ H _ I h) fun us s1 ⟨vs,H1,I1,r1,q1⟩=>hc Zb s1 σ H1 vs us Q I1 r1 q1) he hpl
end
end L2
namespace HT
open PySem PyProof.Rows
section
variable {prog:jw} {w:jB} {A:Around} {E:Value->jj->Prop} {s:jj}
def sIx (n d:Nat):Option Int->Nat
 |none=>d
 |some v=>if v<0 then (v+(n:Int)).toNat else min v.toNat n
theorem ZqF (n d:Nat) (hd:d<=n) (o:Option Int):sIx n d o<=n:=by
 cases o with
 |none=>exact hd
 |some v=>
  show (if v<0 then (v+(n:Int)).toNat else min v.toNat n)<=n;by_cases hv:v<0
  ·rw [if_pos hv];omega
  ·rw [if_neg hv];exact Nat.min_le_right _ _
end
end HT
namespace L2
open PySem PySem.Spec PyProof.Rows
abbrev TO:=St->Hp->(Option Int->Hp->Prop)->Prop
def PO (X:Cx) (e:Option jF) (t:TO):Prop:=
 ∀(Zb:List (jk×Obj)) (s:jj) (σ:St) (H:Hp) (Q:Option Int->Hp->Prop),Inv X Zb σ H s->t σ H Q->
  jo (jr X.prog X.w) X.A (evalPart e X.env) (fun u s'=>∃o H',Inv X Zb σ H' s'/\IsPart u o/\Q o H') X.xe s
def ZhL:TO:=fun _ H Q=>Q none H
def ZDe (t:TE):TO:=fun σ H Q=>t σ H fun x H1=>∃i,x=.int i/\Q (some i) H1
section
variable {X:Cx} {e:jF} {te:TE} {lo hi:Option jF} {tl th:TO} {pos p2:Pos}
theorem Ja:PO X none ZhL:=by intro Zb s σ H Q I h;rw [evalPart_none];exact jl ⟨none,H,I,.none,h⟩
theorem Zr4 (h:PE X e te):PO X (some e) (ZDe te):=by intro Zb s σ H Q I hw;rw [evalPart_some];refine thn (h Zb s σ H _ I hw) fun u s1 ⟨x,H1,I1,r1,q1⟩=>?_;obtain ⟨i,rfl,q⟩:=q1;obtain ⟨t,rfl⟩:=r1;exact ⟨some i,H1,I1,.int i t,q⟩
def SlR (X:Cx) (r:V->Option Int->Option Int->Hp->VK->Prop):Prop:=
 ∀(Zb:List (jk×Obj)) (s:jj) (σ:St) (H:Hp) (x:V) (v vl vu:Value) (lo hi:Option Int) (sl:jk) (Q:VK),Inv X Zb σ H s->ZW x v->s.heap.IsSliceOf sl vl vu .none->IsPart vl lo->IsPart vu hi->r x lo hi H Q->
  ∃T id,vG (.type T) "__getitem__"=pure (some (.builtin id))/\s.TypeIs v T/\jo (jr X.prog X.w) X.A (Qav v (.ref sl)) (EP X Zb σ Q) X.xe s
def tSl (r:V->Option Int->Option Int->Hp->VK->Prop) (te:TE) (tl th:TO):TE:=fun σ H Q=>te σ H fun x H1=>tl σ H1 fun l H2=>th σ H2 fun u H3=>r x l u H3 Q
theorem z8 {r:V->Option Int->Option Int->Hp->VK->Prop} (hr:SlR X r) (he:PE X e te) (hl:PO X lo tl) (hu:PO X hi th):PE X (.Subscript e (.Slice lo hi none p2) pos) (tSl r te tl th):=by intro Zb s σ H Q I h;refine Subscript_ (thn (he Zb s σ H _ I h) fun v s1 ⟨x,H1,I1,r1,q1⟩=>?_);refine wpAny_Slice (thn (hl Zb s1 σ H1 _ I1 q1) fun vl s2 ⟨l,H2,I2,pl,q2⟩=>thn (hu Zb s2 σ H2 _ I2 q2) fun vu s3 ⟨u,H3,I3,pu,q3⟩=>?_);rw [evalPart_none];refine jl ?_;have I4:Inv X Zb σ H3 {s3 with heap:=s3.heap.push {cls:=.type "slice",data:=.fields #[vl,vu,.none]} }:=I3.kept (t':=s3.toks) fun b ob q=>Qe _ q;obtain ⟨T,id,hT,ht,hg⟩:=hr Zb {s3 with heap:=s3.heap.push {cls:=.type "slice",data:=.fields #[vl,vu,.none]} } σ H3 x v vl vu l u s3.heap.objs.size Q I4 r1 (Heap.IsSliceOf.new ..) pl pu q3;show jo (jr X.prog X.w) X.A (subscriptTail e (.Slice lo hi none p2) v (.ref s3.heap.objs.size)) (EP X Zb σ Q) X.xe {s3 with heap:=s3.heap.push {cls:=.type "slice",data:=.fields #[vl,vu,.none]} };exact tail_any (ops:=[.ref s3.heap.objs.size,v]) ht hT hg (by with_unfolding_all rfl)
def Zri (xs:List V) (lo hi:Option Int):List V:=(xs.drop (HT.sIx xs.length 0 lo)).take (HT.sIx xs.length xs.length hi-HT.sIx xs.length 0 lo)
theorem Zh4 (xs:List V) (lo hi:Option Int):(Zri xs lo hi).length<=xs.length:=by unfold Zri;rw [jz,jJ];omega
end
def ixN (n:Nat) (i:Int):Option Nat:=if 0<=i then (if i<n then some i.toNat else none) else if -(n:Int)<=i then some (i+n).toNat else none
def atI {α:Type} (xs:List α) (i:Int):Option α:=(ixN xs.length i).bind fun j=>xs[j]?
theorem Zrz {n:Nat} {i:Int} {j:Nat} (h:ixN n i=some j):seqIndex? i n=some j/\j<n/\ -(n:Int)<=i/\i<n:=by
 unfold ixN at h;by_cases h0:0<=i
 ·rw [if_pos h0] at h;by_cases h1:i<n
  ·rw [if_pos h1] at h;have e:i.toNat=j:=Option.some.inj h;exact ⟨by rw [seqIndex_of h0 h1,e],by omega,by omega,h1⟩
  ·rw [if_neg h1] at h;cases h
 ·rw [if_neg h0] at h;by_cases h1: -(n:Int)<=i
  ·rw [if_pos h1] at h;have e:(i+n).toNat=j:=Option.some.inj h;exact ⟨by rw [seqIndex_neg (by omega) h1,e],by omega,h1,by omega⟩
  ·rw [if_neg h1] at h;cases h
theorem Zg1 {α:Type} {xs:List α} {i:Int} {v:α} (h:atI xs i=some v):∃j,seqIndex? i xs.length=some j/\xs[j]?=some v/\j<xs.length/\ -(xs.length:Int)<=i/\i<xs.length:=by
 unfold atI at h
 cases e:ixN xs.length i with
 |none=>rw [e] at h;cases h
 |some j=>
  rw [e] at h;obtain ⟨h1,h2,h3,h4⟩:=Zrz e;exact ⟨j,h1,h,h2,h3,h4⟩
def Zj2 (b:jF):Prop:=∀o i,Qar b false o i=operate [o,i] (Qav o i)
def IxR (X:Cx) (r:R2):Prop:=
 ∀(value slice:jF) (Zb:List (jk×Obj)) (s:jj) (σ:St) (H:Hp) (x y:V) (v u:Value) (Q:VK),Inv X Zb σ H s->ZW x v->ZW y u->r x y H Q->
  Qar slice false v u=operate [v,u] (Qav v u)->jo (jr X.prog X.w) X.A (subscriptTail value slice v u) (EP X Zb σ Q) X.xe s
def MtR (X:Cx) (id:String) (r:V->List V->Hp->VK->Prop):Prop:=
 ∀(Zb:List (jk×Obj)) (s:jj) (σ:St) (H:Hp) (x:V) (xs:List V) (v:Value) (us:List Value) (Q:VK),Inv X Zb σ H s->ZW x v->ZE xs us->r x xs H Q->
  jo (jr X.prog X.w) X.A (call (.builtin id) (v::us)) (EP X Zb σ Q) X.xe s
section
variable {X:Cx} {a b:jF} {ta tb:TE} {pos:Pos}
theorem zw {r:R2} (hr:IxR X r) (ha:PE X a ta) (hb:PE X b tb) (hs:Zj2 b):PE X (.Subscript a b pos) (tOp r ta tb):=by intro Zb s σ H Q I h;exact Subscript_ (Zuz ha hb I h fun v u s2 x y H2 I2 rx ry q=>hr a b Zb s2 σ H2 x y v u Q I2 rx ry q (hs _ _))
def ZDI (K:Qa):R2:=fun x y H Q=>∃p xs i v,x=.ref p/\y=.int i/\SqL K H p xs/\atI xs i=some v/\Q v H
def ZDK (K:Qa):R2:=fun x y H Q=>∃p xs i v,x=.ref p/\y=.int i/\SqT K H p xs/\atI xs i=some v/\Q v H
def ZDJ:R2:=fun x y H Q=>∃z i c,x=.str z/\y=.int i/\z.length<=sizeLine/\atI z.cps.toList i=some c/\Q (.str ⟨#[c]⟩) H
theorem ZrA:IxR X (ZDI X.K):=by
 intro value slice Zb s σ H x y v u Q I rx ry h hs;obtain ⟨p,xs,i,z,rfl,rfl,hq,he,q⟩:=h;cases rx;obtain ⟨t,rfl⟩:=ry;obtain ⟨its,r,pl,hz⟩:=I.list hq;obtain ⟨j,h1,h2,h3,h4,h5⟩:=Zg1 he;obtain ⟨w,ew,rw'⟩:=r.get h2;have hl:=r.length;have hn:=Zc3;have fin:EP X Zb σ Q w s:=⟨z,H,I,rw',q⟩;by_cases h0:0<=i
 ·have hj:i.toNat=j:=by rw [seqIndex_of h0 h5] at h1;exact Option.some.inj h1
  exact item_listR pl.isList h0 (by omega) (by rw [hj];simpa using ew) fin hs
 ·have hj:(i+(its.toArray.size:Int)).toNat=j:=by rw [seqIndex_neg (by omega) h4] at h1;rw [jC,<-hl];exact Option.some.inj h1
  exact subscriptTail_builtinR (x:=w) pl.isList.typeIs slot_list_getitem.lookup
   (wpAny_getItem_list_neg (Q:=fun r s'=>r=w/\EP X Zb σ Q r s') pl.isList (by omega) (by rw [jC]<;>omega) (by omega) (by rw [hj];simpa using ew) ⟨rfl,fin⟩) hs
theorem Zwe:IxR X (ZDK X.K):=by
 intro value slice Zb s σ H x y v u Q I rx ry h hs;obtain ⟨p,xs,i,z,rfl,rfl,hq,he,q⟩:=h;cases rx;obtain ⟨t,rfl⟩:=ry;obtain ⟨its,r,pl,hz⟩:=I.tuple hq;obtain ⟨j,h1,h2,h3,h4,h5⟩:=Zg1 he;obtain ⟨w,ew,rw'⟩:=r.get h2;have hl:=r.length;have hn:=Zc3;have fin:EP X Zb σ Q w s:=⟨z,H,I,rw',q⟩
 exact subscriptTail_builtinR (x:=w) pl.typeIs slot_tuple_getitem.lookup
  (getItem_tuple (j:=j) (Q:=fun r s'=>r=w/\EP X Zb σ Q r s') pl (by omega) (by omega) (by rw [jC,<-hl];exact h1) (by simpa using ew) ⟨rfl,fin⟩) hs
theorem Zwd:IxR X ZDJ:=by
 intro value slice Zb s σ H x y v u Q I rx ry h hs;obtain ⟨z,i,c,rfl,rfl,hz,he,q⟩:=h;obtain ⟨t,rfl⟩:=rx;obtain ⟨t',rfl⟩:=ry;obtain ⟨j,h1,h2,h3,h4,h5⟩:=Zg1 he;have hl:z.cps.toList.length=z.length:=by simp [VA]
 rw [hl] at h1 h4 h5;have hn:=Zc3
 exact tail_any (ui s z t) slot_str_getitem.lookup (getItem_str (c:=c) (by
  have e1:decide (i < -(2 ^ 63:Int))=false:=decide_eq_false (by omega);have e2:decide (i ≥ 2 ^ 63)=false:=decide_eq_false (by omega);rw [e1,e2,Wb]) (by rw [h1];simpa using h2) ⟨.str ⟨#[c]⟩,H,I.tok _,⟨_,rfl⟩,q⟩) hs
theorem ZhG (lo hi:Option Int) (n:Nat):(vi lo hi none n).1=((HT.sIx n 0 lo:Nat):Int)/\(vi lo hi none n).2.1=((HT.sIx n n hi:Nat):Int)/\(vi lo hi none n).2.2=1:=by
 refine ⟨?_,?_,rfl⟩
 ·cases lo with
  |none=>simp [vi,HT.sIx]
  |some i=>
   simp only [vi,HT.sIx,WD,show (1:Int)>0 by decide,if_true];by_cases h:i<0
   ·simp only [h,if_true]<;>omega
   ·simp only [h,if_false]<;>omega
 ·cases hi with
  |none=>simp [vi,HT.sIx]
  |some i=>
   simp only [vi,HT.sIx,WD,show (1:Int)>0 by decide,if_true];by_cases h:i<0
   ·simp only [h,if_true]<;>omega
   ·simp only [h,if_false]<;>omega
theorem Zgo (its:List Value) (lo hi:Option Int):slicePick its.toArray lo hi none=((its.drop (HT.sIx its.length 0 lo)).take (HT.sIx its.length its.length hi-HT.sIx its.length 0 lo)).toArray:=by obtain ⟨h1,h2,h3⟩:=ZhG lo hi its.toArray.size;unfold slicePick;rw [h1,h2,h3];simp only [sliceRange_one,pick_run,jC]<;>rfl
def ZDL (K:Qa):V->Option Int->Option Int->Hp->VK->Prop:=fun x lo hi H Q=>∃a xs,x=.ref a/\SqL K H a xs/\∀p,H p=none->Q (.ref p) (upd H p (.lst (Zri xs lo hi)))
theorem Zsm:SlR X (ZDL X.K):=by intro Zb s σ H x v vl vu lo hi sl Q I rx hs pl pu h;obtain ⟨a,xs,rfl,hx,q⟩:=h;cases rx;obtain ⟨its,r,ht,hz⟩:=I.list hx;have hlen:=r.length;refine ⟨"list",_,slot_list_getitem.lookup,ht.isList.typeIs,?_⟩;refine wpAny_getItem_list_slice ht.isList hs pl pu .none (by simp) ?_ (by rw [jC]<;>omega);rw [Zgo,<-hlen];refine ⟨.ref s.heap.objs.size,_,I.laid (t':=s.toks) (o:=.lst (Zri xs lo hi)) (fun b ob q=>Qe _ q) (Qf _) ?_,rfl,q _ (I.hok.fresh (Qf _))⟩;exact ⟨QI (Zh4 xs lo hi) hz,_,0,(r.drop (HT.sIx xs.length 0 lo)).take (HT.sIx xs.length xs.length hi-HT.sIx xs.length 0 lo),Qh _ rfl⟩
def ZaI:V->Bool
 | .non=>true
 | .bl _=>true
 | .int _=>true
 | .str _=>true
 |_=>false
def eqV:V->V->Bool
 | .non,.non=>true
 | .bl a,.bl b=>a==b
 | .bl a,.int b=>(if a then 1 else 0)==b
 | .int a,.bl b=>a==(if b then 1 else 0)
 | .int a,.int b=>a==b
 | .str a,.str b=>a==b
 |_,_=>false
theorem ZoC {A:Around} {s:jj} {y x:V} {u v:Value} (ry:ZW y u) (rx:ZW x v) (fy:ZaI y=true) (fx:ZaI x=true):SeqAt.EqAt A s u v (eqV y x):=by
 cases y with
 |non=>
  cases ry
  cases x with
  |non=>cases rx;exact SeqAt.EqAt.same _
  |bl b=>cases rx;exact SeqAt.EqAt.none_bool b
  |int b=>obtain ⟨t,rfl⟩:=rx;exact SeqAt.EqAt.none_int b t
  |str b=>obtain ⟨t,rfl⟩:=rx;exact SeqAt.EqAt.none_str b t
  |_=>exact absurd (show false=true from fx) Qg
 |bl a=>
  cases ry
  cases x with
  |non=>cases rx;exact SeqAt.EqAt.bool_none a
  |bl b=>cases rx;exact SeqAt.EqAt.bool_bool a b
  |int b=>obtain ⟨t,rfl⟩:=rx;exact SeqAt.EqAt.bool_int a b t
  |str b=>obtain ⟨t,rfl⟩:=rx;exact SeqAt.EqAt.bool_str a b t
  |_=>exact absurd (show false=true from fx) Qg
 |int a=>
  obtain ⟨t',rfl⟩:=ry
  cases x with
  |non=>cases rx;exact SeqAt.EqAt.int_none a t'
  |bl b=>cases rx;exact SeqAt.EqAt.int_bool a t' b
  |int b=>obtain ⟨t,rfl⟩:=rx;exact SeqAt.EqAt.int_int a t' b t
  |str b=>obtain ⟨t,rfl⟩:=rx;exact SeqAt.EqAt.int_str a t' b t
  |_=>exact absurd (show false=true from fx) Qg
 |str a=>
  obtain ⟨t',rfl⟩:=ry
  cases x with
  |non=>cases rx;exact SeqAt.EqAt.str_none a t'
  |bl b=>cases rx;exact SeqAt.EqAt.str_bool a t' b
  |int b=>obtain ⟨t,rfl⟩:=rx;exact SeqAt.EqAt.str_int a t' b t
  |str b=>obtain ⟨t,rfl⟩:=rx;exact SeqAt.EqAt.str_str a t' b t
  |_=>exact absurd (show false=true from fx) Qg
 |_=>exact absurd (show false=true from fy) Qg
def eqU (x:V) (u:Value):Bool:=match u with
 | .none=>eqV .non x
 | .bool b=>eqV (.bl b) x
 | .int i _=>eqV (.int i) x
 | .str z _=>eqV (.str z) x
 |_=>false
theorem ZoD {x y:V} {u:Value} (r:ZW y u) (f:ZaI y=true):eqU x u=eqV y x:=by
 cases y with
 |non=>cases r;rfl
 |bl b=>cases r;rfl
 |int i=>obtain ⟨t,rfl⟩:=r;rfl
 |str z=>obtain ⟨t,rfl⟩:=r;rfl
 |_=>exact absurd (show false=true from f) Qg
theorem Zg0 {x:V}:∀{xs:List V} {us:List Value},ZE xs us->xs.all ZaI=true->us.any (eqU x)=xs.any fun y=>eqV y x
 |_,_,.nil,_=>rfl
 |y::xs,u::us,.cons r t,f=>by rw [WZ,QM] at f;rw [U8,U8,ZoD r f.1,Zg0 t f.2]
theorem Zfz {A:Around} {s:jj} {x:V} {v:Value} (rx:ZW x v) (fx:ZaI x=true):∀{xs:List V} {us:List Value},ZE xs us->xs.all ZaI=true->∀u∈us,SeqAt.EqAt A s u v (eqU x u)
 |_,_,.nil,_=>fun u hu=>by cases hu
 |y::xs,u::us,.cons r t,f=>fun u' hu=>by
  rw [WZ,QM] at f;rcases jK.mp hu with rfl|hu
  ·rw [ZoD r f.1];exact ZoC r rx f.1 fx
  ·exact Zfz rx fx t f.2 u' hu
def inV (x:V) (xs:List V):Bool:=xs.any fun y=>eqV y x
def rIn (K:Qa) (neg:Bool):R2:=fun x y H Q=>∃p xs,y=.ref p/\(SqL K H p xs\/SqT K H p xs)/\ZaI x=true/\xs.all ZaI=true/\Q (.bl (if neg then !inV x xs else inV x xs)) H
theorem Zl4:OpR X (jX .In) (rIn X.K false):=by
 intro Zb s σ H x y v u Q I rx ry h;obtain ⟨p,xs,rfl,hq,fx,fs,q⟩:=h;cases ry;rcases hq with hq|hq
 ·obtain ⟨its,r,pl,hz⟩:=I.list hq;refine SeqAt.in_listAt (eqU x) pl.isList (fun w hw=>Zfz rx fx r fs w (by simpa using hw)) ⟨.bl _,H,I,rfl,?_⟩;rw [show its.toArray.any (eqU x)=its.any (eqU x) by simp,Zg0 r fs];exact q
 ·obtain ⟨its,r,pl,hz⟩:=I.tuple hq;refine SeqAt.in_tupleAt (eqU x) pl (fun w hw=>Zfz rx fx r fs w (by simpa using hw)) ⟨.bl _,H,I,rfl,?_⟩;rw [show its.toArray.any (eqU x)=its.any (eqU x) by simp,Zg0 r fs];exact q
theorem Zg6:JM X (.builtin "len") (fun xs H Q=>∃p ys,xs=[.ref p]/\(SqL X.K H p ys\/SqT X.K H p ys)/\Q (.int ys.length) H):=by
 intro Zb s σ H xs us Q I r h;obtain ⟨p,ys,rfl,hq,q⟩:=h;obtain ⟨u,rfl,rx⟩:=Zab r;cases rx;have hn:=Zc3;rcases hq with hq|hq
 ·obtain ⟨its,r',pl,hz⟩:=I.list hq;have hlen:=r'.length;exact Calls.call_len_list pl.isList (by simp only [jC]<;>omega) ⟨.int ys.length,H,I.tok _,⟨s.toks+1,by rw [jC,hlen]⟩,q⟩
 ·obtain ⟨its,r',pl,hz⟩:=I.tuple hq;have hlen:=r'.length;exact len_tuple pl (by simp only [jC]<;>omega) ⟨.int ys.length,H,I.tok _,⟨s.toks+1,by rw [jC,hlen]⟩,q⟩
theorem Zg7:JM X (.builtin "len") (fun xs H Q=>∃z,xs=[.str z]/\z.length<=sizeLine/\Q (.int z.length) H):=by intro Zb s σ H xs us Q I r h;obtain ⟨z,rfl,hz,q⟩:=h;obtain ⟨u,rfl,t,rfl⟩:=Zab r;have hn:=Zc3;exact len_str (by omega) ⟨.int z.length,H,I.tok _,⟨_,rfl⟩,q⟩
def tyV (K:Qa) (T:String) (x:V) (H:Hp):Prop:=match x with
 | .str _=>T="str"
 | .int _=>T="int"
 | .ref p=>(T="list"/\∃xs,SqL K H p xs)\/(T="tuple"/\∃o,K.lookup p=some o/\o.cls=.type "tuple"/\o.dict=none)\/
  (T="dict"/\((∃kvs,H p=some (.dK kvs))\/∃kvs,H p=some (.dT kvs)))\/(T="set"/\∃S n,H p=some (.set S n))
 |_=>False
theorem ZAm {Zb:List (jk×Obj)} {σ:St} {H:Hp} {s:jj} {T:String} {x:V} {v:Value} (I:Inv X Zb σ H s) (r:ZW x v) (ty:tyV X.K T x H):
 s.TypeIs v T/\∀a,v=.ref a->∃ob,s.heap.get? a=some ob/\ob.dict=none:=by
 cases x with
 |str z=>
  obtain ⟨t,rfl⟩:=r;cases (show T="str" from ty);exact ⟨ui s z t,fun _ e=>nomatch e⟩
 |int i=>
  obtain ⟨t,rfl⟩:=r;cases (show T="int" from ty);exact ⟨typeIs_int s i t,fun _ e=>nomatch e⟩
 |ref p=>
  cases r;rcases ty with ⟨rfl,xs,hq⟩|⟨rfl,o,hk,hc,hd⟩|⟨rfl,hk⟩|⟨rfl,S,n,hk⟩
  ·obtain ⟨its,_,pl,_⟩:=I.list hq;refine ⟨pl.isList.typeIs,fun a e=>?_⟩;cases e;obtain ⟨o,n,e,c,hd,_⟩:=pl;exact ⟨o,e,hd⟩
  ·refine ⟨⟨o,I.kIn p o hk,hc⟩,fun a e=>?_⟩;cases e;exact ⟨o,I.kIn _ o hk,hd⟩
  ·have z:∃o,s.heap.get? p=some o/\o.ExactDict:=by
    rcases hk with ⟨kvs,hk⟩|⟨kvs,hk⟩
    ·obtain ⟨_,_,_,_,o,_,_,e,ex,_⟩:=I.hok p _ hk;exact ⟨o,e,ex⟩
    ·exact False.elim (show zy X.prog X.w H s.heap p (.dT kvs) from I.hok p _ hk)
   obtain ⟨o,e,ex⟩:=z;refine ⟨⟨o,e,ex.1⟩,fun a e2=>?_⟩;cases e2;exact ⟨o,e,ex.2.1⟩
  ·obtain ⟨o,_,_,_,e,ex,_⟩:=I.hok p _ hk;refine ⟨⟨o,e,ex.1⟩,fun a e2=>?_⟩;cases e2;exact ⟨o,e,ex.2.1⟩
 |_=>exact False.elim ty
def ZDa (K:Qa) (T:String) (r:V->List V->Hp->VK->Prop) (to:TE):TE:=fun σ H Q=>to σ H fun x H1=>tyV K T x H1/\r x [] H1 Q
def tBM (K:Qa) (T:String) (r:V->List V->Hp->VK->Prop) (to:TE) (t:TA):TE:=fun σ H Q=>to σ H fun x H1=>tyV K T x H1/\t σ H1 fun xs H2=>r x xs H2 Q
variable {o e:jF} {es:List jF} {to:TE} {t:TA} {name:Str} {apos cpos:Pos} {T id:String} {r:V->List V->Hp->VK->Prop}
theorem ZCH (pa:PlainAttrs T) (slot:Slot T name id) (hty:typeOf (.builtin id)=pure (.type "method_descriptor")) (hm:MtR X id r) (ho:PE X o to) (ha:PA X (e::es) t)
 (hbase:vh o name X.env (eval o X.env)=eval o X.env:=by rfl)
 (hfew:((uu cpos (jx (e::es) X.env)).all (fun x=> !x.1) && (vX cpos (vj [] X.env)).all (fun x=>x.1.isSome)
  && decide ((e::es).length+([]:List Qaw).length+(if ([]:List Qaw).isEmpty then 0 else 1)<30))=true:=by rfl)
 (hline:(apos.endLine==cpos.line)=true:=by rfl) (hs:jx (e::es) X.env=(false,eval e X.env)::jx es X.env:=by rfl) (hplain:(uu cpos (jx es X.env)).any (·.1)=false:=by rfl):
 PE X (.Call (.Attribute o name apos) (e::es) [] cpos) (tBM X.K T r to t):=by
 intro Zb s σ H Q I h;refine wpAny_Call_method_late hbase hfew hline rfl (thn (ho Zb s σ H _ I h) fun v s1 ⟨x,H1,I1,r1,ty,q1⟩=>?_);obtain ⟨h1,h2⟩:=ZAm I1 r1 ty;refine ⟨T,id,pa,slot,hty,h1,h2,?_⟩;have hA:=ha cpos Zb s1 σ H1 _ I1 q1
 rw [hs] at hA ⊢
 refine Calls.callWith_builtin (by show (false || (uu cpos (jx es X.env)).any (·.1))=false;rw [hplain]<;>rfl) (Calls.evalArgs_plain ?_);exact thn hA fun us s2 ⟨vs,H2,I2,r2,q2⟩=>hm Zb s2 σ H2 x vs v us Q I2 r1 r2 q2
end
def MtM (X:Cx) (id:String) (r:V->List V->Hp->VK->Prop):Prop:=
 ∀(Zb:List (jk×Obj)) (s:jj) (σ:St) (H:Hp) (x:V) (xs:List V) (v:Value) (us:List Value) (Q:VK),Inv X Zb σ H s->ZW x v->ZE xs us->r x xs H Q->
  jo (jr X.prog X.w) X.A (call (.builtin id) (v::us)) (EP X Zb σ Q) X.xe s
theorem ZE.one:∀{x:V} {us:List Value},ZE [x] us->∃u,us=[u]/\ZW x u
 |_,_,.cons r .nil=>⟨_,rfl,r⟩
theorem ZE.rep {xs:List V} {us:List Value} (h:ZE xs us):∀k:Nat,ZE (Qv k xs).flatten (Qv k us).flatten
 |0=>.nil
 |k+1=>by rw [uD,uD,Uj,Uj];exact ZE.append h (ZE.rep h k)
theorem ZgB (its:List Value):∀(k:Nat) (acc:List Value),
 VY (fun x1 x2=>x1++x2) acc.toArray (Qv k its.toArray)=(acc++(Qv k its).flatten).toArray
 |0,acc=>by simp
 |k+1,acc=>by
  have e:acc.toArray++its.toArray=(acc++its).toArray:=by simp
  have e2:(acc++its)++(Qv k its).flatten=acc++(Qv (k+1) its).flatten:=by rw [uD,Uj,j5]
  rw [<-e2,<-ZgB its k (acc++its),<-e,uD,WR]
section
variable {X:Cx} {Zb:List (jk×Obj)} {σ:St} {H:Hp} {s:jj} {l b:jk} {xs ys zs:List V}
theorem Inv.lset {its its':List Value} {n:Nat} {f:Array Value->Array Value} {t':Nat} (I:Inv X Zb σ H s) (hH:H l=some (.lst xs))
 (e:s.heap.get? l=some {cls:=.type "list",data:=.seq its.toArray n}) (hf:f its.toArray=its'.toArray) (hv:ZE ys its') (hz:ys.length<=sizeLine):
 Inv X Zb σ (upd H l (.lst ys)) {s with heap:=s.heap.update l (Obj.mapSeq f),toks:=t'}:=by
 have q:=PySem.IsL.update e f;rw [hf] at q;refine I.write (x:=l) (e:=l) (by rw [hH];exact trivial) (.inl rfl) (fun b' u hb hu=>(QW s.heap (Obj.mapSeq f) (Ne.symm hb)).trans hu) ⟨_,q⟩ ?_;exact ⟨hz,its',_,hv,q⟩
theorem Inv.lnew {its:List Value} {t':Nat} (I:Inv X Zb σ H s) (hv:ZE ys its) (hz:ys.length<=sizeLine):
 Inv X Zb σ (upd H s.heap.objs.size (.lst ys)) {s with heap:=s.heap.push {cls:=.type "list",data:=.seq its.toArray},toks:=t'}:=
 I.laid (fun _ _ q=>Qe _ q) (Qf _) ⟨hz,its,0,hv,Qh _ rfl⟩
theorem Inv.fresh (I:Inv X Zb σ H s):H s.heap.objs.size=none:=I.hok.fresh (Qf _)
theorem Inv.lstM (I:Inv X Zb σ H s) (hH:H l=some (.lst xs)):xs.length<=sizeLine/\∃(its:List Value) (n:Nat),ZE xs its/\xs.length=its.length/\s.heap.get? l=some {cls:=.type "list",data:=.seq its.toArray n}:=by obtain ⟨z,its,n,r,e⟩:=I.hok l _ hH;exact ⟨z,its,n,r,r.length,e⟩
theorem Zp8 {n:Nat} (h:n<=sizeLine):Builtin.List.listTooLong n=false:=by unfold Builtin.List.listTooLong;exact decide_eq_false (by omega)
end
section
variable {X:Cx}
def ZeY:V->List V->Hp->VK->Prop:=fun x vs H Q=>∃l xs y,x=.ref l/\vs=[y]/\H l=some (.lst xs)/\xs.length<sizeLine/\Q .non (upd H l (.lst (xs++[y])))
theorem ZlY:MtM X "list.append" ZeY:=by intro Zb s σ H x vs v us Q I rx rv h;obtain ⟨l,xs,y,rfl,rfl,hH,hz,q⟩:=h;cases rx;obtain ⟨u,rfl,ru⟩:=rv.one;obtain ⟨z,its,n,r,hl,e⟩:=I.lstM hH;refine uI F.slot_list_append ⟨_,e,rfl⟩ F.entry_list_append (F.args_list_append_2 _ _) (PySem.list_append l its.toArray n u (by rw [jC];omega)) ⟨e,?_⟩;refine ⟨.non,_,I.lset (its':=its++[u]) hH e (by simp) (r.append (.cons ru .nil)) ?_,rfl,q⟩;rw [jq,jE];omega
def Zqw:R2:=fun x y H Q=>∃l b xs zs,x=.ref l/\y=.ref b/\H l=some (.lst xs)/\H b=some (.lst zs)/\xs.length+zs.length<=sizeLine/\∀p,H p=none->Q (.ref p) (upd H p (.lst (xs++zs)))
theorem Zyt:OpR X (uG .Add) Zqw:=by
 intro Zb s σ H x y v u Q I rx ry h;obtain ⟨l,b,xs,zs,rfl,rfl,hH,hB,hz,q⟩:=h;cases rx;cases ry;obtain ⟨z,its,n,r,hl,e⟩:=I.lstM hH;obtain ⟨z2,its2,n2,r2,hl2,e2⟩:=I.lstM hB;refine PySem.P.add_list e e2 ?_ (by rw [jC,jC];omega);have ea:its.toArray++its2.toArray=(its++its2).toArray:=by simp
 rw [ea];exact ⟨.ref _,_,I.lnew (t':=s.toks) (r.append r2) (by rw [jq];omega),rfl,q _ I.fresh⟩
def Zqx:R2:=fun x y H Q=>∃l k xs,x=.ref l/\y=.int k/\H l=some (.lst xs)/\ -(2 ^ 63)<=k/\k<2 ^ 63/\xs.length * k.toNat<=sizeLine/\
 ∀p,H p=none->Q (.ref p) (upd H p (.lst (Qv k.toNat xs).flatten))
theorem ZrM {α:Type} (xs:List α) (k:Nat):(Qv k xs).flatten.length=k * xs.length:=by
 induction k with
 |zero=>simp
 |succ k ih=>rw [uD,Uj,jq,ih,Nat.succ_mul,jc]
theorem Zyy:OpR X (uG .Mult) Zqx:=by
 intro Zb s σ H x y v u Q I rx ry h;obtain ⟨l,k,xs,rfl,rfl,hH,h1,h2,hz,q⟩:=h;cases rx;obtain ⟨t,rfl⟩:=ry;obtain ⟨z,its,n,r,hl,e⟩:=I.lstM hH;have hlen:its.toArray.size * k.toNat<=sizeLine:=by rw [jC,<-hl];exact hz
 have hcap:¬its.toArray.size * k.toNat>(2 ^ 63-1)/8:=by
  have:(sizeLine:Nat)<=(2 ^ 63-1)/8:=by decide
  omega
 have hfit:¬(!Builtin.List.listFitsIndex k)=true:=by rw [fitsIndex_both h1 h2];exact Qg
 have hlong:¬Builtin.List.listTooLong (its.toArray.size * k.toNat)=true:=by rw [Zp8 hlen];exact Qg
 have hnew:VY (fun x1 x2=>x1++x2) #[] (Qv (if its.toArray.isEmpty=true then 0 else k.toNat) its.toArray)=(Qv k.toNat its).flatten.toArray:=by
  have f0:∀m:Nat,VY (fun x1 x2=>x1++x2) #[] (Qv m its.toArray)=(Qv m its).flatten.toArray:=fun m=>by have:=ZgB its m [];rw [uH] at this;exact this
  rw [f0]
  cases its with
  |nil=>simp
  |cons a r'=>rw [if_neg (by simp)]
 refine wpAny_binaryOp_repeat_ref (T:="list") (U:="int") (by decide) ⟨_,e,rfl⟩ (fun s'=>typeIs_int s' k t) noFill_list_mul F.fills_int_mul F.slot_int_rmul repeat_list F.slot_int_index.lookup
  (uI F.slot_int_rmul (typeIs_int s k t) F.entry_int_rmul (F.args_int_rmul_2 _ _) (int___rmul___int_list k t l its.toArray n)
   ⟨e,rfl,⟨_,e,rfl⟩,uI F.slot_list_mul ⟨_,e,rfl⟩ F.entry_list_mul (F.args_list_mul_2 _ _) (AutoListH.list___mul___list_int_3 l its.toArray n k t hfit hcap hlong) ⟨e,?_⟩⟩)
 rw [hnew];exact ⟨.ref _,_,I.lnew (t':=s.toks) (r.rep k.toNat) (by rw [ZrM,Nat.mul_comm];exact hz),rfl,q _ I.fresh⟩
end
end L2
namespace Att
open PySem PySem.W PySem.Calls PyProof.Rows
theorem ZeH {P:vZ} {h:Heap}:∀(ns:List Int) (vs:List Value),WellAll P h vs (ns.map WData.int)->IntsAre vs ns:=by
 intro ns
 induction ns with
 |nil=>
  intro vs w;rw [map_nil] at w;cases w;exact .nil
 |cons n ns ih=>
  intro vs w;rw [jT] at w
  cases w with
  |cons a b=>
   cases a;exact .cons _ _ (ih _ b)
theorem Zmi {l:OpenLaw} {n:Nat} (hn:l.most=some n) {P:vZ} {h:Heap} {args:List WData} {vals:List Value}
 (hpre:l.row.toRowW.claim.pre args=true) (hwl:WellAll P h vals args):
 ∃a vs ns,vals=[Value.ref a]/\args=[WData.list (ns.map WData.int)]/\h.get? a=some {cls:=.type "list",data:=.seq vs.toArray}/\IntsAre vs ns/\ns.length<=n:=by
 have hsh:WShape.hasAll [] args [.list .int]=true:=(pre_splitW hpre).1;have hc:l.pre.holds [] {args:=args}=true:=(pre_splitW hpre).2;obtain ⟨d,r,rfl,h1,h2⟩:=hasAllW_cons hsh;obtain rfl:=hasAllW_nil h2;obtain ⟨xs,rfl,h3⟩:=hasW_list h1;obtain ⟨ns,rfl⟩:=items_int h3
 have hlen:ns.length<=n:=by
  unfold OpenLaw.pre at hc;have h4:(WTm.not (.lt (.lit (.int (n:Int))) (.len (.arg 0)))).holds [] {args:=[.list (ns.map .int)]}=true:=by have h4:=(holds_andW hc).1;rw [hn] at h4;exact h4
  have h5:=condW_of h4 (w_not (w_lt w_lit (w_len_list (w_arg rfl))));rw [jn] at h5;refine VO fun q=>?_;have q':(n:Int)<((ns.length:Nat):Int):=by omega
  first
   |(rw [decide_eq_true q'] at h5;exact absurd h5 (by decide))
   |(simp at h5;omega)
 cases hwl with
 |cons w1 w2=>
  cases w2
  cases w1 with
  |list ho hall=>exact ⟨_,_,ns,rfl,rfl,ho,ZeH ns _ hall,hlen⟩
theorem Zmb (l:OpenLaw) (args:List WData):l.row.toRowW.claim.post args (.bool true) args=true:=
 postW_of (r:=l.row.toRowW) (X:=(true==true))
  (show WShape.has [] (.bool true) .bool=true by first|rfl|decide|simp [WShape.has,WShape.arms,WShape.armsAll])
  (show (WTm.eq .res (.lit (.bool true))).value [] {args:=args,res:=some (.bool true),after:=args}=some (.bool (true==true)) from w_eq_bool (w_res rfl) w_lit) rfl
theorem ZhT {l:OpenLaw} {n:Nat} {q:jw} {loose:List Str} {XP:(Str->Option Value)->Heap->Prop} {YP:jB->Heap->Prop} {d:DefRec}
 (hn:l.most=some n) (hdf:d.params.defaults=[])
 (call:∀(w:jB) (s₀ s₁:jj) (mg mb:Str->Option Value) (fa:jk) (o:Obj) (pm cd doc:Value) (a:jk) (vs:List Value) (ns:List Int),
  Ground q loose [] XP w s₀ mg mb s₁.heap->YP w s₁.heap->
  s₁.heap.get? fa=some o->o.data=.func (docDef d.name d.params d.body d.scope pm cd doc)->s₁.heap.CodeRec cd d.name->mg d.name=some (.ref fa)->
  s₁.heap.get? a=some {cls:=.type "list",data:=.seq vs.toArray}->IntsAre vs ns->ns.length<=n->s₁.gens=#[]->
  uW (jr l.prog w) Qak (.call (.ref fa) ⟨[.ref a],[]⟩) (fun r s'=>r=.ok (.ret (.bool true))/\OldK s₁.heap s'.heap/\s'.os=s₁.os/\vq s'.gens) s₁):
 WalkO q loose XP YP l.row.toRowW d [] (fun f vs=>PySem.call f vs):=by
 intro w s₀ s₁ mg mb G Y fa o pm cd doc dV kV ho hd hcd hD hmg hg args vals as hpre hlay hrd hwl hlo;obtain rfl:dV=.none:=Dflts.none hD hdf;obtain rfl:kV=.none:=Dflts.noKw hD;obtain ⟨a,vs,ns,rfl,rfl,hobj,hints,hlen⟩:=Zmi hn hpre hwl;refine enter_call (ub (call w s₀ s₁ mg mb fa o pm cd doc a vs ns G Y ho (fd_plain hd) hcd hmg hobj hints hlen hg) fun r s' hq=>?_);obtain ⟨rfl,h2,h3,h4⟩:=hq;exact ⟨.inl ⟨.bool true,.bool true,[],rfl,fun _=>rfl,.bool true,Zmb l _,fun _=>⟨List.Pairwise.nil,fun _ hm=>(nomatch hm)⟩⟩,h2,h3,h4⟩
end Att
namespace L2
open PySem PySem.Spec PyProof.Rows
theorem ZgU:∀{vs:List Value} {ns:List Int},IntsAre vs ns->ZE (ns.map V.int) vs
 |_,_,.nil=>.nil
 |_,_,.cons n t h=>.cons ⟨t,rfl⟩ (ZgU h)
def Zx (s:Stmt):Arguments:=match s with
 | .FunctionDef _ a _ _ _ _ _ _ _ _=>a
 |_=> {posonlyargs:=[],args:=[],vararg:=none,kwonlyargs:=[],kw_defaults:=[],kwarg:=none,defaults:=[]}
def Zt (s:Stmt):List Stmt:=match s with
 | .FunctionDef _ _ b _ _ _ _ _ _ _=>b
 |_=>[]
def Zf (s:Stmt):Scope:=match s with
 | .FunctionDef _ _ _ _ _ _ sc _ _ _=>sc
 |_=> {kind:=.function,names:=[],isGenerator:=false,isCoroutine:=false}
abbrev CX0:CXT:=fun _ _ _ _ _ _=>False
abbrev E0:XK:=fun _ _ _=>False
theorem ZiD {X:Cx}:Zcb CX0 X E0:=fun _ _ _ _ _ _ _ h=>h.elim
structure Fun (K:Qa) (x qual:Str) (st:Stmt) (f:jk) (fd:j7):Prop where
 ex:∃(oc:Value) (od:Option jk) (kV doc pm:Value) (an:Option jk) (cdv ct:Value) (osl:Array (Option Value)),
  fd=ur x qual (Zx st) (Zt st) (Zf st) .none kV doc pm an cdv ct/\K.lookup f=some ⟨oc,od,.func fd,osl⟩/\jN K cdv qual=true
 kp:jI K (.ref f)=true
section
variable {P:jw} {w:jB} {K:Qa} {mg:Str->Option Value} {base:Heap}
theorem Fun.ok {x qual:Str} {st:Stmt} {f:jk} {fd:j7} {N ps:List Str} {k:Nat} {sp:Sp} (F:Fun K x qual st f fd) (S:Zw N ps (Zf st)) (len:∀vs H Q E,sp vs H Q E->vs.length=ps.length)
 (hbody:∀(cdv:Value) (A:Around) (outer:List Env) (s:jj) (H:Hp) (vs:List V) (Q:VK) (E:XK),Ye k (A.deeper (ul qual (Zf st) s.heap.objs.size f cdv))->sp vs H Q E->
  ∃t,PSs (Zau CX0 P w K mg base N qual (Zf st) f cdv A outer s H E).nox (Zt st) t/\t {nx:=fun _ H'=>Q .non H',rt:=Q} (Zaa N vs) H):Z0 P w K mg base CX0 (k+1) f fd ps sp:=by
 obtain ⟨oc,od,kV,doc,pm,an,cdv,ct,osl,rfl,lk,hcd⟩:=F.ex;refine Zh9 lk hcd S len fun A outer s H vs Q E hr hsp=>?_;obtain ⟨t,h,q⟩:=hbody cdv A outer s H vs Q E hr hsp;exact ⟨t,h.nox,q⟩
theorem Fun.binds {x qual:Str} {st:Stmt} {f:jk} {fd:j7} {ps:List Str} (F:Fun K x qual st f fd)
 (h:∀(kV doc pm:Value) (an:Option jk) (cdv ct:Value) (us:List Value),us.length=ps.length->QaG (ur x qual (Zx st) (Zt st) (Zf st) .none kV doc pm an cdv ct) ⟨us,[]⟩=pure (ps.zip us)):Zaq K fd ps []:=by
 obtain ⟨oc,od,kV,doc,pm,an,cdv,ct,osl,rfl,lk,hcd⟩:=F.ex;exact .all (h kV doc pm an cdv ct)
theorem ZQ {x qual:Str} {st:Stmt} {f:jk} {oc:Value} {od an:Option jk} {osl:Array (Option Value)} {kV doc pm cdv ct:Value} (l:K.lookup f=some ⟨oc,od,.func (ur x qual (Zx st) (Zt st) (Zf st) .none kV doc pm an cdv ct),osl⟩)
 (c:jN K cdv qual=true) (k:jI K (.ref f)=true):Fun K x qual st f (ur x qual (Zx st) (Zt st) (Zf st) .none kV doc pm an cdv ct):=⟨⟨oc,od,kV,doc,pm,an,cdv,ct,osl,rfl,l,c⟩,k⟩
end
theorem Z3 {A:Around} {k:Nat} (hr:Ye k A):A.units+1<cLine:=WI (Nat.add_le_add_left (by decide:1<=64) _) hr.units
section
variable {X:Cx}
theorem pv (i:Nat) {x:Str} {pos:Pos} (hN:X.N[i]?=some x:=by rfl) (hv:Vis X.env.scope x:=by first|exact Or.inl rfl|exact Or.inr (Or.inl rfl)|exact Or.inr (Or.inr rfl)) (hd:(x==("__debug__":Str))=false:=by decide)
 (hcd:(x==("__classdict__":Str))=false:=by decide):PE X (.Name x pos) (ZDg i):=ZyI hN hv hd hcd
end
theorem Zdr {A B:Prop} (h:B):if false=true then A else B:=by rw [if_neg Qg];exact h
theorem Zd0 {A B:Prop} (h:A):if true=true then A else B:=by rw [if_pos rfl];exact h
theorem q9 {c A B:Prop} [Decidable c] (h1:c->A) (h2:¬c->B):if c then A else B:=by
 by_cases h:c
 ·rw [if_pos h];exact h1 h
 ·rw [if_neg h];exact h2 h
def Zs (H H':Hp):Prop:=∀b o,H b=some o->H' b=some o
theorem Zs.refl (H:Hp):Zs H H:=fun _ _ h=>h
theorem Zs.trans {H H1 H2:Hp} (a:Zs H H1) (b:Zs H1 H2):Zs H H2:=fun c o h=>b c o (a c o h)
theorem Zs.free {H H':Hp} (e:Zs H H') {l:jk} (h:H' l=WW):H l=WW:=by
 cases q:H l with
 |none=>rfl
 |some o=>
  rw [e l o q] at h;cases h
theorem Zs.seq {K:Qa} {H H':Hp} {a:jk} {xs:List V} (e:Zs H H') (h:SqL K H a xs):SqL K H' a xs:=by
 rcases h with (h|⟨o,h⟩)|h
 ·exact .inl (.inl (e _ _ h))
 ·exact .inl (.inr ⟨o,e _ _ h⟩)
 ·exact .inr h
def T (l:List Nat):Str:=⟨l.toArray⟩
def L (z:Str):List Nat:=z.cps.toList
theorem L_T (l:List Nat):L (T l)=l:=by unfold L T;simp
theorem T_L (z:Str):T (L z)=z:=by cases z;simp [T,L]
theorem Z7 (z:Str):(L z).length=z.length:=by simp [L,VA]
theorem ZAK (l:List Nat):(T l).length=l.length:=by simp [T,VA]
theorem Zj3 (a b:List Nat):T a++T b=T (a++b):=by show je (T a) (T b)=T (a++b);simp [je,T]
theorem ZcL {a b:List Nat}:T a=T b↔a=b:=by
 constructor
 ·intro h;have:=congrArg L h;rwa [L_T,L_T] at this
 ·intro h;rw [h]
def gS:St->Nat->Option V
 |[],_=>none
 |a::_,0=>a
 |_::r,n+1=>gS r n
theorem Zfn:∀{σ:St} {i:Nat} {v:V},gS σ i=some v->σ[i]?=some (some v)
 |[],_,_,h=>by simp [gS] at h
 |a::_,0,v,h=>by have h:a=some v:=h;simp [h]
 |_::r,n+1,v,h=>by have h:gS r n=some v:=h;simpa using Zfn h
def Zsb (i:Nat):TE:=fun σ H Q=>match gS σ i with
 |some v=>Q v H
 |none=>False
section
variable {X:Cx}
theorem qv (i:Nat) {x:Str} {pos:Pos} (hN:X.N[i]?=some x:=by rfl) (hv:Vis X.env.scope x:=by first|exact Or.inl rfl|exact Or.inr (Or.inl rfl)|exact Or.inr (Or.inr rfl)) (hd:(x==("__debug__":Str))=false:=by decide)
 (hcd:(x==("__classdict__":Str))=false:=by decide):PE X (.Name x pos) (Zsb i):=by
 intro Zb s σ H Q I h;refine pv i hN hv hd hcd Zb s σ H Q I ?_;unfold Zsb at h
 cases e:gS σ i with
 |none=>rw [e] at h;exact h.elim
 |some v=>rw [e] at h;exact ⟨v,Zfn e,h⟩
def ZtX:R2:=fun x y H Q=>match x,y with
 | .int i,.int j=>Q (.int (i+j)) H
 | .str a,.str b=>(L a).length+(L b).length<=sizeLine/\Q (.str (T (L a++L b))) H
 | .ref l,.ref b=>Zqw (.ref l) (.ref b) H Q
 |_,_=>False
theorem Zz:OpR X (uG .Add) ZtX:=by
 intro Zb s σ H x y v u Q I rx ry h
 cases x<;>cases y<;>first
  |exact False.elim h
  |exact Zys Zb s σ H _ _ v u Q I rx ry ⟨_,_,rfl,rfl,h⟩
  |exact Zyt Zb s σ H _ _ v u Q I rx ry h
  |(refine ZjC Zb s σ H _ _ v u Q I rx ry ⟨_,_,rfl,rfl,?_,?_⟩
    ·rw [<-Z7,<-Z7];exact h.1
    ·rename_i a b;have e:=Zj3 (L a) (L b);rw [T_L,T_L] at e;rw [e];exact h.2)
theorem Zxe:OpR X (v8 .Add) (fun x y H Q=>match x,y with
 | .int i,.int j=>Q (.int (i+j)) H
 | .str a,.str b=>(L a).length+(L b).length<=sizeLine/\Q (.str (T (L a++L b))) H
 |_,_=>False):=by
 intro Zb s σ H x y v u Q I rx ry h
 cases x<;>cases y<;>first
  |exact False.elim h
  |exact Zry Zb s σ H _ _ v u Q I rx ry ⟨_,_,rfl,rfl,h⟩
  |(refine Zih Zb s σ H _ _ v u Q I rx ry ⟨_,_,rfl,rfl,?_,?_⟩
    ·rw [<-Z7,<-Z7];exact h.1
    ·rename_i a b;have e:=Zj3 (L a) (L b);rw [T_L,T_L] at e;rw [e];exact h.2)
def ZlL (C:Int->Int->Prop) (g:Int->Int->V):R2:=fun x y H Q=>match x,y with
 | .int i,.int j=>C i j/\Q (g i j) H
 |_,_=>False
def ZgD (g:Int->Int->V):R2:=fun x y H Q=>match x,y with
 | .int i,.int j=>Q (g i j) H
 |_,_=>False
theorem Zjx {f:Value->Value->Sem Value} {C:Int->Int->Prop} {g:Int->Int->V} (h:OpR X f (rI C g)):OpR X f (ZlL C g):=by
 intro Zb s σ H x y v u Q I rx ry q
 cases x<;>cases y<;>first
  |exact False.elim q
  |exact h Zb s σ H _ _ v u Q I rx ry ⟨_,_,rfl,rfl,q.1,q.2⟩
theorem Zhk {f:Value->Value->Sem Value} {g:Int->Int->V} (h:OpR X f (rI0 g)):OpR X f (ZgD g):=by
 intro Zb s σ H x y v u Q I rx ry q
 cases x<;>cases y<;>first
  |exact False.elim q
  |exact h Zb s σ H _ _ v u Q I rx ry ⟨_,_,rfl,rfl,q⟩
abbrev ZjP:R2:=ZgD fun i j=>.int (i-j)
theorem ZfB:OpR X (uG .Sub) ZjP:=Zhk Zyz
abbrev ZlX:R2:=ZlL (fun _ j=>0<j) fun i j=>.int (i%j)
theorem ZcO:OpR X (uG .Mod) ZlX:=Zjx Zyv
abbrev Ztq:R2:=ZlL ZAt fun i j=>.int (i/j)
theorem Zxd:OpR X (uG .FloorDiv) Ztq:=Zjx ZrT
abbrev ZDH:R2:=ZlL ZAu fun i j=>.int (i ^ j.toNat)
theorem Ztz:OpR X (uG .Pow) ZDH:=Zjx Zyx
def rep (n:Nat) (l:List Nat):List Nat:=(Qv n l).flatten
theorem ZlE (c:List (Array Nat)):∀a:Array Nat,(c.foldl (fun x y=>x++y) a).toList=a.toList++(c.map Wg).flatten:=by
 induction c with
 |nil=>intro a;simp
 |cons x r ih=>intro a;simp [ih]
theorem ZCe (z:Str) (n:Int):Txt.mul z n=T (rep n.toNat (L z)):=by
 unfold Txt.mul rep;by_cases h1:n<1
 ·rw [if_pos h1];have:n.toNat=0:=by omega
  rw [this];rfl
 ·rw [if_neg h1];by_cases h2:(n==1 || z.length==0)=true
  ·rw [if_pos h2];rcases QS _ _|>.mp h2 with e|e
   ·have:n=1:=by simpa using e
    subst this;show z=T (List.flatten [L z]);simp [T_L]
   ·have e0:z.length=0:=by simpa using e
    have e1:L z=[]:=List.eq_nil_of_length_eq_zero (by rw [Z7];exact e0);rw [e1];have e2:z=T []:=by rw [<-e1,T_L]
    rw [e2]
    congr 1
    simp
  ·rw [if_neg h2];have e:=ZlE (Qv n.toNat z.cps) #[];rw [<-T_L ⟨_⟩]
   congr 1
   show (VY (fun x y=>x++y) #[] (Qv n.toNat z.cps)).toList=_;rw [e];simp [L]
def Zxa:R2:=fun x y H Q=>match x,y with
 | .int i,.int j=>Zq2 i j/\Q (.int (i * j)) H
 | .str a,.int n=>(-(2 ^ 63)<=n/\n<2 ^ 63/\(L a).length * n.toNat<=sizeLine)/\Q (.str (T (rep n.toNat (L a)))) H
 | .ref l,.int k=>Zqx (.ref l) (.int k) H Q
 |_,_=>False
theorem ZeA:OpR X (uG .Mult) Zxa:=by
 intro Zb s σ H x y v u Q I rx ry h
 cases x<;>cases y<;>first
  |exact False.elim h
  |exact Zyw Zb s σ H _ _ v u Q I rx ry ⟨_,_,rfl,rfl,h.1,h.2⟩
  |exact Zyy Zb s σ H _ _ v u Q I rx ry h
  |(rename_i a n
    obtain ⟨t,e⟩:=rx;obtain ⟨t',e'⟩:=ry;subst e e';obtain ⟨⟨h1,h2,h3⟩,q⟩:=h;rw [Z7] at h3;have hl:sizeLine=16777216:=jt;refine SB.mul ⟨?_,fun h4 h5=>?_,fun h4 h5=>?_⟩ fun t' k=>?_
    ·rw [decide_eq_false (by omega),decide_eq_false (by omega)];rfl
    ·intro h6
     have h7:n<=(a.length:Int) * n:=by
      have h8:a.length≠0:=by intro z;rw [z] at h5;simp at h5
      have h9:(1:Int)<=(a.length:Int):=by omega
      calc n=1 * n:=by omega
       _<=(a.length:Int) * n:=Int.mul_le_mul_of_nonneg_right h9 (by omega)
     have h10:(a.length:Int) * n<=16777216:=by
      have:((a.length * n.toNat:Nat):Int)<=16777216:=by omega
      rw [Int.natCast_mul,Vx (by omega)] at this;exact this
     have h11:(a.length:Int)<=(2 ^ 63-1)/n:=by rw [Int.le_ediv_iff_mul_le (by omega)];omega
     omega
    ·unfold Builtin.Str.tooLong;exact decide_eq_false (by omega)
    ·exact ⟨.str (T (rep n.toNat (L a))),H,I.tok _,⟨_,by rw [ZCe]⟩,q⟩)
def ltV:R2:=fun x y H Q=>match x,y with
 | .int i,.int j=>Q (.bl (decide (i<j))) H
 | .str a,.str b=>Q (.bl (decide (L a<L b))) H
 |_,_=>False
theorem Ziz:OpR X (jX .Lt) ltV:=by
 intro Zb s σ H x y v u Q I rx ry h
 cases x<;>cases y<;>first
  |exact False.elim h
  |exact ZCF Zb s σ H _ _ v u Q I rx ry ⟨_,_,rfl,rfl,h⟩
  |exact Zl5 Zb s σ H _ _ v u Q I rx ry ⟨_,_,rfl,rfl,h⟩
abbrev leV:R2:=ZgD fun i j=>.bl (decide (i<=j))
abbrev gtV:R2:=ZgD fun i j=>.bl (decide (j<i))
theorem ZCh:OpR X (jX .LtE) leV:=Zhk ZCE
theorem Zjw:OpR X (jX .Gt) gtV:=Zhk ZCD
def sc:V->V->Option Bool
 | .int i,.int j=>some (decide (i=j))
 | .str a,.str b=>some (decide (L a=L b))
 | .bl a,.bl b=>some (decide (a=b))
 | .non,.non=>some true
 | .non,.int _=>some false| .int _,.non=>some false| .non,.bl _=>some false| .bl _,.non=>some false| .non,.str _=>some false| .str _,.non=>some false
 | .int _,.str _=>some false| .str _,.int _=>some false| .bl _,.str _=>some false| .str _,.bl _=>some false
 |_,_=>none
theorem ZAI {a b:Str}:L a=L b↔a=b:=by
 constructor
 ·intro h;rw [<-T_L a,<-T_L b,h]
 ·intro h;rw [h]
theorem ZtB {x y:V} {b:Bool} (h:sc x y=some b):Zzw x y=true/\b=decide (x=y):=by
 cases x<;>cases y<;>first
  |exact (nomatch (show (none:Option Bool)=some b from h))
  |(have h:=Option.some.inj h
    subst h;refine ⟨rfl,?_⟩;simp [ZAI])
def eqR:R2:=fun x y H Q=>match sc x y with
 |some b=>Q (.bl b) H
 |none=>False
def neR:R2:=fun x y H Q=>match sc x y with
 |some b=>Q (.bl (!b)) H
 |none=>False
theorem ZcF:OpR X (jX .Eq) eqR:=by
 intro Zb s σ H x y v u Q I rx ry h;unfold eqR at h
 cases e:sc x y with
 |none=>rw [e] at h;exact h.elim
 |some b=>
  rw [e] at h;obtain ⟨h1,h2⟩:=ZtB e;subst h2;exact ZCC Zb s σ H x y v u Q I rx ry ⟨h1,h⟩
theorem ZrQ:OpR X (jX .NotEq) neR:=by
 intro Zb s σ H x y v u Q I rx ry h;unfold neR at h
 cases e:sc x y with
 |none=>rw [e] at h;exact h.elim
 |some b=>
  rw [e] at h;obtain ⟨h1,h2⟩:=ZtB e;subst h2;exact ZCG Zb s σ H x y v u Q I rx ry ⟨h1,h⟩
def isV:R2:=fun x y H Q=>match y,x with
 | .non,x=>Q (.bl (decide (x=.non))) H
 | .bl b,.bl c=>Q (.bl (c==b)) H
 |_,_=>False
def Zts:R2:=fun x y H Q=>match y,x with
 | .non,x=>Q (.bl (!decide (x=.non))) H
 | .bl b,.bl c=>Q (.bl (c !=b)) H
 |_,_=>False
theorem ZDF:OpR X (jX .Is) isV:=by
 intro Zb s σ H x y v u Q I rx ry h
 cases y with
 |non=>exact Zyu Zb s σ H x _ v u Q I rx ry ⟨rfl,h⟩
 |bl b=>
  cases x with
  |bl c=>
   cases rx;cases ry;exact is_bool (ZV I h rfl)
  |_=>exact False.elim h
 |_=>cases x<;>exact False.elim h
def ixV (K:Qa):R2:=fun x y H Q=>match x,y with
 | .str z,.int i=>(L z).length<=sizeLine/\∃c,atI (L z) i=some c/\Q (.str (T [c])) H
 | .ref p,.int i=>∃xs v,(SqL K H p xs\/SqT K H p xs)/\atI xs i=some v/\Q v H
 |_,_=>False
theorem ZDC:IxR X (ixV X.K):=by
 intro value slice Zb s σ H x y v u Q I rx ry h hs
 cases x<;>cases y<;>first
  |exact False.elim h
  |(obtain ⟨hz,c,e,q⟩:=h
    exact Zwd value slice Zb s σ H _ _ v u Q I rx ry ⟨_,_,c,rfl,rfl,(by rw [<-Z7];exact hz),e,q⟩ hs)
  |(obtain ⟨xs,w,e|e,ei,q⟩:=h
    ·exact ZrA value slice Zb s σ H _ _ v u Q I rx ry ⟨_,xs,_,w,rfl,rfl,e,ei,q⟩ hs
    ·exact Zwe value slice Zb s σ H _ _ v u Q I rx ry ⟨_,xs,_,w,rfl,rfl,e,ei,q⟩ hs)
def cut {α:Type} (xs:List α) (lo hi:Option Int):List α:=(xs.drop (HT.sIx xs.length 0 lo)).take (HT.sIx xs.length xs.length hi-HT.sIx xs.length 0 lo)
theorem Zcr {α:Type} (xs:List α) (lo hi:Option Int):(cut xs lo hi).length<=xs.length:=by unfold cut;rw [jz,jJ];omega
theorem Zqy (a b:Nat):sliceRange (a:Int) (b:Int) 1=(Qk (b-a)).map fun k=>a+k:=by
 unfold sliceRange;have h1:(1:Int)>0:=by decide
 simp only [h1,if_true];have e2:(if (a:Int)<(b:Int) then ((b:Int)-(a:Int)+1-1)/1 else 0).toNat=b-a:=by split<;>omega
 rw [e2];apply uE;intro k _;omega
theorem Zwf (lo hi:Option Int) (n:Nat):Builtin.Str.strSliceIndices lo hi 1 n=(Qk (HT.sIx n n hi-HT.sIx n 0 lo)).map fun k=>HT.sIx n 0 lo+k:=by
 rw [<-Zqy];have h1:(1:Int)>0:=by decide
 have cl:∀(i:Int) (d:Nat),max 0 (min (if i<0 then i+(n:Int) else i) (n:Int))=((HT.sIx n d (some i):Nat):Int):=by
  intro i d;show max 0 (min (if i<0 then i+(n:Int) else i) (n:Int))=(((if i<0 then (i+(n:Int)).toNat else min i.toNat n):Nat):Int);by_cases hi:i<0
  ·rw [if_pos hi,if_pos hi];omega
  ·rw [if_neg hi,if_neg hi];omega
 unfold Builtin.Str.strSliceIndices;simp only [h1,if_true]
 cases lo with
 |none=>
  cases hi with
  |none=>rfl
  |some j=>
   simp only [cl j n];rfl
 |some i=>
  cases hi with
  |none=>
   simp only [cl i 0];rfl
  |some j=>simp only [cl i 0,cl j n]
theorem Zqo (l:List Nat) (a:Nat):∀k:Nat,((Qk k).map fun m=>a+m).filterMap (fun i=>l[i]?)=(l.drop a).take k
 |0=>by simp
 |k+1=>by rw [Ut,uw,Vm,Zqo l a k,Ua,Ub];cases e:l[a+k]?<;>simp [e]
theorem Zsn (z:Str) (lo hi:Option Int):Txt.slice z lo hi=T (cut (L z) lo hi):=by
 unfold Txt.slice;rw [Zwf]
 have e0:(fun i:Nat=>z.cps[i]?)=fun i:Nat=>(L z)[i]?:=by
  funext i
  simp [L]
 have hl:(L z).length=z.length:=Z7 z;have h1:=HT.ZqF z.length z.length (Qf _) hi;have e:T (cut (L z) lo hi)=⟨(((Qk (HT.sIx z.length z.length hi-HT.sIx z.length 0 lo)).map fun k=>HT.sIx z.length 0 lo+k).filterMap fun i=>z.cps[i]?).toArray⟩:=by rw [e0,Zqo];unfold cut T;rw [hl]
 rw [<-e];split
 ·rename_i h;rw [jn,uO] at h;have h2:HT.sIx z.length z.length hi-HT.sIx z.length 0 lo=z.length:=by simpa using h
  have h3:HT.sIx z.length 0 lo=0:=by
   by_cases hz:z.length=0
   ·have:=HT.ZqF z.length 0 (Qu _) lo;omega
   ·omega
  unfold cut;rw [hl,h2,h3,Uc,<-hl,QF,T_L]
 ·rfl
def slV (K:Qa):V->Option Int->Option Int->Hp->VK->Prop:=fun x lo hi H Q=>match x with
 | .str z=>(L z).length<=sizeLine/\Q (.str (T (cut (L z) lo hi))) H
 | .ref p=>∃xs,SqL K H p xs/\∀q,H q=none->Q (.ref q) (upd H q (.lst (cut xs lo hi)))
 |_=>False
theorem Zk6 {v:Value} {o:Option Int} (h:IsPart v o):∃q:Option (Int×Tok),v=partValue q/\q.map (·.1)=o:=by
 cases h with
 |none=>exact ⟨none,rfl,rfl⟩
 |int i t=>exact ⟨some (i,t),rfl,rfl⟩
theorem ZDN:SlR X (slV X.K):=by
 intro Zb s σ H x v vl vu lo hi sl Q I rx hs pl pu h
 cases x with
 |str z=>
  obtain ⟨hz,q⟩:=h;obtain ⟨t,rfl⟩:=rx;obtain ⟨l,rfl,el⟩:=Zk6 pl;obtain ⟨u,rfl,eu⟩:=Zk6 pu;refine ⟨"str",_,F.slot_str_getitem.lookup,ui _ _ _,?_⟩;refine wpAny_getItem_str_slice (l:=l) (u:=u) (st:=none) hs rfl ?_;refine post_val_or_str ⟨?_,fun t' k=>?_⟩
  ·show (Txt.slice z (l.map (·.1)) (u.map (·.1))).length<=sizeLine;refine QI (Txt.slice_le z _ _) ?_;rw [<-Z7];exact hz
  ·refine ⟨.str (T (cut (L z) lo hi)),H,I.tok _,⟨t',?_⟩,q⟩;show UR (Txt.slice z (l.map (·.1)) (u.map (·.1))) t'=_;rw [Zsn,el,eu]
 |ref p=>
  obtain ⟨xs,hx,q⟩:=h;exact Zsm Zb s σ H _ v vl vu lo hi sl Q I rx hs pl pu ⟨p,xs,rfl,hx,q⟩
 |_=>exact False.elim h
def Zjn (K:Qa):List V->Hp->VK->Prop:=fun xs H Q=>match xs with
 |[.str z]=>(L z).length<=sizeLine/\Q (.int (L z).length) H
 |[.ref p]=>∃ys,(SqL K H p ys\/SqT K H p ys)/\Q (.int ys.length) H
 |_=>False
theorem ZBx:JM X (.builtin "len") (Zjn X.K):=by
 intro Zb s σ H xs us Q I r h;unfold Zjn at h;split at h
 ·exact Zg7 Zb s σ H _ us Q I r ⟨_,rfl,by rw [<-Z7];exact h.1,by rw [<-Z7];exact h.2⟩
 ·obtain ⟨ys,hy,q⟩:=h;exact Zg6 Zb s σ H _ us Q I r ⟨_,ys,rfl,hy,q⟩
 ·exact h.elim
def ZAa (l p:List Nat) (k:Nat):Bool:=decide (k+p.length<=l.length/\(l.drop k).take p.length=p)
theorem ZC7 (x y:Str) (k:Nat):(decide (k+y.length<=x.length) && Builtin.Str.subAt x y k)=ZAa (L x) (L y) k:=by
 unfold ZAa Builtin.Str.subAt;rw [Z7,Z7];rw [Ug];simp only [QM,decide_eq_true_eq,beq_iff_eq];refine and_congr_right fun _=>?_;have e:(x.cps.extract k (k+y.length)).toList=((L x).drop k).take y.length:=by simp [L,List.extract_eq_drop_take]
 constructor
 ·intro h;rw [<-e,h];rfl
 ·intro h;apply Array.ext';rw [e,h];rfl
def Zds (sep:List Nat):List (List Nat)->List Nat
 |[]=>[]
 |[x]=>x
 |x::y::r=>x++sep++Zds sep (y::r)
theorem Zd1:∀xs:List (List Nat),Zds [] xs=xs.flatten
 |[]=>rfl
 |[x]=>by simp [Zds]
 |x::y::r=>by rw [Zds,Zd1 (y::r)];simp
theorem Zo8 (sep:Str):∀ys:List Str,WV sep ys=T (Zds (L sep) (ys.map L))
 |[]=>rfl
 |[x]=>by show x=T (L x);rw [T_L]
 |x::y::r=>by show x++sep++WV sep (y::r)=T (L x++L sep++Zds (L sep) ((y::r).map L));rw [Zo8 sep (y::r),<-Zj3,<-Zj3,T_L,T_L]
theorem Zso:∀{zs:List Str} {us:List Value},ZE (zs.map V.str) us->StrsAre us zs:=by
 intro zs
 induction zs with
 |nil=>intro us r;cases r;exact .nil
 |cons z r ih=>
  intro us h;rw [jT] at h
  cases h with
  |cons r1 r2=>
   obtain ⟨t,rfl⟩:=r1;exact .cons z t (ih r2)
def Zii (K:Qa):V->List V->Hp->VK->Prop:=fun x xs H Q=>match x,xs with
 | .str a,[.ref p]=>∃zs:List (List Nat),SqL K H p (zs.map fun l=>V.str (T l))/\(zs.map Ur).sum+zs.length * (L a).length<=sizeLine/\Q (.str (T (Zds (L a) zs))) H
 |_,_=>False
theorem Zw6:MtR X "str.join" (Zii X.K):=by
 intro Zb s σ H x xs v us Q I rx rs h;unfold Zii at h;split at h
 ·rename_i a p;obtain ⟨zs,hp,hz,q⟩:=h;obtain ⟨t,rfl⟩:=rx;obtain ⟨u,rfl,ru⟩:=Zab rs;cases ru;obtain ⟨its,r',pl,_⟩:=I.list hp;have e:(zs.map fun l=>V.str (T l))=(zs.map T).map V.str:=by simp
  rw [e] at r';have hl:sizeLine=16777216:=jt;refine join_list (ys:=zs.map T) pl.isList (by simpa using Zso r') ?_ fun t' k=>?_
  ·rw [uJ,jn,<-Z7 a]
   have:(VA∘T)=Ur:=by
    funext l
    exact ZAK l
   rw [<-hl];show (List.map (VA∘T) zs).sum+_<=_;rw [this];exact hz
  ·refine ⟨.str (T (Zds (L a) zs)),H,I.tok _,⟨t',?_⟩,q⟩;show UR (Txt.join a (zs.map T)) t'=_;have e2:Txt.join a (zs.map T)=WV a (zs.map T):=StrLaws.glued_eq_join _ _;rw [e2,Zo8,uJ]
   congr 3
   simp [L_T,Function.comp_def]
 ·exact h.elim
end
theorem zy.forget {P:jw} {w:jB} {H H':Hp} {h h':Heap} {a:jk} {o:HO} (x:zy P w H h a o) (y:zy P w H' h' a o):zy P w H h' a o:=by
 induction o with
 |frz ob u ih=>exact ⟨y.1,ih x.2 y.2⟩
 |ins C dx fs=>exact ⟨x.1,y.2⟩
 |dT kvs=>exact False.elim x
 |_=>exact y
theorem HOk.forget {P:jw} {w:jB} {H H':Hp} {h h':Heap} (x:HOk P w H h) (y:HOk P w H' h') (sm:Zs H H'):HOk P w H h':=fun a o e=>(x a o e).forget (y a o (sm a o e))
section
variable {X:Cx} {Zb:List (jk×Obj)} {σ σ':St} {H H':Hp} {s s':jj}
theorem Zs.upd {H H':Hp} {a:jk} {o:HO} (e:Zs H H') (n:H' a=none):Zs H (upd H' a o):=fun b u q=>by have q':=e b u q;rw [Zj (Zk q' n)];exact q'
theorem Zs.updN {H:Hp} {a:jk} {o:HO} (n:H a=none):Zs H (L2.upd H a o):=Zs.upd (Zs.refl H) n
def tFE (t:TE):TE:=fun σ H Q=>t σ H fun v H'=>Zs H H'/\Q v H
end
structure Fn (P:jw) (w:jB) (K:Qa) (mg:Str->Option Value) (base:Heap) (k:Nat) (x:Str) (ps:List Str) (sp:Sp):Prop where
 ex:∃f fd,Z0 P w K mg base CX0 k f fd ps sp/\mg x=some (.ref f)/\jI K (.ref f)=true/\Zaq K fd ps []
section
variable {P:jw} {w:jB} {K:Qa} {mg:Str->Option Value} {base:Heap}
theorem Fun.pure {x qual:Str} {st:Stmt} {f:jk} {fd:j7} {N ps:List Str} {k:Nat} {sp:Sp} (F:Fun K x qual st f fd) (S:Zw N ps (Zf st)) (len:∀vs H Q E,sp vs H Q E->vs.length=ps.length)
 (hbody:∀(cdv:Value) (A:Around) (outer:List Env) (s:jj) (H:Hp) (vs:List V) (Q:VK) (E:XK),Ye k (A.deeper (ul qual (Zf st) s.heap.objs.size f cdv))->sp vs H Q E->
  ∃t,PSs (Zau CX0 P w K mg base N qual (Zf st) f cdv A outer s H E).nox (Zt st) t/\t {nx:=fun _ H'=>Zs H H'/\Q .non H,rt:=fun v H'=>Zs H H'/\Q v H} (Zaa N vs) H):Z0 P w K mg base CX0 (k+1) f fd ps sp:=by
 have F1:Z0 P w K mg base CX0 (k+1) f fd ps (fun vs H Q' E=>∃Q,sp vs H Q E/\Q'=fun v H'=>Zs H H'/\Q v H):=by refine F.ok S (fun vs H Q E ⟨Q0,h,_⟩=>len vs H Q0 E h) fun cdv A outer s H vs Q E hr ⟨Q0,h,e⟩=>?_;subst e;exact hbody cdv A outer s H vs Q0 E hr h
 refine ⟨len,fun A outer s H args us vs Q E hr e0 hb r hsp=>?_⟩;refine ub (F1.run A outer s H args us vs (fun v H'=>Zs H H'/\Q v H) E hr e0 hb r ⟨Q,hsp,rfl⟩) fun r s' h=>?_
 cases r with
 |error e=>exact h
 |ok fl=>
  cases fl with
  |ret u=>
   obtain ⟨v,H',os,bare,un,hok,rv,sm,q⟩:=h;exact ⟨v,H,os,bare,⟨un.keep,un.slot,fun _ _ _ n _=>n,un.there,fun _ _ q=>q,fun _ _ _ q=>q,fun _ ps q=>⟨#[],by rw [q];simp⟩⟩,e0.hok.forget hok sm,rv,q⟩
  |next=>exact h
  |brk=>exact h
  |cont=>exact h
end
section
variable {X:Cx} {k:Nat} {x:Str} {ps:List Str} {sp:Sp} {p pos:Pos} {e:jF} {es:List jF} {t:TA}
def tFn (sp:Sp) (t:TA):TE:=fun σ H Q=>t σ H fun vs H1=>sp vs H1 Q E0
theorem ZZ (F:Fn X.prog X.w X.K X.mg X.base k x ps sp) (hr:Ye k X.A) (ha:PA X (e::es) t) (hg:Gl X x:=by rfl) (hdb:(x==("__debug__":Str))=false:=by decide)
 (he:jx (e::es) X.env=(false,eval e X.env)::jx es X.env:=by rfl) (hpl:(uu pos (jx es X.env)).any (·.1)=false:=by rfl):PE X (.Call (.Name x p) (e::es) [] pos) (tFn sp t):=by
 obtain ⟨f,fd,F,hm,hk,hb⟩:=F.ex;intro Zb s σ H Q I h;refine ZrW F hr hg hm hk hb .nil ZiD ha hdb he hpl Zb s σ H Q I ?_;show t σ H fun vs H1=>sp (vs++[]) H1 Q E0;simp only [vf];exact h
theorem ZyD (F:Fn X.prog X.w X.K X.mg X.base k x ps sp) (hr:Ye k X.A) (hg:Gl X x:=by rfl) (hdb:(x==("__debug__":Str))=false:=by decide):PE X (.Call (.Name x p) [] [] pos) (fun _ H Q=>sp [] H Q E0):=by obtain ⟨f,fd,F,hm,hk,hb⟩:=F.ex;intro Zb s σ H Q I h;exact Zqf F hr hg hm hk hb .nil ZiD hdb Zb s σ H Q I h
end
def qj:List (Str×vF)->List (Str×jk)->List (Str×jk)->Option (List (Str×jk))
 |[],_,acc=>some acc
 |(n,k)::r,cells,acc=>if k==.free then (match cells.lookup n with
    |some c=>qj r cells ((n,c)::acc)
    |none=>none) else qj r cells acc
theorem ZaL {scope:Scope} {env:Env} {cl:List (Str×jk)} (h:qj scope.names env.cells []=some cl):closureFor scope env=pure cl:=by
 have all:∀(names:List (Str×vF)) (acc:List (Str×jk)),qj names env.cells acc=some cl->
  (do
   let mut cs:=acc
   for (name,kind) in names do
    if kind==.free then cs:=(name,<-cellOf env name)::cs
   return cs:Sem (List (Str×jk)))=pure cl:=by
  intro names
  induction names with
  |nil=>
   intro acc h;cases Option.some.inj (show some acc=some cl from h);rfl
  |cons x r ih=>
   intro acc h;obtain ⟨n,k⟩:=x;unfold qj at h
   dsimp only at ih ⊢
   rw [Uv];dsimp only
   cases hk:(k==NameKind.free) with
   |false=>
    rw [hk] at h
    simp only [hk,Q4,if_false] at h ⊢
    exact ih acc h
   |true=>
    rw [hk] at h
    simp only [hk,if_true] at h ⊢
    cases hc:env.cells.lookup n with
    |none=>rw [hc] at h;cases h
    |some c=>
     rw [hc] at h;unfold cellOf;simp only [hc];exact ih ((n,c)::acc) h
 exact all scope.names [] h
theorem Jn {cells:List (Str×jk)} {cl:List (Str×jk)}:∀(names:List (Str×vF)) (acc:List (Str×jk)),qj names cells acc=some cl->
 (∀x c,acc.lookup x=some c->cells.lookup x=some c)->(∀x c,cl.lookup x=some c->cells.lookup x=some c)/\∀x,((∃c,acc.lookup x=some c)\/names.lookup x=some .free)->∃c,cl.lookup x=some c
 |[],acc,h,ha=>by cases Option.some.inj (show some acc=some cl from h);exact ⟨ha,fun x hx=>hx.elim id fun z=>by simp at z⟩
 |(n,k)::r,acc,h,ha=>by
  unfold qj at h
  cases hk:(k==NameKind.free) with
  |false=>
   rw [hk] at h;simp only [Q4,if_false] at h;obtain ⟨h1,h2⟩:=Jn r acc h ha;refine ⟨h1,fun x hx=>h2 x (hx.imp id fun z=>?_)⟩;rw [QH] at z
   cases hx:x==n with
   |true=>
    rw [hx] at z;cases Option.some.inj z;cases hk
   |false=>rw [hx] at z;exact z
  |true=>
   rw [hk] at h;simp only [if_true] at h
   cases hc:cells.lookup n with
   |none=>rw [hc] at h;cases h
   |some c=>
    rw [hc] at h
    obtain ⟨h1,h2⟩:=Jn r ((n,c)::acc) h (fun x d hx=>by
     rw [QH] at hx
     cases e:x==n with
     |true=>
      rw [e] at hx;cases Option.some.inj hx;rw [eq_of_beq e];exact hc
     |false=>rw [e] at hx;exact ha x d hx)
    refine ⟨h1,fun x hx=>?_⟩
    cases e:x==n with
    |true=>exact h2 x (.inl ⟨c,by rw [QH,e]⟩)
    |false=>
     refine h2 x ?_;rcases hx with ⟨d,hd⟩|hx
     ·exact .inl ⟨d,by rw [QH,e];exact hd⟩
     ·rw [QH,e] at hx;exact .inr hx
theorem ZfM {scope:Scope} {env:Env} {x:Str} {k:vF} (h:scope.names.lookup x=some k):(Qag scope env).names.lookup x=some (if (k==.free && env.scope.kind==.function && env.kindOf x==some .cell)=true then .cell else k):=by
 unfold Qag;dsimp only;generalize scope.names=names at h
 induction names with
 |nil=>simp at h
 |cons y r ih=>
  obtain ⟨n,j⟩:=y;rw [jT];rw [QH] at h
  cases e:x==n with
  |true=>
   rw [e] at h;cases Option.some.inj h;have en:=eq_of_beq e;subst en;dsimp only;split<;>rw [QH,beq_self_eq_true]
  |false=>
   rw [e] at h;have:=ih h;dsimp only;split<;>(rw [QH,e];exact this)
theorem Zhx {scope:Scope} {env:Env} {x:Str} (h:scope.names.lookup x=none):(Qag scope env).names.lookup x=none:=by
 unfold Qag;dsimp only;generalize scope.names=names at h
 induction names with
 |nil=>rfl
 |cons y r ih=>
  obtain ⟨n,j⟩:=y;rw [jT];rw [QH] at h
  cases e:x==n with
  |true=>rw [e] at h;cases h
  |false=>
   rw [e] at h;have:=ih h;dsimp only;split<;>(rw [QH,e];exact this)
def PFs (X:Cx) (ifs:List jF) (t:TT):Prop:=
 ∀(Zb:List (jk×Obj)) (s:jj) (σ:St) (H:Hp) (Q:Bool->Hp->Prop),Inv X Zb σ H s->t σ H Q->
  jo (jr X.prog X.w) X.A (forIn ifs true fun c r=>if r=true then do let ok <-isTrue c X.env (eval c X.env);pure (ForInStep.yield ok) else pure (ForInStep.yield r)) (TP X Zb σ Q) X.xe s
theorem Zhq {X:Cx}:PFs X [] (fun _ H Q=>Q true H):=fun _ _ _ H _ I h=>wpAny_tests_nil ⟨H,I,h⟩
theorem Zhr {X:Cx} {c:jF} {t:TT} (h:PT X c t):PFs X [c] t:=fun Zb s σ H Q I q=>wpAny_tests_one (h Zb s σ H Q I q)
def JE (X:Cx) (scope:Scope):List (Str×Nat)->Prop
 |[]=>True
 |(x,j)::r=>(X.N[j]?=some x/\X.env.scope.names.lookup x=some .cell/\scope.names.lookup x=some .free)/\JE X scope r
theorem JE.get {X:Cx} {scope:Scope}:∀{cp:List (Str×Nat)} {i:Nat} {x:Str} {j:Nat},JE X scope cp->cp[i]?=some (x,j)->X.N[j]?=some x/\X.env.scope.names.lookup x=some .cell/\scope.names.lookup x=some .free
 |[],_,_,_,_,e=>by simp at e
 |(y,k)::r,0,x,j,h,e=>by simp at e;obtain ⟨rfl,rfl⟩:=e;exact h.1
 |_::r,i+1,x,j,h,e=>JE.get (cp:=r) (i:=i) h.2 (by simpa using e)
def ZaK (n:Nat) (cp:List (Str×Nat)) (σ:St):St:=Qv n none++cp.map fun p=>gS σ p.2
def cxC (X:Cx) (scope:Scope) (cl:List (Str×jk)) (N:List Str) (fp:List jk) (C:jk) (s:jj) (H:Hp):Cx:=
 {X with N:=N,s₀:=s,H₀:=H,env:=uc scope cl C X.env,outer:=X.stack,stack:=X.stack,ex:=fp,fn:=fun _=>false,pn:=[],xe:=fun _ _=>False}
def Zgq (n:Nat) (g:TG):Prop:=∀x σ H Q,g x σ H Q->g x σ H fun σ' H'=>Q σ' H'/\∀j:Nat,n<=j->σ'[j]?=σ[j]?
theorem Zcx {n i:Nat} (h:i<n):Zgq n (Y6 i):=fun x σ H Q q=>⟨q,fun j hj=>Ui (by omega)⟩
def Zlk (n:Nat) (cp:List (Str×Nat)) (wi:TI) (g:TG) (tc:TT) (te:TE):TE:=fun σ H Q=>wi σ H fun J H1=>∃W:Nat->Nat->Hp->List V->Prop,(∃m,W 0 m H1 [])/\∀i m H2 acc,W i m H2 acc->
 acc.length<sizeLine/\((J.stop i H2/\∀l,H2 l=none->Q (.ref l) (upd H2 l (.lst acc)))\/
  (J.go i H2/\∀x H3,J.yld i H2 x H3->g x (ZaK n cp σ) H3 fun σ' H4=>tc σ' H4 fun b H5=>if b=true then te σ' H5 fun y H6=>∃m',m'<m/\W (i+1) m' H6 (acc++[y]) else ∃m',m'<m/\W (i+1) m' H5 acc))
abbrev Zbc (its:List Value) (n:Nat):Obj:= {cls:=.type "list",data:=.seq its.toArray n}
section
variable {X:Cx} {Zb:List (jk×Obj)} {σ:St} {H2:Hp} {s2:jj} {scope:Scope} {cl:List (Str×jk)} {own:List Str} {cp:List (Str×Nat)} {fp:List jk} {C D:jk} {h1:Heap}
theorem Zrg (I:Inv X Zb σ H2 s2) (hcl:qj scope.names X.env.cells []=some cl) (hk:scope.kind=.function) (hnc:∀y∈scope.names,y.2≠ .cell)
 (f2:∀b∈fp,ZcE X Zb H2 b) (hC:s2.heap.objs.size<=C) (hlt:∀b∈fp,b<s2.heap.objs.size) (N:List Str):(cxC X scope cl N fp C s2 H2).Ok:=by
 have c1:=(Jn scope.names [] hcl (fun x c h=>by simp at h)).1;have c2:=(Jn scope.names [] hcl (fun x c h=>by simp at h)).2;refine ⟨I.ok.mod,hk,I.ok.glob,I.ok.blt,hC,fun x y c h1 h2=>I.ok.inj x y c (c1 x c h1) (c1 y c h2),fun x hx=>?_,fun x c h _=>absurd h (by simp [cxC]),I.ok.hd,I.ok.frames,.inl rfl,fun b hb=>⟨?_,fun x c h=>?_⟩,I.bs,QI I.ok.bsz I.sz,fun b o e hb=>?_,fun b hb hf=>?_,I.stack,I.stkFree⟩
 ·have hx:(Qag scope X.env).names.lookup x=some .cell\/(Qag scope X.env).names.lookup x=some .free:=hx
  cases e:scope.names.lookup x with
  |none=>rw [Zhx e] at hx;rcases hx with z|z<;>cases z
  |some k=>
   rw [ZfM e] at hx;refine c2 x (.inr ?_);by_cases hf:(k==.free && X.env.scope.kind==.function && X.env.kindOf x==some .cell)=true
   ·have:k=.free:=by simp only [QM] at hf;exact eq_of_beq hf.1.1
    rw [e,this]
   ·rw [if_neg hf] at hx;rcases hx with z|z
    ·cases Option.some.inj z;exact absurd rfl (hnc _ (PySem.mem_of_lookup e))
    ·cases Option.some.inj z;exact e
 ·exact Qm (Ql (hlt b hb) hC)
 ·exact (f2 b hb).2.2.2.2.1 x c (c1 x c h)
 ·rcases (f2 b hb).2.2.2.1 with z|z
  ·exact I.ok.noex b o e z
  ·exact absurd (Ql (Qj e) (QI I.ok.bsz z)) (QV _)
 ·have hf:b∈frs X.stack:=hf;rcases jK.mp (I.stkSub b hf) with z|z
  ·exact (f2 b hb).2.1 z
  ·exact (f2 b hb).2.2.1 z
theorem Zfh {tk:Nat} (I:Inv X Zb σ H2 s2) (hcl:qj scope.names X.env.cells []=some cl) (hk:scope.kind=.function) (hnc:∀y∈scope.names,y.2≠ .cell) (hcp:JE X scope cp)
 (f2:∀b∈fp,ZcE X Zb H2 b) (hC:s2.heap.objs.size<C) (hlt:∀b∈fp,b<s2.heap.objs.size) (hns:h1.Ns C (fun _=>none)) (old:∀b o,s2.heap.get? b=some o->h1.get? b=some o)
 (hD:h1.get? s2.heap.objs.size=some (Zbc [] 0)):
 Inv (cxC X scope cl (own++cp.map (·.1)) fp C s2 H2) [(s2.heap.objs.size,Zbc [] 0)] (ZaK own.length cp σ) H2 {s2 with heap:=h1,toks:=tk}:=by
 have ok:=Zrg I hcl hk hnc f2 (QQ hC) hlt (own++cp.map (·.1));have c1:=(Jn scope.names [] hcl (fun x c h=>by simp at h)).1;have c2:=(Jn scope.names [] hcl (fun x c h=>by simp at h)).2;obtain ⟨m,hm,hl⟩:=id I.loc;refine ⟨ok,rfl,I.bare,Un.kept old,⟨_,hns,fun i x v e1 e2 e3=>?_⟩,fun x c e=>?_,I.hok.fresh (QQ hC),fun x c e=>I.freeC x c (c1 x c e),fun p hp=>?_,I.hok.kept old,?_⟩
 ·have e1:(own++cp.map (·.1))[i]?=some x:=e1;unfold ZaK at e2;by_cases hi:i<own.length
  ·rw [Qx (by simpa using hi),UK] at e2;split at e2<;>cases e2
  ·rw [Qt (by simpa using hi),uK,Qi] at e2;rw [Qt (by omega),Qi] at e1
   cases q:cp[i-own.length]? with
   |none=>rw [q] at e1;cases e1
   |some p=>
    rw [q] at e1 e2;obtain ⟨y,j⟩:=p;cases Option.some.inj e1;obtain ⟨g1,g2,g3⟩:=hcp.get q;have e4:gS σ j=some v:=Option.some.inj e2;obtain ⟨u,r,lk⟩:=hl j y v g1 (Zfn e4) (.inr (.inl g2));refine ⟨u,r,.inr ⟨?_,?_⟩⟩
    ·left
     show (Qag scope X.env).names.lookup y=some .cell;rw [ZfM g3];rw [if_pos];have:X.env.kindOf y=some .cell:=g2;rw [this,I.ok.kind];rfl
    ·rcases lk with ⟨z,_⟩|⟨_,c,z,zc⟩
     ·have z':X.env.scope.names.lookup y=some .local:=z;rw [g2] at z';cases z'
     ·obtain ⟨d,hd⟩:=c2 y (.inr g3);have hd':=c1 y d hd;rw [z] at hd';cases Option.some.inj hd';obtain ⟨o,ho,hdt⟩:=zc;exact ⟨c,hd,o,old _ _ ho,hdt⟩
 ·obtain ⟨v,o,ho,hd⟩:=I.cell x c (c1 x c e);exact ⟨v,o,old _ _ ho,hd⟩
 ·have hp:p∈[(s2.heap.objs.size,Zbc [] 0)]:=hp;cases ju.mp hp;refine ⟨hD,I.hok.fresh (Qf _),Qm hC,fun hf=>?_,fun v z=>by cases z⟩;have hf:s2.heap.objs.size∈frs X.stack:=hf;rcases jK.mp (I.stkSub _ hf) with z|z
  ·exact QX I.lt z
  ·exact I.nofs (Qf _) z
 ·show (ZaK own.length cp σ).length=(own++cp.map (·.1)).length;unfold ZaK;simp
theorem Zh3 {X':Cx} {σ':St} {H':Hp} {s':jj} {h'':Heap} {acc:List V} {its:List Value} {n:Nat} (I:Inv X Zb σ H2 s2) (f2:∀b∈fp,ZcE X Zb H2 b)
 (hX:X'=cxC X scope cl (own++cp.map (·.1)) fp C s2 H2) (hC:s2.heap.objs.size<C) (J:Inv X' [(s2.heap.objs.size,Zbc its n)] σ' H' s') (rv:ZE acc its) (hz:acc.length<=sizeLine)
 (hsb:Heap.SameBut C s'.heap h''):H' s2.heap.objs.size=none/\Inv X Zb σ (upd H' s2.heap.objs.size (.lst acc)) {s' with heap:=h''}:=by
 subst hX;obtain ⟨p1,p2,p3,p4,p5⟩:=J.pin (s2.heap.objs.size,Zbc its n) (js _ (ju.mpr rfl));have p1:s'.heap.get? s2.heap.objs.size=some (Zbc its n):=p1;have p2:H' s2.heap.objs.size=none:=p2;have hfC:H' C=none:=J.free;have up:∀b o,b≠C->s'.heap.get? b=some o->h''.get? b=some o:=fun b o hb e=>(hsb.2 b hb).trans e;have ltC:∀b o,s2.heap.get? b=some o->b≠C:=fun b o e=>Qm (VG (Qj e) hC);have ltD:∀b o,s2.heap.get? b=some o->b≠s2.heap.objs.size:=fun b o e=>Qm (Qj e);have B:Un (frs X.stack) fp H2 H' s2.heap s'.heap:=J.base
 refine ⟨p2,I.call' (ch:=fp) J.os ⟨fun b o e n hb hx=>up b o (ltC b o e) (B.keep b o e n hb hx),fun b o e n hb hx=>?_,fun b o e n hx=>?_,fun b o e hx=>?_,fun b xs e=>?_,fun b o u e=>?_,fun b ps e=>?_⟩ (fun a o e=>?_) J.bare
  fun b hb=>⟨(f2 b hb).2.2.2.1,(f2 b hb).2.1,(f2 b hb).2.2.2.2.1,(f2 b hb).2.2.2.2.2⟩⟩
 ·obtain ⟨sl,e1⟩:=B.slot b o e n hb hx;exact ⟨sl,up b _ (ltC b o e) e1⟩
 ·rw [Zj (ltD b o e)];exact B.free b o e n hx
 ·obtain ⟨o',e1⟩:=B.there b o e hx;exact ⟨o',up b o' (ltC b o e) e1⟩
 ·have q:=B.tups b xs e;rw [Zj (Zk q p2)];exact q
 ·have q:=B.frzs b o u e;rw [Zj (Zk q p2)];exact q
 ·obtain ⟨more,q⟩:=B.tbls b ps e;exact ⟨more,by rw [Zj (Zk q p2)];exact q⟩
 ·by_cases ha:a=s2.heap.objs.size
  ·subst ha;rw [Zh] at e;cases e;exact ⟨hz,its,n,rv,up _ _ (Qm hC) p1⟩
  ·rw [Zj ha] at e;refine (J.hok a o e).stay (fun b u hb q=>up b u ?_ q) (fun b q=>?_) fun b xs q=>?_
   ·rintro rfl;rcases hb with z|z
    ·subst z;rw [hfC] at e;cases e
    ·rw [hfC] at z;cases z
   ·rw [Zj (Zk q p2)];exact q
   ·rw [Zj (Zk q p2)];exact q
end
theorem ZeM {α:Type} {t:Sem α} {Q Q':α->jj->Prop} {M:uL} {A:Around} {E:Value->jj->Prop} {s:jj} (h:jo M A t Q (fun _ _=>False) s) (hQ:∀a s,Q a s->Q' a s):jo M A t Q' E s:=jU h hQ fun _ _ x=>x.elim
section
variable {X:Cx}
theorem ZdH {elt iter target:jF} {ifs:List jF} {scope:Scope} {pos:Pos} {cl:List (Str×jk)} {own:List Str} {cp:List (Str×Nat)} {wi:TI} {g:TG} {tc:TT} {te:TE}
 (hc:X.calm=true) (hcl:qj scope.names X.env.cells []=some cl) (hk:scope.kind=.function) (hnc:∀y∈scope.names,y.2≠ .cell)
 (hnm:∀x∈scope.names,x.2=.local->scope.names.lookup x.1=some .local) (hcp:JE X scope cp) (hi:PI X target iter wi) (gk:Zgq own.length g)
 (hg:∀fp C s H,PG (cxC X scope cl (own++cp.map (·.1)) fp C s H) target g) (ht:∀fp C s H,PFs (cxC X scope cl (own++cp.map (·.1)) fp C s H) ifs tc) (he:∀fp C s H,PE (cxC X scope cl (own++cp.map (·.1)) fp C s H) elt te)
 (hs:∀x,jG iter X.env x=pure x:=by intro _;rfl):PE X (.ListComp elt [⟨target,iter,ifs,0⟩] scope pos) (Zlk own.length cp wi g tc te):=by
 intro Zb s σ H Q I h;rw [eval_ListComp];refine wpAny_comprehension_free (use:=none) rfl hs (ZaL hcl) hk hnm (thn (hi Zb s σ H _ I h) fun xv s1 h1=>thn h1 fun itv s2 h2=>?_);obtain ⟨it,fp,tn,J,H2,e,I2,Tn,st2,f2,W,⟨m0,w0⟩,turn⟩:=h2;subst e;have hlt:∀b∈fp,b<s2.heap.objs.size:=fun b hb=>by obtain ⟨o,e,_⟩:=Tn.obj _ _ st2 b hb;exact Qj e
 refine jZ (vO hnc (by intro y hy;simp at hy) (fun h1 hns hsb=>?_) hk)
 dsimp only at hns hsb ⊢
 generalize hP:s2.heap.push {cls:=.type "list",dict:=none,data:=.seq ([]:List Value).toArray}=h0 at hns hsb ⊢
 have hCs:h0.objs.size=s2.heap.objs.size+1:=by rw [<-hP,Uo]
 generalize hCg:h0.objs.size=C at hns hsb hCs ⊢
 have hC:s2.heap.objs.size<C:=by omega
 have neC:∀b:jk,b<s2.heap.objs.size->b≠C:=fun b h=>Qm (VG h hC)
 have old:∀b o,s2.heap.get? b=some o->h1.get? b=some o:=fun b o e=>
  (hsb.2 b (neC b (Qj e))).trans (by rw [Qe _ (by rw [<-hP];exact Qe _ e)])
 have hD:h1.get? s2.heap.objs.size=some (Zbc [] 0):=
  (hsb.2 _ (Qm hC)).trans (by rw [Qe _ (by rw [<-hP];exact Qh _ rfl)])
 have fpok:∀{its:List Value} {k:Nat} {H':Hp},(∀b∈fp,H' b=none)->∀b∈fp,ZcE (cxC X scope cl (own++cp.map (·.1)) fp C s2 H2) [(s2.heap.objs.size,Zbc its k)] H' b:=fun {its k H'} fr b hb=>by
  refine ⟨fr b hb,neC b (hlt b hb),fun hf=>?_,.inl hb,fun x c e=>?_,fun p hp=>?_⟩
  ·have hf:b∈frs X.stack:=hf;rcases jK.mp (I2.stkSub b hf) with z|z
   ·exact (f2 b hb).2.1 z
   ·exact (f2 b hb).2.2.1 z
  ·exact (f2 b hb).2.2.2.2.1 x c ((Jn scope.names [] hcl (fun x c h=>by simp at h)).1 x c e)
  ·have hp:p∈[(s2.heap.objs.size,Zbc its k)]:=hp;cases ju.mp hp;exact QX (hlt b hb)
 have loop:∀s4:jj,s4= {s2 with heap:=h1,toks:=s2.toks+([]:List (Str×Value)).length}->
  uW (jr X.prog X.w) X.A (.compLoop (.ListComp elt [⟨target,iter,ifs,0⟩] scope pos) 0 (.ref it) (.ref s2.heap.objs.size) (uc scope cl C X.env))
   (compPost (jr X.prog X.w) X.A X.xe none (EP X Zb σ Q) (.ref s2.heap.objs.size) C) s4:=by
  intro s4 e4;have I4:Inv (cxC X scope cl (own++cp.map (·.1)) fp C s2 H2) [(s2.heap.objs.size,Zbc [] 0)] (ZaK own.length cp σ) H2 s4:=by rw [e4];exact Zfh I2 hcl hk hnc hcp f2 hC hlt (by simpa using hns) old hD
  have st4:tn 0 s4.heap:=by rw [e4];exact Tn.keep _ _ _ st2 fun b _ o e=>old b o e
  refine codeAny_loop rfl (fun n s'=>∃i H' acc its k,Inv (cxC X scope cl (own++cp.map (·.1)) fp C s2 H2) [(s2.heap.objs.size,Zbc its k)] (ZaK own.length cp σ) H' s'/\ZE acc its/\tn i s'.heap/\(∀b∈fp,H' b=none)/\W i n H' acc)
   (fun n s' hI=>?_) m0 ⟨0,H2,[],[],0,I4,.nil,st4,fun b hb=>(f2 b hb).1,w0⟩
  obtain ⟨i,H',acc,its,k,I',rv,st,fr,w⟩:=hI;show jo _ X.A ((compTurn (.ListComp elt [⟨target,iter,ifs,0⟩] scope pos) 0 (.ref it) (.ref s2.heap.objs.size) (uc scope cl C X.env)).onRaise (fun x=>do noteFrame x (uc scope cl C X.env);theTreesLotGoes x)) _ _ s';refine wpAny_noted ?_;rw [compTurn_list];refine ji (wpAny_standAt (ji ?_));obtain ⟨hz,⟨stop,fin⟩|⟨go,step⟩⟩:=turn i n H' acc w
  ·refine ZeM (Tn.done (cxC X scope cl (own++cp.map (·.1)) fp C s2 H2) rfl rfl rfl hc i _ s' _ H' (fun _ _=>False) I' (fpok fr) st stop) fun r s5 ⟨hr,I5⟩=>?_;subst hr;refine jl ?_;obtain ⟨mm,hmm,_⟩:=I5.loc;refine ⟨mm,hmm,fun h'' hs''=>?_⟩;obtain ⟨hn,I6⟩:=Zh3 I2 f2 rfl hC I5 rv (QQ hz) hs'';exact ⟨.ref s2.heap.objs.size,_,I6,rfl,fin _ hn⟩
  ·refine ZeM (Tn.item (cxC X scope cl (own++cp.map (·.1)) fp C s2 H2) rfl rfl rfl hc i _ s' _ H' (fun _ _=>False) I' (fpok fr) st go) fun r s5 ⟨u,hr,h5⟩=>?_;subst hr;refine ji (ZeM h5 fun _ s6 ⟨x,H6,I6,r6,y6,st6,fr6⟩=>?_);have I6':=I6.pinned (fpok fr6) (Tn.obj _ _ st6);refine ji (ZeM (hg fp C s2 H2 _ s6 _ H6 x u _ I6' r6 (gk _ _ _ _ (step x H6 y6))) fun _ s7 ⟨σ7,H7,I7,q7,kp7⟩=>?_);refine ji (ZeM (ht fp C s2 H2 _ s7 σ7 H7 _ I7 q7) fun b s8 ⟨H8,I8,q8⟩=>?_)
   have weak:∀{H9:Hp} {s9:jj} {ps:List (jk×Obj)},Inv (cxC X scope cl (own++cp.map (·.1)) fp C s2 H2) ps σ7 H9 s9->Inv (cxC X scope cl (own++cp.map (·.1)) fp C s2 H2) ps (ZaK own.length cp σ) H9 s9:=fun {H9 s9 ps} I9=>
    I9.weak (by rw [I9.len];exact I'.len) fun j v e=>by
     by_cases hj:own.length<=j
     ·rw [kp7 j hj];exact e
     ·unfold ZaK at e;rw [Qx (by rw [uK];omega),UK] at e;split at e<;>cases e
   have turned:∀{H9:Hp} {s9:jj},Inv (cxC X scope cl (own++cp.map (·.1)) fp C s2 H2) ([(s2.heap.objs.size,Zbc its k)]++ZaE fp s6.heap) σ7 H9 s9->(∀b∈fp,H9 b=none)/\∀b∈fp,∀o,s6.heap.get? b=some o->s9.heap.get? b=some o:=fun {H9 s9} I9=>by
    refine ⟨fun b hb=>?_,fun b hb o e=>?_⟩
    ·obtain ⟨o,e,_⟩:=Tn.obj _ _ st6 b hb;exact (I9.pin (b,o) (js _ (js _ (Zaf hb e)))).2.1
    ·exact (I9.pin (b,o) (js _ (js _ (Zaf hb e)))).1
   cases b with
   |false=>
    obtain ⟨m',hm',w8⟩:=q8;refine jl ⟨rfl,m',hm',i+1,H8,acc,its,k,weak I8.unpinned,rv,Tn.keep _ _ _ st6 (turned I8).2,(turned I8).1,w8⟩
   |true=>
    refine ji (ji (ZeM (he fp C s2 H2 _ s8 σ7 H8 _ I8 q8) fun uy s9 ⟨y,H9,I9,r9,m',hm',w9⟩=>?_));have pD:=I9.pin (s2.heap.objs.size,Zbc its k) (js _ (uk _ (ju.mpr rfl)));have lenI:=rv.length;refine ji (wpAny_list_append_plain (items:=its.toArray) ⟨k,pD.1⟩ (fun h10 pl sb=>?_) (by rw [jC];omega));obtain ⟨k',hk'⟩:=pl
    have I10:Inv (cxC X scope cl (own++cp.map (·.1)) fp C s2 H2) (ZaE fp s6.heap) σ7 H9 {s9 with heap:=h10}:=by
     have I9':Inv (cxC X scope cl (own++cp.map (·.1)) fp C s2 H2) (ZaE fp s6.heap) σ7 H9 s9:=I9.pins_of fun p hp=>I9.pin p (js _ (js _ hp));refine I9'.turned (t':=s9.toks) (it:=s2.heap.objs.size) (fun b o hb e=>(sb.2 b hb).trans e) pD.2.1 pD.2.2.1 (.inr (Qf _)) (fun x c e z=>?_) fun p hp z=>?_
     ·obtain ⟨v,o,ho,hd⟩:=I9.cell x c e;rw [z,pD.1] at ho;cases ho;cases hd
     ·have hp:p∈ZaE fp s6.heap:=hp;exact Qm (hlt p.1 (Zd4 hp).1) z
    have kk:∀b∈fp,∀o,s6.heap.get? b=some o->h10.get? b=some o:=fun b hb o e=>(sb.2 b (Qm (hlt b hb))).trans ((turned I9).2 b hb o e);have I11:Inv (cxC X scope cl (own++cp.map (·.1)) fp C s2 H2) [(s2.heap.objs.size,Zbc (its++[uy]) k')] σ7 H9 {s9 with heap:=h10}:=I10.pins_of fun p hp=>by cases ju.mp hp;refine ⟨?_,pD.2.1,pD.2.2.1,pD.2.2.2.1,fun v z=>by cases z⟩;rw [hk'];simp
    exact jl (jl ⟨rfl,m',hm',i+1,H9,acc++[y],its++[uy],k',weak I11,rv.append (.cons r9 .nil),Tn.keep _ _ _ st6 kk,(turned I9).1,w9⟩)
 exact codeAny_compStart_list (loop _ rfl) (Tn.self _ 0 _ _ _ (Tn.keep _ _ _ st2 fun b _ o e=>old b o e) (loop _ rfl))
end
section
variable {X:Cx} {pos:Pos}
def trV (K:Qa) (t:TE):TT:=fun σ H Q=>t σ H fun x H'=>match x with
 | .bl b=>Q b H'
 | .int i=>Q (i !=0) H'
 | .non=>Q false H'
 | .str z=>(L z).length<=sizeLine/\Q (((L z).length:Int) !=0) H'
 | .ref p=>∃k,ZAL K (.ref p) H' k/\Q k H'
 |_=>False
theorem ZCV {a:jF} {ta:TE} (ha:PE X a ta) (he:∀whole,isTrue a X.env whole=(do let v <-whole;standAt a.pos;vH [v] (truthy v)):=by intro _;rfl):PT X a (trV X.K ta):=by
 intro Zb s σ H Q I h;refine isTrue_plain (thn (ha Zb s σ H _ I h) fun v s1 ⟨x,H1,I1,r1,q1⟩=>ZAl Zb s1 σ H1 x v Q I1 r1 ?_) (he _)
 cases x with
 |bl b=>exact ⟨b,rfl,q1⟩
 |int i=>exact ⟨_,rfl,q1⟩
 |non=>exact ⟨false,rfl,q1⟩
 |str z=>exact ⟨_,⟨by rw [<-Z7];exact q1.1,rfl⟩,by rw [<-Z7];exact q1.2⟩
 |ref p=>exact q1
 |_=>exact False.elim q1
def tB2 (r:R2) (ta tb:TE):TT:=fun σ H Q=>ta σ H fun x H1=>tb σ H1 fun y H2=>r x y H2 fun z H3=>match z with
 | .bl b=>Q b H3
 |_=>False
theorem zS {op:CmpOp} {r:R2} {a b:jF} {ta tb:TE} (ho:OpR X (jX op) r) (ha:PE X a ta) (hb:PE X b tb) (hm:uY op b=false:=by first|exact Zp7 _|with_unfolding_all rfl):PT X (.Compare a [op] [b] pos) (tB2 r ta tb):=by
 intro Zb s σ H Q I h
 refine wpAny_isTrue_Compare1 (thn (ha Zb s σ H _ I h) fun v s1 ⟨x,H1,I1,r1,q1⟩=>thn (hb Zb s1 σ H1 _ I1 q1) fun u s2 ⟨y,H2,I2,r2,q2⟩=>
  thn (ho Zb s2 σ H2 x y v u _ I2 r1 r2 q2) fun c s3 ⟨z,H3,I3,r3,q3⟩=>?_) hm
 cases z with
 |bl k=>cases r3;exact uS ⟨H3,I3,q3⟩
 |_=>exact False.elim q3
theorem ZcP {op:CmpOp} {r:R2} {a b:jF} {ta tb:TE} (ho:OpR X (jX op) r) (ha:PE X a ta) (hb:PE X b tb) (hm:uY op b=false:=by first|exact Zp7 _|with_unfolding_all rfl):PE X (.Compare a [op] [b] pos) (tOp r ta tb):=ZrX ho ha hb hm
def ZAp (ta tb:TE):TE:=fun σ H Q=>ta σ H fun x H1=>match x with
 | .bl c=>if c=true then tb σ H1 Q else Q (.bl false) H1
 |_=>False
def vOr (ta tb:TE):TE:=fun σ H Q=>ta σ H fun x H1=>match x with
 | .bl c=>if c=true then Q (.bl true) H1 else tb σ H1 Q
 |_=>False
def ZDi (ta:TE):TE:=fun σ H Q=>ta σ H fun x H1=>match x with
 | .bl c=>Q (.bl (!c)) H1
 |_=>False
theorem Zp5 {a:jF} {ta:TE} (h:PE X a ta) (Zb:List (jk×Obj)) (s:jj) (σ:St) (H:Hp) (Q Q':VK) (I:Inv X Zb σ H s) (q:ta σ H Q) (hq:∀v H',Q v H'->Q' v H'):jo (jr X.prog X.w) X.A (eval a X.env) (EP X Zb σ Q') X.xe s:=
 thn (h Zb s σ H Q I q) fun u s1 ⟨v,H1,I1,r,q⟩=>⟨v,H1,I1,r,hq v H1 q⟩
theorem PE.imp {e:jF} {t:TE} (h:PE X e t) {t':TE} (hi:∀σ H Q,t' σ H Q->∃Q0,t σ H Q0/\∀v H',Q0 v H'->Q v H'):PE X e t':=fun Zb s σ H Q I q=>by obtain ⟨Q0,h0,h1⟩:=hi σ H Q q;exact Zp5 h Zb s σ H Q0 Q I h0 h1
theorem ZeV {a b:jF} {J0:List jF} {ta tb:TE} (ha:PE X a ta) (hb:PE X (.BoolOp .And (b::J0) pos) tb):PE X (.BoolOp .And (a::b::J0) pos) (ZAp ta tb):=by
 have ha':PE X a (fun σ H Q=>∃Q0:VK,ta σ H Q0/\∀v H',Q0 v H'->Q v H'):=ha.imp fun σ H Q h=>h;intro Zb s σ H Q I h;refine ZyA (ta:=fun σ H Q=>∃Q0:VK,ta σ H Q0/\∀v H',Q0 v H'->Q v H') ha' hb Zb s σ H Q I ?_;refine ⟨_,h,fun v H' q=>?_⟩
 cases v with
 |bl c=>exact ⟨c,rfl,q⟩
 |_=>exact False.elim q
theorem ZyH {a b:jF} {J0:List jF} {ta tb:TE} (ha:PE X a ta) (hb:PE X (.BoolOp .Or (b::J0) pos) tb):PE X (.BoolOp .Or (a::b::J0) pos) (vOr ta tb):=by
 have ha':PE X a (fun σ H Q=>∃Q0:VK,ta σ H Q0/\∀v H',Q0 v H'->Q v H'):=ha.imp fun σ H Q h=>h;intro Zb s σ H Q I h;refine ZCJ (ta:=fun σ H Q=>∃Q0:VK,ta σ H Q0/\∀v H',Q0 v H'->Q v H') ha' hb Zb s σ H Q I ?_;refine ⟨_,h,fun v H' q=>?_⟩
 cases v with
 |bl c=>exact ⟨c,rfl,q⟩
 |_=>exact False.elim q
def Zxc:V->Hp->VK->Prop:=fun x H Q=>match x with
 | .int i=>Q (.int (-i)) H
 |_=>False
theorem Zlq:UnR X (unaryOp .USub) Zxc:=by
 intro Zb s σ H x v Q I rx h
 cases x with
 |int i=>exact ZAn Zb s σ H _ v Q I rx ⟨i,rfl,h⟩
 |_=>exact False.elim h
def pT (t:TE):TO:=fun σ H Q=>t σ H fun x H1=>match x with
 | .int i=>Q (some i) H1
 |_=>False
theorem Zci {e:jF} {te:TE} (h:PE X e te):PO X (some e) (pT te):=by
 have h':PE X e (fun σ H Q=>∃Q0:VK,te σ H Q0/\∀v H',Q0 v H'->Q v H'):=h.imp fun σ H Q h=>h;intro Zb s σ H Q I hw;refine Zr4 h' Zb s σ H Q I ?_;refine ⟨_,hw,fun v H' q=>?_⟩
 cases v with
 |int i=>exact ⟨i,rfl,q⟩
 |_=>exact False.elim q
def Zzs (i:Nat) (te:TE) (ti:TIp):TS:=fun D σ H=>match gS σ i with
 |some x=>te σ H fun y H1=>ti x y H1 fun z H2=>D.nx (σ.set i (some z)) H2
 |none=>False
theorem Zr5 {i:Nat} {x:Str} {e:jF} {te:TE} {op:Operator} {ti:TIp} {pos':Pos} (ho:OpR X (v8 op) ti) (hN:X.N.Nodup) (hi:X.N[i]?=some x) (hx:Loc X.env.scope x) (he:PE X e te) (hf:X.fn x=true\/X.env.scope.names.lookup x=some .local:=by first|exact .inl rfl|exact .inr rfl|assumption):
 PS X (.AugAssign (.Name x pos') op e pos) (Zzs i te ti):=by
 intro Zb s σ H D I h;refine Zzo hN hi hx he ho hf Zb s σ H D I ?_;unfold Zzs at h
 cases e:gS σ i with
 |none=>rw [e] at h;exact h.elim
 |some v=>rw [e] at h;exact ⟨v,Zfn e,h⟩
def tWh (c:TT) (tb:TS):TS:=fun D σ H=>∃W:Nat->St->Hp->Prop,(∃m,W m σ H)/\∀m σ H,W m σ H->
 c σ H fun b H1=>if b=true then tb {nx:=fun σ' H'=>∃m',m'<m/\W m' σ' H',rt:=D.rt,bk:=D.nx,ct:=fun σ' H'=>∃m',m'<m/\W m' σ' H'} σ H1 else D.nx σ H1
theorem ZCU {c:jF} {body:List Stmt} {tc:TT} {tb:TS} (hp:u5 (jr X.prog X.w) X.A X.env X.xe) (hc:PT X c tc) (hb:PSs X body tb):PS X (.While c body [] pos) (tWh tc tb):=by
 have hc':PT X c (fun σ H Q=>∃Q0:Bool->Hp->Prop,tc σ H Q0/\∀v H',Q0 v H'->Q v H'):=fun Zb s σ H Q I ⟨Q0,h0,h1⟩=>thn (hc Zb s σ H Q0 I h0) fun b s1 ⟨H1,I1,q⟩=>⟨H1,I1,h1 b H1 q⟩;intro Zb s σ H D I h;obtain ⟨W,w0,turn⟩:=h;refine Zqs hp hc' hb Zb s σ H D I ⟨W,w0,fun m σ1 H1 w=>⟨_,turn m σ1 H1 w,fun b H2 q=>?_⟩⟩
 cases b with
 |true=>exact ⟨_,fun _ _ z=>z,q⟩
 |false=>exact q
def ZBU (lo:Int) (n:Nat) (i:Nat) (tb:TS):TS:=fun D σ H=>∃Pv:Nat->St->Hp->Prop,Pv 0 σ H/\(∀k σ H,k<n->Pv k σ H->tb {nx:=Pv (k+1),rt:=D.rt,bk:=D.nx,ct:=Pv (k+1)} (σ.set i (some (.int (lo+k)))) H)/\∀σ H,Pv n σ H->D.nx σ H
def ZDf (ta:TA) (i:Nat) (tb:TS):TS:=fun D σ H=>ta σ H fun vs H1=>match vs with
 |[.int j]=>(-(2 ^ 62)<=j/\j<2 ^ 62)/\ZBU 0 j.toNat i tb D σ H1
 |_=>False
theorem PA.imp {es:List jF} {t:TA} (h:PA X es t) {t':TA} (hi:∀σ H Q,t' σ H Q->∃Q0:List V->Hp->Prop,t σ H Q0/\∀v H',Q0 v H'->Q v H'):PA X es t':=fun p Zb s σ H Q I q=>by obtain ⟨Q0,h0,h1⟩:=hi σ H Q q;exact thn (h p Zb s σ H Q0 I h0) fun us s1 ⟨vs,H1,I1,r,q⟩=>⟨vs,H1,I1,r,h1 vs H1 q⟩
theorem Zr9 {a:jF} {x:Str} {i:Nat} {p p' pos':Pos} {body:List Stmt} {ta:TA} {tb:TS} (hp:u5 (jr X.prog X.w) X.A X.env X.xe) (hc:X.calm=true) (hm:X.mg "range"=none) (ha:PA X [a] ta)
 (hg:PG X (.Name x pos') (Y6 i)) (hb:PSs X body tb) (hgl:Gl X "range":=by rfl) (hs:jx [a] X.env=[(false,eval a X.env)]:=by rfl) (hf:∀x,jG (.Call (.Name "range" p) [a] [] p') X.env x=pure x:=by intro _;rfl):
 PS X (.For (.Name x pos') (.Call (.Name "range" p) [a] [] p') body [] pos) (ZDf ta i tb):=by
 have ha':PA X [a] (fun σ H Q=>∃Q0:List V->Hp->Prop,ta σ H Q0/\∀v H',Q0 v H'->Q v H'):=ha.imp fun σ H Q h=>h;intro Zb s σ H D I h;refine ZfK hp hc (Zei hgl hm ha' hs) hg hb hf Zb s σ H D I ⟨_,h,fun vs H1 q=>?_⟩;split at q
 ·obtain ⟨⟨h1,h2⟩,Pv,h0,hs',hd⟩:=q;exact ⟨_,rfl,h1,h2,ZlF Pv h0 (fun k σ H hk pv=>hs' k σ H hk pv) hd⟩
 ·exact q.elim
def Zv5 (K:Qa) (a:jk) (xs:List V) (g:TG) (tb:TS):TS:=fun D σ H=>∃Pv:Nat->St->Hp->Prop,Pv 0 σ H/\(∀i σ H,i<=xs.length->Pv i σ H->SqL K H a xs)/\
 (∀i x σ H,xs[i]?=some x->Pv i σ H->g x σ H fun σ2 H2=>tb {nx:=Pv (i+1),rt:=D.rt,bk:=D.nx,ct:=Pv (i+1)} σ2 H2)/\∀σ H,Pv xs.length σ H->D.nx σ H
def Zln (K:Qa) (tl:TE) (g:TG) (tb:TS):TS:=fun D σ H=>tl σ H fun v H1=>match v with
 | .ref a=>∃xs,SqL K H1 a xs/\Zv5 K a xs g tb D σ H1
 |_=>False
theorem Zzq {l tg:jF} {body:List Stmt} {tl:TE} {g:TG} {tb:TS} (hp:u5 (jr X.prog X.w) X.A X.env X.xe) (hc:X.calm=true) (hl:PE X l tl) (hg:PG X tg g) (hb:PSs X body tb)
 (hf:∀x,jG l X.env x=pure x:=by intro _;rfl):PS X (.For tg l body [] pos) (Zln X.K tl g tb):=by
 have hl':PE X l (fun σ H Q=>∃Q0:VK,tl σ H Q0/\∀v H',Q0 v H'->Q v H'):=hl.imp fun σ H Q h=>h;intro Zb s σ H D I h;refine ZfK hp hc (ZeW hl') hg hb hf Zb s σ H D I ⟨_,h,fun v H1 q=>?_⟩
 cases v with
 |ref a=>
  obtain ⟨xs,hx,Pv,h0,hs,h1,hd⟩:=q;exact ⟨a,rfl,⟨xs,hx⟩,ZoJ Pv h0 hs h1 hd⟩
 |_=>exact False.elim q
def ZqP (K:Qa) (n:Nat) (cp:List (Str×Nat)) (tl:TE) (te:TE):TE:=fun σ H Q=>tl σ H fun v H1=>match v with
 | .ref a=>∃(xs:List V) (f:V->V),SqL K H1 a xs/\xs.length<sizeLine/\(∀x∈xs,te ((ZaK n cp σ).set 0 (some x)) H1 fun y H6=>H6=H1/\y=f x)/\∀l,H1 l=none->Q (.ref l) (upd H1 l (.lst (xs.map f)))
 |_=>False
theorem ZrZ {elt iter:jF} {x:Str} {px:Pos} {scope:Scope} {pos:Pos} {cl:List (Str×jk)} {own:List Str} {cp:List (Str×Nat)} {tl te:TE}
 (hc:X.calm=true) (hcl:qj scope.names X.env.cells []=some cl) (hk:scope.kind=.function) (hnc:∀y∈scope.names,y.2≠ .cell)
 (hnm:∀x∈scope.names,x.2=.local->scope.names.lookup x.1=some .local) (hcp:JE X scope cp) (hi:PE X iter tl) (hn:0<own.length)
 (hg:∀fp C s H,PG (cxC X scope cl (own++cp.map (·.1)) fp C s H) (.Name x px) (Y6 0)) (he:∀fp C s H,PE (cxC X scope cl (own++cp.map (·.1)) fp C s H) elt te)
 (hs:∀x,jG iter X.env x=pure x:=by intro _;rfl):PE X (.ListComp elt [⟨.Name x px,iter,[],0⟩] scope pos) (ZqP X.K own.length cp tl te):=by
 have hi':PE X iter (fun σ H Q=>∃Q0:VK,tl σ H Q0/\∀v H',Q0 v H'->Q v H'):=hi.imp fun σ H Q h=>h;have he':∀fp C s H,PE (cxC X scope cl (own++cp.map (·.1)) fp C s H) elt (fun σ H Q=>∃Q0:VK,te σ H Q0/\∀v H',Q0 v H'->Q v H'):=fun fp C s H=>(he fp C s H).imp fun σ H Q h=>h;intro Zb s σ H Q I h;refine ZdH hc hcl hk hnc hnm hcp (ZeW hi') (Zcx hn) hg (fun _ _ _ _=>Zhq) he' hs Zb s σ H Q I ?_;refine ⟨_,h,fun v H1 q=>?_⟩
 cases v with
 |ref a=>
  obtain ⟨xs,f,hx,hz,hst,q⟩:=q;refine ⟨a,rfl,⟨xs,hx⟩,fun i m H2 acc=>H2=H1/\m=xs.length-i/\i<=xs.length/\acc=(xs.take i).map f,⟨xs.length,rfl,rfl,Qu _,rfl⟩,?_⟩;rintro i m H2 acc ⟨rfl,rfl,hi2,rfl⟩;refine ⟨by rw [jn,jz];omega,?_⟩;by_cases hlt:i<xs.length
  ·refine .inr ⟨⟨xs,xs[i],hx,by simp [hlt]⟩,fun y H3 ⟨e3,y3⟩=>?_⟩;subst e3;have ey:=y3 xs hx;have key:∃Q0:VK,te ((ZaK own.length cp σ).set 0 (some y)) H3 Q0/\∀z H6,Q0 z H6->∃m',m'<xs.length-i/\H6=H3/\m'=xs.length-(i+1)/\i+1<=xs.length/\(xs.take i).map f++[z]=(xs.take (i+1)).map f:=by refine ⟨_,hst y (QE ey),fun z H6 ⟨e6,ez⟩=>⟨xs.length-(i+1),by omega,e6,rfl,hlt,?_⟩⟩;subst ez;rw [Ua,ey,uw];rfl
   exact key
  ·have e:i=xs.length:=by omega
   subst e;refine .inl ⟨⟨xs,hx,Qf _⟩,fun l hl=>?_⟩;rw [QF];exact q l hl
 |_=>exact False.elim q
end
end L2
namespace LW
open PySem L2
def byL:List Int:=[48271,69621,16807,39373,21401,60493,87721,31337]
def Zht:List Int:=[99991,99989,99971,99961,99929,99923,99907,99901]
def Zbo:List Nat:=(Qk 5).map (fun k=>32+k)++(Qk 89).map fun k=>38+k
theorem Zmj:Zbo.length=94:=by rfl'
def Zoi (ns:List Int) (k:Int):Int:=if k<ns.length then ns.getD k.toNat 0 else 0
theorem Zon {α:Type} (xs:List α) (m:Int) (h:0<=m):(cut xs none (some m)).length<=m.toNat:=by
 unfold cut;rw [jz,jJ];have:HT.sIx xs.length xs.length (some m)<=m.toNat:=by show (if m<0 then (m+(xs.length:Int)).toNat else min m.toNat xs.length)<=m.toNat;rw [if_neg (by omega)];omega
 omega
theorem Zsc (n:Nat) (l:List Nat):(rep n l).length=n * l.length:=by unfold rep;simp
theorem Jm {α:Type} {xs:List α} {i:Int} (d:α) (h0:0<=i) (h1:i<xs.length):atI xs i=some (xs.getD i.toNat d):=by
 unfold atI ixN;rw [if_pos h0,if_pos h1];show xs[i.toNat]?=_;rw [Qb];have:i.toNat<xs.length:=by omega
 rw [Qd this];rfl
theorem Zib (l:List Int) (i:Nat):(l.map V.int).getD i (V.int 0)=V.int (l.getD i 0):=by rw [Qb,Qb,Qi];cases l[i]?<;>rfl
theorem Zkc {l:List Int} {i:Int} (h0:0<=i) (h1:i<l.length):atI (l.map V.int) i=some (V.int (l.getD i.toNat 0)):=by rw [Jm (V.int 0) h0 (by simpa using h1),Zib]
theorem Zmc {i:Int} (h0:0<=i) (h1:i<8):0<Zht.getD i.toNat 0:=by
 have:i.toNat<8:=by omega
 generalize i.toNat=n at this;have h:∀n:Nat,n<8->0<Zht.getD n 0:=by decide
 exact h n this
theorem Zdx {α:Type} {xs:List α} {lo hi:Option Int} {c:α} (h:c∈cut xs lo hi):c∈xs:=UC (Q6 h)
theorem ZoI {α β:Type} (g:α->β):∀l:List α,(l.map fun c=>[g c]).flatten=l.map g
 |[]=>rfl
 |x::r=>by rw [jT,jT,Uj,ZoI g r];rfl
theorem ZAc {α β:Type} (g:α->β):∀l:List α,((l.map fun c=>[g c]).map Ur).sum=l.length
 |[]=>rfl
 |x::r=>by rw [jT,jT,Vw,ZAc g r,jy];show 1+r.length=r.length+1;omega
theorem Zrn:L (Qc "")=[]:=by rfl'
theorem Zg9 {α β:Type} (f:α->β) (l:List α) (lo hi:Option Int):cut (l.map f) lo hi=(cut l lo hi).map f:=by unfold cut;rw [QaB,map_drop,jn]
theorem Zlr {H:Hp} {p p':jk} {o o':HO} (h:upd H p o p'=none):upd (upd H p o) p' o' p=some o:=by
 have:p≠p':=by rintro rfl;rw [Zh] at h;cases h
 rw [Zj this,Zh]
end LW
namespace L2
open PySem PySem.Spec PyProof.Rows
section
variable {X:Cx} {pos:Pos}
def isS (x:V) (n:String):Option Bool:=match x with
 | .int _=>if n="int" then some true else if n="bool" then some false else if n="str" then some false else if n="list" then some false else if n="tuple" then some false else if n="dict" then some false else none
 | .bl _=>if n="int" then some true else if n="bool" then some true else if n="str" then some false else if n="list" then some false else if n="tuple" then some false else if n="dict" then some false else none
 | .str _=>if n="int" then some false else if n="bool" then some false else if n="str" then some true else if n="list" then some false else if n="tuple" then some false else if n="dict" then some false else none
 | .non=>if n="int" then some false else if n="bool" then some false else if n="str" then some false else if n="list" then some false else if n="tuple" then some false else if n="dict" then some false else none
 |_=>none
theorem Zwb {K:Qa} {H:Hp} {x:V} {n:String} {b:Bool} (h:isS x n=some b):∃t,Zdg K H x t/\jA K t (.type n)=some b:=by
 cases x with
 |int i=>
  refine ⟨_,.int i,?_⟩;unfold isS at h;dsimp only at h;split at h
  ·rename_i e;subst e;cases h;rfl
  split at h
  ·rename_i e;subst e;cases h;rfl
  split at h
  ·rename_i e;subst e;cases h;rfl
  split at h
  ·rename_i e;subst e;cases h;rfl
  split at h
  ·rename_i e;subst e;cases h;rfl
  split at h
  ·rename_i e;subst e;cases h;rfl
  ·cases h
 |bl i=>
  refine ⟨_,.bl i,?_⟩;unfold isS at h;dsimp only at h;split at h
  ·rename_i e;subst e;cases h;rfl
  split at h
  ·rename_i e;subst e;cases h;rfl
  split at h
  ·rename_i e;subst e;cases h;rfl
  split at h
  ·rename_i e;subst e;cases h;rfl
  split at h
  ·rename_i e;subst e;cases h;rfl
  split at h
  ·rename_i e;subst e;cases h;rfl
  ·cases h
 |str i=>
  refine ⟨_,.str i,?_⟩;unfold isS at h;dsimp only at h;split at h
  ·rename_i e;subst e;cases h;rfl
  split at h
  ·rename_i e;subst e;cases h;rfl
  split at h
  ·rename_i e;subst e;cases h;rfl
  split at h
  ·rename_i e;subst e;cases h;rfl
  split at h
  ·rename_i e;subst e;cases h;rfl
  split at h
  ·rename_i e;subst e;cases h;rfl
  ·cases h
 |non=>
  refine ⟨_,.non,?_⟩;unfold isS at h;dsimp only at h;split at h
  ·rename_i e;subst e;cases h;rfl
  split at h
  ·rename_i e;subst e;cases h;rfl
  split at h
  ·rename_i e;subst e;cases h;rfl
  split at h
  ·rename_i e;subst e;cases h;rfl
  split at h
  ·rename_i e;subst e;cases h;rfl
  split at h
  ·rename_i e;subst e;cases h;rfl
  ·cases h
 |_=>cases h
def Zo5 (K:Qa):List V->Hp->VK->Prop:=fun xs H Q=>match xs with
 |[.ref p,.ty n]=>∃b t,Zdg K H (.ref p) t/\jA K t (.type n)=some b/\Q (.bl b) H
 |[x,.ty n]=>match isS x n with
  |some b=>Q (.bl b) H
  |none=>False
 |_=>False
theorem ZBv:JM X (.builtin "isinstance") (Zo5 X.K):=by
 intro Zb s σ H xs us Q I r h;unfold Zo5 at h;split at h
 ·rename_i p n;obtain ⟨b,t,ty,e,q⟩:=h;obtain ⟨u,w',rfl,ru,rw'⟩:=Zf5 r;cases rw';exact ZgF I ru ty e fun tk=>ZV (I.tok tk) q rfl
 ·rename_i x n _;split at h
  ·rename_i b e;obtain ⟨t,ty,e2⟩:=Zwb (K:=X.K) (H:=H) e;obtain ⟨u,w',rfl,ru,rw'⟩:=Zf5 r;cases rw';exact ZgF I ru ty e2 fun tk=>ZV (I.tok tk) h rfl
  ·exact h.elim
 ·exact h.elim
end
section
variable {X:Cx} {K:Qa} {pos:Pos}
theorem zJ (h:X.K=K):IxR X (ixV K):=h▸ZDC
theorem Za8 (h:X.K=K):SlR X (slV K):=h▸ZDN
theorem Yi (h:X.K=K):JM X (.builtin "len") (Zjn K):=h▸ZBx
theorem ZuQ (h:X.K=K):JM X (.builtin "isinstance") (Zo5 K):=h▸ZBv
theorem ZeU (h:X.K=K):MtR X "str.join" (Zii K):=h▸Zw6
theorem ZbU {a:jF} {ta:TE} (hK:X.K=K) (ha:PE X a ta) (he:∀whole,isTrue a X.env whole=(do let v <-whole;standAt a.pos;vH [v] (truthy v)):=by intro _;rfl):PT X a (trV K ta):=by subst hK;exact ZCV ha he
variable {o e:jF} {es:List jF} {to:TE} {t:TA} {name:Str} {apos cpos:Pos} {T id:String} {r:V->List V->Hp->VK->Prop}
theorem JZ (hK:X.K=K) (pa:PlainAttrs T) (slot:Slot T name id) (hty:typeOf (.builtin id)=pure (.type "method_descriptor")) (hm:MtR X id r) (ho:PE X o to) (ha:PA X (e::es) t)
 (hbase:vh o name X.env (eval o X.env)=eval o X.env:=by rfl)
 (hfew:((uu cpos (jx (e::es) X.env)).all (fun x=> !x.1) && (vX cpos (vj [] X.env)).all (fun x=>x.1.isSome)
  && decide ((e::es).length+([]:List Qaw).length+(if ([]:List Qaw).isEmpty then 0 else 1)<30))=true:=by rfl)
 (hline:(apos.endLine==cpos.line)=true:=by rfl) (hs:jx (e::es) X.env=(false,eval e X.env)::jx es X.env:=by rfl) (hplain:(uu cpos (jx es X.env)).any (·.1)=false:=by rfl):
 PE X (.Call (.Attribute o name apos) (e::es) [] cpos) (tBM K T r to t):=by
 subst hK;exact ZCH pa slot hty hm ho ha hbase hfew hline hs hplain
theorem Zlc {l tg:jF} {body:List Stmt} {tl:TE} {g:TG} {tb:TS} (hK:X.K=K) (hp:u5 (jr X.prog X.w) X.A X.env X.xe) (hc:X.calm=true) (hl:PE X l tl) (hg:PG X tg g) (hb:PSs X body tb)
 (hf:∀x,jG l X.env x=pure x:=by intro _;rfl):PS X (.For tg l body [] pos) (Zln K tl g tb):=by
 subst hK;exact Zzq hp hc hl hg hb hf
theorem Zqm {elt iter:jF} {x:Str} {px:Pos} {scope:Scope} {pos:Pos} {cl:List (Str×jk)} {own:List Str} {cp:List (Str×Nat)} {tl te:TE} (hK:X.K=K)
 (hc:X.calm=true) (hcl:qj scope.names X.env.cells []=some cl) (hk:scope.kind=.function) (hnc:∀y∈scope.names,y.2≠ .cell)
 (hnm:∀x∈scope.names,x.2=.local->scope.names.lookup x.1=some .local) (hcp:JE X scope cp) (hi:PE X iter tl) (hn:0<own.length)
 (hg:∀fp C s H,PG (cxC X scope cl (own++cp.map (·.1)) fp C s H) (.Name x px) (Y6 0)) (he:∀fp C s H,PE (cxC X scope cl (own++cp.map (·.1)) fp C s H) elt te)
 (hs:∀x,jG iter X.env x=pure x:=by intro _;rfl):PE X (.ListComp elt [⟨.Name x px,iter,[],0⟩] scope pos) (ZqP K own.length cp tl te):=by
 subst hK;exact ZrZ hc hcl hk hnc hnm hcp hi hn hg he hs
end
theorem Yh:jR "len"=some (.builtin "len"):=by rfl'
theorem Z6:jR "isinstance"=some (.builtin "isinstance"):=by rfl'
theorem ZdW:jR "sorted"=some (.builtin "sorted"):=by rfl'
theorem Zrd:jR "list"=some (.type "list"):=by rfl'
theorem Zg4:jR "int"=some (.type "int"):=by rfl'
theorem Zfe:jR "str"=some (.type "str"):=by rfl'
theorem Zrc:jR "dict"=some (.type "dict"):=by rfl'
theorem ZhV:jR "range"=some (.type "range"):=by rfl'
theorem ZhW:jR "reversed"=some (.type "reversed"):=by rfl'
theorem Zg3:jR "enumerate"=some (.type "enumerate"):=by rfl'
theorem ZuE:jR "zip"=some (.type "zip"):=by rfl'
end L2
namespace LW
open PySem L2
def com:List Nat->List Nat->Nat
 |a::x,b::y=>if a=b then com x y+1 else 0
 |_,_=>0
end LW
namespace LS
open PySem PySem.W PyProof.Rows
abbrev gt (p:Array Nat) (k:Nat):Nat:=p.getD k 0
def Pm (n:Nat) (p:Array Nat):Prop:=p.toList.Perm (Qk n)
theorem Pm.size {n:Nat} {p:Array Nat} (h:Pm n p):p.size=n:=by have:=h.length_eq;simpa using this
theorem Pm.lt {n:Nat} {p:Array Nat} (h:Pm n p) {k:Nat} (hk:k<n):gt p k<n:=by
 have hs:=h.size
 have:gt p k∈p.toList:=by
  have hk':k<p.size:=by omega
  unfold gt;rw [QK,QZ hk'];simp
 have:=h.mem_iff.mp this;simpa using this
section
variable {O:u9} {key:Nat->O.α} {n:Nat}
def Up (key:Nat->O.α) (p:Array Nat) (k:Nat):Prop:=∀i j,i<=j->j<k->O.kle (key (gt p i)) (key (gt p j))
def Dn (key:Nat->O.α) (p:Array Nat) (k:Nat):Prop:=∀i j,i<=j->j<k->O.kle (key (gt p j)) (key (gt p i))
structure Zls (key:Nat->O.α) (n:Nat) (J:jj->Prop) (cmp:Nat->Nat->(Bool->jj->Prop)->jj->Prop):Prop where
 ask:∀i j C s,i<n->j<n->J s->(∀s',J s'->C (O.blt (key i) (key j)) s')->cmp i j C s
variable {J:jj->Prop} {cmp:Nat->Nat->(Bool->jj->Prop)->jj->Prop}
end
section
variable {O:u9} {key:Nat->O.α} {n:Nat}
def St (key:Nat->O.α) (p:Array Nat) (k:Nat):Prop:=∀i j,i<j->j<k->key (gt p i)=key (gt p j)->gt p i<gt p j
def Ust (key:Nat->O.α) (p:Array Nat) (k:Nat):Prop:=Up key p k/\St key p k
variable {J:jj->Prop} {cmp:Nat->Nat->(Bool->jj->Prop)->jj->Prop}
end
end LS
namespace LO
def eLe (l:List Nat) (i j:Nat):Bool:=decide (l.drop i<=l.drop j)
def ord (l:List Nat):List Nat:=(Qk (l.length+1)).mergeSort (eLe l)
theorem Jp (l:List Nat):(ord l).Perm (Qk (l.length+1)):=List.mergeSort_perm _ _
theorem qP (l:List Nat):(ord l).length=l.length+1:=by rw [(Jp l).length_eq,uO]
theorem ZaR {l:List Nat} {i:Nat}:i∈ord l↔i<=l.length:=by rw [(Jp l).mem_iff,QB];omega
theorem Zl6 (l:List Nat):(ord l).Nodup:=(Jp l).symm.nodup List.nodup_range
theorem Zho (l:List Nat):(ord l).Pairwise (fun i j=>l.drop i<=l.drop j):=by
 have h:=List.pairwise_mergeSort (le:=eLe l) (fun a b c h1 h2=>by
  unfold eLe at *
  simp only [decide_eq_true_eq] at *
  exact List.le_trans h1 h2) (fun a b=>by
  unfold eLe;simp only [QS,decide_eq_true_eq];exact List.le_total _ _) (Qk (l.length+1))
 refine h.imp fun h=>?_;simpa [eLe] using h
theorem Zh7 {l:List Nat} {i j:Nat} (hi:i<=l.length) (hj:j<=l.length) (h:l.drop i=l.drop j):i=j:=by have:=congrArg Ur h;rw [jJ,jJ] at this;omega
theorem Zjd {l:List Nat} {i j:Nat} (hi:i<=l.length) (hj:j<=l.length) (hn:i≠j) (h:l.drop i<=l.drop j):l.drop i<l.drop j:=by
 rcases List.le_iff_lt_or_eq.mp h with h|h
 ·exact h
 ·exact absurd (Zh7 hi hj h) hn
theorem Zqc (l:List Nat):(ord l).Pairwise (fun i j=>l.drop i<l.drop j):=by have h1:=Zho l;have h2:(ord l).Pairwise (· ≠·):=Zl6 l;have h3:=h1.and h2;refine List.Pairwise.imp_of_mem ?_ h3;intro a b ha hb h;exact Zjd (ZaR.mp ha) (ZaR.mp hb) h.2 h.1
theorem Zqd {l p:List Nat} (hp:p.Perm (Qk (l.length+1))) (hs:p.Pairwise (fun i j=>l.drop i<=l.drop j)):p=ord l:=by refine List.Perm.eq_of_pairwise (le:=fun i j=>l.drop i<=l.drop j) (fun a b ha hb h1 h2=>?_) hs (Zho l) (hp.trans (Jp l).symm);have ha:=hp.mem_iff.mp ha;have hb:=ZaR.mp hb;rw [QB] at ha;exact Zh7 (by omega) hb (List.le_antisymm h1 h2)
theorem Zdi {α:Type} {lt:α->α->Bool} (irr:∀a,lt a a=false) (asym:∀a b,lt a b=true->lt b a=false):∀{xs:List α},xs.Pairwise (fun a b=>lt a b=true)->∀{k:Nat} {x:α},xs[k]?=some x->xs.countP (fun a=>lt a x)=k
 |[],_,k,x,h=>by simp at h
 |a::r,hp,0,x,h=>by
  simp at h;subst h;rw [Qw,irr];have:r.countP (fun b=>lt b a)=0:=by rw [QY];intro b hb;have:=(QJ.mp hp).1 b hb;rw [asym _ _ this];simp
  rw [this];simp
 |a::r,hp,k+1,x,h=>by
  have hx:r[k]?=some x:=by simpa using h
  have ih:=Zdi irr asym (QJ.mp hp).2 hx;have:lt a x=true:=(QJ.mp hp).1 x (QE hx);rw [Qw,ih,this];simp
def ZaF (l:List Nat) (j:Nat):Nat:=(Qk (l.length+1)).countP (fun i=>decide (l.drop i<l.drop j))
theorem ZeZ {l:List Nat} {k j:Nat} (h:(ord l)[k]?=some j):ZaF l j=k:=by
 have hp:(ord l).Pairwise (fun a b=>decide (l.drop a<l.drop b)=true):=(Zqc l).imp fun h=>decide_eq_true h
 have:=Zdi (lt:=fun a b=>decide (l.drop a<l.drop b)) (fun a=>decide_eq_false (Vq _)) (fun a b h=>by
  have h:=of_decide_eq_true h;exact decide_eq_false fun z=>Vq _ (WY h z)) hp h
 rw [<-this];exact ((Jp l).countP_eq _).symm
theorem ZbC {l:List Nat} {j:Nat} (hj:j<=l.length):(ord l)[ZaF l j]?=some j:=by obtain ⟨k,hk⟩:=Vr (ZaR.mpr hj);rw [ZeZ hk];exact hk
theorem Zhw {l:List Nat} {j:Nat} (hj:j<=l.length):ZaF l j<l.length+1:=by have:=(Qo.mp (ZbC hj)).1;rw [qP] at this;exact this
def Yf (l:List Nat) (p:Nat):Option Nat:=if p=0 then none else l[p-1]?
def ZaG (l:List Nat):List (Option Nat):=(ord l).map (Yf l)
def zC (l:List Nat):List Nat:=(ord l).filterMap (Yf l)
def ZdZ (l:List Nat):Nat:=ZaF l 0
theorem ZeB (l:List Nat):(ZaG l).length=l.length+1:=by unfold ZaG;rw [jn,qP]
theorem Zhz {l:List Nat} {k j:Nat} (h:(ord l)[k]?=some j):(ZaG l)[k]?=some (Yf l j):=by unfold ZaG;rw [Qi,h];rfl
def Zdv (c:Nat):Option Nat->Bool
 |some d=>decide (d<c)
 |none=>false
def less (rs:List (Option Nat)) (c:Nat):Nat:=rs.countP (Zdv c)
def Za4 (rs:List (Option Nat)) (c k:Nat):Nat:=(rs.take k).countP (fun o=>o==some c)
theorem qI (f:Nat->Bool) (n:Nat):(Qk (n+1)).countP f=(if f 0 then 1 else 0)+(Qk n).countP (fun i=>f (i+1)):=by rw [Wj,Qw,Uw];rw [jc];rfl
theorem Zbf (f:Nat->Bool) (n:Nat):(Qk (n+1)).countP f=(Qk n).countP f+if f n then 1 else 0:=by rw [Ut,Us];simp [Qw]
theorem Zc0 {α:Type} (f g h:α->Bool) (xs:List α) (hh:∀x∈xs,(if h x then 1 else 0)=(if f x then 1 else 0)+(if g x then 1 else 0)):xs.countP h=xs.countP f+xs.countP g:=by
 induction xs with
 |nil=>rfl
 |cons x r ih=>
  have h1:=hh x (jW);have h2:=ih fun y hy=>hh y (jH _ hy);rw [Qw,Qw,Qw,h2,h1];omega
theorem Zcs {l:List Nat} {i c:Nat} (h:l[i]?=some c):l.drop i=c::l.drop (i+1):=by obtain ⟨hi,rfl⟩:=Qo.mp h;exact Q1 hi
theorem Zf1 {α:Type} {lt:α->α->Bool} (irr:∀a,lt a a=false) (asym:∀a b,lt a b=true->lt b a=false) (f:α->Bool):∀{xs:List α},xs.Pairwise (fun a b=>lt a b=true)->∀{k:Nat} {x:α},xs[k]?=some x->(xs.take k).countP f=xs.countP (fun a=>f a && lt a x)
 |[],_,k,x,h=>by simp at h
 |a::r,hp,0,x,h=>by
  simp at h;subst h;rw [Q5,List.countP_nil]
  symm
  rw [QY];intro b hb;rcases jK.mp hb with rfl|hb
  ·rw [irr];simp
  ·have:=(QJ.mp hp).1 b hb;rw [asym _ _ this];simp
 |a::r,hp,k+1,x,h=>by
  have hx:r[k]?=some x:=by simpa using h
  have ih:=Zf1 irr asym f (QJ.mp hp).2 hx;have:lt a x=true:=(QJ.mp hp).1 x (QE hx);rw [QO,Qw,Qw,ih,this];simp
theorem Zi5 {l:List Nat} {k j:Nat} (c:Nat) (h:(ord l)[k]?=some j):Za4 (ZaG l) c k=(Qk (l.length+1)).countP (fun i=>(Yf l i==some c) && decide (l.drop i<l.drop j)):=by
 have hp:(ord l).Pairwise (fun a b=>decide (l.drop a<l.drop b)=true):=(Zqc l).imp fun h=>decide_eq_true h
 have:=Zf1 (lt:=fun a b=>decide (l.drop a<l.drop b)) (fun a=>decide_eq_false (Vq _)) (fun a b h=>by
  have h:=of_decide_eq_true h;exact decide_eq_false fun z=>Vq _ (WY h z)) (fun i=>Yf l i==some c) hp h
 unfold Za4 ZaG;rw [<-QaB,Uw];refine Eq.trans ?_ (this.trans ((Jp l).countP_eq _));rfl
theorem Zim (l:List Nat) (c:Nat):less (ZaG l) c=(Qk (l.length+1)).countP (fun i=>Zdv c (Yf l i)):=by unfold less ZaG;rw [Uw];exact (Jp l).countP_eq _
theorem ZcY (l:List Nat) (i:Nat):Yf l (i+1)=l[i]?:=by unfold Yf;rw [if_neg (by omega)];rfl
theorem count_cons (l:List Nat) (c:Nat) (t:List Nat):(Qk (l.length+1)).countP (fun i=>decide (l.drop i<c::t))=1+less (ZaG l) c+(Qk (l.length+1)).countP (fun i=>(Yf l i==some c) && decide (l.drop i<t)):=by
 rw [Zim];rw [Zbf,qI (fun i=>Zdv c (Yf l i)),qI (fun i=>(Yf l i==some c) && decide (l.drop i<t))];have e1:decide (l.drop l.length<c::t)=true:=by rw [Ve];simp
 have e2:Yf l 0=none:=by unfold Yf;rw [if_pos rfl]
 rw [e1,e2]
 have key:(Qk l.length).countP (fun i=>decide (l.drop i<c::t))=(Qk l.length).countP (fun i=>Zdv c (Yf l (i+1)))+(Qk l.length).countP (fun i=>(Yf l (i+1)==some c) && decide (l.drop (i+1)<t)):=by
  refine Zc0 _ _ _ _ fun i hi=>?_;have hi:=QB.mp hi;have ei:l[i]?=some l[i]:=Qd hi;rw [ZcY,ei,Zcs ei];show _=(if decide (l[i]<c)=true then 1 else 0)+_;generalize l[i]=d;generalize l.drop (i+1)=u;by_cases h1:d<c
  ·have h2:¬d=c:=by omega
   simp [QL,h1,h2]
  ·by_cases h2:d=c
   ·simp [QL,h2]
   ·simp [QL,h1,h2]
 rw [key,show Zdv c none=false from rfl];simp;omega
theorem Zm5 {l:List Nat} {p c:Nat} (hp:p<l.length) (hc:l[p]?=some c):ZaF l p=1+less (ZaG l) c+Za4 (ZaG l) c (ZaF l (p+1)):=by have e:=ZbC (l:=l) (j:=p+1) (by omega);rw [Zi5 c e];unfold ZaF;rw [Zcs hc];exact count_cons l c _
abbrev Rs:=List (Option Nat)
def bk (rs:Rs) (k:Nat):Option Nat:=match rs[k]? with
 |some (some c)=>some (1+less rs c+Za4 rs c k)
 |_=>none
def ZDE (rs:Rs):List Nat:=rs.filterMap id
theorem Zkd {rs:Rs} {k c:Nat} (h:rs[k]?=some (some c)):bk rs k=some (1+less rs c+Za4 rs c k):=by unfold bk;rw [h]
def rd (rs:Rs):Nat->Option Nat
 |0=>some 0
 |k+1=>(rd rs k).bind (bk rs)
def Ztd (rs:Rs):Prop:=∃r,rd rs ((ZDE rs).length)=some r
theorem ZgQ {α:Type} {D f:α->Bool}:∀{xs:List α},xs.Pairwise (fun a b=>D b=true->D a=true)->(xs.take (xs.countP D)).countP f=xs.countP (fun a=>f a && D a)
 |[],_=>rfl
 |a::r,hp=>by
  have h1:=(QJ.mp hp).1;have ih:=ZgQ (f:=f) (QJ.mp hp).2
  cases e:D a with
  |true=>
   rw [We e,QO,Qw,Qw,ih,e];simp
  |false=>
   have z:r.countP D=0:=by rw [QY];intro b hb hd;have:=h1 b hb hd;rw [e] at this;cases this
   have z2:r.countP (fun a=>f a && D a)=0:=by
    rw [QY] at z ⊢
    intro b hb;have:=z b hb;simp [this]
   rw [Wf (by rw [e];simp),z,Q5,Qw,z2,e];simp
def low (l t:List Nat):Nat:=(Qk (l.length+1)).countP (fun i=>decide (l.drop i<t))
def Zbj (l t:List Nat) (i:Nat):Bool:=t.isPrefixOf (l.drop i)
def Zp3 (l t:List Nat):Nat:=(Qk (l.length+1)).countP (fun i=>Zbj l t i)
def ZdS (l t:List Nat) (i:Nat):Bool:=decide (l.drop i<t) || Zbj l t i
def Zb2 (l t:List Nat):Nat:=low l t+Zp3 l t
theorem Zc7:∀{t x:List Nat},t.isPrefixOf x=true->¬x<t
 |[],x,_=>List.not_lt_nil _
 |c::t,[],h=>by simp at h
 |c::t,d::x,h=>by
  simp only [Wo,QM,beq_iff_eq] at h;rw [QL];rintro (z|⟨_,z⟩)
  ·omega
  ·exact Zc7 h.2 z
theorem ZeR (l t:List Nat):Zb2 l t=(Qk (l.length+1)).countP (ZdS l t):=by
 unfold Zb2 low Zp3;refine (Zc0 _ _ _ _ fun i _=>?_).symm;unfold ZdS
 cases e:Zbj l t i with
 |false=>cases decide (l.drop i<t)<;>rfl
 |true=>
  have:¬l.drop i<t:=Zc7 e;simp [this]
theorem Zlj:∀{t x u:List Nat},t<=x->x<=t++u->t.isPrefixOf x=true
 |[],x,u,_,_=>by simp
 |c::t,[],u,h,_=>absurd (List.nil_lt_cons c t) (Uq.mpr h)
 |c::t,d::x,u,h1,h2=>by
  rw [uM] at h2;have a:¬(d::x<c::t):=Uq.mpr h1;have b:¬(c::(t++u)<d::x):=Uq.mpr h2;rw [QL] at a b;have e:c=d:=by omega
  subst e;simp only [Wo,QM,beq_self_eq_true,true_and];exact Zlj (Uq.mp fun z=>a (.inr ⟨rfl,z⟩)) (Uq.mp fun z=>b (.inr ⟨rfl,z⟩))
theorem ZgR {l t:List Nat} {i j:Nat} (h:l.drop i<=l.drop j) (hj:ZdS l t j=true):ZdS l t i=true:=by
 unfold ZdS Zbj at *
 rw [QS,decide_eq_true_eq] at *
 by_cases hx:l.drop i<t
 ·exact .inl hx
 ·right
  rcases hj with hj|hj
  ·exact absurd (Wz h hj) hx
  ·obtain ⟨u,hu⟩:=UZ.mp hj;refine Zlj (u:=u) (Uq.mp hx) ?_;rw [hu];exact h
theorem Zio {l t:List Nat} {i j:Nat} (h:l.drop i<=l.drop j) (hj:decide (l.drop j<t)=true):decide (l.drop i<t)=true:=decide_eq_true (Wz h (of_decide_eq_true hj))
theorem Zev {l:List Nat} {D:Nat->Bool} (c:Nat) (hd:∀i j,l.drop i<=l.drop j->D j=true->D i=true):Za4 (ZaG l) c ((Qk (l.length+1)).countP D)=(Qk (l.length+1)).countP (fun i=>(Yf l i==some c) && D i):=by have h:=ZgQ (f:=fun i=>Yf l i==some c) (D:=D) ((Zho l).imp fun {i j} h=>hd i j h);rw [(Jp l).countP_eq,(Jp l).countP_eq] at h;unfold Za4 ZaG;rw [<-QaB,Uw];exact h
theorem ZpY (l:List Nat) (c:Nat) (t:List Nat):low l (c::t)=1+less (ZaG l) c+Za4 (ZaG l) c (low l t):=by unfold low;rw [count_cons,Zev c fun i j=>Zio]
theorem ZlK (l:List Nat) (c:Nat) (t:List Nat):Zb2 l (c::t)=1+less (ZaG l) c+Za4 (ZaG l) c (Zb2 l t):=by
 rw [ZeR,ZeR,Zev c fun i j=>ZgR,Zim];rw [Zbf,qI (fun i=>Zdv c (Yf l i)),qI (fun i=>(Yf l i==some c) && ZdS l t i)];have e1:ZdS l (c::t) l.length=true:=by unfold ZdS;rw [Ve];simp
 have e2:Yf l 0=none:=by unfold Yf;rw [if_pos rfl]
 rw [e1,e2]
 have key:(Qk l.length).countP (ZdS l (c::t))=(Qk l.length).countP (fun i=>Zdv c (Yf l (i+1)))+(Qk l.length).countP (fun i=>(Yf l (i+1)==some c) && ZdS l t (i+1)):=by
  refine Zc0 _ _ _ _ fun i hi=>?_;have hi:=QB.mp hi;have ei:l[i]?=some l[i]:=Qd hi;unfold ZdS Zbj;rw [ZcY,ei,Zcs ei];show _=(if decide (l[i]<c)=true then 1 else 0)+_;generalize l[i]=d;generalize l.drop (i+1)=u;by_cases h1:d<c
  ·have h2:¬d=c:=by omega
   have h3:¬c=d:=by omega
   simp [QL,h1,h2,h3]
  ·by_cases h2:d=c
   ·simp [QL,h2]
   ·have h3:¬c=d:=fun z=>h2 z.symm;simp [QL,h1,h2,h3]
 rw [key,show Zdv c none=false from rfl];simp;omega
theorem Zk1 (l:List Nat):low l []=0:=by unfold low;rw [QY];intro i _;simp
theorem ZoQ (l:List Nat):Zb2 l []=l.length+1:=by unfold Zb2 Zp3 Zbj;rw [Zk1];simp
theorem Zle {l t:List Nat} {i:Nat} (hi:i<=l.length):Zbj l t i=true↔low l t<=ZaF l i/\ZaF l i<Zb2 l t:=by
 have key:∀{D:Nat->Bool},(∀i j,l.drop i<=l.drop j->D j=true->D i=true)->(D i=true↔ZaF l i<(Qk (l.length+1)).countP D):=by
  intro D hd;have hs:(ord l).Pairwise (fun a b=>D b=true->D a=true):=(Zho l).imp fun {i j} h=>hd i j h
  have go:∀{xs:List Nat} {k x:Nat},xs.Pairwise (fun a b=>D b=true->D a=true)->xs[k]?=some x->(D x=true↔k<xs.countP D):=by
   intro xs
   induction xs with
   |nil=>intro k x _ h;simp at h
   |cons a r ih=>
    intro k x hp h
    cases ea:D a with
    |true=>
     rw [We ea]
     cases k with
     |zero=>simp at h;subst h;simp [ea]
     |succ k=>
      have:=ih (k:=k) (x:=x) (QJ.mp hp).2 (by simpa using h);rw [this,Nat.add_lt_add_iff_right]
    |false=>
     have z:r.countP D=0:=by rw [QY];intro b hb hd;have:=(QJ.mp hp).1 b hb hd;rw [ea] at this;cases this
     rw [Wf (by rw [ea];simp),z];constructor
     ·intro hx;rcases jK.mp (QE h) with e|e
      ·rw [e,ea] at hx;cases hx
      ·have:=(QJ.mp hp).1 x e hx;rw [ea] at this;cases this
     ·intro hx;omega
  have:=go hs (ZbC hi);rwa [(Jp l).countP_eq] at this
 have k1:=key (D:=fun i=>decide (l.drop i<t)) fun i j=>Zio;have k2:=key (D:=ZdS l t) fun i j=>ZgR;rw [ZeR];have e1:low l t=(Qk (l.length+1)).countP (fun i=>decide (l.drop i<t)):=rfl;rw [e1];constructor
 ·intro h;have n:¬l.drop i<t:=Zc7 h;refine ⟨?_,k2.mp (by unfold ZdS;rw [h,W9])⟩;have:¬(decide (l.drop i<t)=true):=by simpa using n
  rw [k1] at this;omega
 ·rintro ⟨h1,h2⟩;have a:=k2.mpr h2;have b:¬(decide (l.drop i<t)=true):=by rw [k1];omega
  unfold ZdS at a;rw [QS] at a;exact a.resolve_left b
end LO
namespace L2
open PySem PySem.Spec PyProof.Rows
def cxL (X:Cx) (A:Around) (env:Env) (N:List Str) (s:jj) (H:Hp):Cx:=
 {X with A:=A.deeper env,N:=N,s₀:=s,H₀:=H,env:=env,outer:=X.stack,stack:=env::X.stack,ex:=[],fn:=fun _=>false,pn:=[],xe:=fun _ _=>False}
def Zgb (v:V) (cp:List (Str×Nat)) (σ:St):St:=some v::cp.map fun p=>gS σ p.2
section
variable {X:Cx} {Zb:List (jk×Obj)} {σ:St} {H:Hp} {s:jj} {scope:Scope} {cl:List (Str×jk)} {cp:List (Str×Nat)} {A:Around} {env:Env} {x:Str} {v:V} {u:Value} {h1:Heap}
theorem ZlQ {tk:Nat} (I:Inv X Zb σ H s) (hA:A.frames=some X.stack) (hh:A.handled=none) (hcl:qj scope.names X.env.cells []=some cl) (hk:scope.kind=.function) (hnc:∀y∈scope.names,y.2≠ .cell) (hcp:JE X scope cp)
 (hx:scope.names.lookup x=some .local) (hnx:x∉cp.map (·.1)) (r:ZW v u) (e1:env.scope=scope) (e2:env.locals=s.heap.objs.size) (e3:env.globals=jm) (e4:env.cells=cl) (e5:env.frame=some s.heap.objs.size) (e6:env.builtins=j4)
 (hns:h1.Ns s.heap.objs.size (fun y=>[(x,u)].reverse.lookup y)) (old:∀b o,s.heap.get? b=some o->h1.get? b=some o):
 Inv (cxL X A env (x::cp.map (·.1)) s H) [] (Zgb v cp σ) H {s with heap:=h1,toks:=tk}:=by
 have c1:=(Jn scope.names [] hcl (fun x c h=>by simp at h)).1;have c2:=(Jn scope.names [] hcl (fun x c h=>by simp at h)).2;obtain ⟨m,hm,hl⟩:=id I.loc;have kOf:∀y,env.kindOf y=scope.names.lookup y:=fun y=>by unfold Env.kindOf;rw [e1]
 refine ⟨⟨I.ok.mod,?_,e3,e6,?_,?_,?_,fun y c z=>absurd z (by simp [cxL]),fun _=>hh,?_,.inr ⟨rfl,?_⟩,fun b z=>absurd (show b∈([]:List jk) from z) (by simp),I.bs,QI I.ok.bsz I.sz,fun b o _ z=>absurd (show b∈([]:List jk) from z) (by simp),fun b z=>absurd (show b∈([]:List jk) from z) (by simp),I.stack,I.stkFree⟩,
  rfl,I.bare,Un.kept old,⟨fun y=>[(x,u)].reverse.lookup y,?_,fun i y w' q1 q2 q3=>?_⟩,fun y c q=>?_,?_,fun y c q=>?_,fun p hp=>absurd (show p∈([]:List (jk×Obj)) from hp) (by simp),I.hok.kept old,?_⟩
 ·show env.scope.kind=.function;rw [e1];exact hk
 ·show s.heap.objs.size<=env.locals;rw [e2];exact Qf _
 ·intro y z c h1 h2;have h1:env.cells.lookup y=some c:=h1;have h2:env.cells.lookup z=some c:=h2;rw [e4] at h1 h2;exact I.ok.inj y z c (c1 y c h1) (c1 z c h2)
 ·intro y hy;show ∃c,env.cells.lookup y=some c;rw [e4];have hy:env.kindOf y=some .cell\/env.kindOf y=some .free:=hy;rw [kOf] at hy;rcases hy with z|z
  ·exact absurd rfl (hnc _ (PySem.mem_of_lookup z))
  ·exact c2 y (.inr z)
 ·exact Around.frames_deeper hA
 ·show env.frame=some env.locals;rw [e5,e2]
 ·show h1.Ns env.locals _;rw [e2];exact hns
 ·have q1:(x::cp.map (·.1))[i]?=some y:=q1;unfold Zgb at q2
  cases i with
  |zero=>
   cases q1;cases (show some v=some w' from by simpa using q2);exact ⟨u,r,.inl ⟨by show env.kindOf x=_;rw [kOf];exact hx,by simp⟩⟩
  |succ i=>
   have q1:(cp.map (·.1))[i]?=some y:=by simpa using q1
   have q2:(cp.map fun p=>gS σ p.2)[i]?=some (some w'):=by simpa using q2
   rw [Qi] at q1 q2
   cases q:cp[i]? with
   |none=>rw [q] at q1;cases q1
   |some p=>
    rw [q] at q1 q2;obtain ⟨y',j⟩:=p;cases Option.some.inj q1;obtain ⟨g1,g2,g3⟩:=hcp.get q;have e4':gS σ j=some w':=Option.some.inj q2;obtain ⟨u',r',lk⟩:=hl j y' w' g1 (Zfn e4') (.inr (.inl g2));refine ⟨u',r',.inr ⟨.inr (by show env.kindOf y'=_;rw [kOf];exact g3),?_⟩⟩;rcases lk with ⟨z,_⟩|⟨_,c,z,zc⟩
    ·have z':X.env.scope.names.lookup y'=some .local:=z;rw [g2] at z';cases z'
    ·obtain ⟨d,hd⟩:=c2 y' (.inr g3);have hd':=c1 y' d hd;rw [z] at hd';cases Option.some.inj hd';obtain ⟨o,ho,hdt⟩:=zc;exact ⟨c,by show env.cells.lookup y'=_;rw [e4];exact hd,o,old _ _ ho,hdt⟩
 ·have q:env.cells.lookup y=some c:=q;rw [e4] at q;obtain ⟨w',o,ho,hd⟩:=I.cell y c (c1 y c q);exact ⟨w',o,old _ _ ho,hd⟩
 ·show H env.locals=none;rw [e2];exact I.hok.fresh (Qf _)
 ·have q:env.cells.lookup y=some c:=q;rw [e4] at q;exact I.freeC y c (c1 y c q)
 ·show (Zgb v cp σ).length=(x::cp.map (·.1)).length;unfold Zgb;simp
theorem ZpT {name qual:Str} {params:Arguments} {body:jF} {pm ctv:Value} {c' f:jk} {te:TE} {Q:VK} (I:Inv X Zb σ H s) (hA:A.frames=some X.stack) (hh:A.handled=none) (hd:A.depth<recursionLimit)
 (hcl:qj scope.names X.env.cells []=some cl) (hk:scope.kind=.function) (hnc:∀y∈scope.names,y.2≠ .cell) (hcp:JE X scope cp) (hx:scope.names.lookup x=some .local) (hnx:x∉cp.map (·.1)) (hco:scope.isCoroutine=false) (hgen:scope.isGenerator=false)
 (ho:s.heap.get? f=some (Qai name qual params body scope cl pm c' ctv)) (hcd:s.heap.CodeRec (.ref c') qual)
 (hb:∀u:Value,QaG (kla_fn name qual params body scope cl pm (.ref c') ctv) ⟨[u],[]⟩=pure [(x,u)]) (r:ZW v u)
 (he:∀A L f c' s H,PE (cxL X A (newEnv scope L jm cl (qual++".<locals>.") (some f) (.ref c') none j4) (x::cp.map (·.1)) s H) body te) (h:te (Zgb v cp σ) H Q):
 jo (jr X.prog X.w) A (call (.ref f) [u]) (EP X Zb σ Q) (fun _ _=>False) s:=by
 refine uN (PySem.W.kla_callFunE hd ho rfl hco hgen rfl hcd ?_);rw [hb u];refine jl (vO hnc (fun y hy=>?_) (fun h1 hns hsb=>?_) hk)
 ·cases ju.mp hy;exact hx
 ·have old:∀b o,s.heap.get? b=some o->h1.get? b=some o:=fun b o e=>(hsb.2 b (Qm (Qj e))).trans (Qe _ e);refine ⟨I.nolimit.keeps old,PySem.W.kla_codeExpr ?_⟩;generalize hE:newEnv scope s.heap.objs.size jm cl (qual++".<locals>.") (some f) (.ref c') none j4=env;have e1:env.scope=scope:=by rw [<-hE];rfl
  have e4:env.cells=cl:=by rw [<-hE];rfl
  have J:Inv (cxL X A env (x::cp.map (·.1)) s H) [] (Zgb v cp σ) H {s with heap:=h1,toks:=s.toks+[(x,u)].length}:=
   ZlQ I hA hh hcl hk hnc hcp hx hnx r e1 (by rw [<-hE];rfl) (by rw [<-hE];rfl) e4 (by rw [<-hE];rfl) (by rw [<-hE];rfl) hns old
  refine jU ((hE▸he A s.heap.objs.size f c' s H:PE (cxL X A env (x::cp.map (·.1)) s H) body te) [] _ _ H Q J h) (fun w' s' ⟨y,H',J',ry,q⟩=>?_) fun _ _ z=>False.elim z;exact I.after ⟨y,H',J'.os,J'.bare,J'.base,J'.hok,ry,q⟩
end
def ZhP (c:jk) (q:Str):HO:=.ext fun h=>h.CodeRec (.ref c) q
theorem Zoj {P:jw} {w:jB} {H:Hp} {h:Heap} {c:jk} {q:Str} (x:h.CodeRec (.ref c) q):zy P w H h c (ZhP c q):=by obtain ⟨c2,o,vs,t,e,ho,hd,hv⟩:=id x;cases e;refine ⟨x,⟨o,ho⟩,fun h1 h2 z k=>?_⟩;obtain ⟨c3,o',vs',t',e,a,b,d⟩:=z;cases e;exact ⟨_,o',vs',t',rfl,k o' a,b,d⟩
def Bk (P:jk) (pos:Pos) (q:Str) (H:Hp):Prop:=H P=some (.tbl #[])\/∃c',H P=some (.tbl #[ua pos.line,ua pos.col,.ref c'])/\H c'=some (ZhP c' q)
def zQ (H H':Hp):Prop:=∀b o,H b=some o->H' b≠none/\((∀ps,o≠ .tbl ps)->H' b=some o)
theorem zQ.at {H H':Hp} (a:zQ H H') {b:jk} {o:HO} (h:H b=some o) (n:∀ps,o≠ .tbl ps):H' b=some o:=(a b o h).2 n
theorem zQ.free {H H':Hp} (a:zQ H H') {b:jk} (h:H' b=none):H b=none:=by
 cases q:H b with
 |none=>rfl
 |some o=>exact absurd h (a b o q).1
theorem zQ.refl (H:Hp):zQ H H:=fun _ _ h=>⟨by rw [h];simp,fun _=>h⟩
theorem zQ.trans {H H1 H2:Hp} (a:zQ H H1) (b:zQ H1 H2):zQ H H2:=fun c o h=>⟨fun z=>(a c o h).1 (b.free z),fun n=>b.at ((a c o h).2 n) n⟩
theorem Zs.toN {H H':Hp} (a:Zs H H'):zQ H H':=fun c o h=>⟨by rw [a c o h];simp,fun _=>a c o h⟩
theorem zQ.upd {H H':Hp} {a:jk} {o:HO} (e:zQ H H') (n:H' a=none):zQ H (L2.upd H' a o):=fun b u q=>by
 have hb:b≠a:=by rintro rfl;exact (e b u q).1 n
 rw [Zj hb];exact e b u q
theorem zQ.seq {K:Qa} {H H':Hp} {a:jk} {xs:List V} (e:zQ H H') (h:SqL K H a xs):SqL K H' a xs:=by
 rcases h with (h|⟨o,h⟩)|h
 ·exact .inl (.inl (e.at h (by nofun)))
 ·exact .inl (.inr ⟨o,e.at h (by nofun)⟩)
 ·exact .inr h
theorem Bk.put {P:jk} {pos:Pos} {q:Str} {H:Hp} {a:jk} {o:HO} (h:Bk P pos q H) (n:H a=none):Bk P pos q (L2.upd H a o):=by
 rcases h with h|⟨c',h,g⟩
 ·exact .inl (by rw [Zj (Zk h n)];exact h)
 ·exact .inr ⟨c',by rw [Zj (Zk h n)];exact h,by rw [Zj (Zk g n)];exact g⟩
def Zat (P:jk) (H H':Hp):Prop:=∀b o,b≠P->H b=some o->H' b=some o
theorem Zat.refl (P:jk) (H:Hp):Zat P H H:=fun _ _ _ h=>h
theorem Zat.trans {P:jk} {H H1 H2:Hp} (a:Zat P H H1) (b:Zat P H1 H2):Zat P H H2:=fun c o n h=>b c o n (a c o n h)
theorem Zs.toE {P:jk} {H H':Hp} (a:Zs H H'):Zat P H H':=fun c o _ h=>a c o h
theorem Zat.upd {P:jk} {H H':Hp} {a:jk} {o:HO} (e:Zat P H H') (n:H' a=none):Zat P H (L2.upd H' a o):=fun b u nb q=>by have q':=e b u nb q;rw [Zj (Zk q' n)];exact q'
theorem Bk.isTbl {P:jk} {pos:Pos} {q:Str} {H:Hp} (h:Bk P pos q H):∃ps,H P=some (.tbl ps):=by
 rcases h with h|⟨c',h,_⟩
 ·exact ⟨_,h⟩
 ·exact ⟨_,h⟩
theorem Bk.keep {P P2:jk} {pos pos2:Pos} {q q2:Str} {H H':Hp} (b2:Bk P2 pos2 q2 H) (b1:Bk P pos q H) (ne:P2≠P) (se:Zat P H H'):Bk P2 pos2 q2 H':=by
 obtain ⟨ps,hP⟩:=b1.isTbl;rcases b2 with h|⟨c',h,g⟩
 ·exact .inl (se _ _ ne h)
 ·exact .inr ⟨c',se _ _ ne h,se _ _ (Zdy g hP (by intro z;cases z)) g⟩
structure Zj0 (X:Cx) (c P:jk):Prop where
 code:X.env.code=.ref c
 hd:CodeHd X.base c P
 bm:∃bm ob,X.mg "__builtins__"=some (.ref bm)/\bm≠j4/\X.base.get? bm=some ob/\ob.cls=.type "module"/\ob.dict=some j4/\ob.data=.plain
section
variable {X:Cx} {Zb:List (jk×Obj)} {σ:St} {H:Hp} {s:jj} {scope:Scope} {cl:List (Str×jk)} {A:Around} {c P:jk} {params:Arguments} {body:jF} {pos:Pos} {q:Str} {M:uL} {E:Value->jj->Prop} {Q:Value->jj->Prop}
theorem ZpS (I:Inv X Zb σ H s) (L:Zj0 X c P) {o:HO} (hP:H P=some o):s.heap.BuiltinsAt X.mg P/\jm≠P:=by
 obtain ⟨bm,ob,b1,b2,b3,b4,b5,b6⟩:=L.bm;have hb:=I.bs bm ob b3;obtain ⟨og,es,ep,g1,g2,_⟩:=id I.mod.glob;have hg:=I.bs jm og g1;refine ⟨⟨bm,ob,b1,b2,?_,?_,hb.1,b4,b5,b6⟩,?_⟩
 ·rintro rfl;rw [g1] at b3;cases b3;rw [g2] at b6;cases b6
 ·rintro rfl;rw [hb.2] at hP;cases hP
 ·intro z;rw [<-z,hg.2] at hP;cases hP
theorem ZpU (I:Inv X Zb σ H s) (L:Zj0 X c P) (hcl:qj scope.names X.env.cells []=some cl) (hdef:defaultsOf params X.env=([],[])) (bk:Bk P pos q H) (hq:X.env.qual++"<lambda>"=q)
 (hQ:∀f c' pm ctv H' s',Inv X (Zb++[(f,Qai "<lambda>" q params body scope cl pm c' ctv)]) σ H' s'->H' c'=some (ZhP c' q)->Bk P pos q H'->zQ H H'->Zat P H H'->Q (.ref f) s'):
 jo M A (eval (.Lambda params body scope pos) X.env) Q E s:=by
 refine PySem.W.kla_eval hdef ?_;rw [hq];have hg:s.heap.Ns jm X.mg:=I.mod.glob.keeps I.bk;have C:CodeHd s.heap c P:=L.hd.keeps I.bk;rcases bk with hP|⟨c',hP,hc'⟩
 ·have hPo:s.heap.get? P=some (Qaz #[]):=I.hok P _ hP;obtain ⟨hb,hgP⟩:=ZpS I L hP;refine PySem.W.kla_makeFunction (mg:=X.mg) (ZaL hcl) I.ok.glob hg L.code C hPo trivial rfl hgP hb fun c' ctv h' tk hx hge hlt hrec htb=>?_;have hnc:H c'=none:=I.hok.fresh hge;have hPc:P≠c':=Zk hP hnc;have nP:∀b,H b=none->b≠P:=fun b n z=>by rw [z,hP] at n;cases n
  have old:∀b o,b≠P->s.heap.get? b=some o->(h'.push (Qai "<lambda>" q params body scope cl ((X.mg "__name__").getD .none) c' ctv)).get? b=some o:=fun b o hb e=>Qe _ (hx b o hb e);have htb':(h'.push (Qai "<lambda>" q params body scope cl ((X.mg "__name__").getD .none) c' ctv)).get? P=some (Qaz #[ua pos.line,ua pos.col,.ref c']):=Qe _ (by simpa using htb)
  have I1:Inv X Zb σ (upd (upd H P (.tbl #[ua pos.line,ua pos.col,.ref c'])) c' (ZhP c' q)) {s with heap:=h'.push (Qai "<lambda>" q params body scope cl ((X.mg "__name__").getD .none) c' ctv),toks:=tk}:=by
   have other:∀b,b≠P->b≠c'->upd (upd H P (.tbl #[ua pos.line,ua pos.col,.ref c'])) c' (ZhP c' q) b=H b:=fun b h1 h2=>by rw [Zj h2,Zj h1]
   refine I.un ⟨fun b o e n _ _=>old b o (nP b n) e,fun b o e n _ _=>⟨o.slots,old b o (nP b n) e⟩,fun b o e n _=>?_,fun b o e _=>?_,fun b xs e=>?_,fun b o u e=>?_,fun b ps e=>?_⟩ fun b o e=>?_
   ·rw [other b (nP b n) (Qm (Ql (Qj e) hge))];exact n
   ·by_cases hb:b=P
    ·subst hb;exact ⟨_,htb'⟩
    ·exact ⟨o,old b o hb e⟩
   ·rw [other b (Zdy e hP (by intro z;cases z)) (Zk e hnc)];exact e
   ·rw [other b (Zdy e hP (by intro z;cases z)) (Zk e hnc)];exact e
   ·by_cases hb:b=P
    ·subst hb;rw [hP] at e;cases e;exact ⟨#[ua pos.line,ua pos.col,.ref c'],by rw [Zj hPc,Zh];simp⟩
    ·exact ⟨#[],by rw [other b hb (Zk e hnc),e];simp⟩
   ·by_cases hb:b=c'
    ·subst hb;rw [Zh] at e;cases e;exact Zoj (hrec.push _)
    ·rw [Zj hb] at e;by_cases hb2:b=P
     ·subst hb2;rw [Zh] at e;cases e;exact htb'
     ·rw [Zj hb2] at e;refine (I.hok b o e).stay (fun d u hd z=>old d u ?_ z) (fun d z=>?_) fun d xs z=>?_
      ·rcases hd with rfl|hd
       ·exact hb2
       ·exact Zdy hd hP (by intro z;cases z)
      ·rw [other d (Zdy z hP (by intro z;cases z)) (Zk z hnc)];exact z
      ·rw [other d (Zdy z hP (by intro z;cases z)) (Zk z hnc)];exact z
  have hsz:s.heap.objs.size<=h'.objs.size:=QQ (WI hge hlt);refine hQ h'.objs.size c' ((X.mg "__name__").getD .none) ctv _ _ (I1.pins_of fun p hp=>?_) Zh (.inr ⟨c',by rw [Zj hPc,Zh],Zh⟩) (fun b o e=>?_) fun b o hb e=>by rw [Zj (Zk e hnc),Zj hb];exact e
  ·rcases jL.mp hp with hp|hp
   ·exact I1.pin p (js _ hp)
   ·cases ju.mp hp;refine ⟨Qh _ rfl,?_,QX (Ql I.lt hsz),I.nofs hsz,fun v z=>by cases z⟩;show upd (upd H P _) c' _ h'.objs.size=none;rw [Zj (QX hlt),Zj fun z=>?_]
    ·exact I.hok.fresh hsz
    ·have:=Qj hPo;rw [<-z] at this;exact absurd (Ql this hsz) (QV _)
  ·rw [Zj (Zk e hnc)];by_cases hb:b=P
   ·subst hb;rw [hP] at e;cases e;rw [Zh];exact ⟨by simp,fun nt=>absurd rfl (nt _)⟩
   ·rw [Zj hb,e];exact ⟨by simp,fun _=>rfl⟩
 ·have hPo:s.heap.get? P=some (Qaz #[ua pos.line,ua pos.col,.ref c']):=I.hok P _ hP;obtain ⟨hb,hgP⟩:=ZpS I L hP;refine PySem.W.kla_makeFunctionHit (cv:=.ref c') (mg:=X.mg) (ZaL hcl) I.ok.glob hg L.code C hPo trivial ?_ hb fun ctv h' tk hk hsz=>?_
  ·show (if _ then _ else _)=_;rw [if_pos (by simp)]
  ·have I1:Inv X Zb σ H {s with heap:=h'.push (Qai "<lambda>" q params body scope cl ((X.mg "__name__").getD .none) c' ctv),toks:=tk}:=I.kept fun b o e=>Qe _ (hk b o e);refine hQ h'.objs.size c' ((X.mg "__name__").getD .none) ctv H _ (I1.pins_of fun p hp=>?_) hc' (.inr ⟨c',hP,hc'⟩) (zQ.refl _) (Zat.refl _ _);rcases jL.mp hp with hp|hp
   ·exact I1.pin p (js _ hp)
   ·cases ju.mp hp;exact ⟨Qh _ rfl,I.hok.fresh hsz,QX (Ql I.lt hsz),I.nofs hsz,fun v z=>by cases z⟩
end
section
variable {X:Cx} {Zb:List (jk×Obj)} {σ:St} {H:Hp} {s:jj}
structure Own (X:Cx) (Zb:List (jk×Obj)) (H:Hp) (D:jk):Prop where
 old:X.s₀.heap.objs.size<=D
 free:H D=none
 nl:D≠X.env.locals
 np:∀p∈X.pn++Zb,p.1≠D
theorem Own.fresh (I:Inv X Zb σ H s) {D:jk} (h:s.heap.objs.size<=D):Own X Zb H D:=
 ⟨QI I.sz h,I.hok.fresh h,QX (Ql I.lt h),fun p hp z=>absurd (Ql (Qj (I.pin p hp).1) h) (by rw [z];exact QV _)⟩
theorem Inv.cellne (I:Inv X Zb σ H s) {D:jk} {o:Obj} (ho:s.heap.get? D=some o) (hd:∀v,o.data≠ .cell v):∀x c,X.env.cells.lookup x=some c->c≠D:=fun x c e z=>by obtain ⟨v,o',ho',hd'⟩:=I.cell x c e;rw [z,ho] at ho';cases ho';exact hd v hd'
theorem Inv.alter (I:Inv X Zb σ H s) {D:jk} {o:Obj} {h':Heap} (W:Own X Zb H D) (ho:s.heap.get? D=some o) (hd:∀v,o.data≠ .cell v) (k:∀b u,b≠D->s.heap.get? b=some u->h'.get? b=some u):Inv X Zb σ H {s with heap:=h'}:=
 I.turned (t':=s.toks) k W.free W.nl (.inr W.old) (I.cellne ho hd) W.np
theorem Inv.ownfs (I:Inv X Zb σ H s) {D:jk} (W:Own X Zb H D):D∉X.fs:=fun hb=>by obtain ⟨_,o,ho,_⟩:=I.ok.funs.mem hb;exact absurd (Ql (Qj ho) W.old) (QV _)
theorem Inv.pin1 (I:Inv X Zb σ H s) {D:jk} {o:Obj} (W:Own X Zb H D) (ho:s.heap.get? D=some o) (hd:∀v,o.data≠ .cell v):Inv X (Zb++[(D,o)]) σ H s:=I.pins_of fun p hp=>by
 rcases jL.mp hp with q|q
 ·exact I.pin p (js _ q)
 ·cases ju.mp q;exact ⟨ho,W.free,W.nl,I.ownfs W,hd⟩
theorem Inv.unpin {ps:List (jk×Obj)} (I:Inv X (Zb++ps) σ H s):Inv X Zb σ H s:=I.pins_of fun p hp=>I.pin p (js _ (uk _ hp))
theorem Inv.track (I:Inv X Zb σ H s) {D:jk} {o:HO} (W:Own X Zb H D) (hc:∀x c,X.env.cells.lookup x=some c->c≠D) (new:zy X.prog X.w (upd H D o) s.heap D o):Inv X Zb σ (upd H D o) s:=by
 have ne:∀b u,H b=some u->b≠D:=fun b u e=>Zk e W.free;refine ⟨I.ok,I.os,I.bare,⟨I.base.keep,I.base.slot,fun b u e n hx=>?_,I.base.there,fun b xs e=>?_,fun b u v e=>?_,fun b ps e=>?_⟩,I.loc,I.cell,?_,fun x c e=>?_,fun p hp=>?_,fun b u e=>?_,I.len⟩
 ·rw [Zj (Qm (Ql (Qj e) W.old))];exact I.base.free b u e n hx
 ·have:=I.base.tups b xs e;rw [Zj (ne b _ this)];exact this
 ·have:=I.base.frzs b u v e;rw [Zj (ne b _ this)];exact this
 ·obtain ⟨m,z⟩:=I.base.tbls b ps e;exact ⟨m,by rw [Zj (ne b _ z)];exact z⟩
 ·rw [Zj (Ne.symm W.nl)];exact I.free
 ·rw [Zj (hc x c e)];exact I.freeC x c e
 ·obtain ⟨a1,a2,a3⟩:=I.pin p hp;exact ⟨a1,by rw [Zj (W.np p hp)];exact a2,a3⟩
 ·by_cases hb:b=D
  ·subst hb;rw [Zh] at e;cases e;exact new
  ·rw [Zj hb] at e;refine (I.hok b u e).stay (fun _ _ _ z=>z) (fun d z=>?_) fun d xs z=>?_
   ·rw [Zj (ne d _ z)];exact z
   ·rw [Zj (ne d _ z)];exact z
theorem Zsd {A:Around} {E:Value->jj->Prop} {P:PySem.Fin->jj->Prop} {f:Value} {a kS:jk} {e1:Nat} {vs:List Value} {xs kV:List V} (rv:ZE xs vs) (hl:kV.length=vs.length) (hz:vs.length<=100000) (I:Inv X Zb σ H s) (Wa:Own X Zb H a)
 (ha:s.heap.get? a=some (ut "list" #[] e1)) (Wk:Own X (Zb++[(a,ut "list" #[] e1)]) H kS) (hk:s.heap.get? kS=some (ut "list" #[] 0))
 (hcall:∀ps s' (i:Nat) (x:V) (k:V) (u:Value),Inv X (Zb++ps) σ H s'->xs[i]?=some x->kV[i]?=some k->ZW x u->jo (jr X.prog X.w) A (call f [u]) (EP X (Zb++ps) σ fun y H'=>H'=H/\y=k) (fun _ _=>False) s')
 (h:∀s' ks e,Inv X (Zb++[(a,ut "list" #[] e1)]) σ H s'->s'.heap.get? kS=some (ut "list" (QA ks) e)->ZE kV ks->jo (jr X.prog X.w) A (ksk_end a false vs.toArray e1 (.ref kS) (QA ks)) P E s'):
 jo (jr X.prog X.w) A (ksk_rest a f false vs.toArray e1 (.ref kS)) P E s:=by
 unfold ksk_rest;refine ji (uC ?_)
 first
  |rw [List.forIn_toArray]
  |rw [<-Vy]
 have hsl:sizeLine=16777216:=jt;refine ji (ksk_fold (fun i s'=>∃ks e,Inv X (Zb++[(a,ut "list" #[] e1)]) σ H s'/\s'.heap.get? kS=some (ut "list" (QA ks) e)/\ZE (kV.take i) ks) vs 0 s ⟨[],0,I.pin1 Wa ha (fun v z=>by cases z),hk,.nil⟩ (fun j u s' hu hI=>?_) fun s' hI=>?_)
 ·obtain ⟨ks,e,I1,hk1,rk⟩:=hI
  rw [VD] at rk ⊢
  have hj:j<vs.length:=(Qo.mp hu).1
  obtain ⟨x,hx,rx⟩:∃x,xs[j]?=some x/\ZW x u:=by
   have hxl:j<xs.length:=by rw [rv.length];exact hj
   have e1:xs[j]?=some xs[j]:=Qd hxl;obtain ⟨u',hu',r'⟩:=rv.get e1;rw [hu] at hu';cases hu';exact ⟨_,e1,r'⟩
  have hkj:kV[j]?=some (kV[j]'(by omega)):=Qd (by omega);have I2:Inv X (Zb++([(a,ut "list" #[] e1)]++[(kS,ut "list" (QA ks) e)])) σ H s':=by rw [<-j5];exact I1.pin1 Wk hk1 (fun v z=>by cases z)
  refine ji (jV (jU (hcall _ s' j x _ u I2 hx hkj rx) (fun y s2 ⟨yv,H2,I3,ry,eH,ey⟩=>?_) fun _ _ z=>z.elim));subst eH ey;have hk3:=(I3.pin (kS,ut "list" (QA ks) e) (js _ (js _ (js _ (ju.mpr rfl))))).1;have I4:Inv X (Zb++[(a,ut "list" #[] e1)]) σ H2 s2:=by rw [<-j5] at I3;exact I3.unpin
  have lk:=rk.length;rw [jz] at lk;have hsb:=Heap.SameBut.update s2.heap kS (Obj.mapSeq (·.push y))
  obtain ⟨c2,hg⟩:∃c2,(s2.heap.update kS (Obj.mapSeq (·.push y))).get? kS=some (ut "list" (QA (ks++[y])) c2):=by
   have:(QA ks).push y=QA (ks++[y]):=by simp
   rw [<-this];exact ⟨_,vk hk3 (·.push y)⟩
  dsimp only;refine ji (vg hk3 rfl ?_ (by rw [jC];omega) (by rw [Vi,jC];omega));refine jl ⟨rfl,ks++[y],c2,I4.alter Wk hk3 (fun v z=>by cases z) (fun b u hb z=>(hsb.2 b hb).trans z),hg,?_⟩;rw [Ua,hkj];exact rk.append (.cons ry .nil)
 ·obtain ⟨ks,e,I1,hk1,rk⟩:=hI;rw [VD,<-hl,QF] at rk;refine ji (listItems_at hk1 rfl ?_);exact h s' ks e I1 hk1 rk
def ZhQ (prog:jw) (w:jB) {O:u9} (key:Nat->O.α) (n:Nat):Prop:=∀(A:Around) (E:Value->jj->Prop) (κ:uz) (s:jj) (ks vs:List Value),ks.length=vs.length->vs.length=n->2<=n->LS.Zls key n (fun s'=>s'=s) (v6 prog w A κ ks)->
 jo (jr prog w) A ((sortRuns').run (SortSt.mk' κ (ks.toArray.zip vs.toArray) #[] 7 none)) (fun r s'=>s'=s/\∃p:Array Nat,LS.Pm n p/\LS.Ust key p n/\vL r.2=p.map (VB (ks.toArray.zip vs.toArray))/\vy r.2=none) E s
theorem Zv2 {A:Around} {E:Value->jj->Prop} {P:PySem.Fin->jj->Prop} {a kS:jk} {e e1:Nat} {vs ks:List Value} {xs:List V} {κ:uz} {O:u9} {key:Nat->O.α} (rv:ZE xs vs) (hl:ks.length=vs.length) (h64:vs.length<=100000) (hS:ZhQ X.prog X.w key vs.length)
 (I:Inv X (Zb++[(a,ut "list" #[] e1)]) σ H s) (Wa:Own X Zb H a) (Wk:Own X (Zb++[(a,ut "list" #[] e1)]) H kS) (hk:s.heap.get? kS=some (ut "list" (QA ks) e))
 (hkind:2<=vs.length->∀Q:uz->jj->Prop,Q κ s->jo (jr X.prog X.w) A (QaC (QA ks)) Q E s)
 (hask:LS.Zls key vs.length (fun s'=>s'=s) (v6 X.prog X.w A κ ks))
 (h:∀(p:Array Nat) s',LS.Pm vs.length p->LS.Ust key p vs.length->Inv X Zb σ (upd H a (.lst (p.toList.map fun i=>xs.getD i .non))) s'->P (.done (.ret .none)) s'):
 jo (jr X.prog X.w) A (ksk_end a false vs.toArray e1 (.ref kS) (QA ks)) P E s:=by
 have hsl:sizeLine=16777216:=jt;have ha:=(I.pin (a,ut "list" #[] e1) (js _ (js _ (ju.mpr rfl)))).1;have hka:kS≠a:=fun z=>Wk.np (a,ut "list" #[] e1) (js _ (js _ (ju.mpr rfl))) z.symm;have lv:=rv.length
 have tail:∀(st:jD) (p:Array Nat),LS.Pm vs.length p->LS.Ust key p vs.length->vL st=p.map (VB (ks.toArray.zip vs.toArray))->vy st=none->jo (jr X.prog X.w) A (ksk_tail a false e1 (.ref kS) st) P E s:=by
  intro st p hp hu har hf;have hout:=kat_snds hl har;have hps:=hp.size;unfold ksk_tail;dsimp only;rw [hout];have hs1:=Heap.SameBut.update s.heap kS (Obj.mapSeq fun _=>(#[]:Array Value));have ha1:=(hs1.2 a hka.symm).trans ha;have hs2:=Heap.SameBut.update (s.heap.update kS (Obj.mapSeq fun _=>(#[]:Array Value))) a (Obj.mapSeq fun _=>QA (p.toList.map fun i=>vs.getD i Qq));obtain ⟨c2,hg⟩:∃c2,((s.heap.update kS (Obj.mapSeq fun _=>(#[]:Array Value))).update a (Obj.mapSeq fun _=>QA (p.toList.map fun i=>vs.getD i Qq))).get? a=some (ut "list" (QA (p.toList.map fun i=>vs.getD i Qq)) c2):=⟨_,vk ha1 (fun _=>QA (p.toList.map fun i=>vs.getD i Qq))⟩;refine ji (vg hk rfl ?_ (by rw [jC];omega) (Qu _));refine ji (wpAny_letGo ?_);refine ji (Qas ha1 rfl ?_);refine ji (vg ha1 rfl ?_ (Qu _) (by show (QA _).size<=_;rw [jC,jn,Qp];omega));rw [hf];simp only [bne_self_eq_false,Q4,if_false];have I1:Inv X (Zb++[(a,ut "list" #[] e1)]) σ H {s with heap:=s.heap.update kS (Obj.mapSeq fun _=>(#[]:Array Value))}:=I.alter Wk hk (fun v z=>by cases z) fun b u hb z=>(hs1.2 b hb).trans z;have I2:Inv X Zb σ H {s with heap:=(s.heap.update kS (Obj.mapSeq fun _=>(#[]:Array Value))).update a (Obj.mapSeq fun _=>QA (p.toList.map fun i=>vs.getD i Qq))}:=I1.unpin.alter (s:= {s with heap:=s.heap.update kS (Obj.mapSeq fun _=>(#[]:Array Value))}) Wa ha1 (fun v z=>by cases z) fun b u hb z=>(hs2.2 b hb).trans z;refine jl (h p _ hp hu (I2.track Wa (I2.cellne hg fun v z=>by cases z) ?_));refine ⟨by rw [jn,Qp];omega,p.toList.map fun i=>vs.getD i Qq,c2,?_,hg⟩
  have all:∀l:List Nat,(∀i∈l,i<vs.length)->ZE (l.map fun i=>xs.getD i .non) (l.map fun i=>vs.getD i Qq):=by
   intro l
   induction l with
   |nil=>intro _;exact .nil
   |cons i r ih=>
    intro hi;have hi0:=hi i jW;refine .cons ?_ (ih fun j hj=>hi j (jH _ hj));have hx:xs[i]?=some (xs.getD i .non):=by rw [Qb,Qd (by omega)];rfl
    obtain ⟨u,hu,r'⟩:=rv.get hx;show ZW (xs.getD i .non) (vs.getD i Qq);have e:vs.getD i Qq=u:=by rw [Qb,hu];rfl
    rw [e];exact r'
  exact all p.toList fun i hi=>by have:=hp.mem_iff.mp hi;exact QB.mp this
 unfold ksk_end;dsimp only;rw [if_neg Qg];by_cases h2:vs.toArray.size<2
 ·rw [if_pos h2,if_pos h2];refine ji (jl ?_);rw [StateT.run_pure];refine ji (jl ?_);dsimp only;rw [if_neg Qg];rw [jC] at h2;refine tail _ (QA (Qk vs.length)) (by unfold LS.Pm;simp) ⟨fun i j hij hj=>?_,fun i j hij hj=>by omega⟩ ?_ rfl
  ·have:i=j:=by omega
   subst this;exact Q7 _
  ·have e:=Ws (ks.toArray.zip vs.toArray);rw [show (ks.toArray.zip vs.toArray).size=vs.length by simp [hl]] at e;exact e.symm
 ·rw [if_neg h2,if_neg h2];rw [jC] at h2;refine ji (hkind (by omega) _ ?_);rw [if_neg Qg];refine ji (jU (hS A E κ s ks vs hl rfl (by omega) hask) ?_ fun _ _ z=>z);rintro ⟨⟨⟩,st'⟩ s' ⟨rfl,p,q1,q2,q3,q4⟩;exact tail st' p q1 q2 q3 q4
end
def ZdK (lo hi:Int):List V:=(Qk (hi-lo).toNat).map fun i:Nat=>V.int (lo+(i:Int))
def Src (K:Qa) (H:Hp) (a:jk) (xs:List V):Prop:=SqL K H a xs\/SqT K H a xs\/∃lo hi:Int,H a=some (.rng lo hi)/\xs=ZdK lo hi/\ -(2 ^ 62)<=lo/\lo<2 ^ 62/\ -(2 ^ 62)<=hi/\hi<2 ^ 62
section
variable {X:Cx} {Zb:List (jk×Obj)} {σ:St} {H:Hp} {s:jj}
def ZqA:List V->Hp->VK->Prop:=fun xs H Q=>match xs with
 |[.int j]=>∀r,H r=none->Q (.ref r) (upd H r (.rng 0 j))
 |[.int l,.int j]=>∀r,H r=none->Q (.ref r) (upd H r (.rng l j))
 |_=>False
theorem Zkf:JM X (.type "range") ZqA:=by
 intro Zb s σ H xs us Q I r h;unfold ZqA at h;split at h
 ·rename_i j;obtain ⟨u,rfl,ru⟩:=Zab r;obtain ⟨t,rfl⟩:=ru;have hn:=I.hok.fresh (Qf s.heap.objs.size);exact call_range_1 ⟨.ref s.heap.objs.size,_,I.laid (o:=.rng 0 j) (t':=s.toks+1+1) (fun b u e=>Qe _ e) (Qf _) ⟨_,_,_,Qh _ rfl⟩,rfl,h _ hn⟩
 ·rename_i l j;obtain ⟨u,w',rfl,ru,rw'⟩:=Zf5 r;obtain ⟨t,rfl⟩:=ru;obtain ⟨t',rfl⟩:=rw';have hn:=I.hok.fresh (Qf s.heap.objs.size);exact call_range_2 ⟨.ref s.heap.objs.size,_,I.laid (o:=.rng l j) (t':=s.toks+1) (fun b u e=>Qe _ e) (Qf _) ⟨_,_,_,Qh _ rfl⟩,rfl,h _ hn⟩
 ·exact h.elim
theorem ZqC {lo hi:Int} {acc:Array Value} {n:Nat} (hn:n=(hi-lo).toNat) (h:Qax (fun i v=>∃t,v=.int (lo+i * 1) t) acc n):ZE (ZdK lo hi) acc.toList:=by
 obtain ⟨h1,h2⟩:=h
 have key:∀(l:List Value) (k:Nat),(∀j v,l[j]?=some v->∃t,v=U9 (lo+((k+j:Nat):Int)) t)->ZE ((Qk l.length).map fun i=>V.int (lo+((k+i:Nat):Int))) l:=by
  intro l
  induction l with
  |nil=>intro k _;exact .nil
  |cons x r ih=>
   intro k hx;rw [jy,Wj,jT,uJ];obtain ⟨t,e⟩:=hx 0 x rfl;refine .cons ⟨t,by simpa using e⟩ ?_;have:=ih (k+1) fun j v hv=>by obtain ⟨t,e⟩:=hx (j+1) v (by simpa using hv);exact ⟨t,by rw [e];congr 2;omega⟩
   have e2:((fun i=>V.int (lo+((k+i:Nat):Int)))∘Nat.succ)=fun i=>V.int (lo+((k+1+i:Nat):Int)):=by
    funext i
    show V.int (lo+((k+(i+1):Nat):Int))=_
    congr 2
    omega
   rw [e2];exact this
 have:=key acc.toList 0 fun j v hv=>by obtain ⟨t,e⟩:=h2 j v (by simpa using hv);exact ⟨t,by rw [e];simp⟩
 rw [Qp,h1,hn] at this;unfold ZdK;simpa using this
theorem Zfg {A:Around} {E:Value->jj->Prop} {Q:List Value->jj->Prop} {a:jk} {xs:List V} (I:Inv X Zb σ H s) (hh:A.handled=none) (hx:Src X.K H a xs) (hz:xs.length<=16777216)
 (h:∀vs h' tk,ZE xs vs->(∀b o,s.heap.get? b=some o->h'.get? b=some o)->Q vs {s with heap:=h',toks:=tk}):jo (jr X.prog X.w) A (collect (.ref a)) Q E s:=by
 have hsl:sizeLine=16777216:=jt;rcases hx with hx|hx|⟨lo,hi,hx,rfl,b1,b2,b3,b4⟩
 ·obtain ⟨its,rv,p,hz'⟩:=I.list hx;obtain ⟨o,ho,hc,n,hd⟩:=p.isList;have:=rv.length;exact wpAny_collect_seq a (.inl rfl) ho hc hd (fun h' k=>h its h' s.toks rv k) (by rw [jC];omega)
 ·obtain ⟨its,rv,p,hz'⟩:=I.tuple hx;obtain ⟨o,ho,hc,n,hd⟩:=id p;have:=rv.length;exact wpAny_collect_seq a (.inr rfl) ho hc hd (fun h' k=>h its h' s.toks rv k) (by rw [jC];omega)
 ·obtain ⟨t,u,v,hr⟩:=I.hok a _ hx;have hl:(ZdK lo hi).length=(hi-lo).toNat:=by unfold ZdK;simp
  have hr1:IsRange (s.heap.push {cls:=.type "list",data:=.seq ([]:List Value).toArray}) a lo hi 1 t u v:=Qe _ hr;unfold collect;refine ji (vM (j9 F.entry_proto_collect ?_));rw [Around.under_plainId F.plain_proto_collect _];show jo _ A.in1 (newList [] >>=fun l=>again (.builtin "list.__iadd__" ⟨[l,.ref a],[]⟩)) _ _ s;refine ji (jZ ?_);refine jl ⟨uX F.plain_list_iadd _,j9 F.entry_list_iadd ?_⟩;rw [Around.under_plainId F.plain_list_iadd _];show jo _ A.in1 (Builtin.List.listExtendWith (.ref s.heap.objs.size) (.ref a) (.ref s.heap.objs.size)) _ _ _
  have fin:∀s':jj,(∃h' tk acc c',(∀b o,b≠s.heap.objs.size->(s.heap.push {cls:=.type "list",data:=.seq ([]:List Value).toArray}).get? b=some o->h'.get? b=some o)/\h'.get? s.heap.objs.size=some {cls:=.type "list",dict:=none,data:=.seq acc c',slots:=#[]}/\
   Qax (fun i v=>∃t,v=.int (lo+i * 1) t) acc (hi-lo).toNat/\s'= {s with heap:=h',toks:=tk})->jo (jr X.prog X.w) A (match Value.ref s.heap.objs.size with
   |Value.ref a=>do
    match (<-load a).data with
     |Data.seq xs _=>pure xs.toList
     |_=>unsupported "internal:collect"
   |_=>unsupported "internal:collect") Q E s':=by
   rintro s' ⟨h',tk,acc,c',k,hS,hi',rfl⟩;show jo _ A (load s.heap.objs.size >>=_) _ _ _;refine ji (wpAny_load hS ?_);exact jl (h _ h' tk (ZqC rfl hi') fun b o e=>k b o (Qm (Qj e)) (Qe _ e))
  refine jU (wpAny_extend_range (s:= {s with heap:=s.heap.push {cls:=.type "list",data:=.seq ([]:List Value).toArray} }) (R:=fun r s'=>r=.ok (.ret (.ref s.heap.objs.size))/\∃h' tk acc c',(∀b o,b≠s.heap.objs.size->(s.heap.push {cls:=.type "list",data:=.seq ([]:List Value).toArray}).get? b=some o->h'.get? b=some o)/\h'.get? s.heap.objs.size=some {cls:=.type "list",dict:=none,data:=.seq acc c',slots:=#[]}/\
   Qax (fun i v=>∃t,v=.int (lo+i * 1) t) acc (hi-lo).toNat/\s'= {s with heap:=h',toks:=tk}) (n:=(hi-lo).toNat) hh hr1 (small_one b1 b2 b3 b4) (by rw [rangeSize_one];split<;>omega) (by omega) s.heap.objs.size (.ref s.heap.objs.size) 0 (Qh _ rfl) fun h' tk acc c' k hS hi'=>⟨rfl,h',tk,acc,c',k,hS,hi',rfl⟩) (fun fn s' hf=>?_) fun e s' he=>?_
  ·cases fn with
   |done fl=>
    obtain ⟨e,hf⟩:=hf;cases e;exact fin s' hf
   |again c'=>
    refine ⟨hf.1,ub hf.2 fun r s2 hr=>?_⟩;obtain ⟨e,hr⟩:=hr;subst e;exact fin s2 hr
  ·exact absurd he.1 (by intro z;cases z)
theorem ZjO {kL:List (List Nat)} {ks:List Value} (r:ZE (kL.map fun k=>V.str (T k)) ks) {i:Nat} (hi:i<kL.length):∃t,ks.getD i Qq=.str (T (kL.getD i [])) t:=by
 have e:(kL.map fun k=>V.str (T k))[i]?=some (V.str (T (kL.getD i []))):=by rw [Qi,Qb,Qd hi];rfl
 obtain ⟨u,hu,t,rfl⟩:=r.get e;exact ⟨t,by rw [Qb,hu];rfl⟩
theorem Zkb {prog:jw} {w:jB} {A:Around} {kL:List (List Nat)} {ks:List Value} (r:ZE (kL.map fun k=>V.str (T k)) ks):LS.Zls (O:=strKind.toKeyOrd) (fun i=>kL.getD i []) kL.length (fun s'=>s'=s) (v6 prog w A vS ks):=by refine ⟨fun i j C s1 hi hj e h=>?_⟩;subst e;unfold v6;obtain ⟨t,e1⟩:=ZjO r hi;obtain ⟨t',e2⟩:=ZjO r hj;rw [e1,e2];refine PySem.W.kas_lt_str ?_;have h:=h s1 rfl;have e3:(T (kL.getD i [])).cps.toList=kL.getD i []:=L_T _;have e4:(T (kL.getD j [])).cps.toList=kL.getD j []:=L_T _;rw [e3,e4];exact h
theorem Zij {M:uL} {A:Around} {E:Value->jj->Prop} {kL:List (List Nat)} {ks:List Value} (r:ZE (kL.map fun k=>V.str (T k)) ks) (h2:2<=kL.length) {Q:uz->jj->Prop} (h:Q vS s):jo M A (QaC (QA ks)) Q E s:=by
 have hl:=r.length;rw [jn] at hl;refine kas_kind (T:=.type "str") (by omega) (fun v hv=>?_) (by decide) (by decide) h;obtain ⟨i,hi⟩:=Vr hv;have hlt:i<kL.length:=by have:=(Qo.mp hi).1;omega
 obtain ⟨t,e⟩:=ZjO r hlt;rw [Qb,hi] at e;have e:v=.str (T (kL.getD i [])) t:=e;rw [e];exact PySem.W.Looks.of_pure rfl
theorem Zmk {Q:VK} {E:Value->jj->Prop} {f a:jk} {xs:List V} {kL:List (List Nat)} (hc:X.calm=true) (hr:Ye 1 X.A) (I:Inv X Zb σ H s) (hx:Src X.K H a xs) (h64:xs.length<=100000) (hS:ZhQ X.prog X.w (O:=strKind.toKeyOrd) (fun i=>kL.getD i []) xs.length) (hl:kL.length=xs.length)
 (hcall:∀ps s' (i:Nat) (x:V) (k:V) (u:Value),Inv X (Zb++ps) σ H s'->xs[i]?=some x->(kL.map fun k=>V.str (T k))[i]?=some k->ZW x u->jo (jr X.prog X.w) X.A.in1.in1 (call (.ref f) [u]) (EP X (Zb++ps) σ fun y H'=>H'=H/\y=k) (fun _ _=>False) s')
 (h:∀l (p:List Nat),H l=none->p.Perm (Qk xs.length)->p.Pairwise (fun i j=>kL.getD i []<=kL.getD j []/\(kL.getD i []=kL.getD j []->i<j))->Q (.ref l) (upd H l (.lst (p.map fun i=>xs.getD i .non)))):
 jo (jr X.prog X.w) X.A (call (.builtin "sorted") [.ref a] [(Qc "key",.ref f)]) (EP X Zb σ Q) E s:=by
 have hsl:sizeLine=16777216:=jt;have hh:X.A.handled=none:=I.ok.hd hc;refine call_function_entry_kw kind_sorted plain_sorted entry_sorted (ksk_s1 _ _) ?_
 unfold Builtin.«sorted»
 refine ji (m:=checkCount "sorted" 1 1 _) (jl ?_);refine ji (Zfg I hh hx (by omega) fun vs h1 tk rv k=>?_);have lv:=rv.length;refine ji (Qaa ?_ (by omega));have k2:∀b o,s.heap.get? b=some o->(h1.push {cls:=.type "list",data:=.seq vs.toArray}).get? b=some o:=fun b o e=>Qe _ (k b o e);have I2:Inv X Zb σ H {s with heap:=h1.push {cls:=.type "list",data:=.seq vs.toArray},toks:=tk}:=I.kept k2;have I1:Inv X Zb σ H {s with heap:=h1,toks:=tk}:=I.kept k;have Wa:Own X Zb H h1.objs.size:=Own.fresh I1 (Qf _);have ho:(h1.push {cls:=.type "list",data:=.seq vs.toArray}).get? h1.objs.size=some (ut "list" vs.toArray 0):=Qh _ rfl;refine ji (jS (wpAny_call_entry_kw slot_list_sort ⟨_,ho,rfl⟩ entry_list_sort ?_ (ksk_l1 _ _)));rw [ksk_t1];unfold ksk_tree;refine ji (listItems_at ho rfl ?_);refine ji (vg ho rfl ?_ (by rw [jC];omega) (Qu _));have hs1:=Heap.SameBut.update (h1.push {cls:=.type "list",data:=.seq vs.toArray}) h1.objs.size (Obj.mapSeq fun _=>(#[]:Array Value));obtain ⟨e1,ho1⟩:∃e1,((h1.push {cls:=.type "list",data:=.seq vs.toArray}).update h1.objs.size (Obj.mapSeq fun _=>(#[]:Array Value))).get? h1.objs.size=some (ut "list" #[] e1):=⟨_,vk ho fun _=>#[]⟩;refine ji (Qas ho1 rfl ?_);refine ji (vN ?_ (by show vs.length<=_;omega));refine ji (Qaa ?_ (Qu _));refine jS ?_
 have I3:Inv X Zb σ H {s with heap:=(h1.push {cls:=.type "list",data:=.seq vs.toArray}).update h1.objs.size (Obj.mapSeq fun _=>(#[]:Array Value)),toks:=tk}:=
  I2.alter (s:= {s with heap:=h1.push {cls:=.type "list",data:=.seq vs.toArray},toks:=tk}) Wa ho (fun v z=>by cases z) fun b u hb z=>(hs1.2 b hb).trans z
 generalize hg4:(h1.push {cls:=.type "list",data:=.seq vs.toArray}).update h1.objs.size (Obj.mapSeq fun _=>(#[]:Array Value))=h4 at *
 have I5:Inv X Zb σ H {s with heap:=(h4.push {cls:=.type "tuple",data:=.seq vs.toArray}).push {cls:=.type "list",data:=.seq ([]:List Value).toArray},toks:=tk}:=
  I3.kept (s:= {s with heap:=h4,toks:=tk}) (t':=tk) fun b o e=>Qe _ (Qe _ e)
 have ha5:((h4.push {cls:=.type "tuple",data:=.seq vs.toArray}).push {cls:=.type "list",data:=.seq ([]:List Value).toArray}).get? h1.objs.size=some (ut "list" #[] e1):=Qe _ (Qe _ ho1);have I4:Inv X Zb σ H {s with heap:=h4.push {cls:=.type "tuple",data:=.seq vs.toArray},toks:=tk}:=I3.kept (s:= {s with heap:=h4,toks:=tk}) (t':=tk) fun b o e=>Qe _ e;have ha4:(h4.push {cls:=.type "tuple",data:=.seq vs.toArray}).get? h1.objs.size=some (ut "list" #[] e1):=Qe _ ho1
 have Wk:Own X (Zb++[(h1.objs.size,ut "list" #[] e1)]) H (h4.push {cls:=.type "tuple",data:=.seq vs.toArray}).objs.size:=
  Own.fresh (I4.pin1 (s:= {s with heap:=h4.push {cls:=.type "tuple",data:=.seq vs.toArray},toks:=tk}) Wa ha4 fun v z=>by cases z) (Qf _)
 refine Zsd (s:= {s with heap:=(h4.push {cls:=.type "tuple",data:=.seq vs.toArray}).push {cls:=.type "list",data:=.seq ([]:List Value).toArray},toks:=tk}) (kV:=kL.map fun k=>V.str (T k)) rv (by rw [jn];omega) (by omega) I5 Wa ha5 Wk (Qh _ rfl) hcall fun s6 ks e I6 hk6 rk=>?_;have lk:=rk.length;rw [jn] at lk;refine Zv2 (O:=strKind.toKeyOrd) (key:=fun i=>kL.getD i []) (κ:=vS) rv (by omega) (by omega) (by rw [<-lv];exact hS) I6 Wa Wk hk6 (fun h2 Q' q'=>Zij rk (by omega) q') ?_ fun p s7 hp hu I7=>⟨_,rfl,jl ⟨_,rfl,.ref h1.objs.size,_,I7,rfl,?_⟩⟩
 ·have:=Zkb (s:=s6) (prog:=X.prog) (w:=X.w) (A:=X.A.in1.in1) rk;rw [show kL.length=vs.length by omega] at this;exact this
 ·refine h _ p.toList Wa.free (by unfold LS.Pm at hp;rw [lv];exact hp) ?_;have hps:=hp.size;refine Ue.mpr fun i j hi hj hij=>?_;have:=hu.1 i j (QQ hij) (by rw [Qp] at hj;omega);have st:=hu.2 i j hij (by rw [Qp] at hj;omega);have gi:LS.gt p i=p.toList[i]:=by unfold LS.gt;rw [QK];rw [Qp] at hi;simp [hi]
  have gj:LS.gt p j=p.toList[j]:=by unfold LS.gt;rw [QK];rw [Qp] at hj;simp [hj]
  rw [gi,gj] at this st;have this:decide (kL.getD p.toList[j] []<kL.getD p.toList[i] [])=false:=this;exact ⟨Uq.mp (of_decide_eq_false this),st⟩
end
def Zb5 (e:jk) (h:Heap):Prop:=∃o vs,h.get? e=some o/\o.data=.fields vs/\vs[2]?=some .none
theorem Zb5.push {e:jk} {h:Heap} (x:Zb5 e h) (o':Obj):Zb5 e (h.push o'):=by obtain ⟨o,vs,h1,h2,h3⟩:=x;exact ⟨o,vs,Qe _ h1,h2,h3⟩
theorem Zb5.upd {e a:jk} {h:Heap} (x:Zb5 e h) (f:Obj->Obj) (hf:∀o vs,o.data=.fields vs->vs[2]?=some .none->∃vs',(f o).data=.fields vs'/\vs'[2]?=some .none):Zb5 e (h.update a f):=by
 obtain ⟨o,vs,h1,h2,h3⟩:=x;by_cases q:a=e
 ·subst q;obtain ⟨vs',g1,g2⟩:=hf o vs h2 h3;exact ⟨f o,vs',Q3 f h1 (Obj.isFreed_of_fields g1),g1,g2⟩
 ·exact ⟨o,vs,(QW _ _ q).trans h1,h2,h3⟩
def Kp {α:Type} (t:Sem α):Prop:=∀(M:uL) (Γ:PySem.Ctx) (Q:α->Pos->jj->Prop) (E:Value->Pos->jj->Prop) (p:Pos) (s:jj) (e:jk),Zb5 e s.heap->Sem.wp M Γ t Q E p s->Sem.wp M Γ t (fun a p' s'=>Q a p' s'/\Zb5 e s'.heap) E p s
section
variable {α β:Type}
theorem Kp.pure (a:α):Kp (Pure.pure a:Sem α):=fun M Γ Q E p s e x h=>by
 rw [Sem.wp_pure'] at h ⊢
 exact ⟨h,x⟩
theorem Kp.bind {m:Sem α} {f:α->Sem β} (hm:Kp m) (hf:∀a,Kp (f a)):Kp (m >>=f):=fun M Γ Q E p s e x h=>by
 rw [Sem.wp_bind'] at h ⊢
 exact Sem.wp_mono M Γ m (fun a p' s' z=>hf a M Γ Q E p' s' e z.2 z.1) (fun _ _ _ z=>z) p s (hm M Γ _ E p s e x h)
theorem Kp.unsupported (w:String):Kp (PySem.unsupported w:Sem α):=fun M Γ Q E p s e x h=>by have:Sem.wp M Γ (Sem.unsupported w:Sem α) Q E p s:=h;rw [Sem.wp_unsupported] at this;exact this.elim
theorem Kp.load (a:jk):Kp (PySem.load a):=fun M Γ Q E p s e x h=>by
 have h:Sem.wp M Γ (Sem.load a none Sem.pure) Q E p s:=h;show Sem.wp M Γ (Sem.load a none Sem.pure) _ E p s
 rw [Sem.wp_load] at h ⊢
 obtain ⟨o,h1,h2⟩:=h;refine ⟨o,h1,?_⟩
 rw [Sem.wp_pure] at h2 ⊢
 exact ⟨h2,x⟩
theorem Kp.update (a:jk) (f:Obj->Obj) (hf:∀o vs,o.data=.fields vs->vs[2]?=some .none->∃vs',(f o).data=.fields vs'/\vs'[2]?=some .none):Kp (PySem.update a f):=fun M Γ Q E p s e x h=>by
 have h:Sem.wp M Γ (Sem.update a none f Sem.pure) Q E p s:=h;show Sem.wp M Γ (Sem.update a none f Sem.pure) _ E p s
 rw [Sem.wp_update] at h ⊢
 refine ⟨h.1,?_⟩;have h2:=h.2
 rw [Sem.wp_pure] at h2 ⊢
 exact ⟨h2,x.upd f hf⟩
theorem Kp.alloc (o:Obj):Kp (PySem.alloc o):=fun M Γ Q E p s e x h=>by
 have h:Sem.wp M Γ (Sem.alloc o Sem.pure) Q E p s:=h;show Sem.wp M Γ (Sem.alloc o Sem.pure) _ E p s
 rw [Sem.wp_alloc] at h ⊢
 rw [Sem.wp_pure] at h ⊢
 exact ⟨h,x.push o⟩
theorem Kp.stack:Kp PySem.stack:=fun M Γ Q E p s e x h=>⟨h,x⟩
theorem Kp.ite {c:Prop} [Decidable c] {a b:Sem α} (ha:Kp a) (hb:Kp b):Kp (if c then a else b):=by
 split
 ·exact ha
 ·exact hb
theorem Kp.fieldsOf (v:Value):Kp (PySem.fieldsOf v):=by
 unfold PySem.fieldsOf;split
 ·refine Kp.bind (Kp.load _) fun o=>?_;split
  ·exact Kp.pure _
  ·exact Kp.unsupported _
 ·exact Kp.unsupported _
theorem Kp.field (v:Value) (i:Nat):Kp (PySem.field v i):=by
 unfold PySem.field;refine Kp.bind (Kp.fieldsOf v) fun vs=>?_;split
 ·exact Kp.pure _
 ·exact Kp.unsupported _
theorem Kp.setField (v:Value) {i:Nat} (hi:i≠2) (x:Value):Kp (PySem.setField v i x):=by
 unfold PySem.setField;split
 ·unfold PySem.updateField;refine Kp.bind (Kp.load _) fun o=>?_;split
  ·refine Kp.ite (Kp.update _ _ fun o vs h1 h2=>⟨_,Obj.data_mapFields h1 _,?_⟩) (Kp.unsupported _);rw [Array.getElem?_setIfInBounds_ne hi];exact h2
  ·exact Kp.unsupported _
 ·exact Kp.unsupported _
theorem Kp.newFields (ty:String) (vs:List Value):Kp (PySem.newFields ty vs):=by
 unfold PySem.newFields PySem.newObj;dsimp only;have as:Kp (PySem.newObjAsIs (.type ty) (.fields vs.toArray)):=by unfold PySem.newObjAsIs;exact Kp.bind (Kp.alloc _) fun a=>Kp.pure _
 exact Kp.ite (Kp.bind (Kp.unsupported _) fun _=>as) as
theorem Kp.readyFrames:∀l:List Env,Kp (PySem.readyFrames l)
 |[]=>Kp.pure _
 |env::outer=>by
  unfold PySem.readyFrames;split
  ·refine Kp.bind (Kp.load _) fun o=>Kp.ite (Kp.pure _) (Kp.bind ?_ fun _=>Kp.bind ?_ fun _=>Kp.bind ?_ fun _=>Kp.readyFrames outer)
   ·unfold PySem.behindIsImport;exact Kp.ite (Kp.pure _) (Kp.ite (Kp.pure _) (Kp.bind (Kp.field _ _) fun _=>Kp.pure _))
   ·unfold PySem.keptBack;split
    ·exact Kp.ite (Kp.pure _) (Kp.bind (Kp.bind Kp.stack fun _=>Kp.pure _) fun _=>Kp.pure _)
    ·exact Kp.pure _
   ·exact Kp.update _ _ fun o vs h1 h2=>⟨vs,h1,h2⟩
  ·exact Kp.unsupported _
theorem Kp.frameOf (env:Env):Kp (PySem.frameOf env):=by
 unfold PySem.frameOf;refine Kp.bind (Kp.bind Kp.stack fun _=>Kp.pure _) fun l=>Kp.bind ?_ fun r=>?_
 ·unfold PySem.frameObject;split
  ·exact Kp.pure _
  ·exact Kp.bind (Kp.readyFrames _) fun _=>Kp.pure _
 ·split
  ·exact Kp.pure _
  ·exact Kp.unsupported _
theorem Kp.entryPlaceOf (f:jk) (b:Bool):Kp (PySem.entryPlaceOf f b):=by
 unfold PySem.entryPlaceOf;refine Kp.bind Kp.stack fun acts=>?_;split
 ·exact Kp.pure _
 ·exact Kp.pure _
theorem Kp.setFlight (v:Value) (f:Option jk):Kp (PySem.setFlight v f):=by unfold PySem.setFlight;refine Kp.bind (Kp.field _ _) fun tb=>Kp.ite (Kp.setField _ (by decide) _) (Kp.pure _)
theorem Kp.noteFrame (v:Value) (env:Env):Kp (PySem.noteFrame v env):=by
 unfold PySem.noteFrame;split
 ·rename_i f _;refine Kp.bind (Kp.field _ _) fun hd=>?_
  have J0:Kp (do PySem.setField v 1 (<-EntryCells.newEntry hd (<-PySem.frameOf env) .none (ua f) .none (<-PySem.entryPlaceOf f (hd !=.none)))):=
   Kp.bind (Kp.frameOf env) fun _=>Kp.bind (Kp.entryPlaceOf _ _) fun _=>Kp.bind (Kp.newFields _ _) fun _=>Kp.setField _ (by decide) _
  refine Kp.ite (Kp.bind (Kp.field _ _) fun _=>Kp.ite (Kp.pure _) (Kp.bind (Kp.setField _ (by decide) _) fun _=>J0)) J0
 ·exact Kp.unsupported _
theorem Kp.leaving (env:Env) (v:Value):Kp (PySem.leaving env v):=by unfold PySem.leaving;exact Kp.bind (Kp.noteFrame _ _) fun _=>Kp.setFlight _ _
theorem Kp.any {t:Sem α} (k:Kp t) {M:uL} {A:Around} {Q:α->jj->Prop} {E:Value->jj->Prop} {s:jj} {e:jk} (x:Zb5 e s.heap) (h:jo M A t Q E s):jo M A t (fun a s'=>Q a s'/\Zb5 e s'.heap) E s:=fun Γ p hΓ=>k M Γ _ _ p s e x (h Γ p hΓ)
end
def ZeD (base:Heap) (l:List Env) (e:jk) (cls a0:Value) (h:Heap):Prop:=Vh base l e cls a0 h/\Zb5 e h
section
variable {M:uL} {A:Around} {E:Value->jj->Prop} {s:jj} {base:Heap} {env:Env} {outer l:List Env} {L e:jk} {cls a0:Value} {Q:Unit->jj->Prop}
theorem Zjm (hfr:A.frames=some (env::outer)) (hf:env.frame=some L) (hfl:ZeD base (env::outer) e cls a0 s.heap)
 (hQ:∀h',ZeD base outer e cls a0 h'->s.heap.UpToSlots h'->Q () {s with heap:=h'}):jo M A (leaving env (.ref e)) Q E s:=by
 have w:=wpAny_leaves_onW (M:=M) (A:=A) (E:=E) (Q:=fun _ s'=>∃h',s'= {s with heap:=h'}/\Vh base outer e cls a0 h'/\s.heap.UpToSlots h') hfr hf hfl.1 fun h' x1 x2=>⟨h',rfl,x1,x2⟩;refine jU ((Kp.leaving env (.ref e)).any hfl.2 w) (fun a s' z=>?_) fun _ _ z=>z;obtain ⟨⟨h',rfl,x1,x2⟩,c⟩:=z;exact hQ h' ⟨x1,c⟩ x2
theorem Zhg {h:Heap} {args:List Value} (hfr:A.frames=some (env::outer)) (hf:env.frame=some L) (hkb:base.StaysIn h) (hl:h.FunFrames base (env::outer)) (hx:WU h s.heap e cls args)
 (hQ:∀h' t,ZeD base outer e cls (.ref t) h'->h'.TupAt t args->base.get? t=none->s.heap.UpToSlots h'->Q () {s with heap:=h'}):jo M A (leaving env (.ref e)) Q E s:=by
 have w:=wpAny_leaves_madeW (M:=M) (A:=A) (E:=E) (Q:=fun _ s'=>∃h' t,s'= {s with heap:=h'}/\Vh base outer e cls (.ref t) h'/\h'.TupAt t args/\base.get? t=none/\s.heap.UpToSlots h') hfr hf hkb hl hx fun h' t x1 x2 x3 x4=>⟨h',t,rfl,x1,x2,x3,x4⟩;have c0:Zb5 e s.heap:=by obtain ⟨t,h1,_⟩:=hx.there;exact ⟨_,_,h1,rfl,rfl⟩
 refine jU ((Kp.leaving env (.ref e)).any c0 w) (fun a s' z=>?_) fun _ _ z=>z;obtain ⟨⟨h',t,rfl,x1,x2,x3,x4⟩,c⟩:=z;exact hQ h' t ⟨x1,c⟩ x2 x3 x4
theorem ZlW (hfr:A.frames=some (env::outer)) (hf:env.frame=some L) (hfl:ZeD base (env::outer) e cls a0 s.heap)
 (hQ:∀h',WH base (env::outer) e cls a0 L h'/\Zb5 e h'->s.heap.UpToSlots h'->Q () {s with heap:=h'}):jo M A (noteFrame (.ref e) env) Q E s:=by
 have w:=wpAny_looks_onW (M:=M) (A:=A) (E:=E) (Q:=fun _ s'=>∃h',s'= {s with heap:=h'}/\WH base (env::outer) e cls a0 L h'/\s.heap.UpToSlots h') hfr hf hfl.1 fun h' x1 x2=>⟨h',rfl,x1,x2⟩;refine jU ((Kp.noteFrame (.ref e) env).any hfl.2 w) (fun a s' z=>?_) fun _ _ z=>z;obtain ⟨⟨h',rfl,x1,x2⟩,c⟩:=z;exact hQ h' ⟨x1,c⟩ x2
theorem Zw4 (hh:WH base l e cls a0 L s.heap/\Zb5 e s.heap) (hQ:∀h',ZeD base l e cls a0 h'->s.heap.UpToSlots h'->Q () {s with heap:=h'}):jo M A (setFlight (.ref e) none) Q E s:=by have w:=wpAny_landsW (M:=M) (A:=A) (E:=E) (Q:=fun _ s'=>∃h',s'= {s with heap:=h'}/\Vh base l e cls a0 h'/\s.heap.UpToSlots h') hh.1 fun h' x1 x2=>⟨h',rfl,x1,x2⟩;refine jU ((Kp.setFlight (.ref e) none).any hh.2 w) (fun a s' z=>?_) fun _ _ z=>z;obtain ⟨⟨h',rfl,x1,x2⟩,c⟩:=z;exact hQ h' ⟨x1,c⟩ x2
theorem Zhf (hh:ZeD base l e cls a0 s.heap) (hQ:∀h',ZeD base l e cls a0 h'->s.heap.UpToSlots h'->Q () {s with heap:=h'}):jo M A (setFlight (.ref e) none) Q E s:=by have w:=lands_againW (M:=M) (A:=A) (E:=E) (Q:=fun _ s'=>∃h',s'= {s with heap:=h'}/\Vh base l e cls a0 h'/\s.heap.UpToSlots h') hh.1 fun h' x1 x2=>⟨h',rfl,x1,x2⟩;refine jU ((Kp.setFlight (.ref e) none).any hh.2 w) (fun a s' z=>?_) fun _ _ z=>z;obtain ⟨⟨h',rfl,x1,x2⟩,c⟩:=z;exact hQ h' ⟨x1,c⟩ x2
end
def CX1 (P:jw) (w:jB):CXT:=fun outer H s E e s'=>∃(a C:jk) (a0:Value) (B:Heap) (H':Hp),e=.ref a/\s'.os=s.os/\vq s'.gens/\Un (frs outer) [] H H' s.heap s'.heap/\HOk P w H' B/\
 (∀b o,s.heap.get? b=some o->H b=none->b∉frs outer->B.get? b=some o)/\(∀b o,s.heap.get? b=some o->b∉frs outer->∃o',B.get? b=some o')/\ZeD B outer a (.ref C) a0 s'.heap/\E (.ref C) none H'
theorem Zop {P:jw} {w:jB} {outer:List Env} {H:Hp} {s:jj} {e:Value} {s':jj} (h:CX1 P w outer H s (fun _ _ _=>False) e s'):False:=by obtain ⟨_,_,_,_,_,_,_,_,_,_,_,_,_,q⟩:=h;exact q
theorem Zrs {l:List Env} {env:Env} {b:jk} (h:env∈l) (hf:env.frame=some b):b∈frs l:=UY.mpr ⟨env,h,hf⟩
structure Tk (X:Cx) (F:St->XK):Prop where
 pass:∀(Zb:List (jk×Obj)) (σ:St) (H:Hp) (s:jj) (e:Value) (s':jj),Inv X Zb σ H s->CX1 X.prog X.w X.stack H s (F σ) e s'->X.xe e s'
 own:u5 (jr X.prog X.w) X.A X.env X.xe
structure TkN (X:Cx) (F:St->XK):Prop extends Tk X F where
 new:∀(Zb:List (jk×Obj)) (σ:St) (H:Hp) (s:jj) (h':Heap) (a C:jk) (args:List Value),Inv X Zb σ H s->WU s.heap h' a (.ref C) args->F σ (.ref C) none H->X.xe (.ref a) {s with heap:=h'}
section
variable {P:jw} {w:jB} {K:Qa} {mg:Str->Option Value} {base:Heap} {N:List Str} {qual:Str} {scope:Scope} {f:jk} {cdv:Value} {A:Around} {outer:List Env} {s:jj} {H:Hp} {E:XK}
theorem Z8:TkN (Zau (CX1 P w) P w K mg base N qual scope f cdv A outer s H E) (fun _=>E):=by
 refine ⟨⟨fun Zb σ H1 s1 e s2 I h=>?_,PassesOwn.leaving⟩,fun Zb σ H1 s1 h' a C args I hm hE=>?_⟩
 ·obtain ⟨a,C,a0,B,H',rfl,h1,h2,h3,h4,h5,h5',h6,h7⟩:=h;have hfr:(A.deeper (ul qual scope s.heap.objs.size f cdv)).frames=some (ul qual scope s.heap.objs.size f cdv::outer):=I.ok.frames;refine Zjm hfr rfl h6 fun h3' hfl hup=>?_;have nL:∀b o,s.heap.get? b=some o->b≠s.heap.objs.size:=fun b o e=>Qm (Qj e)
  have inB:∀b o,s.heap.get? b=some o->H b=none->b∉frs outer->B.get? b=some o:=fun b o e n hb=>by
   refine h5 b o (I.base.keep b o e n hb (by simp [Zau])) (I.base.free b o e n (by simp [Zau])) fun z=>?_;rcases jK.mp (I.stkSub b z) with z|z
   ·exact nL b o e z
   ·exact hb z
  have thB:∀b o,s.heap.get? b=some o->b∉frs outer->∃o',B.get? b=some o':=fun b o e hb=>by
   obtain ⟨o1,e1⟩:=I.base.there b o e (by simp [Zau]);refine h5' b o1 e1 fun z=>?_;rcases jK.mp (I.stkSub b z) with z|z
   ·exact nL b o e z
   ·exact hb z
  have frame:∀b o,s.heap.get? b=some o->b∈frs outer->∃sl,h3'.get? b=some {o with slots:=sl}:=fun b o e hb=>by
   have n:H b=none:=I.ok.frf b hb;obtain ⟨sl,e1⟩:=I.base.slot b o e n hb (by simp [Zau]);obtain ⟨sl2,e2⟩:=h3.any e1 (I.base.free b o e n (by simp [Zau])) (by simp);have hd:∀vs,o.data≠ .fields vs:=by obtain ⟨_,o',ho',hd'⟩:=I.ok.funs.mem hb;have ho':s.heap.get? b=some o':=ho';rw [e] at ho';cases ho';exact hd'
   obtain ⟨sl3,e3⟩:=hup b _ e2 hd;exact ⟨sl3,e3⟩
  refine ⟨a,C,a0,B,H',rfl,h1.trans I.os,h2,⟨fun b o e n hb _=>hfl.1.1 b o (inB b o e n hb),fun b o e n hb _=>frame b o e hb,fun b o e n _=>?_,fun b o e _=>?_,fun b xs e=>h3.tups b xs (I.base.tups b xs e),fun b o u e=>h3.frzs b o u (I.base.frzs b o u e),fun b ps e=>?_⟩,h4,inB,thB,hfl,h7⟩
  ·obtain ⟨o',e1⟩:=I.base.there b o e (by simp [Zau]);exact h3.free b o' e1 (I.base.free b o e n (by simp [Zau])) (by simp)
  ·by_cases hb:b∈frs outer
   ·obtain ⟨sl,e1⟩:=frame b o e hb;exact ⟨_,e1⟩
   ·obtain ⟨o',e1⟩:=thB b o e hb;exact ⟨o',hfl.1.1 b o' e1⟩
  ·obtain ⟨m1,e1⟩:=I.base.tbls b ps e;obtain ⟨m2,e2⟩:=h3.tbls b _ e1;exact ⟨m1++m2,by rw [e2,WC]⟩
 ·have hfr:(A.deeper (ul qual scope s.heap.objs.size f cdv)).frames=some (ul qual scope s.heap.objs.size f cdv::outer):=I.ok.frames;have hin:∀env∈(ul qual scope s.heap.objs.size f cdv::outer),∀b,env.frame=some b->b∈frs (ul qual scope s.heap.objs.size f cdv::outer):=fun env he b hb=>Zrs he hb;have hfun:s1.heap.FunFrames (Qau s1.heap (frs (ul qual scope s.heap.objs.size f cdv::outer))) (ul qual scope s.heap.objs.size f cdv::outer):=PySem.W.funFrames_hide I.stack hin;refine Zhg hfr rfl (fun b o e=>of_hideAll _ e) hfun hm fun h2 t hfl htup ht hup=>?_;have nL:∀b o,s.heap.get? b=some o->b≠s.heap.objs.size:=fun b o e=>Qm (Qj e)
  have notf:∀b o,s.heap.get? b=some o->b∉frs outer->b∉frs (ul qual scope s.heap.objs.size f cdv::outer):=fun b o e hb z=>by
   rcases jK.mp (I.stkSub b z) with z|z
   ·exact nL b o e z
   ·exact hb z
  have toB:∀b o,s1.heap.get? b=some o->b∉frs (ul qual scope s.heap.objs.size f cdv::outer)->(Qau s1.heap (frs (ul qual scope s.heap.objs.size f cdv::outer))).get? b=some o:=fun b o e hb=>hideAll_get _ e hb;have inB:∀b o,s.heap.get? b=some o->H b=none->b∉frs outer->(Qau s1.heap (frs (ul qual scope s.heap.objs.size f cdv::outer))).get? b=some o:=fun b o e n hb=>toB b o (I.base.keep b o e n hb (by simp [Zau])) (notf b o e hb);have thB:∀b o,s.heap.get? b=some o->b∉frs outer->∃o',(Qau s1.heap (frs (ul qual scope s.heap.objs.size f cdv::outer))).get? b=some o':=fun b o e hb=>by obtain ⟨o1,e1⟩:=I.base.there b o e (by simp [Zau]);exact ⟨o1,toB b o1 e1 (notf b o e hb)⟩
  have frame:∀b o,s.heap.get? b=some o->b∈frs outer->∃sl,h2.get? b=some {o with slots:=sl}:=fun b o e hb=>by
   have n:H b=none:=I.ok.frf b hb;obtain ⟨sl,e1⟩:=I.base.slot b o e n hb (by simp [Zau]);have hd:∀vs,o.data≠ .fields vs:=by obtain ⟨_,o',ho',hd'⟩:=I.ok.funs.mem hb;have ho':s.heap.get? b=some o':=ho';rw [e] at ho';cases ho';exact hd'
   obtain ⟨sl3,e3⟩:=hup b _ (hm.keeps b _ e1) hd;exact ⟨sl3,e3⟩
  have hokB:HOk P w H1 (Qau s1.heap (frs (ul qual scope s.heap.objs.size f cdv::outer))):=fun b o e=>by
   refine (I.hok b o e).stay (fun d u hd z=>toB d u z fun y=>?_) (fun _ z=>z) fun _ _ z=>z;have:=I.stkFree d y;rcases hd with rfl|hd
   ·rw [e] at this;cases this
   ·rw [hd] at this;cases this
  refine ⟨a,C,.ref t,_,H1,rfl,I.os,I.bare,⟨fun b o e n hb _=>hfl.1.1 b o (inB b o e n hb),fun b o e n hb _=>frame b o e hb,fun b o e n _=>I.base.free b o e n (by simp [Zau]),fun b o e _=>?_,I.base.tups,I.base.frzs,I.base.tbls⟩,hokB,inB,thB,hfl,hE⟩;by_cases hb:b∈frs outer
  ·obtain ⟨sl,e1⟩:=frame b o e hb;exact ⟨_,e1⟩
  ·obtain ⟨o',e1⟩:=thB b o e hb;exact ⟨o',hfl.1.1 b o' e1⟩
end
abbrev VE:List Value:=[.type "ValueError",.type "Exception",.type "BaseException",.type "object"]
def ZaC (K:Qa) (C:jk):List Value:=match K.lookup C with
 |some ⟨_,_,.cls cd,_⟩=>cd.mro
 |_=>[]
def ExC (K:Qa) (C:jk):Prop:=QaD K C VE "ValueError.__new__"=true
theorem Zhb {K:Qa} {h:Heap} {C:jk} (X:K.In h) (q:ExC K C):∃bm N nm qn bs hdct sn sub ab col dd k0 k1 k2 k3 k5 mN,h.get? C=some (excClassObj nm qn C N bs bm hdct sn sub ab col dd k0 k1 k2 k3 k5 "ValueError.__new__")/\h.Ns N mN/\mN "__init__"=none/\OwnTail h VE bm/\ZaC K C=.ref C::bm:=by
 unfold ExC QaD at q;split at q
 ·rename_i dd cd sl ho;split at q
  ·rename_i C' bm k0 k1 k2 k3 n k5 hm hs;simp only [QM,beq_iff_eq,QR] at q;obtain ⟨⟨⟨⟨⟨rfl,rfl⟩,hdel⟩,ht⟩,hok⟩,hni⟩:=q;obtain ⟨nm,bs,mro,ns,qn,hd,sn,sub,ab,col,del⟩:=cd;dsimp only at hm hdel hok hni;subst hm hdel;have hsl:sl=#[k0,k1,k2,k3,some (.builtin "ValueError.__new__"),k5]:=by obtain ⟨l⟩:=sl;simp only at hs;rw [hs]
   subst hsl;exact ⟨bm,ns,nm,qn,bs,hd,sn,sub,ab,col,dd,k0,k1,k2,k3,k5,_,X _ _ ho,.of_isNs (PySem.W.isNs_of_in X hok),PySem.W.nsMap_none_of_in X hok hni,PySem.W.tail_of_in X ht,by unfold ZaC;rw [ho]⟩
  ·cases q
 ·cases q
section
variable {X:Cx} {F:St->XK} {x:Str} {C:jk} {e:jF} {es:List jF} {t:TA} {np cpos pos:Pos}
def ZhM (F:St->XK) (C:jk) (t:TA):TS:=fun _ σ H=>t σ H fun vs H1=>vs.length<=1000/\F σ (.ref C) none H1
theorem Jq (T:TkN X F) (hc:X.calm=true) (q:ExC X.K C) (hg:Gl X x) (hm:X.mg x=some (.ref C)) (ha:PA X (e::es) t) (hdb:(x==("__debug__":Str))=false:=by decide)
 (he:jx (e::es) X.env=(false,eval e X.env)::jx es X.env:=by rfl) (hpl:(uu cpos (jx es X.env)).any (·.1)=false:=by rfl):PS X (.Raise (some (.Call (.Name x np) (e::es) [] cpos)) none pos) (ZhM F C t):=by
 intro Zb s σ H D I h;obtain ⟨bm,N,nm,qn,bs,hdct,sn,sub,ab,col,dd,k0,k1,k2,k3,k5,mN,hC,hN,hni,TL,_⟩:=Zhb I.mod.kin q;refine wpAny_Raise_call_subT (C:=C) (nm:=nm) (q:=qn) (N:=N) (bs:=bs) (bm:=bm) (hdct:=hdct) (sn:=sn) (sub:=sub) (ab:=ab) (col:=col) (dd:=dd) (k0:=k0) (k1:=k1) (k2:=k2) (k3:=k3) (k5:=k5) PySem.F.excBase_ValueError (mN:=mN) (TL.hasType PySem.F.excBase_ValueError.hasBase) (I.ok.hd hc) ?_ hni ?_
 ·rw [he];show (false || (uu cpos (jx es X.env)).any (·.1))=false;rw [hpl];rfl
 ·refine Zap I hg hm ⟨rfl,?_⟩ hdb;have hp:=ha cpos Zb s σ H _ I h
  rw [he] at hp ⊢
  have hsl:sizeLine=16777216:=jt;refine Calls.evalArgs_plain (thn hp fun us s2 ⟨vs,H2,I2,rv,hl,hf⟩=>⟨rfl,?_,I2.bk _ _ hC,hN.keeps I2.bk,TL.keeps I2.bk,fun h' a hm=>T.new Zb σ H2 s2 h' a C us I2 hm hf⟩);have:=rv.length;show us.length<=sizeLine;omega
end
section
variable {X:Cx} {pos:Pos}
def JL (i:Int):List Nat:=L (toString i:Str)
end
structure FnX (P:jw) (w:jB) (K:Qa) (mg:Str->Option Value) (base:Heap) (k:Nat) (x:Str) (ps:List Str) (sp:Sp):Prop where
 ex:∃f fd,Z0 P w K mg base (CX1 P w) k f fd ps sp/\mg x=some (.ref f)/\jI K (.ref f)=true/\Zaq K fd ps []
section
variable {P:jw} {w:jB} {K:Qa} {mg:Str->Option Value} {base:Heap}
theorem Fun.okX {x qual:Str} {st:Stmt} {f:jk} {fd:j7} {N ps:List Str} {k:Nat} {sp:Sp} (F:Fun K x qual st f fd) (S:Zw N ps (Zf st)) (len:∀vs H Q E,sp vs H Q E->vs.length=ps.length)
 (hbody:∀(cdv:Value) (A:Around) (outer:List Env) (s:jj) (H:Hp) (vs:List V) (Q:VK) (E:XK),Ye k (A.deeper (ul qual (Zf st) s.heap.objs.size f cdv))->sp vs H Q E->
  ∃t,PSs (Zau (CX1 P w) P w K mg base N qual (Zf st) f cdv A outer s H E) (Zt st) t/\t {nx:=fun _ H'=>Q .non H',rt:=Q} (Zaa N vs) H):Z0 P w K mg base (CX1 P w) (k+1) f fd ps sp:=by
 obtain ⟨oc,od,kV,doc,pm,an,cdv,ct,osl,rfl,lk,hcd⟩:=F.ex;exact Zh9 lk hcd S len fun A outer s H vs Q E hr hsp=>hbody cdv A outer s H vs Q E hr hsp
end
section
variable {X:Cx} {F:St->XK} {k:Nat} {x:Str} {ps:List Str} {sp:Sp} {p pos:Pos} {e:jF} {es:List jF} {t:TA}
def Zsr (F:St->XK) (sp:Sp) (t:TA):TE:=fun σ H Q=>t σ H fun vs H1=>sp vs H1 Q (F σ)
theorem Zbs (T:Tk X F) (G:FnX X.prog X.w X.K X.mg X.base k x ps sp) (hr:Ye k X.A) (ha:PA X (e::es) t) (hg:Gl X x:=by rfl) (hdb:(x==("__debug__":Str))=false:=by decide)
 (he:jx (e::es) X.env=(false,eval e X.env)::jx es X.env:=by rfl) (hpl:(uu pos (jx es X.env)).any (·.1)=false:=by rfl):PE X (.Call (.Name x p) (e::es) [] pos) (Zsr F sp t):=by
 obtain ⟨f,fd,G,hm,hk,hb⟩:=G.ex;intro Zb s σ H Q I h;refine j0 (Zap I hg hm ?_ hdb);refine ve (h₀:=X.base) I.ok.mod.kin hk (thn (ha pos Zb s σ H _ I h) fun us s1 ⟨vs,H1,I1,r,q⟩=>⟨I1.kIn,?_⟩) he hpl;have hl:us.length=ps.length:=by rw [<-r.length];exact G.len _ _ _ _ q
 refine uN (ub (G.run X.A X.stack s1 H1 ⟨us,[]⟩ us vs Q (F σ) hr I1.env0 (by simpa using hb s1 us I1.kIn (by simpa using hl)) r q) fun r s' hq=>?_)
 cases r with
 |error e=>exact T.pass Zb σ H1 s1 e s' I1 hq
 |ok fl=>
  cases fl with
  |ret u=>exact I1.after hq
  |next=>exact False.elim hq
  |brk=>exact False.elim hq
  |cont=>exact False.elim hq
end
structure ZdT (X:Cx) (Zb:List (jk×Obj)) (σ:St) (H1:Hp) (s1:jj) (a C:jk) (a0:Value) (B:Heap) (H:Hp) (s2:jj):Prop where
 inv1:Inv X Zb σ H1 s1
 os:s2.os=s1.os
 bare:vq s2.gens
 un:Un (frs X.stack) [] H1 H s1.heap s2.heap
 hokB:HOk X.prog X.w H B
 keepB:∀b o,s1.heap.get? b=some o->H1 b=none->b∉frs X.stack->B.get? b=some o
 thB:∀b o,s1.heap.get? b=some o->b∉frs X.stack->∃o',B.get? b=some o'
def ZgX (a C:jk):HO:=.ext fun h=>∃o vs,h.get? a=some o/\o.cls=.ref C/\o.data=.fields vs/\vs[2]?=some .none
section
variable {X:Cx} {Zb:List (jk×Obj)} {σ:St} {H1 H:Hp} {s1 s2:jj} {a C:jk} {a0:Value} {B h:Heap}
theorem ZdT.inv (c:ZdT X Zb σ H1 s1 a C a0 B H s2) (hfl:ZeD B X.stack a (.ref C) a0 h) (hup:s2.heap.UpToSlots h):Inv X Zb σ H {s2 with heap:=h}:=by
 have I:=c.inv1
 have fr:∀b o,s1.heap.get? b=some o->b∈frs X.stack->∃sl,h.get? b=some {o with slots:=sl}:=fun b o e hb=>by
  obtain ⟨sl,e1⟩:=c.un.any e (I.stkFree b hb) (by simp);have hd:∀vs,o.data≠ .fields vs:=by obtain ⟨_,o',ho',hd'⟩:=I.stack.mem hb;rw [e] at ho';cases ho';exact hd'
  obtain ⟨sl2,e2⟩:=hup b _ e1 hd;exact ⟨sl2,e2⟩
 refine I.call' (s':= {s2 with heap:=h}) (ch:=[]) c.os ⟨fun b o e n hb _=>hfl.1.1 b o (c.keepB b o e n hb),fun b o e n hb _=>fr b o e hb,c.un.free,fun b o e _=>?_,c.un.tups,c.un.frzs,c.un.tbls⟩ (c.hokB.kept hfl.1.1) c.bare fun b z=>absurd z (by simp);by_cases hb:b∈frs X.stack
 ·obtain ⟨sl,e1⟩:=fr b o e hb;exact ⟨_,e1⟩
 ·obtain ⟨o',e1⟩:=c.thB b o e hb;exact ⟨o',hfl.1.1 b o' e1⟩
theorem Inv.trackG {s:jj} (I:Inv X Zb σ H s) {D:jk} {o:HO} (n0:X.s₀.heap.get? D=none) (free:H D=none) (nl:D≠X.env.locals) (hc:∀x c,X.env.cells.lookup x=some c->c≠D) (np:∀p∈X.pn++Zb,p.1≠D) (new:zy X.prog X.w (upd H D o) s.heap D o):Inv X Zb σ (upd H D o) s:=by
 have ne:∀b u,H b=some u->b≠D:=fun b u e=>Zk e free;refine ⟨I.ok,I.os,I.bare,⟨I.base.keep,I.base.slot,fun b u e n hx=>?_,I.base.there,fun b xs e=>?_,fun b u v e=>?_,fun b ps e=>?_⟩,I.loc,I.cell,?_,fun x c e=>?_,fun p hp=>?_,fun b u e=>?_,I.len⟩
 ·have hb:b≠D:=by rintro rfl;rw [n0] at e;cases e
  rw [Zj hb];exact I.base.free b u e n hx
 ·have:=I.base.tups b xs e;rw [Zj (ne b _ this)];exact this
 ·have:=I.base.frzs b u v e;rw [Zj (ne b _ this)];exact this
 ·obtain ⟨m,z⟩:=I.base.tbls b ps e;exact ⟨m,by rw [Zj (ne b _ z)];exact z⟩
 ·rw [Zj (Ne.symm nl)];exact I.free
 ·rw [Zj (hc x c e)];exact I.freeC x c e
 ·obtain ⟨a1,a2,a3⟩:=I.pin p hp;exact ⟨a1,by rw [Zj (np p hp)];exact a2,a3⟩
 ·by_cases hb:b=D
  ·subst hb;rw [Zh] at e;cases e;exact new
  ·rw [Zj hb] at e;refine (I.hok b u e).stay (fun _ _ _ z=>z) (fun d z=>?_) fun d xs z=>?_
   ·rw [Zj (ne d _ z)];exact z
   ·rw [Zj (ne d _ z)];exact z
theorem ZdT.held (hex:X.ex=[]) (c:ZdT X Zb σ H1 s1 a C a0 B H s2) (hfl:ZeD B X.stack a (.ref C) a0 h) (hup:s2.heap.UpToSlots h):H a=none/\Inv X Zb σ (upd H a (ZgX a C)) {s2 with heap:=h}:=by
 have I:=c.inv hfl hup;obtain ⟨oe,vs,T,oT,ts,g1,⟨g2,_⟩,g3,_⟩:=hfl.1.2.2.2;have g4:vs[2]?=some Qq:=by obtain ⟨o2,vs2,k1,k2,k3⟩:=hfl.2;rw [g1] at k1;cases k1;rw [g3] at k2;cases k2;exact k3
 have hBa:B.get? a=none:=hfl.1.2.1
 have hHa:H a=none:=by
  cases q:H a with
  |none=>rfl
  |some o=>
   have ok:=c.hokB a o q;have l:=ok.lt
   have ex:∃o',B.get? a=some o':=by
    cases o with
    |lst xs=>obtain ⟨_,_,_,_,e⟩:=ok;exact ⟨_,e⟩
    |tup xs=>obtain ⟨_,_,_,o',e,_⟩:=ok;exact ⟨_,e⟩
    |dK kvs=>obtain ⟨_,_,_,_,o',_,_,e,_⟩:=ok;exact ⟨_,e⟩
    |dT kvs=>exact False.elim ok
    |set S n=>obtain ⟨o',_,_,_,e,_⟩:=ok;exact ⟨_,e⟩
    |ins C dx fs=>obtain ⟨_,_,_,e,_⟩:=ok;exact ⟨_,e⟩
    |own y=>exact ok
    |xd fs=>obtain ⟨_,⟨_,_,_,e,_⟩,_⟩:=ok;exact ⟨_,e⟩
    |rng lo hi=>obtain ⟨_,_,_,e⟩:=ok;exact ⟨_,e⟩
    |frz ob u=>obtain ⟨e,_⟩:=ok;exact ⟨_,e⟩
    |tbl ps=>exact ⟨_,show B.get? a=some _ from ok⟩
    |met f y=>exact ⟨_,show B.get? a=some _ from ok⟩
    |ext φ=>obtain ⟨_,e,_⟩:=ok;exact e
   obtain ⟨o',e⟩:=ex;rw [hBa] at e;cases e
 have nstk:a∉frs X.stack:=fun hb=>by obtain ⟨_,o',ho',hd'⟩:=hfl.1.2.2.1.mem hb;rw [g1] at ho';cases ho';exact hd' vs g3
 have ns1:s1.heap.get? a=none:=by
  cases q:s1.heap.get? a with
  |none=>rfl
  |some o=>
   obtain ⟨o',e⟩:=c.thB a o q nstk;rw [hBa] at e;cases e
 have ns0:X.s₀.heap.get? a=none:=by
  cases q:X.s₀.heap.get? a with
  |none=>rfl
  |some o=>
   obtain ⟨o',e⟩:=c.inv1.base.there a o q (by rw [hex];simp);rw [ns1] at e;cases e
 refine ⟨hHa,I.trackG ns0 hHa (fun z=>?_) (I.cellne g1 fun v z=>by rw [g3] at z;cases z) (fun p hp z=>?_) ⟨⟨oe,vs,g1,g2,g3,g4⟩,⟨oe,g1⟩,fun h1 h2 ⟨o,ws,e1,e2,e3⟩ k=>⟨o,ws,k o e1,e2,e3⟩⟩⟩
 ·obtain ⟨m,⟨o,es,ep,ho,hd,_⟩,_⟩:=I.loc;have ho:h.get? X.env.locals=some o:=ho;rw [<-z,g1] at ho;cases ho;rw [g3] at hd;cases hd
 ·have:=(c.inv1.pin p hp).1;rw [z,ns1] at this;cases this
end
def cxH (X:Cx) (a:jk) (E:Value->jj->Prop):Cx:= {X with A:=X.A.mark (some (.ref a)),calm:=false,xe:=E}
section
variable {X:Cx} {Zb:List (jk×Obj)} {σ:St} {H:Hp} {s:jj} {a:jk} {E:Value->jj->Prop}
theorem Inv.marked (I:Inv X Zb σ H s) (a:jk) (E:Value->jj->Prop):Inv (cxH X a E) Zb σ H s:=
 ⟨⟨I.ok.mod,I.ok.kind,I.ok.glob,I.ok.blt,I.ok.above,I.ok.inj,I.ok.has,I.ok.cab,fun z=>absurd (show false=true from z) Qg,I.ok.frames,I.ok.stk,I.ok.exf,I.ok.bs,I.ok.bsz,I.ok.noex,I.ok.exfs,I.ok.funs,I.ok.frf⟩,I.os,I.bare,I.base,I.loc,I.cell,I.free,I.freeC,I.pin,I.hok,I.len⟩
theorem Inv.unmarked (hd:X.calm=true->X.A.handled=none) (I:Inv (cxH X a E) Zb σ H s):Inv X Zb σ H s:=
 ⟨⟨I.ok.mod,I.ok.kind,I.ok.glob,I.ok.blt,I.ok.above,I.ok.inj,I.ok.has,I.ok.cab,hd,I.ok.frames,I.ok.stk,I.ok.exf,I.ok.bs,I.ok.bsz,I.ok.noex,I.ok.exfs,I.ok.funs,I.ok.frf⟩,I.os,I.bare,I.base,I.loc,I.cell,I.free,I.freeC,I.pin,I.hok,I.len⟩
theorem Zis {M:uL} {A:Around} {E:Value->jj->Prop} {K:Qa} {C C0 e:jk} {oe:Obj} {Q:Bool->jj->Prop} (KX:K.In s.heap) (hC:ExC K C) (hC0:ExC K C0) (he:s.heap.get? e=some oe) (hcls:oe.cls=.ref C) (hq:Q ((ZaC K C).contains (.ref C0)) s):jo M A (excMatches (.ref e) (.ref C0)) Q E s:=by
 obtain ⟨bm,N,nm,qn,bs,hdct,sn,sub,ab,col,dd,k0,k1,k2,k3,k5,mN,g,_,_,TL,em⟩:=Zhb KX hC;obtain ⟨bm0,N0,nm0,qn0,bs0,hdct0,sn0,sub0,ab0,col0,dd0,k00,k10,k20,k30,k50,mN0,g0,_,_,TL0,em0⟩:=Zhb KX hC0;have hb0:(Value.ref C0::bm0).contains (.type "BaseException")=true:=by rw [List.contains_cons,TL0.hasType PySem.F.excBase_ValueError.hasBase,W9]
 rw [em] at hq;obtain ⟨hp,gn,d,tk,os⟩:=s;unfold excMatches;have nt:=tc_notTuple
 repeat (first
  |(with_reducible refine wpAny_loadPart_at he ?_
    rw [hcls])
  |with_reducible refine wpAny_loadPart_at g0 ?_
  |(with_reducible refine wpAny_isSubtype_exc g0 ?_
    rw [hb0])
  |with_reducible refine wpAny_isSubtype_exc g ?_
  |wp_step)
 cases hz:(Value.ref C::bm).contains (Value.ref C0)
 all_goals (rw [hz] at hq;wp_walk;exact hq)
end
def PHs (X:Cx) (hs:List vB) (th:ZbL->St->XK):Prop:=
 ∀(Zb:List (jk×Obj)) (σ:St) (H1:Hp) (s1:jj) (a C:jk) (a0:Value) (B:Heap) (H:Hp) (s2:jj) (h:Heap) (D:ZbL),ZdT X Zb σ H1 s1 a C a0 B H s2->ZeD B X.stack a (.ref C) a0 h->s2.heap.UpToSlots h->th D σ (.ref C) none H->
  jo (jr X.prog X.w) X.A (handleBy (.ref a) X.env hs) (SP X Zb D) X.xe {s2 with heap:=h}
section
variable {X:Cx} {x n:Str} {C0:jk} {i:Nat} {np pos:Pos} {b₀:Stmt} {suite:List Stmt} {J0:List vB} {ts:TS} {th:ZbL->St->XK}
theorem ZyJ:PHs X [] (fun _ _ _ _ _=>False):=fun _ _ _ _ _ _ _ _ _ _ _ _ _ _ _ z=>z.elim
theorem SP.unmarked {X:Cx} {Zb:List (jk×Obj)} {a:jk} {E:Value->jj->Prop} {D:ZbL} {f:Flow} {s':jj} (hd:X.calm=true->X.A.handled=none) (h:SP (cxH X a E) Zb D f s'):SP X Zb D f s':=by
 cases f with
 |next=>obtain ⟨σ',H',I,q⟩:=h;exact ⟨σ',H',I.unmarked hd,q⟩
 |brk=>obtain ⟨σ',H',I,q⟩:=h;exact ⟨σ',H',I.unmarked hd,q⟩
 |cont=>obtain ⟨σ',H',I,q⟩:=h;exact ⟨σ',H',I.unmarked hd,q⟩
 |ret u=>obtain ⟨v,σ',H',I,r,q⟩:=h;exact ⟨v,σ',H',I.unmarked hd,r,q⟩
def unb (i:Nat) (D:ZbL):ZbL:= {nx:=fun σ H=>D.nx (σ.set i none) H,rt:=D.rt,bk:=fun σ H=>D.bk (σ.set i none) H,ct:=fun σ H=>D.ct (σ.set i none) H}
theorem ZeQ {Zb:List (jk×Obj)} {σ:St} {H:Hp} {s:jj} {M:uL} {A:Around} {E:Value->jj->Prop} {Q:Unit->jj->Prop} (I:Inv X Zb σ H s) (hN:X.N.Nodup) (hi:X.N[i]?=some n) (hk:X.env.kindOf n=some .local)
 (h:∀s',Inv X Zb (σ.set i none) H s'->Q () s'):jo M A (do bindName X.env n .none;unbindBehindTheSuite X.env n pos) Q E s:=by
 obtain ⟨m,hn,hl⟩:=id I.loc;refine wpAny_nameGoes_keeps hk hn (by rw [I.ok.kind];rfl) fun h' v hn' hs=>h _ ?_;have hiσ:i<σ.length:=by rw [I.len];exact (Qo.mp hi).1
 obtain ⟨oL,es,ep,hoL,hdL,_⟩:=id hn;refine ⟨I.ok,I.os,I.bare,⟨fun b o e nn hb hx=>?_,fun b o e nn hb hx=>?_,I.base.free,fun b o e hx=>?_,I.base.tups,I.base.frzs,I.base.tbls⟩,⟨_,hn',fun j y v' e1 e2 e3=>?_⟩,fun y c e=>?_,I.free,I.freeC,fun p hp=>?_,fun b ob e=>?_,by simpa using I.len⟩
 ·exact (hs.2 b (Qm (Ql (Qj e) I.ok.above))).trans (I.base.keep b o e nn hb hx)
 ·obtain ⟨sl,e1⟩:=I.base.slot b o e nn hb hx;exact ⟨sl,(hs.2 b (Qm (Ql (Qj e) I.ok.above))).trans e1⟩
 ·obtain ⟨o',e1⟩:=I.base.there b o e hx;exact ⟨o',(hs.2 b (Qm (Ql (Qj e) I.ok.above))).trans e1⟩
 ·have hj:j≠i:=by rintro rfl;rw [Vg hiσ] at e2;cases e2
  rw [Ui (Ne.symm hj)] at e2;obtain ⟨u',r',q⟩:=hl j y v' e1 e2 e3;refine ⟨u',r',?_⟩;rcases q with ⟨k,e⟩|⟨k,c,e,z⟩
  ·refine .inl ⟨k,?_⟩;have:y≠n:=fun e=>hj (ZfA hN e1 (e▸hi));simp [this,e]
  ·exact .inr ⟨k,c,e,z.sameBut hs (I.cne y c e)⟩
 ·obtain ⟨w',z⟩:=I.cell y c e;exact ⟨w',z.sameBut hs (I.cne y c e)⟩
 ·obtain ⟨e,nn,ne,nf,d⟩:=I.pin p hp;exact ⟨(hs.2 p.1 ne).trans e,nn,ne,nf,d⟩
 ·refine (I.hok b ob e).stay (fun c w' hc z=>(hs.2 c ?_).trans z) (fun _ z=>z) fun _ _ z=>z;rintro rfl;rcases hc with z|hc
  ·have:=I.free;rw [z,e] at this;cases this
  ·rw [I.free] at hc;cases hc
def Zst (tb:(St->XK)->TS) (th:ZbL->St->XK) (te:TS):TS:=fun D σ H=>tb (fun σ'=>th D σ') {nx:=fun σ' H'=>te D σ' H',rt:=D.rt,bk:=D.bk,ct:=D.ct} σ H
abbrev Cx.wishP (X:Cx) (pn:List (jk×Obj)) (E:Value->jj->Prop):Cx:= {X with pn:=pn,xe:=E}
theorem Inv.wishP {Zb:List (jk×Obj)} {σ:St} {H:Hp} {s:jj} (I:Inv X Zb σ H s) (E:Value->jj->Prop):Inv (X.wishP (X.pn++Zb) E) [] σ H s:=
 ⟨⟨I.ok.mod,I.ok.kind,I.ok.glob,I.ok.blt,I.ok.above,I.ok.inj,I.ok.has,I.ok.cab,I.ok.hd,I.ok.frames,I.ok.stk,I.ok.exf,I.ok.bs,I.ok.bsz,I.ok.noex,I.ok.exfs,I.ok.funs,I.ok.frf⟩,I.os,I.bare,I.base,I.loc,I.cell,I.free,I.freeC,fun p hp=>I.pin p (by simpa using hp),I.hok,I.len⟩
theorem Inv.unwishP {Zb ps:List (jk×Obj)} {σ:St} {H:Hp} {s:jj} {E:Value->jj->Prop} (I:Inv (X.wishP (X.pn++Zb) E) ps σ H s):Inv X Zb σ H s:=
 ⟨⟨I.ok.mod,I.ok.kind,I.ok.glob,I.ok.blt,I.ok.above,I.ok.inj,I.ok.has,I.ok.cab,I.ok.hd,I.ok.frames,I.ok.stk,I.ok.exf,I.ok.bs,I.ok.bsz,I.ok.noex,I.ok.exfs,I.ok.funs,I.ok.frf⟩,I.os,I.bare,I.base,I.loc,I.cell,I.free,I.freeC,fun p hp=>I.pin p (uk _ hp),I.hok,I.len⟩
theorem Zzr {body orelse:List Stmt} {h₀:vB} {hs:List vB} {tb:(St->XK)->TS} {te:TS} (hst:X.stack=X.env::X.outer) (hf:X.env.frame=some X.env.locals) (hb:∀pn E F,Tk (X.wishP pn E) F->PSs (X.wishP pn E) body (tb F)) (hh:PHs X (h₀::hs) th) (he:PSs X orelse te):
 PS X (.Try body (h₀::hs) orelse [] pos) (Zst tb th te):=by
 intro Zb s σ H D I q;refine wpAny_Try_except ?_;have hfr:X.A.frames=some (X.env::X.outer):=by rw [<-hst];exact I.ok.frames
 have tk:Tk (X.wishP (X.pn++Zb) (fun e s₁=>jo (jr X.prog X.w) X.A (noteFrame e X.env) (fun _ s₂=>jo (jr X.prog X.w) X.A (setFlight e none) (fun _ s₃=>jo (jr X.prog X.w) X.A (handleBy e X.env (h₀::hs)) (SP X Zb D) X.xe s₃) X.xe s₂) X.xe s₁)) (fun σ'=>th D σ'):=by
  refine ⟨fun ps σ' H1 s1 e s2 I1 hx=>?_,PassesOwn.looking⟩;obtain ⟨a,C,a0,B,H',rfl,h1,h2,h3,h4,h5,h5',h6,h7⟩:=hx;have c:ZdT X Zb σ' H1 s1 a C a0 B H' s2:=⟨I1.unwishP,h1,h2,h3,h4,h5,h5'⟩;have h6:ZeD B (X.env::X.outer) a (.ref C) a0 s2.heap:=by rw [<-hst];exact h6
  refine ZlW hfr hf h6 fun h4' hheld hup4=>Zw4 hheld fun h5' hfl5 hup5=>?_;refine hh Zb σ' H1 s1 a C a0 B H' s2 h5' D c ?_ (hup4.trans hup5) h7;rw [hst];exact hfl5
 refine jU (hb _ _ _ tk [] s σ H _ (I.wishP _) q) (fun f s1 z=>?_) fun e s1 z=>z
 cases f with
 |next=>obtain ⟨σ',H',J,w'⟩:=z;exact he Zb s1 σ' H' D J.unwishP w'
 |brk=>obtain ⟨σ',H',J,w'⟩:=z;exact ⟨σ',H',J.unwishP,w'⟩
 |cont=>obtain ⟨σ',H',J,w'⟩:=z;exact ⟨σ',H',J.unwishP,w'⟩
 |ret u=>obtain ⟨v,σ',H',J,r,w'⟩:=z;exact ⟨v,σ',H',J.unwishP,r,w'⟩
end
open PySem.Calls PySem.Builtin PySem.Builtin.ObjectAttr PySem.Builtin.Getset_descriptor
structure Zb1 (K:Qa) (C:jk):Prop where
 ga:jQ K (.ref C) "__getattribute__"=some (some (.builtin "BaseException.__getattribute__"))
 gh:jQ K (.ref C) "__getattr__"=some none
 cl:jQ K (.ref C) "__class__"=some (some (.builtin "object.__class__"))
 gt:v5 K (.builtin "object.__class__") "__get__"=some (some (.builtin "getset_descriptor.__get__"))
 tk:Qat K (.builtin "object.__class__")=some true
 mo:vm K C (.type "object")=some true
 mb:vm K C (.type "BaseException")=some true
theorem Zb1.is {K:Qa} {C:jk} (G:Zb1 K C):(clsIn K C).isSome=true:=by
 have h:=G.mo;unfold vm at h
 cases q:clsIn K C with
 |some _=>rfl
 |none=>rw [q] at h;cases h
theorem Zhj {K:Qa} {C:jk} {v:Value} {b:Bool} (h:vm K C v=some b):(ZaC K C).contains v=b:=by
 unfold vm clsIn at h;unfold ZaC;split at h
 ·rename_i e;rw [e]
  dsimp only [Option.bind_some] at h ⊢
  split at h
  ·cases h
  ·exact Option.some.inj h
 ·cases h
section
variable {prog:jw} {w:jB} {A:Around} {E:Value->jj->Prop} {s:jj} {K:Qa} {a C:jk} {oe:Obj}
theorem Zfl {M:uL} {h:Heap} (he:h.get? a=some oe) (hc:oe.cls=.ref C):PySem.W.Looks M h (typeOf (.ref a)) (.ref C):=by rw [<-hc];exact (PySem.W.Looks.ld he).andThen .now
theorem ZoG {M:uL} {h:Heap} (KX:K.In h) (G:Zb1 K C):PySem.W.Looks M h (find (.ref a) (.ref C) "__class__") (.bind (.builtin "getset_descriptor.__get__") (.builtin "object.__class__")):=by have l1:=Qah (M:=M) KX G.cl;have l2:=PySem.W.looks_specialIn (M:=M) KX G.gt;have l3:=PySem.W.looks_takesIn (M:=M) KX G.tk;refine l1.andThen (PySem.W.Looks.andThen (show PySem.W.Looks M h (getOf (some (.builtin "object.__class__"))) _ from l2) (PySem.W.Looks.andThen (a:=some (.builtin "getset_descriptor.__get__",.builtin "object.__class__")) (l3.andThen .now) ?_));exact PySem.W.Looks.tag .now
theorem Zro {R:Qaq->jj->Prop} {tp:Value} (KX:K.In s.heap) (G:Zb1 K C) (he:s.heap.get? a=some oe) (hc:oe.cls=.ref C)
 (h:R (.ok (.ret (.ref C))) s):uW (jr prog w) A (.call (.builtin "getset_descriptor.__get__") ⟨[.builtin "object.__class__",.ref a,tp],[]⟩) R s:=by
 obtain ⟨hp,gn,dr,tk,os⟩:=s;have l0:=Zfl (M:=jr prog w) he hc;have l1:=looks_mroIn (M:=jr prog w) KX G.mo;refine vW PySem.W.KF.slot_gs.plain PySem.W.KF.entry_gs (PySem.W.KF.slot_gs.check _ _ _ _ _ _ _ _ PySem.W.KF.type_class (PySem.W.KF.args_gs _ _ _) ?_);unfold Builtin.«getset_descriptor.__get__» descrGet;rw [PySem.W.dga_obj];refine ji (jl ?_);unfold descrGetter descrCheckInstance descrNameAndClass isInstance;simp only [PySem.W.KF.owner_class]
 repeat lk
 refine ⟨Code.quiet_builtin _ (by rfl'),j9 PySem.W.KF.entry_class ?_⟩;unfold Builtin.«object.__class__» shownTypeOf
 repeat lk
 exact h
theorem ZlC {M:uL} {v:Value} {Q:Unit->jj->Prop} (KX:K.In s.heap) (G:Zb1 K C) (he:s.heap.get? a=some oe) (hc:oe.cls=.ref C) (h:Q () s):
 jo M A (Qap "BaseException.__getattribute__" ⟨[.ref a,v],[]⟩) Q E s:=by
 obtain ⟨hp,gn,dr,tk,os⟩:=s;have k1:builtinKind "BaseException.__getattribute__"=some .slot:=by rfl'
 have k2:splitId "BaseException.__getattribute__"=some ("BaseException","__getattribute__"):=by rfl'
 have ha:=PySem.F.args_bexc_ga (.ref a) v;have l0:=Zfl (M:=M) he hc;have l1:=looks_mroIn (M:=M) KX G.mb;simp only [Qap,k1,k2];refine ji ?_;unfold isInstance;refine (PySem.W.Looks.andThen l0 l1).at ?_
 repeat (first|assumption|wp_step)
theorem Zrp {tk:Tok} {Q:Value->jj->Prop} (KX:K.In s.heap) (G:Zb1 K C) (he:s.heap.get? a=some oe) (hc:oe.cls=.ref C) (h:Q (.ref C) s):
 jo (jr prog w) A (call (.builtin "BaseException.__getattribute__") [.ref a,.str "__class__" tk]) Q E s:=by
 have l0:=Zfl (M:=jr prog w) he hc;have l1:=ZoG (M:=jr prog w) (a:=a) KX G;refine uN (vW PySem.F.excAttr_ValueError.ga.plain PySem.F.entry_bexc_ga (ZlC KX G he hc ?_))
 unfold Builtin.«object.__getattribute__»
 refine ji (jl (ji (jl (ji (l0.at (ji (l1.at ?_)))))));show jo _ _ (bindTo (.builtin "getset_descriptor.__get__") (.builtin "object.__class__") (.ref a) (.ref C)) _ _ s;show jo _ _ (vH [V0 "object.__class__"] (call (.builtin "getset_descriptor.__get__") [.builtin "object.__class__",.ref a,.ref C]) >>=ret) _ _ s;exact ji (jS (uN (Zro KX G he hc (jl h))))
theorem ZoF (self:Value):bindSpecial (.builtin "BaseException.__getattribute__") self=pure (.builtin "BaseException.__getattribute__",[self]):=PySem.F.excAttr_ValueError.ga.bind self
theorem Zv3 {Q:Option Value->jj->Prop} (KX:K.In s.heap) (G:Zb1 K C) (he:s.heap.get? a=some oe) (hc:oe.cls=.ref C) (h:Q (some (.ref C)) {s with toks:=s.toks+1}):
 jo (jr prog w) A (getAttr? (.ref a) "__class__") Q E s:=by
 obtain ⟨hp,gn,dr,tk,os⟩:=s;have l0:=Zfl (M:=jr prog w) he hc;have l1:=Qah (M:=jr prog w) KX G.ga;have l2:=Qah (M:=jr prog w) KX G.gh;unfold getAttr? getAttrBy? getAttrBy;refine ji (wpAny_mkText (ji (jV (jS (ji (l0.at (ji (l1.at ?_))))))));show jo _ _ (getAttrByItsOwn (.ref a) _ (.ref C) (.builtin "BaseException.__getattribute__") false false) _ _ _;unfold getAttrByItsOwn;refine ji (l2.at (ji (jV (jS ?_))));show jo _ _ (boundAndCalled (.builtin "BaseException.__getattribute__") (.ref a) _) _ _ _;unfold boundAndCalled;rw [ZoF];refine ji (jl ?_);refine Zrp (s:=⟨hp,gn,dr,tk+1,os⟩) KX G he hc ?_;exact PySem.W.handed_on rfl (jl h)
theorem Zik (G:Zb1 K C):KitX K (.ref a) (.ref C) (fun h=>∃o vs,h.get? a=some o/\o.cls=.ref C/\o.data=.fields vs) where
 ty:=fun _ _ _ p=>by obtain ⟨o,_,h1,h2,_⟩:=p;exact Zfl h1 h2
 it:=fun M h KX _=>by
  have q:=G.is;unfold clsIn at q;split at q
  ·rename_i ho;intro A' Q' E' s' k z;unfold isType loadHead;exact ji (wpAny_loadPart (k _ _ (KX _ _ ho)) (jl z))
  ·cases q
 ne:=fun h tp dd its n sl KX e=>by
  have q:=G.is;unfold clsIn at q;split at q
  ·rename_i ho
   cases z:(Value.ref C==Value.ref tp) with
   |false=>rfl
   |true=>
    cases Value.ref.inj (eq_of_beq z);have:=(KX _ _ ho).symm.trans e;cases this
  ·cases q
 ca:=fun KX p k=>by obtain ⟨o,_,h1,h2,_⟩:=p;exact Zv3 KX G h1 h2 k
end
section
variable {X:Cx} {Zb:List (jk×Obj)} {σ:St} {H:Hp} {s:jj} {a C:jk} {c:Value} {b:Bool}
theorem Zkt {A:Around} {E:Value->jj->Prop} {Q:Value->jj->Prop} (I:Inv X Zb σ H s) (G:Zb1 X.K C) (e:H a=some (ZgX a C)) (q:jA X.K (.ref C) c=some b) (h:∀tk,Q (.bool b) {s with toks:=tk}):
 jo (jr X.prog X.w) A (call (.builtin "isinstance") [.ref a,c]) Q E s:=by
 obtain ⟨⟨o0,v0,z1,z2,z3,_⟩,_,_⟩:=I.hok a _ e;have z:∃o vs,s.heap.get? a=some o/\o.cls=.ref C/\o.data=.fields vs:=⟨o0,v0,z1,z2,z3⟩;exact vp (Zik G) I.kIn z q (fun z=>nomatch z) h
theorem Zo6 {A:Around} {E:Value->jj->Prop} {Q:Value->jj->Prop} {p:jk} {cs:List Value} (I:Inv X Zb σ H s) (G:Zb1 X.K C) (e:H a=some (ZgX a C)) (ht:IsTup s.heap p cs.toArray) (q:kitAny X.K (.ref C) cs=some b) (h:∀tk,Q (.bool b) {s with toks:=tk}):
 jo (jr X.prog X.w) A (call (.builtin "isinstance") [.ref a,.ref p]) Q E s:=by
 obtain ⟨⟨o0,v0,z1,z2,z3,_⟩,_,_⟩:=I.hok a _ e;have z:∃o vs,s.heap.get? a=some o/\o.cls=.ref C/\o.data=.fields vs:=⟨o0,v0,z1,z2,z3⟩;obtain ⟨o,h1,h2,n,h3⟩:=ht;obtain ⟨oc,od,oda,osl⟩:=o;dsimp only at h2 h3;subst h2 h3;exact PySem.W.kia_tup (Zik G) I.kIn z h1 q (fun z=>nomatch z) h
theorem ZgV:∀{ds:List jk} {us:List Value},ZE (ds.map V.ref) us->us=ds.map Value.ref
 |[],_,r=>by cases r;rfl
 |d::ds,_,r=>by
  cases r with
  |cons r1 r2=>
   cases r1;rw [ZgV r2];rfl
def ZlM (K:Qa):List V->Hp->VK->Prop:=fun xs H Q=>match xs with
 |[.ref a,.ty n]=>∃C b,H a=some (ZgX a C)/\Zb1 K C/\jA K (.ref C) (.type n)=some b/\Q (.bl b) H
 |[.ref a,.ref c]=>∃C b,H a=some (ZgX a C)/\Zb1 K C/\Q (.bl b) H/\(jA K (.ref C) (.ref c)=some b\/∃ds:List jk,SqT K H c (ds.map V.ref)/\kitAny K (.ref C) (ds.map Value.ref)=some b)
 |_=>False
theorem ZBw:JM X (.builtin "isinstance") (ZlM X.K):=by
 intro Zb s σ H xs us Q I r h;unfold ZlM at h;split at h
 ·rename_i a n;obtain ⟨C,b,e,G,q,h⟩:=h;obtain ⟨u,w',rfl,ru,rw'⟩:=Zf5 r;cases ru;cases rw';exact Zkt I G e q fun tk=>ZV (I.tok tk) h rfl
 ·rename_i a c;obtain ⟨C,b,e,G,h,q⟩:=h;obtain ⟨u,w',rfl,ru,rw'⟩:=Zf5 r;cases ru;cases rw';rcases q with q|⟨ds,ht,q⟩
  ·exact Zkt I G e q fun tk=>ZV (I.tok tk) h rfl
  ·obtain ⟨its,rv,t,_⟩:=I.tuple ht;have:=ZgV rv;subst this;exact Zo6 I G e t q fun tk=>ZV (I.tok tk) h rfl
 ·exact h.elim
theorem Zbq {K:Qa} (h:X.K=K):JM X (.builtin "isinstance") (ZlM K):=h▸ZBw
end
def Ite (K:Qa) (a:jk):It:=
 ⟨fun i H=>∃xs x,SqL K H a xs/\xs[i]?=some x,fun i H x H'=>∃t y,H t=none/\x=.ref t/\H'=upd H t (.tup [.int i,y])/\∀xs,SqL K H a xs->xs[i]?=some y,fun i H=>∃xs,SqL K H a xs/\xs.length<=i⟩
theorem Zmr {P:jw} {w:jB} {K:Qa} {es:List jF} {k:Nat} {tp:Pos} (a it e:jk) (hne:e≠it):Zlu P w K (.Tuple es k tp) (Ite K a) [e,it] e (fun i h=>(∃old,IsEnum h e it i old)/\h.IsListIter it a i) where
 mem:=by simp
 obj:=fun i h st b hb=>by
  obtain ⟨⟨old,h1⟩,o,h2,c,d⟩:=st;rcases jK.mp hb with rfl|hb
  ·exact ⟨_,h1,fun v z=>by cases z⟩
  ·have z:b=it:=by simpa using hb
   subst z;exact ⟨o,h2,fun v z=>by rw [d] at z;cases z⟩
 keep:=fun i h h' st kp=>by obtain ⟨⟨old,h1⟩,h2⟩:=st;exact ⟨⟨old,kp e (by simp) _ h1⟩,h2.at fun o q=>kp it (by simp) o q⟩
 item:=by
  intro X hP hw hK hc i Zb s σ H E I hf st hg;subst hP hw hK;obtain ⟨xs,x,hq,hx⟩:=hg;obtain ⟨its,rv,p,hz⟩:=I.list hq;obtain ⟨u,hu,ru⟩:=rv.get hx;obtain ⟨f0,f1,f2,f3,f4,f5⟩:=hf it (by simp);obtain ⟨g0,g1,g2,g3,g4,g5⟩:=hf e (by simp);obtain ⟨⟨old,st1⟩,st2⟩:=st;refine wpAny_pyNext_enum_item st1 st2 p.isList (x:=u) (by simpa using hu) hne fun h1 k1 k2 k3 k4 k5=>?_;refine ⟨_,rfl,wpAny_letOwnedTupleGo_enum k1 fun h2 k6 k7=>?_⟩;have new:h2.get? s.heap.objs.size=some {cls:=.type "tuple",data:=.seq #[.int i s.toks,u]}:=(k7.2 _ (QX (Qj st1))).trans k3;have up:∀b o,b≠e->b≠it->s.heap.get? b=some o->h2.get? b=some o:=fun b o z1 z2 q=>(k7.2 b z1).trans (k5 b o z1 z2 q);have hN:H s.heap.objs.size=none:=I.fresh;have no:∀b o,s.heap.get? b=some o->b≠s.heap.objs.size:=fun b o q=>Qm (Qj q);have out:∀b,b∉[e,it]->b≠e/\b≠it:=fun b hb=>⟨fun z=>hb (by simp [z]),fun z=>hb (by simp [z])⟩
  have J:Inv X Zb σ (upd H s.heap.objs.size (.tup [.int i,x])) {s with heap:=h2,toks:=s.toks+1}:=by
   refine I.call' (ch:=[e,it]) rfl ⟨fun b o q n hb hx=>up b o (out b hx).1 (out b hx).2 q,fun b o q n hb hx=>⟨o.slots,up b o (out b hx).1 (out b hx).2 q⟩,fun b o q n hx=>?_,fun b o q hx=>⟨o,up b o (out b hx).1 (out b hx).2 q⟩,fun b ys q=>?_,fun b o y q=>?_,fun b ps q=>⟨#[],?_⟩⟩ (fun b o q=>?_) I.bare fun b hb=>?_
   ·rw [Zj (no b o q)];exact n
   ·rw [Zj (Zk q hN)];exact q
   ·rw [Zj (Zk q hN)];exact q
   ·rw [Zj (Zk q hN),q];simp
   ·by_cases hb:b=s.heap.objs.size
    ·subst hb;rw [Zh] at q;cases q;refine ⟨by simp [jt],[.int i s.toks,u],.cons ⟨_,rfl⟩ (.cons ru .nil),?_⟩;exact ⟨_,new,rfl,_,rfl⟩
    ·rw [Zj hb] at q;refine (I.hok b o q).stay (fun c y hc z=>up c y ?_ ?_ z) (fun c z=>?_) fun c ys z=>?_
     ·rintro rfl;rcases hc with rfl|hc
      ·rw [g0] at q;cases q
      ·rw [g0] at hc;cases hc
     ·rintro rfl;rcases hc with rfl|hc
      ·rw [f0] at q;cases q
      ·rw [f0] at hc;cases hc
     ·rw [Zj (Zk z hN)];exact z
     ·rw [Zj (Zk z hN)];exact z
   ·rcases jK.mp hb with rfl|hb
    ·exact ⟨g3,g1,g4,g5⟩
    ·have z:b=it:=by simpa using hb
     subst z;exact ⟨f3,f1,f4,f5⟩
  refine ⟨.ref s.heap.objs.size,_,J,rfl,⟨_,x,hN,rfl,rfl,fun ys hy=>by rw [I.list_inj hy hq];exact hx⟩,⟨⟨u,by simpa using k6⟩,k2.at fun o q=>(k7.2 it hne.symm).trans q⟩,fun b hb=>?_⟩;rcases jK.mp hb with rfl|hb
  ·rw [Zj (no b _ st1)];exact g0
  ·have z:b=it:=by simpa using hb
   subst z;obtain ⟨o,q,_⟩:=st2;rw [Zj (no b _ q)];exact f0
 done:=by intro X hP hw hK hc i Zb s σ H E I hf st hg;subst hP hw hK;obtain ⟨xs,hq,hx⟩:=hg;obtain ⟨its,rv,p,hz⟩:=I.list hq;obtain ⟨f0,f1,f2,f3,f4,f5⟩:=hf it (by simp);obtain ⟨⟨old,st1⟩,st2⟩:=st;have hl:=rv.length;exact wpAny_pyNext_enum_end (I.ok.hd hc) st1 st2 p.isList (by simp;omega) fun h' eb=>⟨rfl,I.turned (t':=s.toks) (fun b o hb q=>eb b o hb q) f0 f1 f3 f4 f5⟩
 self:=fun A i s Q E st h=>by obtain ⟨⟨old,st1⟩,st2⟩:=st;exact wpAny_pyIter_enum st1 h
section
variable {X:Cx} {es:List jF} {k:Nat} {tp:Pos}
def ZBX (K:Qa) (ta:TA):TI:=fun σ H R=>ta σ H fun vs H1=>∃a,vs=[.ref a]/\(∃xs,SqL K H1 a xs)/\R (Ite K a) H1
theorem Zr2 {x:jF} {ta:TA} {p pos:Pos} (hg:Gl X "enumerate") (hm:X.mg "enumerate"=none) (ha:PA X [x] ta) (hs:jx [x] X.env=[(false,eval x X.env)]:=by rfl):PI X (.Tuple es k tp) (.Call (.Name "enumerate" p) [x] [] pos) (ZBX X.K ta):=by
 intro Zb s σ H R I h;refine Call_ (Zbr I hg hm Zg3 (PyProof.Rows.callWith_type1 (thn (ha pos Zb s σ H _ I h) fun us s1 ⟨vs,H1,I1,r1,q1⟩=>?_) hs rfl));obtain ⟨a,e,⟨xs,hq⟩,q⟩:=q1;subst e;obtain ⟨u,rfl,ru⟩:=r1.one;cases ru;obtain ⟨its,rv,pl,hz⟩:=I1.list hq;refine call_enumerate_list pl.isList fun h' k1 k2 k3 k4=>?_;have I2:Inv X Zb σ H1 {s1 with heap:=h'}:=I1.kept (t':=s1.toks) fun b o e=>k4 b o e;refine wpAny_pyIter_enum k1 ?_;refine ⟨s1.heap.objs.size+1,[s1.heap.objs.size+1,s1.heap.objs.size],_,_,H1,rfl,I2,Zmr a s1.heap.objs.size (s1.heap.objs.size+1) (Nat.succ_ne_self _),⟨⟨_,k1⟩,k2⟩,fun b hb=>?_,q⟩;rcases jK.mp hb with rfl|hb
 ·exact I1.fpOk (U7 _) (I1.hok.fresh (U7 _))
 ·have e:b=s1.heap.objs.size:=by simpa using hb
  subst e;exact I1.fpOk (Qf _) (I1.hok.fresh (Qf _))
def Zv4 (K:Qa) (a:jk) (xs:List V) (i j:Nat) (tb:TS):TS:=fun D σ H=>∃Pv:Nat->St->Hp->Prop,Pv 0 σ H/\(∀k σ H,k<=xs.length->Pv k σ H->SqL K H a xs)/\
 (∀k x σ H t,xs[k]?=some x->Pv k σ H->H t=none->tb {nx:=Pv (k+1),rt:=D.rt,bk:=D.nx,ct:=Pv (k+1)} ((σ.set i (some (.int k))).set j (some x)) (upd H t (.tup [.int k,x])))/\∀σ H,Pv xs.length σ H->D.nx σ H
def Zlm (K:Qa) (ta:TA) (i j:Nat) (tb:TS):TS:=fun D σ H=>ta σ H fun vs H1=>match vs with
 |[.ref a]=>∃xs,SqL K H1 a xs/\Zv4 K a xs i j tb D σ H1
 |_=>False
theorem Zlb {K:Qa} {x:jF} {u v:Str} {pu pv:Pos} {i j:Nat} {p pos pos':Pos} {body:List Stmt} {ta:TA} {tb:TS} (hK:X.K=K) (hp:u5 (jr X.prog X.w) X.A X.env X.xe) (hc:X.calm=true) (hm:X.mg "enumerate"=none) (ha:PA X [x] ta)
 (gu:PG X (.Name u pu) (Y6 i)) (gv:PG X (.Name v pv) (Y6 j)) (hb:PSs X body tb) (hgl:Gl X "enumerate":=by rfl) (hs:jx [x] X.env=[(false,eval x X.env)]:=by rfl)
 (hf:∀z,jG (.Call (.Name "enumerate" p) [x] [] pos') X.env z=pure z:=by intro _;rfl)
 (h1:(jO [.Name u pu,.Name v pv] X.env).map (·.2)=vA (.Name u pu) X.env::(jO [.Name v pv] X.env).map (·.2):=by rfl) (h2:(jO [.Name v pv] X.env).map (·.2)=vA (.Name v pv) X.env::(jO [] X.env).map (·.2):=by rfl)
 (h3:(jO [.Name u pu,.Name v pv] X.env).length=2:=by rfl) (h4:(jO [.Name u pu,.Name v pv] X.env).findIdx? (·.1)=none:=by rfl):
 PS X (.For (.Tuple [.Name u pu,.Name v pv] k tp) (.Call (.Name "enumerate" p) [x] [] pos') body [] pos) (Zlm K ta i j tb):=by
 subst hK;have ha':PA X [x] (fun σ H Q=>∃Q0:List V->Hp->Prop,ta σ H Q0/\∀v H',Q0 v H'->Q v H'):=ha.imp fun σ H Q h=>h;intro Zb s σ H D I h;refine ZfK hp hc (Zr2 hgl hm ha' hs) (ZjE hc (ZbD gu (ZbD gv Zhs h2) h1) h3 h4) hb hf Zb s σ H D I ⟨_,h,fun vs H1 q=>?_⟩;split at q
 ·rename_i a;obtain ⟨xs,hx,Pv,h0,hl,hst,hd⟩:=q;refine ⟨a,rfl,⟨xs,hx⟩,fun n m σ H=>m=xs.length-n/\n<=xs.length/\Pv n σ H,⟨xs.length,by simp,Qu _,h0⟩,?_⟩;rintro n m σ2 H2 ⟨rfl,hn,pv'⟩;have q2:=hl n σ2 H2 hn pv';by_cases hlt:n<xs.length
  ·refine .inr ⟨⟨xs,xs[n],q2,by simp [hlt]⟩,Pv (n+1),fun σ' H' p'=>⟨xs.length-(n+1),by omega,rfl,hlt,p'⟩,fun z H' y=>?_⟩;obtain ⟨t,y0,ht,rfl,rfl,hy⟩:=y;refine ⟨t,_,rfl,.inl (.of Zh),rfl,_,_,rfl,_,_,rfl,rfl,?_⟩;exact hst n y0 σ2 H2 t (hy xs q2) pv' ht
  ·have e:n=xs.length:=by omega
   subst e;exact .inl ⟨⟨xs,q2,Qf _⟩,hd _ _ pv'⟩
 ·exact q.elim
end
section
variable {X:Cx}
theorem Zfp:∀{ns:List Int} {us:List Value},ZE (ns.map V.int) us->IntsAre us ns
 |[],_,r=>by cases r;exact .nil
 |n::ns,_,r=>by
  cases r with
  |cons r1 r2=>
   obtain ⟨t,rfl⟩:=r1;exact .cons n t (Zfp r2)
theorem Zfb {k:Int}:∀{vs:List Value} {ns:List Int},IntsAre vs ns->∀(m:Nat) (hm:m<vs.length),isInt k vs[m]=decide (ns.getD m 0=k)
 |_,_,.nil,m,hm=>absurd hm (Nat.not_lt_zero _)
 |_,_,.cons n t h,0,hm=>by
  show isInt k (.int n t)=decide (n=k);unfold isInt;by_cases q:n=k
  ·simp [q]
  ·simp [q]
 |_,_,.cons n t h,m+1,hm=>Zfb h m (Nat.lt_of_succ_lt_succ hm)
def Zrx (K:Qa):V->List V->Hp->VK->Prop:=fun x vs H Q=>∃l,∃ns:List Int,x=.ref l/\SqL K H l (ns.map V.int)/\match vs with
 |[.int k]=>k∈ns/\Q (.int (ns.idxOf k)) H
 |_=>False
theorem ZrO {K:Qa} (hK:X.K=K):MtM X "list.index" (Zrx K):=by
 subst hK;intro Zb s σ H x vs v us Q I rx rv h;obtain ⟨l,ns,rfl,hq,h⟩:=h;cases rx;split at h
 ·rename_i k;obtain ⟨hk,h⟩:=h;obtain ⟨u,rfl,ru⟩:=rv.one;obtain ⟨t,rfl⟩:=ru;obtain ⟨its,r,p,hz⟩:=I.list hq;have hi:=Zfp r;have hl:=r.length;rw [jn] at hl hz;have hj:=VT hk;obtain ⟨⟨oc,od,oda,osl⟩,ho,hc,n,hd⟩:=p.isList;dsimp only at hc hd;subst hc hd;have hsz:=jt
  refine uI F.slot_list_index ⟨_,ho,rfl⟩ F.entry_list_index (F.args_list_index_2 _ _) (SeqAt.list_indexAt l its.toArray n od osl (.int k t) (isInt k) (ns.idxOf k) (by rw [jC];omega) (by omega) ?_ fun m hm hlt=>?_)
   ⟨ho,fun y hy=>(eq_isInt k t hi y (by simpa using hy)).at _ _,.int (ns.idxOf k),H,I.tok _,⟨_,rfl⟩,h⟩
  ·show isInt k its[ns.idxOf k]=true;rw [Zfb hi _ (by omega)];simp [Qb,hj]
  ·have hm':m<its.length:=by simpa using hm
   show isInt k its[m]=false;rw [Zfb hi _ hm'];have:m<ns.length:=by omega
   have hne:=List.not_of_lt_findIdx hlt;simp [Qb,this];simpa using hne
 ·exact h.elim
end
theorem Zf7:jR "ValueError"=some (.type "ValueError"):=by rfl'
end L2
namespace LP
open PySem L2
def Ztd (ns:List Int):Prop:=∀k:Nat,k<ns.length->ns.count (k:Int)=1
instance (ns:List Int):Decidable (Ztd ns):=inferInstanceAs (Decidable (∀k:Nat,k<ns.length->ns.count (k:Int)=1))
def ZDY (ns:List Int) (k:Nat):List V:=(Qk ns.length).map fun v:Nat=>if (v:Int)∈ns.take k then V.int (ns.idxOf (v:Int)) else V.non
def ZtJ (ns:List Int) (k:Nat):Prop:=(ns.take k).Nodup/\∀x∈ns.take k,0<=x/\x<ns.length
theorem Zco {H:Hp} {a b:jk} {o:HO} (h:upd H a o b=none):H b=none/\b≠a:=by
 by_cases e:b=a
 ·subst e;rw [Zh] at h;cases h
 ·rw [Zj e] at h;exact ⟨h,e⟩
end LP
namespace L2
open PySem PySem.Spec PyProof.Rows
theorem zQ.src {K:Qa} {H H':Hp} {a:jk} {xs:List V} (e:zQ H H') (h:Src K H a xs):Src K H' a xs:=by
 rcases h with h|h|⟨lo,hi,h,r⟩
 ·exact .inl (e.seq h)
 ·rcases h with (h|⟨o,h⟩)|h
  ·exact .inr (.inl (.inl (.inl (e.at h (by nofun)))))
  ·exact .inr (.inl (.inl (.inr ⟨o,e.at h (by nofun)⟩)))
  ·exact .inr (.inl (.inr h))
 ·exact .inr (.inr ⟨lo,hi,e.at h (by nofun),r⟩)
structure Lm (mg:Str->Option Value) (base:Heap) (c P:jk):Prop where
 hd:CodeHd base c P
 bm:∃bm ob,mg "__builtins__"=some (.ref bm)/\bm≠j4/\base.get? bm=some ob/\ob.cls=.type "module"/\ob.dict=some j4/\ob.data=.plain
theorem Lm.at {X:Cx} {c P:jk} (L:Lm X.mg X.base c P) (h:X.env.code=.ref c):Zj0 X c P:=⟨h,L.hd,L.bm⟩
section
variable {P:jw} {w:jB} {K:Qa} {mg:Str->Option Value} {base:Heap}
theorem Fun.okL {x qual:Str} {st:Stmt} {f c:jk} {fd:j7} {N ps:List Str} {k:Nat} {sp:Sp} (F:Fun K x qual st f fd) (hc:fd.code=.ref c) (S:Zw N ps (Zf st)) (len:∀vs H Q E,sp vs H Q E->vs.length=ps.length)
 (hbody:∀(A:Around) (outer:List Env) (s:jj) (H:Hp) (vs:List V) (Q:VK) (E:XK),Ye k (A.deeper (ul qual (Zf st) s.heap.objs.size f (.ref c)))->sp vs H Q E->
  ∃t,PSs (Zau CX0 P w K mg base N qual (Zf st) f (.ref c) A outer s H E).nox (Zt st) t/\t {nx:=fun _ H'=>Q .non H',rt:=Q} (Zaa N vs) H):Z0 P w K mg base CX0 (k+1) f fd ps sp:=by
 obtain ⟨oc,od,kV,doc,pm,an,cdv,ct,osl,rfl,lk,hcd⟩:=F.ex;have hc:cdv=.ref c:=hc;subst hc;refine Zh9 lk hcd S len fun A outer s H vs Q E hr hsp=>?_;obtain ⟨t,h,q⟩:=hbody A outer s H vs Q E hr hsp;exact ⟨t,h.nox,q⟩
end
abbrev ZAs (mg:Str->Option Value) (base:Heap):Prop:=∃bm ob,mg "__builtins__"=some (.ref bm)/\bm≠j4/\base.get? bm=some ob/\ob.cls=.type "module"/\ob.dict=some j4/\ob.data=.plain
theorem ZlS {P:jw} {w:jB} {K:Qa} {mg mb:Str->Option Value} {CX:CXT} {k:Nat} {fa a:jk} {fd:j7} {x:Str} {sp:Sp} {s₁:jj} {vs:List Value} {ns:List Int} {ts:List jk}
 (KX:K.In s₁.heap) (hns:s₁.heap.Ns jm mg) (hb:s₁.heap.Ns j4 mb) (hbb:∀x:Str,x≠"__name__"->mb x=jR x) (hlim:s₁.heap.NoLimit) (hg:s₁.gens=#[])
 (hbm:∃bm ob,mg "__builtins__"=some (.ref bm)/\bm≠j4/\s₁.heap.get? bm=some ob/\ob.cls=.type "module"/\ob.dict=some j4/\ob.data=.plain)
 (ha:s₁.heap.get? a=some {cls:=.type "list",data:=.seq vs.toArray}) (hi:IntsAre vs ns) (hl:ns.length<=sizeLine) (hr:Ye k Qak)
 (hts:∀p∈ts,s₁.heap.get? p=some (Qaz #[])/\K.lookup p=none/\∃c,CodeHd s₁.heap c p)
 (F:∀base:Heap,K.In base->base.Ns jm mg->(∃bm ob,mg "__builtins__"=some (.ref bm)/\bm≠j4/\base.get? bm=some ob/\ob.cls=.type "module"/\ob.dict=some j4/\ob.data=.plain)->Z0 P w K mg base CX k fa fd [x] sp)
 (hbind:∀(s:jj) (u:Value),Qam s fd ⟨[u],[]⟩ [(x,u)])
 (hsp:∀H:Hp,SqL K H a (ns.map V.int)->(∀p∈ts,H p=some (.tbl #[]))->sp [.ref a] H (fun v _=>v=.bl true) fun _ _ _=>False)
 (hCX:∀H e s',CX [] H s₁ (fun _ _ _=>False) e s'->False):
 uW (jr P w) Qak (.call (.ref fa) ⟨[.ref a],[]⟩) (fun r s'=>r=.ok (.ret (.bool true))/\OldK s₁.heap s'.heap/\s'.os=s₁.os/\vq s'.gens) s₁:=by
 have rv:=ZgU hi;have Zjn:=hi.length
 have core:∀H:Hp,(∀b,H b=none\/(b=a/\∃o xs,H b=some (.frz o (.lst xs)))\/(b∈ts/\H b=some (.tbl #[])))->(∀p∈ts,H p=some (.tbl #[]))->SqL K H a (ns.map V.int)->HOk P w H s₁.heap->(∀b,H b≠none->K.lookup b=none)->
  uW (jr P w) Qak (.call (.ref fa) ⟨[.ref a],[]⟩) (fun r s'=>r=.ok (.ret (.bool true))/\OldK s₁.heap s'.heap/\s'.os=s₁.os/\vq s'.gens) s₁:=by
  intro H hO hT hS hok hK
  have dat:∀b u,s₁.heap.get? b=some u->H b=none\/(∃its n,u.data=.seq its n)\/∃fs,u.data=.fields fs:=fun b u e=>by
   rcases hO b with z|⟨rfl,_⟩|⟨z,_⟩
   ·exact .inl z
   ·rw [ha] at e;cases e;exact .inr (.inl ⟨_,_,rfl⟩)
   ·rw [(hts b z).1] at e;cases e;exact .inr (.inr ⟨_,rfl⟩)
  have inB:∀{b:jk} {o:Obj},s₁.heap.get? b=some o->H b=none->(Zf9 s₁.heap H).get? b=some o:=fun e n=>ZoP e n
  have nsB:∀{b:jk} {m:Str->Option Value},s₁.heap.Ns b m->(Zf9 s₁.heap H).Ns b m:=fun {b m} ⟨o,es,ep,e,d,r⟩=>⟨o,es,ep,inB e (by
   rcases dat b o e with z|⟨_,_,z⟩|⟨_,z⟩
   ·exact z
   ·rw [d] at z;cases z
   ·rw [d] at z;cases z),d,r⟩
  have hKb:K.In (Zf9 s₁.heap H):=fun b o e=>inB (KX b o e) (by
   cases q:H b with
   |none=>rfl
   |some u=>rw [hK b (by rw [q];simp)] at e;cases e)
  have hM:Mod K mg (Zf9 s₁.heap H):=⟨hKb,nsB hns,⟨mb,nsB hb,hbb⟩,let ⟨mc,h1,h2⟩:=hlim;⟨mc,nsB h1,h2⟩⟩;have e0:Ze4 P w K mg (Zf9 s₁.heap H) Qak [] s₁ H:=⟨rfl,hM,fun b o e=>ZrS e,VI (ZlJ _ _),trivial,fun b hb=>absurd (show b∈([]:List jk) from hb) (by simp),hok,.of_eq hg⟩
  have hbmB:∃bm ob,mg "__builtins__"=some (.ref bm)/\bm≠j4/\(Zf9 s₁.heap H).get? bm=some ob/\ob.cls=.type "module"/\ob.dict=some j4/\ob.data=.plain:=by
   obtain ⟨bm,ob,b1,b2,b3,b4,b5,b6⟩:=hbm;refine ⟨bm,ob,b1,b2,inB b3 ?_,b4,b5,b6⟩;rcases dat bm ob b3 with z|⟨_,_,z⟩|⟨_,z⟩
   ·exact z
   ·rw [b6] at z;cases z
   ·rw [b6] at z;cases z
  refine ub ((F _ hKb (nsB hns) hbmB).run Qak [] s₁ H ⟨[.ref a],[]⟩ [.ref a] [.ref a] _ _ hr e0 (hbind s₁ (.ref a)) (.cons rfl .nil) (hsp H hS hT)) fun r s' h=>?_
  cases r with
  |error e=>exact (hCX H e s' h).elim
  |ok fl=>
   cases fl with
   |next=>exact False.elim h
   |brk=>exact False.elim h
   |cont=>exact False.elim h
   |ret u=>
    obtain ⟨v,H',os,bare,un,hok',r',q⟩:=h;have q':v=.bl true:=q;subst q';obtain rfl:u=VS true:=r'
    have old:∀b o,s₁.heap.get? b=some o->s'.heap.get? b=some o\/∃more,b∈ts/\s'.heap.get? b=some (Qaz more):=fun b o e=>by
     rcases hO b with z|⟨_,ob,xs,z⟩|⟨zt,z⟩
     ·exact .inl (un.keep b o e z (by intro y;exact absurd (show b∈([]:List jk) from y) (by simp)) (by simp))
     ·have z2:=un.frzs b ob _ z;obtain ⟨e1,_⟩:=hok b _ z;obtain ⟨e2,_⟩:=hok' b _ z2;rw [e] at e1;cases e1;exact .inl e2
     ·obtain ⟨more,z2⟩:=un.tbls b _ z;exact .inr ⟨_,zt,hok' b _ z2⟩
    refine ⟨rfl,⟨fun b o e=>?_,fun b o e=>?_⟩,os,bare⟩
    ·rcases old b o e with z|⟨more,zt,z⟩
     ·exact .inl z
     ·obtain ⟨t1,_,c,t2⟩:=hts b zt;rw [t1] at e;cases e;refine .inr (.inl ⟨(t2.tab t1).isCodeTable,rfl,#[],more,rfl,?_⟩);rw [z];simp
    ·rcases old b o e with z|⟨more,_,z⟩
     ·exact ⟨_,z⟩
     ·exact ⟨_,z⟩
 have aT:a∉ts:=fun z=>by have:=(hts a z).1;rw [ha] at this;cases this
 cases hk:K.lookup a with
 |some o=>
  have e:=KX a o hk;rw [ha] at e;cases e;refine core (fun b=>if b∈ts then some (.tbl #[]) else none) (fun b=>?_) (fun p hp=>if_pos hp) (.inr ⟨_,vs.toArray,_,hk,rfl,rfl,rfl,by rw [jC,Zjn];exact hl,by simpa using rv⟩) (fun b u z=>?_) fun b z=>?_
  ·by_cases hb:b∈ts
   ·exact .inr (.inr ⟨hb,if_pos hb⟩)
   ·exact .inl (if_neg hb)
  ·by_cases hb:b∈ts
   ·have z':=(if_pos hb).symm.trans z;cases z';exact (hts b hb).1
   ·have z':=(if_neg hb).symm.trans z;cases z'
  ·by_cases hb:b∈ts
   ·exact (hts b hb).2.1
   ·exact absurd (if_neg hb) z
 |none=>
  refine core (fun b=>if b=a then some (.frz {cls:=.type "list",data:=.seq vs.toArray} (.lst (ns.map V.int))) else if b∈ts then some (.tbl #[]) else none) (fun b=>?_) (fun p hp=>?_) (.inl (.inr ⟨{cls:=.type "list",data:=.seq vs.toArray},if_pos rfl⟩)) (fun b u z=>?_) fun b z=>?_
  ·by_cases hb:b=a
   ·exact .inr (.inl ⟨hb,_,_,if_pos hb⟩)
   ·by_cases hb2:b∈ts
    ·exact .inr (.inr ⟨hb2,(if_neg hb).trans (if_pos hb2)⟩)
    ·exact .inl ((if_neg hb).trans (if_neg hb2))
  ·have:p≠a:=fun z=>aT (z▸hp);exact (if_neg this).trans (if_pos hp)
  ·by_cases hb:b=a
   ·have z':=(if_pos hb).symm.trans z;cases z';subst hb;exact ⟨ha,by rw [jn];exact hl,vs,_,rv,ha⟩
   ·by_cases hb2:b∈ts
    ·have z':=((if_neg hb).trans (if_pos hb2)).symm.trans z;cases z';exact (hts b hb2).1
    ·have z':=((if_neg hb).trans (if_neg hb2)).symm.trans z;cases z'
  ·by_cases hb:b=a
   ·rw [hb];exact hk
   ·by_cases hb2:b∈ts
    ·exact (hts b hb2).2.1
    ·exact absurd ((if_neg hb).trans (if_neg hb2)) z
theorem Zq1 {l:VC} {n k:Nat} {q:jw} {loose:List Str} {XP:(Str->Option Value)->Heap->Prop} {YP:jB->Heap->Prop} {d:DefRec} {K:vZ->Qa} {CX:jB->CXT} {sp:jB->Sp} {x:Str} {ts:List jk}
 (hn:l.most=some n) (hn2:n<=sizeLine) (hdf:d.params.defaults=[]) (hr:Ye k Qak)
 (hY:∀(w:jB) (h:Heap),YP w h->(K w.params).In h/\∀p∈ts,h.get? p=some (Qaz #[]))
 (F:∀(w:jB) (mg:Str->Option Value) (fa:jk) (h:Heap),(K w.params).In h->h.Ns jm mg->mg d.name=some (.ref fa)->
  (∀p∈ts,(K w.params).lookup p=none/\∃c,QaE (K w.params) c p=true)/\∃fd:j7,(∀(s:jj) (u:Value),Qam s fd ⟨[u],[]⟩ [(x,u)])/\
   ∀base:Heap,(K w.params).In base->base.Ns jm mg->(∃bm ob,mg "__builtins__"=some (.ref bm)/\bm≠j4/\base.get? bm=some ob/\ob.cls=.type "module"/\ob.dict=some j4/\ob.data=.plain)->Z0 l.prog w (K w.params) mg base (CX w) k fa fd [x] (sp w))
 (hsp:∀(w:jB) (H:Hp) (a:jk) (ns:List Int),ns.length<=n->SqL (K w.params) H a (ns.map V.int)->(∀p∈ts,H p=some (.tbl #[]))->sp w [.ref a] H (fun v _=>v=.bl true) fun _ _ _=>False)
 (hCX:∀(w:jB) (H:Hp) (s:jj) (e:Value) (s':jj),CX w [] H s (fun _ _ _=>False) e s'->False):
 WL q loose XP YP l.row.toRowW d [] (fun f vs=>PySem.call f vs):=by
 refine Att.ZhT hn hdf fun w s₀ s₁ mg mb fa o pm cd doc a vs ns G Y ho hd hcd hmg hobj hints hlen hg=>?_;obtain ⟨KX,TX⟩:=hY w _ Y;obtain ⟨hT,fd,hb,hF⟩:=F w mg fa _ KX G.T.g hmg;refine ZlS (ts:=ts) KX G.T.g G.T.b G.T.builtins G.T.nolimit hg G.T.bmain hobj hints (QI hlen hn2) hr (fun p hp=>⟨TX p hp,(hT p hp).1,?_⟩) hF hb (fun H hS hTb=>hsp w H a ns hlen hS hTb) fun H e s'=>hCX w H s₁ e s';obtain ⟨c,e⟩:=(hT p hp).2;exact ⟨c,codeHd_of_K KX e⟩
section
variable {X:Cx} {Zb:List (jk×Obj)} {σ:St} {H:Hp} {s:jj}
theorem Zsy {xs:List V} {vs:List Value} (rv:ZE xs vs):∀l:List Nat,(∀i∈l,i<vs.length)->ZE (l.map fun i=>xs.getD i .non) (l.map fun i=>vs.getD i Qq):=by
 intro l;have lv:=rv.length
 induction l with
 |nil=>intro _;exact .nil
 |cons i r ih=>
  intro hi;have hi0:=hi i jW;refine .cons ?_ (ih fun j hj=>hi j (jH _ hj));have hx:xs[i]?=some (xs.getD i .non):=by rw [Qb,Qd (by omega)];rfl
  obtain ⟨u,hu,r'⟩:=rv.get hx;have e:vs.getD i Qq=u:=by rw [Qb,hu];rfl
  show ZW (xs.getD i .non) (vs.getD i Qq);rw [e];exact r'
theorem ZfU {Q:VK} {E:Value->jj->Prop} {a:jk} {κ:uz} {O:u9} (hc:X.calm=true) (hh:X.A.handled=none)
 (hcoll:∀(A:Around) (E:Value->jj->Prop),A.handled=none->jo (jr X.prog X.w) A (collect (.ref a)) (fun vs s1=>∃(xs:List V) (key:Nat->O.α),Inv X Zb σ H s1/\ZE xs vs/\xs.length<=100000/\ZhQ X.prog X.w key xs.length/\
  (∀s' vs (E:Value->jj->Prop) (Q':uz->jj->Prop),Inv X Zb σ H s'->ZE xs vs->2<=xs.length->Q' κ s'->jo (jr X.prog X.w) X.A.in1.in1 (QaC vs.toArray) Q' E s')/\
  (∀s' vs,Inv X Zb σ H s'->ZE xs vs->LS.Zls key xs.length (fun t=>t=s') (v6 X.prog X.w X.A.in1.in1 κ vs))/\
  ∀l (p:Array Nat),H l=none->LS.Pm xs.length p->LS.Up key p xs.length->Q (.ref l) (upd H l (.lst (p.toList.map fun i=>xs.getD i .non)))) E s):
 jo (jr X.prog X.w) X.A (call (.builtin "sorted") [.ref a]) (EP X Zb σ Q) E s:=by
 have hsl:sizeLine=16777216:=jt;refine Calls.call_function_entry kind_sorted plain_sorted entry_sorted (args_sorted1 _) ?_
 unfold Builtin.«sorted»
 refine ji (m:=checkCount "sorted" 1 1 _) (jl ?_);refine ji (jU (hcoll _ _ hh) (fun vs s1 ⟨xs,key,I,rv,h64,hS,hkind,hask,h⟩=>?_) fun _ _ z=>z);have lv:=rv.length;refine ji (Qaa ?_ (by omega));have k2:∀b o,s1.heap.get? b=some o->(s1.heap.push {cls:=.type "list",data:=.seq vs.toArray}).get? b=some o:=fun b o e=>Qe _ e;have I2:Inv X Zb σ H {s1 with heap:=s1.heap.push {cls:=.type "list",data:=.seq vs.toArray},toks:=s1.toks}:=I.kept k2;have I1:Inv X Zb σ H {s1 with heap:=s1.heap,toks:=s1.toks}:=I;have Wa:Own X Zb H s1.heap.objs.size:=Own.fresh I1 (Qf _);have ho:(s1.heap.push {cls:=.type "list",data:=.seq vs.toArray}).get? s1.heap.objs.size=some (ut "list" vs.toArray 0):=Qh _ rfl;refine ji (jS (jP slot_list_sort ⟨_,ho,rfl⟩ entry_list_sort ?_ (args_list_sort _)));rw [list_sort_plain];refine ji (listItems_at ho rfl ?_);refine ji (vg ho rfl ?_ (by rw [jC];omega) (Qu _));have hs1:=Heap.SameBut.update (s1.heap.push {cls:=.type "list",data:=.seq vs.toArray}) s1.heap.objs.size (Obj.mapSeq fun _=>(#[]:Array Value));obtain ⟨e1,ho1⟩:∃e1,((s1.heap.push {cls:=.type "list",data:=.seq vs.toArray}).update s1.heap.objs.size (Obj.mapSeq fun _=>(#[]:Array Value))).get? s1.heap.objs.size=some (ut "list" #[] e1):=⟨_,vk ho fun _=>#[]⟩;refine ji (Qas ho1 rfl ?_);refine ji (vN ?_ (by show vs.length<=_;omega));refine ji (Qaa ?_ (Qu _));refine jS ?_
 have I3:Inv X Zb σ H {s1 with heap:=(s1.heap.push {cls:=.type "list",data:=.seq vs.toArray}).update s1.heap.objs.size (Obj.mapSeq fun _=>(#[]:Array Value)),toks:=s1.toks}:=
  I2.alter (s:= {s1 with heap:=s1.heap.push {cls:=.type "list",data:=.seq vs.toArray},toks:=s1.toks}) Wa ho (fun v z=>by cases z) fun b u hb z=>(hs1.2 b hb).trans z
 generalize hg4:(s1.heap.push {cls:=.type "list",data:=.seq vs.toArray}).update s1.heap.objs.size (Obj.mapSeq fun _=>(#[]:Array Value))=h4 at *
 have I5:Inv X Zb σ H {s1 with heap:=(h4.push {cls:=.type "tuple",data:=.seq vs.toArray}).push {cls:=.type "list",data:=.seq ([]:List Value).toArray},toks:=s1.toks}:=
  I3.kept (s:= {s1 with heap:=h4,toks:=s1.toks}) (t':=s1.toks) fun b o e=>Qe _ (Qe _ e)
 have ha5:((h4.push {cls:=.type "tuple",data:=.seq vs.toArray}).push {cls:=.type "list",data:=.seq ([]:List Value).toArray}).get? s1.heap.objs.size=some (ut "list" #[] e1):=Qe _ (Qe _ ho1)
 have tail:∀(P:PySem.Fin->jj->Prop),(∀(p:Array Nat) s',LS.Pm vs.length p->LS.Up key p vs.length->Inv X Zb σ (upd H s1.heap.objs.size (.lst (p.toList.map fun i=>xs.getD i .non))) s'->P (.done (.ret .none)) s')->∀(st:jD) (p:Array Nat),LS.Pm vs.length p->LS.Up key p vs.length->vL st=p.map (VB (vs.toArray.zip vs.toArray))->vy st=none->
  jo (jr X.prog X.w) X.A.in1.in1 (do
   let sorted:=(vL st).map (·.2)
   let touched:=(<-seqEpoch s1.heap.objs.size) !=e1
   Builtin.List.listUpdate (.ref s1.heap.objs.size) fun _=>sorted
   if let some e:=vy st then rule "list.sort.comparison-raised";throw e
   if touched then rule "list.sort.modified";raiseError "ValueError" "list modified during sort"
   ret .none) P E
   {s1 with heap:=(h4.push {cls:=.type "tuple",data:=.seq vs.toArray}).push {cls:=.type "list",data:=.seq ([]:List Value).toArray},toks:=s1.toks}:=by
  intro P hP st p hp hu har hf;have hout:=kat_snds rfl har;have hps:=hp.size;dsimp only;rw [hout]
  generalize hg5:(h4.push {cls:=.type "tuple",data:=.seq vs.toArray}).push {cls:=.type "list",data:=.seq ([]:List Value).toArray}=h5 at *
  have hs2:=Heap.SameBut.update h5 s1.heap.objs.size (Obj.mapSeq fun _=>QA (p.toList.map fun i=>vs.getD i Qq));obtain ⟨c2,hg⟩:∃c2,(h5.update s1.heap.objs.size (Obj.mapSeq fun _=>QA (p.toList.map fun i=>vs.getD i Qq))).get? s1.heap.objs.size=some (ut "list" (QA (p.toList.map fun i=>vs.getD i Qq)) c2):=⟨_,vk ha5 (fun _=>QA (p.toList.map fun i=>vs.getD i Qq))⟩;refine ji (Qas ha5 rfl ?_);refine ji (vg ha5 rfl ?_ (Qu _) (by show (QA _).size<=_;rw [jC,jn,Qp];omega));rw [hf];simp only [bne_self_eq_false,Q4,if_false];have I6:Inv X Zb σ H {s1 with heap:=h5.update s1.heap.objs.size (Obj.mapSeq fun _=>QA (p.toList.map fun i=>vs.getD i Qq)),toks:=s1.toks}:=I5.alter (s:= {s1 with heap:=h5,toks:=s1.toks}) Wa ha5 (fun v z=>by cases z) fun b u hb z=>(hs2.2 b hb).trans z;refine jl (hP p _ hp hu (I6.track Wa (I6.cellne hg fun v z=>by cases z) ?_));refine ⟨by rw [jn,Qp];omega,p.toList.map fun i=>vs.getD i Qq,c2,?_,hg⟩;exact Zsy rv p.toList fun i hi=>QB.mp (hp.mem_iff.mp hi)
 dsimp only;have fin:∀(p:Array Nat) s',LS.Pm vs.length p->LS.Up key p vs.length->Inv X Zb σ (upd H s1.heap.objs.size (.lst (p.toList.map fun i=>xs.getD i .non))) s'->EP X Zb σ Q (.ref s1.heap.objs.size) s':=fun p s' hp hu J=>⟨.ref s1.heap.objs.size,_,J,rfl,h _ p Wa.free (by rw [lv];exact hp) (by rw [lv];exact hu)⟩;by_cases h2:vs.toArray.size<2
 ·rw [if_pos h2,if_pos h2];refine ji (jl ?_);rw [StateT.run_pure];refine ji (jl ?_);rw [jC] at h2;refine tail _ (fun p s' hp hu J=>⟨_,rfl,jl ⟨_,rfl,fin p s' hp hu J⟩⟩) _ (QA (Qk vs.length)) (by unfold LS.Pm;simp) (fun i j hij hj=>?_) ?_ rfl
  ·have:i=j:=by omega
   subst this;exact Q7 _
  ·have e:=Ws (vs.toArray.zip vs.toArray);rw [show (vs.toArray.zip vs.toArray).size=vs.length by simp] at e;exact e.symm
 ·rw [if_neg h2,if_neg h2];rw [jC] at h2;have hask':=hask _ vs I5 rv;rw [lv] at hask';refine ji (hkind _ vs _ _ I5 rv (by omega) ?_);rw [lv] at hS;refine ji (jU (hS _ E κ _ vs vs rfl rfl (by omega) hask') ?_ fun _ _ z=>z);rintro ⟨⟨⟩,st'⟩ s' ⟨rfl,p,q1,q2,q3,q4⟩;exact tail _ (fun p s' hp hu J=>⟨_,rfl,jl ⟨_,rfl,fin p s' hp hu J⟩⟩) st' p q1 q2.1 q3 q4
theorem Zml {Q:VK} {E:Value->jj->Prop} {a:jk} {xs:List V} {κ:uz} {O:u9} {key:Nat->O.α} (hc:X.calm=true) (I:Inv X Zb σ H s) (hx:Src X.K H a xs) (h64:xs.length<=100000) (hS:ZhQ X.prog X.w key xs.length)
 (hkind:∀s' vs (E:Value->jj->Prop) (Q':uz->jj->Prop),Inv X Zb σ H s'->ZE xs vs->2<=xs.length->Q' κ s'->jo (jr X.prog X.w) X.A.in1.in1 (QaC vs.toArray) Q' E s')
 (hask:∀s' vs,Inv X Zb σ H s'->ZE xs vs->LS.Zls key xs.length (fun t=>t=s') (v6 X.prog X.w X.A.in1.in1 κ vs))
 (h:∀l (p:Array Nat),H l=none->LS.Pm xs.length p->LS.Up key p xs.length->Q (.ref l) (upd H l (.lst (p.toList.map fun i=>xs.getD i .non)))):
 jo (jr X.prog X.w) X.A (call (.builtin "sorted") [.ref a]) (EP X Zb σ Q) E s:=by
 exact ZfU (κ:=κ) (O:=O) hc (I.ok.hd hc) fun A E hA=>Zfg I hA hx (by omega) fun vs h1 tk rv k=>⟨xs,key,I.kept k,rv,h64,hS,hkind,hask,h⟩
theorem ZqX {kL:List (List Nat)} {n:Nat} {p:Array Nat} (hp:LS.Pm n p) (hu:LS.Up (O:=strKind.toKeyOrd) (fun i=>kL.getD i []) p n):p.toList.Pairwise (fun i j=>kL.getD i []<=kL.getD j []):=by
 have hps:=hp.size;refine Ue.mpr fun i j hi hj hij=>?_;rw [Qp] at hi hj;have:=hu i j (QQ hij) (by omega);have gi:LS.gt p i=p.toList[i]:=by unfold LS.gt;rw [QK];simp [hi]
 have gj:LS.gt p j=p.toList[j]:=by unfold LS.gt;rw [QK];simp [hj]
 rw [gi,gj] at this;have this:decide (kL.getD p.toList[j] []<kL.getD p.toList[i] [])=false:=this;exact Uq.mp (of_decide_eq_false this)
end
section
variable {X:Cx}
theorem PFs.imp {ifs:List jF} {t t':TT} (h:PFs X ifs t) (hi:∀σ H Q,t' σ H Q->∃Q0:Bool->Hp->Prop,t σ H Q0/\∀b H',Q0 b H'->Q b H'):PFs X ifs t':=fun Zb s σ H Q I q=>by obtain ⟨Q0,h0,h1⟩:=hi σ H Q q;exact thn (h Zb s σ H Q0 I h0) fun b s1 ⟨H1,I1,q⟩=>⟨H1,I1,h1 b H1 q⟩
def Zgj (tc:TT) (te:TE) (σ:St) (acc:List V) (N:Hp->List V->Prop) (H:Hp):Prop:=tc σ H fun b H3=>if b=true then te σ H3 fun y H4=>N H4 (acc++[y]) else N H3 acc
def Zja (te:TE):TE:=fun σ H Q=>∃Q0:VK,te σ H Q0/\∀v H',Q0 v H'->Q v H'
def Zjb (tc:TT):TT:=fun σ H Q=>∃Q0:Bool->Hp->Prop,tc σ H Q0/\∀b H',Q0 b H'->Q b H'
theorem ZbB {tc:TT} {te:TE} {σ:St} {acc:List V} {N N':Hp->List V->Prop} {H:Hp} (hN:∀H a,a.length<=acc.length+1->N H a->N' H a) (h:Zgj tc te σ acc N H):Zgj (Zjb tc) (Zja te) σ acc N' H:=by
 refine ⟨_,h,fun b H3 q=>?_⟩
 cases b with
 |true=>exact ⟨_,q,fun y H4 q4=>hN _ _ (by simp) q4⟩
 |false=>exact hN _ _ (by omega) q
def tCR (n:Nat) (cp:List (Str×Nat)) (ta:TA) (tc:TT) (te:TE):TE:=fun σ H Q=>ta σ H fun vs H1=>match vs with
 |[.int j]=>(-(2 ^ 62)<=j/\j<16777216)/\∃Pv:Nat->Hp->List V->Prop,Pv 0 H1 []/\(∀i H2 acc,i<j.toNat->Pv i H2 acc->Zgj tc te ((ZaK n cp σ).set 0 (some (.int i))) acc (Pv (i+1)) H2)/\∀H2 acc,Pv j.toNat H2 acc->∀l,H2 l=none->Q (.ref l) (upd H2 l (.lst acc))
 |_=>False
theorem Zqh {elt a:jF} {ifs:List jF} {x:Str} {px p p':Pos} {scope:Scope} {pos:Pos} {cl:List (Str×jk)} {own:List Str} {cp:List (Str×Nat)} {ta:TA} {tc:TT} {te:TE}
 (hm:X.mg "range"=none) (hc:X.calm=true) (hcl:qj scope.names X.env.cells []=some cl) (hk:scope.kind=.function) (hnc:∀y∈scope.names,y.2≠ .cell)
 (hnm:∀x∈scope.names,x.2=.local->scope.names.lookup x.1=some .local) (hcp:JE X scope cp) (ha:PA X [a] ta) (hn:0<own.length)
 (hg:∀fp C s H,PG (cxC X scope cl (own++cp.map (·.1)) fp C s H) (.Name x px) (Y6 0)) (ht:∀fp C s H,PFs (cxC X scope cl (own++cp.map (·.1)) fp C s H) ifs tc) (he:∀fp C s H,PE (cxC X scope cl (own++cp.map (·.1)) fp C s H) elt te)
 (hgl:Gl X "range":=by rfl) (hst:jx [a] X.env=[(false,eval a X.env)]:=by rfl)
 (hs:∀z,jG (.Call (.Name "range" p) [a] [] p') X.env z=pure z:=by intro _;rfl):PE X (.ListComp elt [⟨.Name x px,.Call (.Name "range" p) [a] [] p',ifs,0⟩] scope pos) (tCR own.length cp ta tc te):=by
 have ha':PA X [a] (fun σ H Q=>∃Q0:List V->Hp->Prop,ta σ H Q0/\∀v H',Q0 v H'->Q v H'):=ha.imp fun σ H Q h=>h;intro Zb s σ H Q I h;refine ZdH hc hcl hk hnc hnm hcp (Zei hgl hm ha' hst) (Zcx hn) hg (fun fp C s H=>(ht fp C s H).imp (t':=Zjb tc) fun _ _ _ z=>z) (fun fp C s H=>(he fp C s H).imp (t':=Zja te) fun _ _ _ z=>z) hs Zb s σ H Q I ?_;refine ⟨_,h,fun vs H1 q=>?_⟩;split at q
 ·rename_i j;obtain ⟨⟨b1,b2⟩,Pv,p0,ps,pe⟩:=q;have hsl:sizeLine=16777216:=jt;refine ⟨j,rfl,b1,by omega,fun i m H2 acc=>m=j.toNat-i/\i<=j.toNat/\acc.length<=i/\Pv i H2 acc,⟨j.toNat,by omega,Qu _,Qf _,p0⟩,?_⟩;rintro i m H2 acc ⟨rfl,hi,hl,pv'⟩;refine ⟨by omega,?_⟩;by_cases hlt:i<j.toNat
  ·refine .inr ⟨hlt,fun y H3 ⟨e3,ey⟩=>?_⟩;subst e3 ey;rw [show (0:Int)+(i:Int)=(i:Int) from VJ _];exact ZbB (N':=fun H a=>∃m',m'<j.toNat-i/\(m'=j.toNat-(i+1)/\i+1<=j.toNat/\a.length<=i+1/\Pv (i+1) H a)) (fun H a ha z=>⟨j.toNat-(i+1),by omega,rfl,hlt,by omega,z⟩) (ps i H3 acc hlt pv')
  ·have e:i=j.toNat:=by omega
   subst e;exact .inl ⟨Qf _,fun l hl'=>pe H2 acc pv' l hl'⟩
 ·exact q.elim
def tCL (K:Qa) (n:Nat) (cp:List (Str×Nat)) (tl:TE) (tc:TT) (te:TE):TE:=fun σ H Q=>tl σ H fun v H1=>match v with
 | .ref a=>∃xs,SqL K H1 a xs/\xs.length<16777216/\∃Pv:Nat->Hp->List V->Prop,Pv 0 H1 []/\(∀i H2 acc,i<=xs.length->Pv i H2 acc->SqL K H2 a xs)/\(∀i y H2 acc,xs[i]?=some y->Pv i H2 acc->Zgj tc te ((ZaK n cp σ).set 0 (some y)) acc (Pv (i+1)) H2)/\∀H2 acc,Pv xs.length H2 acc->∀l,H2 l=none->Q (.ref l) (upd H2 l (.lst acc))
 |_=>False
theorem ZiF {K:Qa} {elt iter:jF} {ifs:List jF} {x:Str} {px:Pos} {scope:Scope} {pos:Pos} {cl:List (Str×jk)} {own:List Str} {cp:List (Str×Nat)} {tl:TE} {tc:TT} {te:TE} (hK:X.K=K)
 (hc:X.calm=true) (hcl:qj scope.names X.env.cells []=some cl) (hk:scope.kind=.function) (hnc:∀y∈scope.names,y.2≠ .cell)
 (hnm:∀x∈scope.names,x.2=.local->scope.names.lookup x.1=some .local) (hcp:JE X scope cp) (hl:PE X iter tl) (hn:0<own.length)
 (hg:∀fp C s H,PG (cxC X scope cl (own++cp.map (·.1)) fp C s H) (.Name x px) (Y6 0)) (ht:∀fp C s H,PFs (cxC X scope cl (own++cp.map (·.1)) fp C s H) ifs tc) (he:∀fp C s H,PE (cxC X scope cl (own++cp.map (·.1)) fp C s H) elt te)
 (hs:∀z,jG iter X.env z=pure z:=by intro _;rfl):PE X (.ListComp elt [⟨.Name x px,iter,ifs,0⟩] scope pos) (tCL K own.length cp tl tc te):=by
 subst hK;have hl':PE X iter (fun σ H Q=>∃Q0:VK,tl σ H Q0/\∀v H',Q0 v H'->Q v H'):=hl.imp fun σ H Q h=>h;intro Zb s σ H Q I h;refine ZdH hc hcl hk hnc hnm hcp (ZeW hl') (Zcx hn) hg (fun fp C s H=>(ht fp C s H).imp (t':=Zjb tc) fun _ _ _ z=>z) (fun fp C s H=>(he fp C s H).imp (t':=Zja te) fun _ _ _ z=>z) hs Zb s σ H Q I ?_;refine ⟨_,h,fun v H1 q=>?_⟩
 cases v with
 |ref a=>
  obtain ⟨xs,hx,hz,Pv,p0,pl,ps,pe⟩:=q;have hsl:sizeLine=16777216:=jt;refine ⟨a,rfl,⟨xs,hx⟩,fun i m H2 acc=>m=xs.length-i/\i<=xs.length/\acc.length<=i/\Pv i H2 acc,⟨xs.length,by omega,Qu _,Qf _,p0⟩,?_⟩;rintro i m H2 acc ⟨rfl,hi,hla,pv'⟩;refine ⟨by omega,?_⟩;have hx2:=pl i H2 acc hi pv';by_cases hlt:i<xs.length
  ·refine .inr ⟨⟨xs,xs[i],hx2,by simp [hlt]⟩,fun y H3 ⟨e3,ey⟩=>?_⟩;subst e3;exact ZbB (N':=fun H a=>∃m',m'<xs.length-i/\(m'=xs.length-(i+1)/\i+1<=xs.length/\a.length<=i+1/\Pv (i+1) H a)) (fun H a ha z=>⟨xs.length-(i+1),by omega,rfl,hlt,by omega,z⟩) (ps i y H3 acc (ey xs hx2) pv')
  ·have e:i=xs.length:=by omega
   subst e;exact .inl ⟨⟨xs,hx2,Qf _⟩,fun l hl'=>pe H2 acc pv' l hl'⟩
 |_=>exact False.elim q
end
theorem ZuT {z:Str} {i:Nat} (h:i<(L z).length):z.cps[i]?=some ((L z).getD i 0):=by
 unfold L at h ⊢
 rw [Qp] at h;rw [Qb,Uy,QZ h];rfl
section
variable {X:Cx} {tg:jF}
def Zrq (z:Str) (g:TG) (tb:TS):TS:=fun D σ H=>∃Pv:Nat->St->Hp->Prop,Pv 0 σ H/\(∀i σ H,i<(L z).length->Pv i σ H->g (.str (T [(L z).getD i 0])) σ H fun σ2 H2=>tb {nx:=Pv (i+1),rt:=D.rt,bk:=D.nx,ct:=Pv (i+1)} σ2 H2)/\∀σ H,Pv (L z).length σ H->D.nx σ H
end
section
variable {κ:Type} [DecidableEq κ]
def zk (kvs:List (κ×V)) (k:κ):Option V:=(kvs.find? fun kv=>decide (kv.1=k)).map (·.2)
def Zag (kvs:List (κ×V)) (k:κ) (v:V):List (κ×V):=
 if (kvs.any fun kv=>decide (kv.1=k))=true then kvs.map (fun kv=>if kv.1=k then (kv.1,v) else kv) else kvs++[(k,v)]
def Zfj (kvs:List (κ×V)) (k:κ):List (κ×V):=kvs.filter fun kv=>decide (kv.1≠k)
theorem zN {p:κ×V} {r:List (κ×V)} {k:κ} (e:p.1=k):zk (p::r) k=some p.2:=by simp [zk,QN,e]
theorem zM {p:κ×V} {r:List (κ×V)} {k:κ} (e:¬p.1=k):zk (p::r) k=zk r k:=by simp [zk,QN,e]
theorem Zcp (k:κ):∀kvs:List (κ×V),(kvs.any fun kv=>decide (kv.1=k))=(zk kvs k).isSome
 |[]=>rfl
 |p::r=>by
  rw [U8];by_cases e:p.1=k
  ·simp only [zN e,decide_eq_true e,Bool.true_or,Option.isSome_some]
  ·rw [zM e,decide_eq_false e,Bool.false_or];exact Zcp k r
theorem ZiZ (k j:κ) (y:V):∀kvs:List (κ×V),zk (kvs.map fun kv=>if kv.1=k then (kv.1,y) else kv) j=(zk kvs j).map fun x=>if j=k then y else x
 |[]=>rfl
 |p::r=>by
  have ih:=ZiZ k j y r;rw [jT];by_cases h:p.1=k
  ·rw [if_pos h];by_cases e:p.1=j
   ·rw [zN (p:=(p.1,y)) e,zN e,UF,if_pos (e.symm.trans h)]
   ·rw [zM (p:=(p.1,y)) e,zM e,ih]
  ·rw [if_neg h];by_cases e:p.1=j
   ·rw [zN (p:=p) e,zN e,UF,if_neg (fun z=>h (e.trans z))]
   ·rw [zM (p:=p) e,zM e,ih]
theorem ZgS (k j:κ) (y:V):∀kvs:List (κ×V),zk kvs k=none->zk (kvs++[(k,y)]) j=if j=k then some y else zk kvs j
 |[],_=>by
  by_cases e:k=j
  ·rw [if_pos e.symm];exact zN (p:=(k,y)) e
  ·rw [if_neg (fun z=>e z.symm)];exact zM (p:=(k,y)) e
 |p::r,hn=>by
  rw [uM];have hk:¬p.1=k:=fun z=>by rw [zN z] at hn;cases hn
  rw [zM hk] at hn;have ih:=ZgS k j y r hn;by_cases e:p.1=j
  ·rw [zN e,zN e,if_neg (fun z=>hk (e.trans z))]
  ·rw [zM e,zM e,ih]
theorem ZqZ (kvs:List (κ×V)) (k j:κ) (y:V):zk (Zag kvs k y) j=if j=k then some y else zk kvs j:=by
 unfold Zag;by_cases a:(kvs.any fun kv=>decide (kv.1=k))=true
 ·rw [if_pos a,ZiZ];rw [Zcp] at a;by_cases e:j=k
  ·obtain ⟨x,hx⟩:=U0.mp a;rw [if_pos e,e,hx,UF,if_pos rfl]
  ·rw [if_neg e]
   cases zk kvs j with
   |none=>rfl
   |some x=>rw [UF,if_neg e]
 ·rw [if_neg a];refine ZgS k j y kvs ?_;rw [Zcp] at a
  cases q:zk kvs k with
  |none=>rfl
  |some x=>rw [q] at a;exact (a rfl).elim
theorem Zex (kvs:List (κ×V)) (k:κ) (v:V):(Zag kvs k v).length<=kvs.length+1:=by
 unfold Zag;split
 ·rw [jn];omega
 ·rw [jq,jy,j8];omega
theorem Zqt {kvs:List (κ×V)} {k:κ} (v:V) (h:zk kvs k=none):Zag kvs k v=kvs++[(k,v)]:=by unfold Zag;rw [Zcp,h];exact if_neg (by decide)
theorem Zcc.isSome_eq {o:Option V} {u:Option Value} (r:Zcc o u):o.isSome=u.isSome:=by
 cases o with
 |none=>cases u with
  |none=>rfl
  |some _=>exact (show False from r).elim
 |some _=>cases u with
  |none=>exact (show False from r).elim
  |some _=>rfl
theorem KV.val {kvs:List (κ×V)} {vs:List (κ×Value)} (r:KV kvs vs) (k:κ):Zcc (zk kvs k) (valueAt vs k):=by
 unfold KV at r
 induction r with
 |nil=>exact True.intro
 |@cons p q ps qs h t ih=>
  obtain ⟨h1,h2⟩:=h;by_cases e:p.1=k
  ·have e':q.1=k:=h1.symm.trans e;have b:valueAt (q::qs) k=some q.2:=by simp [valueAt,QN,e']
   rw [zN e,b];exact h2
  ·have e':¬q.1=k:=fun z=>e (h1.trans z);have b:valueAt (q::qs) k=valueAt qs k:=by simp [valueAt,QN,e']
   rw [zM e,b];exact ih
theorem KV.any {kvs:List (κ×V)} {vs:List (κ×Value)} (r:KV kvs vs) (k:κ):(kvs.any fun kv=>decide (kv.1=k))=vs.any fun kv=>decide (kv.1=k):=by
 unfold KV at r
 induction r with
 |nil=>rfl
 |cons h t ih=>rw [U8,U8,ih,h.1]
theorem KV.repl {kvs:List (κ×V)} {vs:List (κ×Value)} (r:KV kvs vs) (k:κ) {y:V} {u:Value} (ry:ZW y u):
 KV (kvs.map fun kv=>if kv.1=k then (kv.1,y) else kv) (vs.map fun kv=>if kv.1=k then (kv.1,u) else kv):=by
 unfold KV at r ⊢
 induction r with
 |nil=>exact .nil
 |@cons p q ps qs h t ih=>
  rw [jT,jT];refine .cons ?_ ih;obtain ⟨h1,h2⟩:=h;by_cases e:p.1=k
  ·rw [if_pos e,if_pos (h1.symm.trans e)];exact ⟨h1,ry⟩
  ·rw [if_neg e,if_neg (fun z=>e (h1.trans z))];exact ⟨h1,h2⟩
theorem KV.put {kvs:List (κ×V)} {vs:List (κ×Value)} (r:KV kvs vs) (k:κ) {y:V} {u:Value} (ry:ZW y u):KV (Zag kvs k y) (stored vs k u):=by
 unfold Zag stored;rw [r.any k];by_cases e:(vs.any fun kv=>decide (kv.1=k))=true
 ·rw [if_pos e,if_pos e];exact r.repl k ry
 ·rw [if_neg e,if_neg e];exact Paired.snoc r ⟨rfl,ry⟩
theorem KV.drop {kvs:List (κ×V)} {vs:List (κ×Value)} (r:KV kvs vs) (k:κ):KV (Zfj kvs k) (without vs k):=by
 unfold KV at r ⊢
 unfold Zfj without
 induction r with
 |nil=>exact .nil
 |@cons p q ps qs h t ih=>
  obtain ⟨h1,h2⟩:=h;rw [UE,UE];by_cases e:p.1=k
  ·have a:¬decide (p.1≠k)=true:=by simp [e]
   have b:¬decide (q.1≠k)=true:=by simp [h1.symm.trans e]
   rw [if_neg a,if_neg b];exact ih
  ·have e':¬q.1=k:=fun z=>e (h1.trans z);have a:decide (p.1≠k)=true:=by simp [e]
   have b:decide (q.1≠k)=true:=by simp [e']
   rw [if_pos a,if_pos b];exact .cons ⟨h1,h2⟩ ih
theorem KV.keys {kvs:List (κ×V)} {vs:List (κ×Value)} (r:KV kvs vs):kvs.map (·.1)=vs.map (·.1):=by
 unfold KV at r
 induction r with
 |nil=>rfl
 |cons h t ih=>rw [jT,jT,ih,h.1]
theorem KV.length {kvs:List (κ×V)} {vs:List (κ×Value)} (r:KV kvs vs):kvs.length=vs.length:=Paired.length r
theorem Zou (kvs:List (κ×V)) (k:κ):(Zfj kvs k).length<=kvs.length:=Wn _ _
end
theorem Zft {P:jw} {w:jB} {k:Key} {u:Value} (r:ZW (kV k) u):(zO P w).is k u=true:=by
 cases k with
 |inl i=>obtain ⟨t,e⟩:=(show ∃t,u=U9 i t from r);subst e;exact Ziv P w i t
 |inr x=>obtain ⟨t,e⟩:=(show ∃t,u=UR x t from r);subst e;exact Ziw P w x t
theorem ZgG {P:jw} {w:jB}:∀{ks:List Key} {us:List Value},ZE (ks.map kV) us->ItemsAre (zO P w) ks us
 |[],_,r=>by rw [map_nil] at r;cases r;exact .nil
 |k::ks,_,r=>by
  rw [jT] at r
  cases r with
  |cons h t=>exact .cons (Zft h) (ZgG t)
abbrev KT (H:Hp):List (List Key×V)->List (List Key×jk×Value)->Prop:=Paired fun p q=>p.1=q.1/\H q.2.1=some (.tup (p.1.map kV))/\ZW p.2 q.2.2
theorem KT.val {H:Hp} {kvs:List (List Key×V)} {xs:List (List Key×jk×Value)} (r:KT H kvs xs) (k:List Key):Zcc (zk kvs k) ((atKey xs k).map (·.2)):=by
 induction r with
 |nil=>exact True.intro
 |@cons p q ps qs h t ih=>
  obtain ⟨h1,_,h2⟩:=h;by_cases e:p.1=k
  ·have e':q.1=k:=h1.symm.trans e;have b:atKey (q::qs) k=some q.2:=by simp [atKey,QN,e']
   rw [zN e,b];exact h2
  ·have e':¬q.1=k:=fun z=>e (h1.trans z);have b:atKey (q::qs) k=atKey qs k:=by simp [atKey,QN,e']
   rw [zM e,b];exact ih
section
variable {P:jw} {w:jB} {H:Hp} {h:Heap} {a:jk}
theorem ZtA {u:HO} (ok:HOk P w H h) (e:Rd H a u):zy P w H h a u:=e.ok ok
theorem Zgy {kvs:List (Key×V)} (ok:HOk P w H h) (e:Rd H a (.dK kvs)):kvs.length<=sizeLine/\(a==uU)=false/\∃vs,KV kvs vs/\h.DictOf (zO P w) a vs:=
 show zy P w H h a (.dK kvs) from ZtA ok e
theorem Ztp {kvs:List (Key×V)} (ok:HOk P w H h) (e:H a=some (.dK kvs)):kvs.length<=sizeLine/\(a==uU)=false/\∃vs,KV kvs vs/\h.DictOf (zO P w) a vs:=Zgy ok (.inl e)
theorem Zjk {ks:List Key} (ok:HOk P w H h) (e:H a=some (.tup (ks.map kV))):(tupleKind (zO P w)).is h ks a:=by obtain ⟨_,its,r,o,h1,h2,n,h3⟩:=(show zy P w H h a (.tup (ks.map kV)) from ok a _ e);exact ⟨o,its.toArray,n,h1,h2,h3,by simpa using ZgG r⟩
theorem Zh8 {kvs:List (List Key×V)} (ok:HOk P w H h) (e:Rd H a (.dT kvs)):kvs.length<=sizeLine/\(a==uU)=false/\
 ∃xs,KT H kvs xs/\h.DictOfH (tupleKind (zO P w)) a xs:=by
 exact False.elim (show zy P w H h a (.dT kvs) from ZtA ok e)
end
def DGet (H:Hp) (a:jk) (y:V) (r:Option V):Prop:=
 (∃kvs k,Rd H a (.dK kvs)/\y=kV k/\r=zk kvs k)\/∃kvs k b,Rd H a (.dT kvs)/\y=.ref b/\H b=some (.tup (k.map kV))/\r=zk kvs k
def Zmy (H:Hp) (a:jk) (y v:V) (H':Hp):Prop:=
 (∃kvs k,H a=some (.dK kvs)/\y=kV k/\kvs.length<sizeLine/\H'=upd H a (.dK (Zag kvs k v)))\/
 ∃kvs k b,H a=some (.dT kvs)/\y=.ref b/\H b=some (.tup (k.map kV))/\kvs.length<sizeLine/\H'=upd H a (.dT (Zag kvs k v))
theorem DGet.k {H:Hp} {a:jk} {kvs:List (Key×V)} {k:Key} (e:H a=some (.dK kvs)):DGet H a (kV k) (zk kvs k):=.inl ⟨kvs,k,.inl e,rfl,rfl⟩
theorem Zmy.k {H:Hp} {a:jk} {kvs:List (Key×V)} {k:Key} {v:V} (e:H a=some (.dK kvs)) (hl:kvs.length<sizeLine):Zmy H a (kV k) v (upd H a (.dK (Zag kvs k v))):=.inl ⟨kvs,k,e,rfl,hl,rfl⟩
section
variable {X:Cx} {Zb:List (jk×Obj)} {σ:St} {H:Hp} {s:jj} {a:jk} {y v:V} {u r:Value} {o:Option V} {A:Around} {E:Value->jj->Prop}
theorem Inv.big (I:Inv X Zb σ H s):uU<s.heap.objs.size:=by have h:jm<s.heap.objs.size:=(I.mod.glob.keeps I.bk).lt;exact VG (by decide) h
theorem Zlw {Q:Value->jj->Prop} (hu:A.units+1<cLine) (I:Inv X Zb σ H s) (g:DGet H a y (some v)) (ry:ZW y u) (h:∀w' s',Inv X Zb σ H s'->ZW v w'->Q w' s'):
 jo (jr X.prog X.w) A (Qav (.ref a) u) Q E s:=by
 rcases g with ⟨kvs,k,e,ey,l⟩|⟨kvs,k,b,e,ey,eb,l⟩
 ·subst ey;obtain ⟨z,hd,vs,rel,dd⟩:=Zgy I.hok e;obtain ⟨w',hw,rw'⟩:=Zcc.some_of (v:=v) (o:=valueAt vs k) (by rw [l];exact rel.val k);exact wpAny_getItem_of (Zft ry) dd.mapOf hw (h w' _ (I.tok _) rw')
 ·subst ey;cases (show u=Value.ref b from ry);obtain ⟨z,hd,xs,rel,dd⟩:=Zh8 I.hok e;obtain ⟨w',hw,rw'⟩:=Zcc.some_of (v:=v) (o:=(atKey xs k).map (·.2)) (by rw [l];exact rel.val k);obtain ⟨p,hp,hp2⟩:=Qz.mp hw;refine wpAny_getItem_heap (Qab hu) (Zjk I.hok eb) dd hp ?_;rw [hp2];exact h w' _ (I.tok _) rw'
theorem ZDz {Q:Value->jj->Prop} (hu:A.units+1<cLine) (I:Inv X Zb σ H s) (g:DGet H a y o) (ry:ZW y u) (h:∀s',Inv X Zb σ H s'->Q (.bool o.isSome) s'):
 jo (jr X.prog X.w) A (jX .In u (.ref a)) Q E s:=by
 rcases g with ⟨kvs,k,e,ey,l⟩|⟨kvs,k,b,e,ey,eb,l⟩
 ·subst ey;obtain ⟨z,hd,vs,rel,dd⟩:=Zgy I.hok e;refine wpAny_in_of (Zft ry) hd dd.mapOf ?_;rw [<-(rel.val k).isSome_eq,<-l];exact h _ (I.tok _)
 ·subst ey;cases (show u=Value.ref b from ry);obtain ⟨z,hd,xs,rel,dd⟩:=Zh8 I.hok e;refine wpAny_in_heap (Qab hu) (Zjk I.hok eb) hd dd ?_;have q:=(rel.val k).isSome_eq;rw [Ux] at q;rw [<-q,<-l];exact h _ (I.tok _)
theorem Zrk {Q:Value->jj->Prop} (hu:A.units+1<cLine) (I:Inv X Zb σ H s) (g:DGet H a y o) (ry:ZW y u) (h:∀s',Inv X Zb σ H s'->Q (.bool (!o.isSome)) s'):
 jo (jr X.prog X.w) A (jX .NotIn u (.ref a)) Q E s:=by
 rcases g with ⟨kvs,k,e,ey,l⟩|⟨kvs,k,b,e,ey,eb,l⟩
 ·subst ey;obtain ⟨z,hd,vs,rel,dd⟩:=Zgy I.hok e;refine wpAny_notIn_of (Zft ry) hd dd.mapOf ?_;rw [<-(rel.val k).isSome_eq,<-l];exact h _ (I.tok _)
 ·subst ey;cases (show u=Value.ref b from ry);obtain ⟨z,hd,xs,rel,dd⟩:=Zh8 I.hok e;refine wpAny_notIn_heap (Qab hu) (Zjk I.hok eb) hd dd ?_;have q:=(rel.val k).isSome_eq;rw [Ux] at q;rw [<-q,<-l];exact h _ (I.tok _)
theorem Zki {h':Heap} {t':Nat} {ob:HO} (I:Inv X Zb σ H s) (mu:Mut (H a)) (hs:Heap.SameBut a s.heap h') (he:∃q,h'.get? a=some q) (new:zy X.prog X.w (upd H a ob) h' a ob):
 Inv X Zb σ (upd H a ob) {s with heap:=h',toks:=t'}:=
 I.write (x:=a) (e:=a) mu (.inl rfl) (fun b q hb z=>(hs.2 b hb).trans z) he new
theorem Zot {P:jw} {w:jB} {H':Hp} {h':Heap} {kvs:List (Key×V)} {vs:List (Key×Value)} (z:kvs.length<=sizeLine) (hd:(a==uU)=false) (rel:KV kvs vs) (dd:h'.DictOf (zO P w) a vs):
 zy P w H' h' a (.dK kvs):=⟨z,hd,vs,rel,dd⟩
theorem Zlx {H':Hp} {Q:Unit->jj->Prop} (hu:A.units+1<cLine) (I:Inv X Zb σ H s) (g:Zmy H a y v H') (ry:ZW y u) (rv:ZW v r) (h:∀s',Inv X Zb σ H' s'->Q () s'):
 jo (jr X.prog X.w) A (setItem (.ref a) u r) Q E s:=by
 rcases g with ⟨kvs,k,e,ey,l,eH⟩|⟨kvs,k,b,e,ey,eb,l,eH⟩
 ·subst ey eH;obtain ⟨z,hd,vs,rel,dd⟩:=Ztp I.hok e;have hz:vs.length<=sizeLine:=by rw [<-rel.length];exact z
  have hl:(Zag kvs k v).length<=sizeLine:=by have:=Zex kvs k v;omega
  refine wpAny_setItem_pairs (hsz:=hz) (Zft ry) dd fun h' dd' hs=>h _ ?_;have he:∃q,h'.get? a=some q:=let ⟨q,_,_,hq,_⟩:=dd';⟨q,hq⟩;exact Zki I (by rw [e];exact True.intro) hs he (Zot hl hd (rel.put k rv) dd')
 ·exact False.elim (show zy X.prog X.w H s.heap a (.dT kvs) from I.hok a _ e)
end
section
variable {X:Cx} {Zb:List (jk×Obj)} {σ:St} {H:Hp} {s:jj} {a:jk} {kvs:List (Key×V)} {k:Key} {u:Value} {A:Around} {E:Value->jj->Prop}
theorem ZBJ {v:V} {more:List Value} {Q:Value->jj->Prop} (I:Inv X Zb σ H s) (e:H a=some (.dK kvs)) (ry:ZW (kV k) u) (l:zk kvs k=some v) (hm:more=[]\/∃x,more=[x])
 (h:∀w' s',Inv X Zb σ (upd H a (.dK (Zfj kvs k))) s'->ZW v w'->Q w' s'):jo (jr X.prog X.w) A (call (.builtin "dict.pop") (.ref a::u::more)) Q E s:=by
 obtain ⟨z,hd,vs,rel,dd⟩:=Ztp I.hok e;obtain ⟨w',hw,rw'⟩:=Zcc.some_of (v:=v) (o:=valueAt vs k) (by rw [<-l];exact rel.val k)
 have hp:(keyPart u).isSome=true:=by
  cases k with
  |inl i=>obtain ⟨t,q⟩:=(show ∃t,u=U9 i t from ry);subst q;rfl
  |inr x=>obtain ⟨t,q⟩:=(show ∃t,u=UR x t from ry);subst q;rfl
 have ha:Qad "dict.pop" ⟨.ref a::u::more,[]⟩:=by
  rcases hm with q|⟨x,q⟩
  ·subst q;exact PySem.F.args_dict_pop_2 _ _
  ·subst q;exact PySem.F.args_dict_pop_3 _ _ _
 refine call_meetsIn V7 dd.typeIs PySem.F.entry_dict_pop ha (meets_dict_pop_there (zO X.prog X.w) a (Zft ry) more hm hp)
  ⟨vs,w',dd,by rw [<-rel.length];exact z,hw,fun h' dd' hs=>h w' _ ?_ rw'⟩
 have he:∃q,h'.get? a=some q:=let ⟨q,_,_,hq,_⟩:=dd';⟨q,hq⟩;exact Zki I (by rw [e];exact True.intro) hs he (Zot (QI (Zou kvs k) z) hd (rel.drop k) dd')
end
def ZAJ (i:jF):Prop:=∀ov iv,Qar i false ov iv=operate [ov,iv] (Qav ov iv)
theorem Zsp {prog:jw} {w:jB} {A:Around} {E:Value->jj->Prop} {s:jj} {env:Env} {value slice:jF} {pos:Pos} {T id:String} {Q:Value->jj->Prop}
 (hl:vG (.type T) "__getitem__"=pure (some (.builtin id))) (hs:ZAJ slice)
 (h:jo (jr prog w) A (eval value env) (fun o s₁=>jo (jr prog w) A (eval slice env) (fun i s₂=>s₂.TypeIs o T/\jo (jr prog w) A (Qav o i) Q E s₂) E s₁) E s):
 jo (jr prog w) A (eval (.Subscript value slice pos) env) Q E s:=by
 refine Subscript_ (jU h (fun o s₁ h₁=>jU h₁ (fun i s₂ h₂=>?_) fun _ _ x=>x) fun _ _ x=>x);obtain ⟨hT,h₂⟩:=h₂;unfold subscriptTail;refine ji ?_;rw [getitemInPython_of_ne hT.not_modules];refine ji (vI hT hl ?_);have fin:jo (jr prog w) A (Qar slice false o i) (fun r s₃=>jo (jr prog w) A (letTemporaryGo value o r >>=fun _=>pure r) Q E s₃) E s₂:=by rw [hs o i];exact wpAny_operating (jU h₂ (fun r s₃ h₃=>ji (wpAny_letTemporaryGo (jl h₃))) fun _ _ x=>x)
 first
  |exact jl (ji fin)
  |exact ji (jl (ji fin))
  |exact ji fin
theorem Zh5 {X:Cx} {Zb:List (jk×Obj)} {σ:St} {H:Hp} {s:jj} {a:jk} {y:V} {o:Option V} (I:Inv X Zb σ H s) (g:DGet H a y o):s.TypeIs (.ref a) "dict":=by
 rcases g with ⟨kvs,k,e,_,_⟩|⟨kvs,k,b,e,_,_,_⟩
 ·obtain ⟨_,_,vs,_,dd⟩:=Zgy I.hok e;exact dd.typeIs
 ·obtain ⟨_,_,xs,_,dd⟩:=Zh8 I.hok e;exact dd.typeIs
def Zll (td ty:TE):TE:=fun σ H Q=>td σ H fun x H1=>ty σ H1 fun y H2=>∃a v,x=.ref a/\DGet H2 a y (some v)/\Q v H2
def Zsq (ty td:TE):TE:=fun σ H Q=>ty σ H fun y H1=>td σ H1 fun x H2=>∃a o,x=.ref a/\DGet H2 a y o/\Q (.bl o.isSome) H2
def Ze1 (ty td:TE):TE:=fun σ H Q=>ty σ H fun y H1=>td σ H1 fun x H2=>∃a o,x=.ref a/\DGet H2 a y o/\Q (.bl (!o.isSome)) H2
def Zlh (td ty tv:TE):TS:=fun D σ H=>tv σ H fun v H1=>td σ H1 fun x H2=>ty σ H2 fun y H3=>∃a H4,x=.ref a/\Zmy H3 a y v H4/\D.nx σ H4
section
variable {X:Cx} {o i e value:jF} {pos pos' tpos:Pos} {td ty tv:TE}
theorem Z1 (hu:X.A.units+1<cLine) (ho:PE X o td) (hi:PE X i ty) (hs:ZAJ i):PE X (.Subscript o i pos) (Zll td ty):=by intro Zb s σ H Q I h;refine Zsp PySem.F.slot_dict_getitem.lookup hs (thn (ho Zb s σ H _ I h) fun u s1 ⟨x,H1,I1,rx,q1⟩=>thn (hi Zb s1 σ H1 _ I1 q1) fun iv s2 ⟨y,H2,I2,ry,a,v,ex,g,q2⟩=>?_);subst ex;obtain rfl:u=Value.ref a:=rx;exact ⟨Zh5 I2 g,Zlw hu I2 g ry fun w' s3 I3 rw'=>⟨v,H2,I3,rw',q2⟩⟩
theorem Zeg (hu:X.A.units+1<cLine) (hi:PE X i ty) (ho:PE X o td):PC X .In i o (Zsq ty td):=by intro Zb s σ H Q I h;refine thn (hi Zb s σ H _ I h) fun iv s1 ⟨y,H1,I1,ry,q1⟩=>thn (ho Zb s1 σ H1 _ I1 q1) fun u s2 ⟨x,H2,I2,rx,a,ov,ex,g,q2⟩=>?_;subst ex;obtain rfl:u=Value.ref a:=rx;exact ZDz hu I2 g ry fun s3 I3=>⟨.bl ov.isSome,H2,I3,rfl,q2⟩
theorem Zeh (hu:X.A.units+1<cLine) (hi:PE X i ty) (ho:PE X o td):PC X .NotIn i o (Ze1 ty td):=by intro Zb s σ H Q I h;refine thn (hi Zb s σ H _ I h) fun iv s1 ⟨y,H1,I1,ry,q1⟩=>thn (ho Zb s1 σ H1 _ I1 q1) fun u s2 ⟨x,H2,I2,rx,a,ov,ex,g,q2⟩=>?_;subst ex;obtain rfl:u=Value.ref a:=rx;exact Zrk hu I2 g ry fun s3 I3=>⟨.bl (!ov.isSome),H2,I3,rfl,q2⟩
theorem ZcB (hu:X.A.units+1<cLine) (ho:PE X o td) (hi:PE X i ty) (hv:PE X value tv) (hs:uZ value (some (.Subscript o i pos')) pos.line X.env=pure false):
 PS X (.Assign [.Subscript o i pos'] value pos) (Zlh td ty tv):=by
 intro Zb s σ H D I h;refine wpAny_Assign_Subscript (thn (hv Zb s σ H _ I h) fun r s1 ⟨v,H1,I1,rv,q1⟩=>thn (ho Zb s1 σ H1 _ I1 q1) fun u s2 ⟨x,H2,I2,rx,q2⟩=>thn (hi Zb s2 σ H2 _ I2 q2) fun iv s3 ⟨y,H3,I3,ry,a,H4,ex,g,q3⟩=>?_) hs;subst ex;obtain rfl:u=Value.ref a:=rx;exact Zlx hu I3 g ry rv fun s4 I4=>⟨σ,H4,I4,q3⟩
end
theorem Zos {P:jw} {w:jB} {H:Hp} (h:Heap) (hb:uU<h.objs.size):zy P w H (h.push {cls:=.type "dict",data:=.dict #[]}) h.objs.size (.dK []):=
 ⟨Qu _,beq_eq_false_iff_ne.mpr (Ne.symm (Qm hb)),[],.nil,Heap.DictOf.new h⟩
def ZhJ:TE:=fun _ H Q=>∀p,H p=none->Q (.ref p) (upd H p (.dK []))
section
variable {X:Cx} {pos:Pos}
theorem ZfJ:PE X (.Dict [] [] pos) ZhJ:=fun Zb s σ H Q I h=>
 wpAny_Dict_empty ⟨.ref s.heap.objs.size,_,I.laid (a:=s.heap.objs.size) (o:=.dK []) (t':=s.toks) (fun _ _ q=>Qe _ q) (Qf _) (Zos s.heap I.big),rfl,h _ (I.hok.fresh (Qf _))⟩
end
structure M1 (X:Cx) (o:jF) (m:Str) (apos:Pos) (e:jF) (cpos:Pos):Prop where
 base:vh o m X.env (eval o X.env)=eval o X.env
 few:((uu cpos (jx [e] X.env)).all (fun x=> !x.1) && (vX cpos (vj [] X.env)).all (fun x=>x.1.isSome)
  && decide (([e]:List jF).length+([]:List Qaw).length+(if ([]:List Qaw).isEmpty then 0 else 1)<30))=true
 line:(apos.endLine==cpos.line)=true
 trees:uu cpos (jx [e] X.env)=[(false,eval e X.env)]
def IsD (H:Hp) (a:jk):Prop:=(∃kvs,Rd H a (.dK kvs))\/∃kvs,Rd H a (.dT kvs)
theorem Zwa {X:Cx} {Zb:List (jk×Obj)} {σ:St} {H:Hp} {s:jj} {a:jk} (I:Inv X Zb σ H s) (d:IsD H a):
 s.TypeIs (.ref a) "dict"/\(∀b,Value.ref a=.ref b->∃ob,s.heap.get? b=some ob/\ob.dict=none)/\(a==uU)=false:=by
 rcases d with ⟨kvs,e⟩|⟨kvs,e⟩
 ·obtain ⟨_,hd,vs,_,dd⟩:=Zgy I.hok e;refine ⟨dd.typeIs,fun b q=>?_,hd⟩;cases q;obtain ⟨ob,_,_,h1,h2,_⟩:=dd;exact ⟨ob,h1,h2.2.1⟩
 ·obtain ⟨_,hd,xs,_,dd⟩:=Zh8 I.hok e;refine ⟨dd.typeIs,fun b q=>?_,hd⟩;cases q;obtain ⟨ob,_,_,h1,h2,_⟩:=dd;exact ⟨ob,h1,h2.2.1⟩
def ZhK (td ty:TE):TE:=fun σ H Q=>td σ H fun x H1=>∃a,x=.ref a/\IsD H1 a/\ty σ H1 fun y H2=>∃kvs k v,H2 a=some (.dK kvs)/\y=kV k/\zk kvs k=some v/\Q v (upd H2 a (.dK (Zfj kvs k)))
section
variable {X:Cx} {o e f:jF} {apos cpos:Pos} {td ty tx:TE}
theorem ZiG (ho:PE X o td) (he:PE X e ty) (m:M1 X o "pop" apos e cpos):PE X (.Call (.Attribute o "pop" apos) [e] [] cpos) (ZhK td ty):=by intro Zb s σ H Q I h;refine wpAny_Call_method m.base m.few m.line PySem.F.plainAttrs_dict V7 PySem.F.type_dict_pop (thn (ho Zb s σ H _ I h) fun u s1 ⟨x,H1,I1,rx,a,ex,d,q1⟩=>?_);subst ex;obtain rfl:u=Value.ref a:=rx;obtain ⟨t1,t2,_⟩:=Zwa I1 d;refine ⟨t1,t2,?_⟩;rw [m.trees];refine Calls.callWith_builtin rfl (Calls.evalArgs_plain (Calls.spliced_cons (thn (he Zb s1 σ H1 _ I1 q1) fun iv s2 ⟨y,H2,I2,ry,kvs,k,v,ea,ey,l,q2⟩=>Calls.spliced_nil ?_)));subst ey;exact ZBJ I2 ea ry l (.inl rfl) fun w' s3 I3 rw'=>⟨v,_,I3,rw',q2⟩
end
end L2
namespace LP
open PySem L2
theorem Zdj {α:Type} (l:List α) (i:Nat):cut l (some (i:Int)) none=l.drop i:=by
 unfold cut;show (l.drop (if (i:Int)<0 then ((i:Int)+(l.length:Int)).toNat else min (i:Int).toNat l.length)).take (l.length-(if (i:Int)<0 then ((i:Int)+(l.length:Int)).toNat else min (i:Int).toNat l.length))=l.drop i;rw [if_neg (by omega),Qn];by_cases h:i<=l.length
 ·rw [Uh h,QD (by rw [jJ];omega)]
 ·rw [Vf (by omega),Q9 (Qf _),Q9 (by omega)];simp
theorem ZbP {α:Type} (f:Nat->α) {m i:Nat} (d:α) (h:i<m):((Qk m).map f).getD i d=f i:=by rw [Qb,Qi,Ul h];rfl
theorem Zse (n:Nat):ZdK 0 ((n:Int)+1)=(Qk (n+1)).map fun j:Nat=>V.int j:=by unfold ZdK;rw [show (((n:Int)+1)-0).toNat=n+1 by omega];refine uE fun j _=>?_;rw [VJ]
end LP
namespace L2
open PySem PySem.Spec PyProof.Rows
structure Md (P:jw) (w:jB) (K:Qa) (mg:Str->Option Value) (base:Heap) (CX:CXT) (k:Nat) (C:jk) (m:Str) (ps:List Str) (dvs:List V) (sp:Sp):Prop where
 ex:∃f fd ds,Z0 P w K mg base CX k f fd ps sp/\ZtK K C m f/\Zaq K fd ps ds/\ZE dvs ds
 cls:Cls K C
structure Mkr (P:jw) (w:jB) (K:Qa) (mg:Str->Option Value) (base:Heap) (CX:CXT) (k:Nat) (x:Str) (C:jk) (ps:List Str) (dvs:List V) (sp:Sp):Prop where
 ex:∃f fd ds,Z0 P w K mg base CX k f fd ps sp/\Mk K C f/\Zaq K fd ps ds/\ZE dvs ds
 at_:mg x=some (.ref C)
section
variable {P:jw} {w:jB} {K:Qa} {mg:Str->Option Value} {base:Heap} {CX:CXT} {j k:Nat} {C:jk} {x m:Str} {ps:List Str} {dvs:List V} {sp:Sp}
theorem Zqv {f:jk} {fd:j7} (F:Z0 P w K mg base (CX1 P w) k f fd ps sp):Z0 P w K mg base CX0 k f fd ps (fun vs H Q _=>sp vs H Q E0):=by
 refine ⟨fun vs H Q E h=>F.len vs H Q E0 h,fun A outer s H args us vs Q E hr e0 hb rv h=>?_⟩;refine ub (F.run A outer s H args us vs Q E0 hr e0 hb rv h) fun r s' q=>?_
 cases r with
 |error e=>exact (Zop q).elim
 |ok fl=>cases fl<;>exact q
theorem Md.quiet (M:Md P w K mg base (CX1 P w) k C m ps dvs sp):Md P w K mg base CX0 k C m ps dvs (fun vs H Q _=>sp vs H Q E0):=by obtain ⟨f,fd,ds,F,r⟩:=M.ex;exact ⟨⟨f,fd,ds,Zqv F,r⟩,M.cls⟩
theorem Mkr.quiet (M:Mkr P w K mg base (CX1 P w) k x C ps dvs sp):Mkr P w K mg base CX0 k x C ps dvs (fun vs H Q _=>sp vs H Q E0):=by obtain ⟨f,fd,ds,F,r⟩:=M.ex;exact ⟨⟨f,fd,ds,Zqv F,r⟩,M.at_⟩
end
section
variable {X:Cx} {k:Nat} {C:jk} {x m:Str} {ps:List Str} {dvs:List V} {sp:Sp} {o e:jF} {es:List jF} {ta:TE} {t:TA} {p pos apos:Pos}
theorem ZiH {pl:Sem Bool} (M:Md X.prog X.w X.K X.mg X.base CX0 k C m ps dvs sp) (hr:Ye k X.A) (he:PE X o ta) (ha:PA X (e::es) t)
 (hst:jx (e::es) X.env=(false,eval e X.env)::jx es X.env:=by rfl) (hpl:(uu pos (jx es X.env)).any (·.1)=false:=by rfl)
 (ht:eval (.Call (.Attribute o m apos) (e::es) [] pos) X.env=(do
  let ov <-eval o X.env
  standAt apos.atName
  let (f,first) <-vH [ov] (Qao ov m pl)
  callWith pos f first (uu pos (jx (e::es) X.env)) (vX pos (vj [] X.env))):=by rfl):PE X (.Call (.Attribute o m apos) (e::es) [] pos) (ZqQ C m sp dvs E0 ta t):=by
 obtain ⟨f,fd,ds,F,hm,hb,hd⟩:=M.ex;exact Zr0 he M.cls hm F hr hb hd ZiD ha hst hpl ht
theorem ZCI (M:Mkr X.prog X.w X.K X.mg X.base CX0 k x C ps dvs sp) (hr:Ye (k+1) X.A) (ha:PA X (e::es) t) (hg:Gl X x:=by rfl) (hdb:(x==("__debug__":Str))=false:=by decide)
 (he:jx (e::es) X.env=(false,eval e X.env)::jx es X.env:=by rfl) (hpl:(uu pos (jx es X.env)).any (·.1)=false:=by rfl):PE X (.Call (.Name x p) (e::es) [] pos) (ZiW C sp dvs E0 t):=by
 obtain ⟨f,fd,ds,F,hm,hb,hd⟩:=M.ex;exact ZrY hm F hr hg M.at_ hb hd ZiD ha hdb he hpl
variable {F:St->XK}
theorem Tk.at {σ:St} (T:Tk X F):∀(Zb:List (jk×Obj)) (H:Hp) (s:jj) (e:Value) (s':jj),Inv X Zb σ H s->CX1 X.prog X.w X.stack H s (F σ) e s'->X.xe e s':=fun Zb H s e s' I h=>T.pass Zb σ H s e s' I h
theorem Zsh {Zb:List (jk×Obj)} {σ:St} {H:Hp} {s:jj} {Q:VK} {us:List Value} {vs:List V} {f:jk} {fd:j7} {ds:List Value} (T:Tk X F) (G:Z0 X.prog X.w X.K X.mg X.base (CX1 X.prog X.w) k f fd ps sp) (hr:Ye k X.A) (hb:Zaq X.K fd ps ds) (hd:ZE dvs ds)
 (I:Inv X Zb σ H s) (r:ZE vs us) (h:sp (vs++dvs) H Q (F σ)):jo (jr X.prog X.w) X.A (call (.ref f) us) (EP X Zb σ Q) X.xe s:=by
 have r2:ZE (vs++dvs) (us++ds):=r.append hd;have hl:(us++ds).length=ps.length:=by rw [<-r2.length];exact G.len _ _ _ _ h
 refine uN (ub (G.run X.A X.stack s H ⟨us,[]⟩ (us++ds) (vs++dvs) Q (F σ) hr I.env0 (hb s us I.kIn hl) r2 h) fun r s' hq=>?_)
 cases r with
 |error e=>exact T.pass Zb σ H s e s' I hq
 |ok fl=>
  cases fl with
  |ret u=>exact I.after hq
  |next=>exact False.elim hq
  |brk=>exact False.elim hq
  |cont=>exact False.elim hq
def ZqR (F:St->XK) (C:jk) (m:Str) (sp:Sp) (dvs:List V) (ta:TE) (t:TA):TE:=fun σ H Q=>ta σ H fun x H1=>∃a dx fs,x=.ref a/\H1 a=some (.ins C dx fs)/\fs.lookup m=none/\t σ H1 fun vs H2=>sp (x::(vs++dvs)) H2 Q (F σ)
theorem Zc6 {pl:Sem Bool} (T:Tk X F) (M:Md X.prog X.w X.K X.mg X.base (CX1 X.prog X.w) k C m ps dvs sp) (hr:Ye k X.A) (he:PE X o ta) (ha:PA X (e::es) t)
 (hst:jx (e::es) X.env=(false,eval e X.env)::jx es X.env:=by rfl) (hpl:(uu pos (jx es X.env)).any (·.1)=false:=by rfl)
 (ht:eval (.Call (.Attribute o m apos) (e::es) [] pos) X.env=(do
  let ov <-eval o X.env
  standAt apos.atName
  let (f,first) <-vH [ov] (Qao ov m pl)
  callWith pos f first (uu pos (jx (e::es) X.env)) (vX pos (vj [] X.env))):=by rfl):PE X (.Call (.Attribute o m apos) (e::es) [] pos) (ZqR F C m sp dvs ta t):=by
 obtain ⟨f,fd,ds,G,hm,hb,hd⟩:=M.ex;intro Zb s σ H Q I h;refine methodCall_KW (pl:=pl) (thn (he Zb s σ H _ I h) fun u s1 ⟨x,H1,I1,rx,a,dx,fs,ex,ea,l,q⟩=>?_) ht;subst ex;obtain rfl:u=Value.ref a:=rx;refine Zfo I1 ea M.cls hm l ?_;refine ve (first:=[.ref a]) (h₀:=X.base) I.ok.mod.kin hm.kp (thn (ha pos Zb s1 σ H1 _ I1 q) fun us s2 ⟨vs,H2,I2,r,q2⟩=>⟨I2.kIn,?_⟩) hst hpl;exact Zsh (us:=.ref a::us) (vs:=.ref a::vs) T G hr hb hd I2 (.cons rfl r) q2
def ZqO (F:St->XK) (C:jk) (sp:Sp) (dvs:List V) (t:TA):TE:=fun σ H Q=>t σ H fun vs H1=>∀x dx,H1 x=none->H1 dx=none->dx≠x->
 sp (.ref x::(vs++dvs)) (upd (upd H1 dx (.own x)) x (.ins C dx [])) (fun v H2=>v=.non/\Q (.ref x) H2) (F σ)
theorem ZyG (T:Tk X F) (M:Mkr X.prog X.w X.K X.mg X.base (CX1 X.prog X.w) k x C ps dvs sp) (hr:Ye (k+1) X.A) (ha:PA X (e::es) t) (hg:Gl X x:=by rfl) (hdb:(x==("__debug__":Str))=false:=by decide)
 (he:jx (e::es) X.env=(false,eval e X.env)::jx es X.env:=by rfl) (hpl:(uu pos (jx es X.env)).any (·.1)=false:=by rfl):PE X (.Call (.Name x p) (e::es) [] pos) (ZqO F C sp dvs t):=by
 obtain ⟨f,fd,ds,G,hm,hb,hd⟩:=M.ex;intro Zb s σ H Q I h;refine j0 (Zap I hg M.at_ ?_ hdb);refine ve (h₀:=X.base) I.ok.mod.kin hm.kp (thn (ha pos Zb s σ H _ I h) fun us s1 ⟨vs,H1,I1,r,q⟩=>⟨I1.kIn,?_⟩) he hpl;have hq:=q (s1.heap.objs.size+1) s1.heap.objs.size (I1.hok.fresh (U7 _)) (I1.hok.fresh (Qf _)) (Qm (UU _));have I2:=Inv.made (C:=C) I1;have r2:ZE (V.ref (s1.heap.objs.size+1)::(vs++dvs)) (Value.ref (s1.heap.objs.size+1)::(us++ds)):=.cons rfl (r.append hd);have hl:(Value.ref (s1.heap.objs.size+1)::us++ds).length=ps.length:=by have e:=r2.length;rw [G.len _ _ _ _ hq] at e;exact e.symm
 refine uN (Zir (f:=f) I1.kIn hm.makes hm.init (beq_iff_eq.mp hm.fn) (ub (G.run _ X.stack _ _ ⟨Value.ref (s1.heap.objs.size+1)::us,[]⟩ (Value.ref (s1.heap.objs.size+1)::(us++ds)) _ _ (F σ) (hr.make C us [])
  (I2.env0.make C us []) (hb _ (Value.ref (s1.heap.objs.size+1)::us) I2.kIn hl) r2 hq) fun r s' hq'=>?_))
 cases r with
 |error e=>exact T.pass Zb σ _ _ e s' I2 hq'
 |ok fl=>
  cases fl with
  |ret u=>
   obtain ⟨v,H',I3,rv,ev,q3⟩:=I2.after hq';subst ev;exact ⟨rv,⟨V.ref (s1.heap.objs.size+1),H',I3,rfl,q3⟩⟩
  |next=>exact False.elim hq'
  |brk=>exact False.elim hq'
  |cont=>exact False.elim hq'
end
structure Zby (k:Nat) (A:Around):Prop where
 dp:A.depth+3 * k+5<recursionLimit
 un:A.units+16 * k+200<cLine
theorem Ye.toW {k:Nat} {A:Around} (r:Ye k A):Zby k A:=⟨r.dp,r.un⟩
theorem Zby.mono {j k:Nat} {A:Around} (r:Zby k A) (h:j<=k):Zby j A:=⟨by have:=r.dp;omega,by have:=r.un;omega⟩
theorem Zby.deeper {k:Nat} {A:Around} (r:Zby (k+1) A) (env:Env):Zby k (A.deeper env):=
 ⟨by have:=r.dp;show A.depth+1+3 * k+5<_;omega,by have:=r.un;show A.units+3+16 * k+200<_;omega⟩
theorem Zby.mark {k:Nat} {A:Around} (r:Zby k A) (v:Option Value):Zby k (A.mark v):=⟨r.dp,r.un⟩
abbrev still (A:Around):Around:= {A with handled:=none}
def cxW (P:jw) (w:jB) (K:Qa) (mg:Str->Option Value) (base:Heap) (N:List Str) (qual:Str) (scope:Scope) (f:jk) (cd:Value) (A:Around) (outer:List Env) (s:jj) (H:Hp):Cx:=
 {Zau CX0 P w K mg base N qual scope f cd A outer s H E0 with calm:=false,xe:=fun _ _=>False}
theorem Inv.toW {P:jw} {w:jB} {K:Qa} {mg:Str->Option Value} {base:Heap} {N:List Str} {qual:Str} {scope:Scope} {f:jk} {cd:Value} {A:Around} {outer:List Env} {s:jj} {H:Hp} {Zb:List (jk×Obj)} {σ:St} {H1:Hp} {s1:jj}
 (I:Inv (Zau CX0 P w K mg base N qual scope f cd (still A) outer s H E0) Zb σ H1 s1):Inv (cxW P w K mg base N qual scope f cd A outer s H) Zb σ H1 s1:=
 ⟨⟨I.ok.mod,I.ok.kind,I.ok.glob,I.ok.blt,I.ok.above,I.ok.inj,I.ok.has,I.ok.cab,fun z=>absurd (show false=true from z) Qg,I.ok.frames,I.ok.stk,I.ok.exf,I.ok.bs,I.ok.bsz,I.ok.noex,I.ok.exfs,I.ok.funs,I.ok.frf⟩,I.os,I.bare,I.base,I.loc,I.cell,I.free,I.freeC,I.pin,I.hok,I.len⟩
theorem Ze4.still {P:jw} {w:jB} {K:Qa} {mg:Str->Option Value} {base:Heap} {A:Around} {outer:List Env} {s:jj} {H:Hp} (e:Ze4 P w K mg base A outer s H):Ze4 P w K mg base (still A) outer s H:=
 ⟨e.frames,e.mod,e.bs,e.bsz,e.funs,e.frf,e.hok,e.bare⟩
def ZtD (t:TS):TS:=fun D σ H=>∃N:St->Hp->Prop,t {nx:=N,rt:=D.rt,bk:=D.bk,ct:=D.ct} σ H/\∀σ' H',N σ' H'->D.nx σ' H'
theorem z5 {t:TS} {D:ZbL} {σ:St} {H:Hp} (N:St->Hp->Prop) (h1:t {nx:=N,rt:=D.rt,bk:=D.bk,ct:=D.ct} σ H) (h2:∀σ' H',N σ' H'->D.nx σ' H'):ZtD t D σ H:=⟨N,h1,h2⟩
theorem ZM {X:Cx} {st:Stmt} {t:TS} (h:PS X st t):PS X st (ZtD t):=by
 rintro Zb s σ H D I ⟨N,q,hn⟩;refine thn (h Zb s σ H _ I q) fun f s1 z=>?_
 cases f with
 |next=>obtain ⟨σ1,H1,I1,q⟩:=z;exact ⟨σ1,H1,I1,hn _ _ q⟩
 |brk=>exact z
 |cont=>exact z
 |ret u=>exact z
end L2
namespace LP
open PySem L2
theorem Zrj {α:Type} (l:List α) (i m:Nat):cut l (some (i:Int)) (some ((i:Int)+(m:Int)))=(l.drop i).take m:=by
 unfold cut;show (l.drop (if (i:Int)<0 then ((i:Int)+(l.length:Int)).toNat else min (i:Int).toNat l.length)).take ((if (i:Int)+(m:Int)<0 then ((i:Int)+(m:Int)+(l.length:Int)).toNat else min ((i:Int)+(m:Int)).toNat l.length)-(if (i:Int)<0 then ((i:Int)+(l.length:Int)).toNat else min (i:Int).toNat l.length))=(l.drop i).take m;rw [if_neg (by omega),if_neg (by omega),Qn,show ((i:Int)+(m:Int)).toNat=i+m by omega];by_cases h:i<=l.length
 ·rw [Uh h];by_cases h2:i+m<=l.length
  ·rw [Uh h2,Wh]
  ·rw [Vf (by omega),QD (by rw [jJ];omega),QD (by rw [jJ];omega)]
 ·have e1:min i l.length=l.length:=by omega
  rw [e1,Q9 (Qf _),Q9 (by omega)];simp
def plc (l p:List Nat):List Nat:=(Qk ((l.length:Int)-(p.length:Int)+1).toNat).filter fun i=>decide ((l.drop i).take p.length=p)
end LP
namespace L2
open PySem PySem.Spec PyProof.Rows
structure Ztc (Cd:Cx->Prop) (P:jw) (w:jB) (K:Qa) (tg:jF) (J:It) (fp:List jk) (it:jk) (tn:Nat->Heap->Prop):Prop where
 mem:it∈fp
 obj:∀i h,tn i h->∀b∈fp,∃o,h.get? b=some o/\∀v,o.data≠ .cell v
 keep:∀i h h',tn i h->(∀b∈fp,∀o,h.get? b=some o->h'.get? b=some o)->tn i h'
 item:∀(X:Cx),X.prog=P->X.w=w->X.K=K->Cd X->∀(i:Nat) (Zb:List (jk×Obj)) (s:jj) (σ:St) (H:Hp) (E:Value->jj->Prop),Inv X Zb σ H s->(∀b∈fp,ZcE X Zb H b)->tn i s.heap->J.go i H->
  jo (jr P w) X.A (uf (.ref it)) (fun r s1=>∃u,r=some u/\jo (jr P w) X.A (vK tg (.ref it) u) (fun _ s2=>∃x H',Inv X Zb σ H' s2/\ZW x u/\J.yld i H x H'/\tn (i+1) s2.heap/\∀b∈fp,H' b=none) E s1) E s
 done:∀(X:Cx),X.prog=P->X.w=w->X.K=K->Cd X->∀(i:Nat) (Zb:List (jk×Obj)) (s:jj) (σ:St) (H:Hp) (E:Value->jj->Prop),Inv X Zb σ H s->(∀b∈fp,ZcE X Zb H b)->tn i s.heap->J.stop i H->jo (jr P w) X.A (uf (.ref it)) (fun r s1=>r=none/\Inv X Zb σ H s1) E s
 self:∀(A:Around) (i:Nat) (s:jj) (Q:Value->jj->Prop) (E:Value->jj->Prop),tn i s.heap->Q (.ref it) s->jo (jr P w) A (Qac (.ref it)) Q E s
def ZDl (Cd:Cx->Prop) (X:Cx) (Zb:List (jk×Obj)) (σ:St) (tg:jF) (R:It->Hp->Prop) (itv:Value) (s2:jj):Prop:=
 ∃(it:jk) (fp:List jk) (tn:Nat->Heap->Prop) (J:It) (H':Hp),itv=.ref it/\Inv X Zb σ H' s2/\Ztc Cd X.prog X.w X.K tg J fp it tn/\tn 0 s2.heap/\(∀b∈fp,ZcE X Zb H' b)/\R J H'
def PIG (Cd:Cx->Prop) (X:Cx) (tg iter:jF) (wi:TI):Prop:=∀(Zb:List (jk×Obj)) (s:jj) (σ:St) (H:Hp) (R:It->Hp->Prop),Inv X Zb σ H s->wi σ H R->jo (jr X.prog X.w) X.A (eval iter X.env) (fun v s1=>jo (jr X.prog X.w) X.A (Qac v) (ZDl Cd X Zb σ tg R) X.xe s1) X.xe s
theorem PI.toG {X:Cx} {tg iter:jF} {wi:TI} (h:PI X tg iter wi):PIG (fun X=>X.calm=true) X tg iter wi:=fun Zb s σ H R I q=>thn (h Zb s σ H R I q) fun v s1 h1=>thn h1 fun itv s2 ⟨it,fp,tn,J,H',e,I',T,r⟩=>⟨it,fp,tn,J,H',e,I',⟨T.mem,T.obj,T.keep,T.item,T.done,T.self⟩,r⟩
section
variable {X:Cx}
theorem ZiK {Cd:Cx->Prop} {elt iter target:jF} {i₀:Nat} {y₀:Str} {p₀ p₁:Pos} {ifs:List jF} {scope:Scope} {pos:Pos} {cl:List (Str×jk)} {own:List Str} {cp:List (Str×Nat)} {wi:TI} {g:TG} {tc:TT} {te:TE}
 (hc:∀fp c s H,Cd (cxC X scope cl (own++cp.map (·.1)) fp c s H)) (hcl:qj scope.names X.env.cells []=some cl) (hk:scope.kind=.function) (hnc:∀y∈scope.names,y.2≠ .cell)
 (hnm:∀x∈scope.names,x.2=.local->scope.names.lookup x.1=some .local) (hcp:JE X scope cp) (hi:PIG Cd X target iter wi) (gk:Zgq own.length g)
 (hg:∀fp C s H,PG (cxC X scope cl (own++cp.map (·.1)) fp C s H) target g) (ht:∀fp C s H,PFs (cxC X scope cl (own++cp.map (·.1)) fp C s H) ifs tc) (he:∀fp C s H,PE (cxC X scope cl (own++cp.map (·.1)) fp C s H) elt te)
 (hN:X.N.Nodup) (hi₀:X.N[i₀]?=some y₀) (hx₀:X.env.scope.names.lookup y₀=some .local) (hsw:uZ (.ListComp elt [⟨target,iter,ifs,0⟩] scope pos) (some (.Name y₀ p₀)) p₁.line X.env=pure true)
 (hs:∀x,jG iter X.env x=pure x:=by intro _;rfl):PS X (.Assign [.Name y₀ p₀] (.ListComp elt [⟨target,iter,ifs,0⟩] scope pos) p₁) (ZhI (Zlk own.length cp wi g tc te) (Y6 i₀)):=by
 intro Zb s σ H D I h;rw [exec_Assign_Name_used _ _ _ _ hsw];refine ji (wpAny_standAt (ji ?_));show jo _ _ (comprehension (.ListComp elt [⟨target,iter,ifs,0⟩] scope pos) scope X.env (firstIterPos [⟨target,iter,ifs,0⟩] pos) (newList []) false (eval iter X.env) (some (vA (.Name y₀ p₀) X.env)) >>=fun _=>pure ()) _ _ s;refine ji ?_;refine wpAny_comprehension_free (use:=some (vA (.Name y₀ p₀) X.env)) rfl hs (ZaL hcl) hk hnm (thn (hi Zb s σ H _ I h) fun xv s1 h1=>thn h1 fun itv s2 h2=>?_);obtain ⟨it,fp,tn,J,H2,e,I2,Tn,st2,f2,W,⟨m0,w0⟩,turn⟩:=h2;subst e;have hlt:∀b∈fp,b<s2.heap.objs.size:=fun b hb=>by obtain ⟨o,e,_⟩:=Tn.obj _ _ st2 b hb;exact Qj e
 refine jZ (vO hnc (by intro y hy;simp at hy) (fun h1 hns hsb=>?_) hk)
 dsimp only at hns hsb ⊢
 generalize hP:s2.heap.push {cls:=.type "list",dict:=none,data:=.seq ([]:List Value).toArray}=h0 at hns hsb ⊢
 have hCs:h0.objs.size=s2.heap.objs.size+1:=by rw [<-hP,Uo]
 generalize hCg:h0.objs.size=C at hns hsb hCs ⊢
 have hC:s2.heap.objs.size<C:=by omega
 have neC:∀b:jk,b<s2.heap.objs.size->b≠C:=fun b h=>Qm (VG h hC)
 have old:∀b o,s2.heap.get? b=some o->h1.get? b=some o:=fun b o e=>
  (hsb.2 b (neC b (Qj e))).trans (by rw [Qe _ (by rw [<-hP];exact Qe _ e)])
 have hD:h1.get? s2.heap.objs.size=some (Zbc [] 0):=
  (hsb.2 _ (Qm hC)).trans (by rw [Qe _ (by rw [<-hP];exact Qh _ rfl)])
 have fpok:∀{its:List Value} {k:Nat} {H':Hp},(∀b∈fp,H' b=none)->∀b∈fp,ZcE (cxC X scope cl (own++cp.map (·.1)) fp C s2 H2) [(s2.heap.objs.size,Zbc its k)] H' b:=fun {its k H'} fr b hb=>by
  refine ⟨fr b hb,neC b (hlt b hb),fun hf=>?_,.inl hb,fun x c e=>?_,fun p hp=>?_⟩
  ·have hf:b∈frs X.stack:=hf;rcases jK.mp (I2.stkSub b hf) with z|z
   ·exact (f2 b hb).2.1 z
   ·exact (f2 b hb).2.2.1 z
  ·exact (f2 b hb).2.2.2.2.1 x c ((Jn scope.names [] hcl (fun x c h=>by simp at h)).1 x c e)
  ·have hp:p∈[(s2.heap.objs.size,Zbc its k)]:=hp;cases ju.mp hp;exact QX (hlt b hb)
 have loop:∀s4:jj,s4= {s2 with heap:=h1,toks:=s2.toks+([]:List (Str×Value)).length}->
  uW (jr X.prog X.w) X.A (.compLoop (.ListComp elt [⟨target,iter,ifs,0⟩] scope pos) 0 (.ref it) (.ref s2.heap.objs.size) (uc scope cl C X.env))
   (compPost (jr X.prog X.w) X.A X.xe (some (vA (.Name y₀ p₀) X.env)) (fun _ s'=>jo (jr X.prog X.w) X.A (pure ()) (fun _ s''=>jo (jr X.prog X.w) X.A (pure Flow.next) (SP X Zb D) X.xe s'') X.xe s') (.ref s2.heap.objs.size) C) s4:=by
  intro s4 e4;have I4:Inv (cxC X scope cl (own++cp.map (·.1)) fp C s2 H2) [(s2.heap.objs.size,Zbc [] 0)] (ZaK own.length cp σ) H2 s4:=by rw [e4];exact Zfh I2 hcl hk hnc hcp f2 hC hlt (by simpa using hns) old hD
  have st4:tn 0 s4.heap:=by rw [e4];exact Tn.keep _ _ _ st2 fun b _ o e=>old b o e
  refine codeAny_loop rfl (fun n s'=>∃i H' acc its k,Inv (cxC X scope cl (own++cp.map (·.1)) fp C s2 H2) [(s2.heap.objs.size,Zbc its k)] (ZaK own.length cp σ) H' s'/\ZE acc its/\tn i s'.heap/\(∀b∈fp,H' b=none)/\W i n H' acc)
   (fun n s' hI=>?_) m0 ⟨0,H2,[],[],0,I4,.nil,st4,fun b hb=>(f2 b hb).1,w0⟩
  obtain ⟨i,H',acc,its,k,I',rv,st,fr,w⟩:=hI;show jo _ X.A ((compTurn (.ListComp elt [⟨target,iter,ifs,0⟩] scope pos) 0 (.ref it) (.ref s2.heap.objs.size) (uc scope cl C X.env)).onRaise (fun x=>do noteFrame x (uc scope cl C X.env);theTreesLotGoes x)) _ _ s';refine wpAny_noted ?_;rw [compTurn_list];refine ji (wpAny_standAt (ji ?_));obtain ⟨hz,⟨stop,fin⟩|⟨go,step⟩⟩:=turn i n H' acc w
  ·refine ZeM (Tn.done (cxC X scope cl (own++cp.map (·.1)) fp C s2 H2) rfl rfl rfl (hc _ _ _ _) i _ s' _ H' (fun _ _=>False) I' (fpok fr) st stop) fun r s5 ⟨hr,I5⟩=>?_;subst hr;refine jl ?_;obtain ⟨mm,hmm,_⟩:=I5.loc;have hmm:s5.heap.Ns C mm:=hmm;obtain ⟨hn,I6⟩:=Zh3 (h'':=s5.heap) I2 f2 rfl hC I5 rv (QQ hz) ⟨rfl,fun _ _=>rfl⟩;obtain ⟨oC,eC,pC,g1,g2,g3⟩:=id hmm;have hC2:s2.heap.objs.size<=C:=QQ hC;have fC:ZcE X Zb (upd H' s2.heap.objs.size (.lst acc)) C:=I2.fpOk hC2 (by rw [Zj (QX hC)];exact I5.free)
   have I7:Inv X (Zb++[(C,oC)]) σ (upd H' s2.heap.objs.size (.lst acc)) s5:=I6.pins_of fun p hp=>by
    rcases jL.mp hp with hp|hp
    ·exact I6.pin p (js _ hp)
    ·cases ju.mp hp;exact ⟨g1,fC.1,fC.2.1,fC.2.2.1,fun v z=>by rw [g2] at z;cases z⟩
   refine wpAny_assign_Name (Zcm I7 hN hi₀ (.inl hx₀) (show ZW (.ref s2.heap.objs.size) (.ref s2.heap.objs.size) from rfl) (fun s6 I8=>?_) (.inr hx₀));have e6:=(I8.pin (C,oC) (js _ (js _ (ju.mpr rfl)))).1;refine ⟨mm,⟨oC,eC,pC,e6,g2,g3⟩,fun h'' hs''=>jl (jl ⟨_,_,I8.unpinned.turned (t':=s6.toks) (it:=C) (fun b o hb e=>(hs''.2 b hb).trans e) fC.1 fC.2.1 fC.2.2.2.1 fC.2.2.2.2.1 fC.2.2.2.2.2,fin _ hn⟩)⟩
  ·refine ZeM (Tn.item (cxC X scope cl (own++cp.map (·.1)) fp C s2 H2) rfl rfl rfl (hc _ _ _ _) i _ s' _ H' (fun _ _=>False) I' (fpok fr) st go) fun r s5 ⟨u,hr,h5⟩=>?_;subst hr;refine ji (ZeM h5 fun _ s6 ⟨x,H6,I6,r6,y6,st6,fr6⟩=>?_);have I6':=I6.pinned (fpok fr6) (Tn.obj _ _ st6);refine ji (ZeM (hg fp C s2 H2 _ s6 _ H6 x u _ I6' r6 (gk _ _ _ _ (step x H6 y6))) fun _ s7 ⟨σ7,H7,I7,q7,kp7⟩=>?_);refine ji (ZeM (ht fp C s2 H2 _ s7 σ7 H7 _ I7 q7) fun b s8 ⟨H8,I8,q8⟩=>?_)
   have weak:∀{H9:Hp} {s9:jj} {ps:List (jk×Obj)},Inv (cxC X scope cl (own++cp.map (·.1)) fp C s2 H2) ps σ7 H9 s9->Inv (cxC X scope cl (own++cp.map (·.1)) fp C s2 H2) ps (ZaK own.length cp σ) H9 s9:=fun {H9 s9 ps} I9=>
    I9.weak (by rw [I9.len];exact I'.len) fun j v e=>by
     by_cases hj:own.length<=j
     ·rw [kp7 j hj];exact e
     ·unfold ZaK at e;rw [Qx (by rw [uK];omega),UK] at e;split at e<;>cases e
   have turned:∀{H9:Hp} {s9:jj},Inv (cxC X scope cl (own++cp.map (·.1)) fp C s2 H2) ([(s2.heap.objs.size,Zbc its k)]++ZaE fp s6.heap) σ7 H9 s9->(∀b∈fp,H9 b=none)/\∀b∈fp,∀o,s6.heap.get? b=some o->s9.heap.get? b=some o:=fun {H9 s9} I9=>by
    refine ⟨fun b hb=>?_,fun b hb o e=>?_⟩
    ·obtain ⟨o,e,_⟩:=Tn.obj _ _ st6 b hb;exact (I9.pin (b,o) (js _ (js _ (Zaf hb e)))).2.1
    ·exact (I9.pin (b,o) (js _ (js _ (Zaf hb e)))).1
   cases b with
   |false=>
    obtain ⟨m',hm',w8⟩:=q8;refine jl ⟨rfl,m',hm',i+1,H8,acc,its,k,weak I8.unpinned,rv,Tn.keep _ _ _ st6 (turned I8).2,(turned I8).1,w8⟩
   |true=>
    refine ji (ji (ZeM (he fp C s2 H2 _ s8 σ7 H8 _ I8 q8) fun uy s9 ⟨y,H9,I9,r9,m',hm',w9⟩=>?_));have pD:=I9.pin (s2.heap.objs.size,Zbc its k) (js _ (uk _ (ju.mpr rfl)));have lenI:=rv.length;refine ji (wpAny_list_append_plain (items:=its.toArray) ⟨k,pD.1⟩ (fun h10 pl sb=>?_) (by rw [jC];omega));obtain ⟨k',hk'⟩:=pl
    have I10:Inv (cxC X scope cl (own++cp.map (·.1)) fp C s2 H2) (ZaE fp s6.heap) σ7 H9 {s9 with heap:=h10}:=by
     have I9':Inv (cxC X scope cl (own++cp.map (·.1)) fp C s2 H2) (ZaE fp s6.heap) σ7 H9 s9:=I9.pins_of fun p hp=>I9.pin p (js _ (js _ hp));refine I9'.turned (t':=s9.toks) (it:=s2.heap.objs.size) (fun b o hb e=>(sb.2 b hb).trans e) pD.2.1 pD.2.2.1 (.inr (Qf _)) (fun x c e z=>?_) fun p hp z=>?_
     ·obtain ⟨v,o,ho,hd⟩:=I9.cell x c e;rw [z,pD.1] at ho;cases ho;cases hd
     ·have hp:p∈ZaE fp s6.heap:=hp;exact Qm (hlt p.1 (Zd4 hp).1) z
    have kk:∀b∈fp,∀o,s6.heap.get? b=some o->h10.get? b=some o:=fun b hb o e=>(sb.2 b (Qm (hlt b hb))).trans ((turned I9).2 b hb o e);have I11:Inv (cxC X scope cl (own++cp.map (·.1)) fp C s2 H2) [(s2.heap.objs.size,Zbc (its++[uy]) k')] σ7 H9 {s9 with heap:=h10}:=I10.pins_of fun p hp=>by cases ju.mp hp;refine ⟨?_,pD.2.1,pD.2.2.1,pD.2.2.2.1,fun v z=>by cases z⟩;rw [hk'];simp
    exact jl (jl ⟨rfl,m',hm',i+1,H9,acc++[y],its++[uy],k',weak I11,rv.append (.cons r9 .nil),Tn.keep _ _ _ st6 kk,(turned I9).1,w9⟩)
 exact codeAny_compStart_list (loop _ rfl) (Tn.self _ 0 _ _ _ (Tn.keep _ _ _ st2 fun b _ o e=>old b o e) (loop _ rfl))
theorem Zr6 {elt iter target:jF} {i₀:Nat} {y₀:Str} {p₀ p₁:Pos} {ifs:List jF} {scope:Scope} {pos:Pos} {cl:List (Str×jk)} {own:List Str} {cp:List (Str×Nat)} {wi:TI} {g:TG} {tc:TT} {te:TE}
 (hc:X.calm=true) (hcl:qj scope.names X.env.cells []=some cl) (hk:scope.kind=.function) (hnc:∀y∈scope.names,y.2≠ .cell)
 (hnm:∀x∈scope.names,x.2=.local->scope.names.lookup x.1=some .local) (hcp:JE X scope cp) (hi:PI X target iter wi) (gk:Zgq own.length g)
 (hg:∀fp C s H,PG (cxC X scope cl (own++cp.map (·.1)) fp C s H) target g) (ht:∀fp C s H,PFs (cxC X scope cl (own++cp.map (·.1)) fp C s H) ifs tc) (he:∀fp C s H,PE (cxC X scope cl (own++cp.map (·.1)) fp C s H) elt te)
 (hN:X.N.Nodup) (hi₀:X.N[i₀]?=some y₀) (hx₀:X.env.scope.names.lookup y₀=some .local) (hsw:uZ (.ListComp elt [⟨target,iter,ifs,0⟩] scope pos) (some (.Name y₀ p₀)) p₁.line X.env=pure true)
 (hs:∀x,jG iter X.env x=pure x:=by intro _;rfl):PS X (.Assign [.Name y₀ p₀] (.ListComp elt [⟨target,iter,ifs,0⟩] scope pos) p₁) (ZhI (Zlk own.length cp wi g tc te) (Y6 i₀)):=
 ZiK (Cd:=fun X=>X.calm=true) (fun _ _ _ _=>hc) hcl hk hnc hnm hcp hi.toG gk hg ht he hN hi₀ hx₀ hsw hs
theorem Zqr {i₀:Nat} {y₀:Str} {p₀ p₁:Pos} {elt a:jF} {ifs:List jF} {x:Str} {px p p':Pos} {scope:Scope} {pos:Pos} {cl:List (Str×jk)} {own:List Str} {cp:List (Str×Nat)} {ta:TA} {tc:TT} {te:TE}
 (hm:X.mg "range"=none) (hc:X.calm=true) (hcl:qj scope.names X.env.cells []=some cl) (hk:scope.kind=.function) (hnc:∀y∈scope.names,y.2≠ .cell)
 (hnm:∀x∈scope.names,x.2=.local->scope.names.lookup x.1=some .local) (hcp:JE X scope cp) (ha:PA X [a] ta) (hn:0<own.length)
 (hg:∀fp C s H,PG (cxC X scope cl (own++cp.map (·.1)) fp C s H) (.Name x px) (Y6 0)) (ht:∀fp C s H,PFs (cxC X scope cl (own++cp.map (·.1)) fp C s H) ifs tc) (he:∀fp C s H,PE (cxC X scope cl (own++cp.map (·.1)) fp C s H) elt te)
 (hN:X.N.Nodup) (hi₀:X.N[i₀]?=some y₀) (hx₀:X.env.scope.names.lookup y₀=some .local) (hsw:uZ (.ListComp elt [⟨.Name x px,.Call (.Name "range" p) [a] [] p',ifs,0⟩] scope pos) (some (.Name y₀ p₀)) p₁.line X.env=pure true:=by rfl)
 (hgl:Gl X "range":=by rfl) (hst:jx [a] X.env=[(false,eval a X.env)]:=by rfl)
 (hs:∀z,jG (.Call (.Name "range" p) [a] [] p') X.env z=pure z:=by intro _;rfl):PS X (.Assign [.Name y₀ p₀] (.ListComp elt [⟨.Name x px,.Call (.Name "range" p) [a] [] p',ifs,0⟩] scope pos) p₁) (ZhI (tCR own.length cp ta tc te) (Y6 i₀)):=by
 have ha':PA X [a] (fun σ H Q=>∃Q0:List V->Hp->Prop,ta σ H Q0/\∀v H',Q0 v H'->Q v H'):=ha.imp fun σ H Q h=>h;intro Zb s σ H D I h;refine Zr6 hc hcl hk hnc hnm hcp (Zei hgl hm ha' hst) (Zcx hn) hg (fun fp C s H=>(ht fp C s H).imp (t':=Zjb tc) fun _ _ _ z=>z) (fun fp C s H=>(he fp C s H).imp (t':=Zja te) fun _ _ _ z=>z) hN hi₀ hx₀ hsw hs Zb s σ H D I ?_;refine ⟨_,h,fun vs H1 q=>?_⟩;split at q
 ·rename_i j;obtain ⟨⟨b1,b2⟩,Pv,p0,ps,pe⟩:=q;have hsl:sizeLine=16777216:=jt;refine ⟨j,rfl,b1,by omega,fun i m H2 acc=>m=j.toNat-i/\i<=j.toNat/\acc.length<=i/\Pv i H2 acc,⟨j.toNat,by omega,Qu _,Qf _,p0⟩,?_⟩;rintro i m H2 acc ⟨rfl,hi,hl,pv'⟩;refine ⟨by omega,?_⟩;by_cases hlt:i<j.toNat
  ·refine .inr ⟨hlt,fun y H3 ⟨e3,ey⟩=>?_⟩;subst e3 ey;rw [show (0:Int)+(i:Int)=(i:Int) from VJ _];exact ZbB (N':=fun H a=>∃m',m'<j.toNat-i/\(m'=j.toNat-(i+1)/\i+1<=j.toNat/\a.length<=i+1/\Pv (i+1) H a)) (fun H a ha z=>⟨j.toNat-(i+1),by omega,rfl,hlt,by omega,z⟩) (ps i H3 acc hlt pv')
  ·have e:i=j.toNat:=by omega
   subst e;exact .inl ⟨Qf _,fun l hl'=>pe H2 acc pv' l hl'⟩
 ·exact q.elim
end
end L2
namespace LO
def ltk (t:List Nat) (k:Nat):List Nat:=((ord t).take k).filterMap (Yf t)
theorem Zk2 (t:List Nat) {n:Nat} (h:t.length+1<=n):ltk t n=zC t:=by unfold ltk zC;rw [QD (by rw [qP];exact h)]
theorem ZpZ {t:List Nat} {k:Nat} (h:(ord t)[k]?=some 0):ltk t (k+1)=ltk t k:=by unfold ltk;rw [Ua,h,Vm];simp [Yf]
theorem Zp0 {t:List Nat} {k j:Nat} (h:(ord t)[k]?=some j) (hj:0<j):ltk t (k+1)=ltk t k++[t.getD (j-1) 0]:=by
 have hm:j<=t.length:=ZaR.mp (QE h);have e:Yf t j=some (t.getD (j-1) 0):=by unfold Yf;rw [if_neg (by omega),Qb,Qd (by omega)];rfl
 unfold ltk;rw [Ua,h,Vm];simp [e]
theorem ZrN (t:List Nat) (k:Nat):(ltk t k).length<=k:=by unfold ltk;exact QI (List.length_filterMap_le _ _) (by rw [jz];omega)
theorem ZrU (t:List Nat):((ord t).map fun i:Nat=>L2.V.int i)=((ord t).map fun i:Nat=>(i:Int)).map L2.V.int:=by rw [uJ];rfl
theorem Zif (t:List Nat):(0:Int)∈(ord t).map fun i:Nat=>(i:Int):=UD.mpr ⟨0,ZaR.mpr (Qu _),rfl⟩
theorem Zo4 (t:List Nat):((ord t).map fun i:Nat=>(i:Int)).idxOf 0=ZdZ t:=by
 have hlt:=VT (Zif t);have hk:=List.getElem_idxOf hlt;rw [VL] at hk;refine (ZeZ (l:=t) (k:=((ord t).map fun i:Nat=>(i:Int)).idxOf 0) (j:=0) ?_).symm;rw [Qd (by simpa using hlt)]
 congr 1
 omega
theorem Zq7 (t:List Nat):(ord t)[ZdZ t]?=some 0:=ZbC (Qu _)
theorem Zrw (t:List Nat):ZdZ t<t.length+1:=Zhw (Qu _)
end LO
namespace L2
open PySem PySem.Spec PyProof.Rows
inductive EqT (K:Qa) (H:Hp):Nat->V->V->Prop
 |flat {n:Nat} {x y:V} (hx:ZaI x=true) (hy:ZaI y=true) (h:eqV x y=true):EqT K H n x y
 |same {n:Nat} (a:jk):EqT K H n (.ref a) (.ref a)
 |tup {n:Nat} {a b:jk} {xs ys:List V} (ha:SqT K H a xs) (hb:SqT K H b ys) (hl:xs.length=ys.length) (h:∀(j:Nat) (x y:V),xs[j]?=some x->ys[j]?=some y->EqT K H n x y):EqT K H (n+1) (.ref a) (.ref b)
 |lst {n:Nat} {a b:jk} {xs ys:List V} (ha:SqL K H a xs) (hb:SqL K H b ys) (hl:xs.length=ys.length) (h:∀(j:Nat) (x y:V),xs[j]?=some x->ys[j]?=some y->EqT K H n x y):EqT K H (n+1) (.ref a) (.ref b)
section
variable {X:Cx} {Zb:List (jk×Obj)} {σ:St} {H:Hp} {s:jj}
theorem ZcD {xs ys:List V} {us vs:List Value} (r1:ZE xs us) (r2:ZE ys vs) (j:Nat) (h1:j<us.length) (h2:j<vs.length):∃x y,xs[j]?=some x/\ys[j]?=some y/\ZW x us[j]/\ZW y vs[j]:=by
 have l1:=r1.length;have l2:=r2.length;have e1:xs[j]?=some xs[j]:=by simp [l1,h1]
 have e2:ys[j]?=some ys[j]:=by simp [l2,h2]
 obtain ⟨u,hu,ru⟩:=r1.get e1;obtain ⟨v,hv,rv⟩:=r2.get e2;rw [Qd h1] at hu;rw [Qd h2] at hv;have hu:=Option.some.inj hu;have hv:=Option.some.inj hv;subst hu hv;exact ⟨_,_,e1,e2,ru,rv⟩
theorem Zdh (n:Nat):(Qk n).all (fun _=>true)=true:=by rw [List.all_eq_true];intro _ _;rfl
theorem EqT.at (I:Inv X Zb σ H s) {n:Nat} {x y:V} (h:EqT X.K H n x y):∀{A:Around} {u v:Value},ZW x u->ZW y v->A.units+n<cLine->SeqAt.EqAt A s u v true:=by
 induction h with
 |flat hx hy h=>
  intro A u v ru rv _;have:=ZoC (A:=A) (s:=s) ru rv hx hy;rwa [h] at this
 |same a=>
  intro A u v ru rv _;obtain rfl:u=Value.ref a:=ru;obtain rfl:v=Value.ref a:=rv;exact SeqAt.EqAt.same _
 |@tup n a b xs ys ha hb hl h ih=>
  intro A u v ru rv hu;obtain rfl:u=Value.ref a:=ru;obtain rfl:v=Value.ref b:=rv;by_cases hab:a=b
  ·subst hab;exact SeqAt.EqAt.same _
  obtain ⟨its,r1,p1,z1⟩:=I.tuple ha;obtain ⟨ist,r2,p2,z2⟩:=I.tuple hb;have l1:=r1.length;have l2:=r2.length;have:=SeqAt.RcAt.tuples (A:=A) (e:=fun _=>true) p1 p2 (by omega) fun j h1 h2=>by obtain ⟨x,y,e1,e2,rx,ry⟩:=ZcD r1 r2 j (by simpa using h1) (by simpa using h2);exact ih j x y e1 e2 rx ry (by rw [Around.in1_units];omega)
  rw [Zdh,show (its.toArray.size==ist.toArray.size)=true by simp;omega] at this;exact SeqAt.EqAt.of_refs hab this
 |@lst n a b xs ys ha hb hl h ih=>
  intro A u v ru rv hu;obtain rfl:u=Value.ref a:=ru;obtain rfl:v=Value.ref b:=rv;by_cases hab:a=b
  ·subst hab;exact SeqAt.EqAt.same _
  obtain ⟨its,r1,p1,z1⟩:=I.list ha;obtain ⟨ist,r2,p2,z2⟩:=I.list hb;have l1:=r1.length;have l2:=r2.length;have:=SeqAt.RcAt.lists (A:=A) (e:=fun _=>true) p1.isList p2.isList (by simp;omega) (by omega) fun j h1 h2=>by obtain ⟨x,y,e1,e2,rx,ry⟩:=ZcD r1 r2 j (by simpa using h1) (by simpa using h2);exact ih j x y e1 e2 rx ry (by rw [Around.in1_units];omega)
  rw [Zdh] at this;exact SeqAt.EqAt.of_refs hab this
end
def ZjY (K:Qa) (H:Hp) (a b:jk):Prop:=∃xs ys,((SqL K H a xs/\SqL K H b ys)\/(SqT K H a xs/\SqT K H b ys))/\xs.length=ys.length/\∀(j:Nat) (x y:V),xs[j]?=some x->ys[j]?=some y->EqT K H 4 x y
def Zm2 (K:Qa) (neg:Bool):R2:=fun x y H Q=>match x,y with
 | .ref a,.ref b=>ZjY K H a b/\Q (.bl (!neg)) H
 |_,_=>False
section
variable {X:Cx}
theorem Zk5 {K:Qa} {k:Nat} (hK:X.K=K) (hr:Ye k X.A):OpR X (jX .Eq) (Zm2 K false):=by
 subst hK;intro Zb s σ H x y v u Q I rx ry h;unfold Zm2 at h;split at h
 ·rename_i a b;obtain ⟨⟨xs,ys,q12,hl,ha⟩,q⟩:=h;cases rx;cases ry;have hu:X.A.units+20<cLine:=by have:=hr.un;omega
  rcases q12 with ⟨q1,q2⟩|⟨q1,q2⟩
  ·obtain ⟨its,r1,p1,z1⟩:=I.list q1;obtain ⟨ist,r2,p2,z2⟩:=I.list q2;have l1:=r1.length;have l2:=r2.length;refine SeqAt.eq_listAt (e:=fun _=>true) p1.isList p2.isList (by simp;omega) (by omega) (fun j h1 h2=>?_) ?_
   ·obtain ⟨x,y,e1,e2,rx,ry⟩:=ZcD r1 r2 j (by simpa using h1) (by simpa using h2);exact (ha j x y e1 e2).at I rx ry (by rw [Around.in1_units];omega)
   ·rw [Zdh];exact ZV I q rfl
  ·obtain ⟨its,r1,p1,z1⟩:=I.tuple q1;obtain ⟨ist,r2,p2,z2⟩:=I.tuple q2;have l1:=r1.length;have l2:=r2.length;refine SeqAt.eq_tupleAt (e:=fun _=>true) p1 p2 (by omega) (fun j h1 h2=>?_) ?_
   ·obtain ⟨x,y,e1,e2,rx,ry⟩:=ZcD r1 r2 j (by simpa using h1) (by simpa using h2);exact (ha j x y e1 e2).at I rx ry (by rw [Around.in1_units];omega)
   ·rw [Zdh,show (its.toArray.size==ist.toArray.size)=true by simp;omega];exact ZV I q rfl
 ·exact h.elim
end
end L2
namespace LP
open PySem L2
def flat (rs:List (Nat×Nat)):List Nat:=(rs.map fun r=>Qv r.2 r.1).flatten
def Ztb (H H':Hp):Prop:=∀t xs,H t=some (.tup xs)->H' t=some (.tup xs)
theorem ZiP {H H':Hp} (sm:Zs H H'):Ztb H H':=fun t xs h=>sm t _ h
end LP
namespace L2
open PySem PySem.Spec PyProof.Rows
theorem Yd {x y:Nat} (h:x≠y):@Ne jk x y:=h
theorem Zmv {n a b:Nat} (la:a<n) (lb:b<n):@vY (n+4:Nat) (n+2:Nat) (n+3:Nat) n (n+1:Nat) a b:=
 ⟨Yd (by omega),Yd (by omega),Yd (by omega),Yd (by omega),Yd (by omega),Yd (by omega),Yd (by omega),Yd (by omega),Yd (by omega),
  Yd (by omega),Yd (by omega),Yd (by omega),Yd (by omega),Yd (by omega),Yd (by omega),Yd (by omega),Yd (by omega),Yd (by omega)⟩
section
variable {X:Cx} {es:List jF} {k:Nat} {tp:Pos}
abbrev g2 (K:Qa) (i j:Nat):TG:=ZlG K 2 (ZgC (Y6 i) (ZgC (Y6 j) ZoM))
theorem ZDA {K:Qa} {n i j:Nat} (hi:i<n) (hj:j<n):Zgq n (g2 K i j):=by intro x σ H Q q;obtain ⟨a,xs,e1,e2,e3,v,vr,e4,v',vr',e5,e6,q⟩:=q;refine ⟨a,xs,e1,e2,e3,v,vr,e4,v',vr',e5,e6,q,fun k hk=>?_⟩;rw [Ui (by omega),Ui (by omega)]
section
variable {elt iter:jF} {ifs:List jF} {u v:Str} {pu pv:Pos} {scope:Scope} {pos:Pos} {cl:List (Str×jk)} {own:List Str} {cp:List (Str×Nat)} {ta:TA} {tl:TE} {tc:TT} {te:TE}
theorem ZDG {hc:X.calm=true} {N:List Str} (gu:∀fp C s H,PG (cxC X scope cl N fp C s H) (.Name u pu) (Y6 0)) (gv:∀fp C s H,PG (cxC X scope cl N fp C s H) (.Name v pv) (Y6 1))
 (h1:∀C,(jO [.Name u pu,.Name v pv] (uc scope cl C X.env)).map (·.2)=vA (.Name u pu) (uc scope cl C X.env)::(jO [.Name v pv] (uc scope cl C X.env)).map (·.2)) (h2:∀C,(jO [.Name v pv] (uc scope cl C X.env)).map (·.2)=vA (.Name v pv) (uc scope cl C X.env)::(jO [] (uc scope cl C X.env)).map (·.2))
 (h3:∀C,(jO [.Name u pu,.Name v pv] (uc scope cl C X.env)).length=2) (h4:∀C,(jO [.Name u pu,.Name v pv] (uc scope cl C X.env)).findIdx? (·.1)=none) (fp:List jk) (C:jk) (s:jj) (H:Hp):PG (cxC X scope cl N fp C s H) (.Tuple [.Name u pu,.Name v pv] k tp) (g2 X.K 0 1):=
 ZjE (X:=cxC X scope cl N fp C s H) hc (ZbD (gu fp C s H) (ZbD (gv fp C s H) Zhs (h2 C)) (h1 C)) (h3 C) (h4 C)
def tCP (K:Qa) (n:Nat) (cp:List (Str×Nat)) (tl:TE) (tc:TT) (te:TE):TE:=fun σ H Q=>tl σ H fun v H1=>match v with
 | .ref a=>∃xs,SqL K H1 a xs/\xs.length<16777216/\∃Pv:Nat->Hp->List V->Prop,Pv 0 H1 []/\(∀i H2 acc,i<=xs.length->Pv i H2 acc->SqL K H2 a xs)/\
  (∀i r H2 acc,xs[i]?=some r->Pv i H2 acc->∃t x y,r=.ref t/\SqT K H2 t [x,y]/\Zgj tc te (((ZaK n cp σ).set 0 (some x)).set 1 (some y)) acc (Pv (i+1)) H2)/\∀H2 acc,Pv xs.length H2 acc->∀l,H2 l=none->Q (.ref l) (upd H2 l (.lst acc))
 |_=>False
theorem Zqg {K:Qa} (hK:X.K=K) (hc:X.calm=true) (hcl:qj scope.names X.env.cells []=some cl) (hk:scope.kind=.function) (hnc:∀y∈scope.names,y.2≠ .cell)
 (hnm:∀x∈scope.names,x.2=.local->scope.names.lookup x.1=some .local) (hcp:JE X scope cp) (hl:PE X iter tl) (hn:1<own.length)
 (gu:∀fp C s H,PG (cxC X scope cl (own++cp.map (·.1)) fp C s H) (.Name u pu) (Y6 0)) (gv:∀fp C s H,PG (cxC X scope cl (own++cp.map (·.1)) fp C s H) (.Name v pv) (Y6 1))
 (ht:∀fp C s H,PFs (cxC X scope cl (own++cp.map (·.1)) fp C s H) ifs tc) (he:∀fp C s H,PE (cxC X scope cl (own++cp.map (·.1)) fp C s H) elt te)
 (hs:∀z,jG iter X.env z=pure z:=by intro _;rfl)
 (h1:∀C,(jO [.Name u pu,.Name v pv] (uc scope cl C X.env)).map (·.2)=vA (.Name u pu) (uc scope cl C X.env)::(jO [.Name v pv] (uc scope cl C X.env)).map (·.2):=by intro _;rfl) (h2:∀C,(jO [.Name v pv] (uc scope cl C X.env)).map (·.2)=vA (.Name v pv) (uc scope cl C X.env)::(jO [] (uc scope cl C X.env)).map (·.2):=by intro _;rfl)
 (h3:∀C,(jO [.Name u pu,.Name v pv] (uc scope cl C X.env)).length=2:=by intro _;rfl) (h4:∀C,(jO [.Name u pu,.Name v pv] (uc scope cl C X.env)).findIdx? (·.1)=none:=by intro _;rfl):
 PE X (.ListComp elt [⟨.Tuple [.Name u pu,.Name v pv] k tp,iter,ifs,0⟩] scope pos) (tCP K own.length cp tl tc te):=by
 subst hK;have hl':PE X iter (fun σ H Q=>∃Q0:VK,tl σ H Q0/\∀v H',Q0 v H'->Q v H'):=hl.imp fun σ H Q h=>h;intro Zb s σ H Q I h;refine ZdH hc hcl hk hnc hnm hcp (ZeW hl') (ZDA (i:=0) (j:=1) (by omega) (by omega)) (ZDG (hc:=hc) gu gv h1 h2 h3 h4) (fun fp C s H=>(ht fp C s H).imp (t':=Zjb tc) fun _ _ _ z=>z) (fun fp C s H=>(he fp C s H).imp (t':=Zja te) fun _ _ _ z=>z) hs Zb s σ H Q I ?_;refine ⟨_,h,fun v H1 q=>?_⟩
 cases v with
 |ref a=>
  obtain ⟨xs,hx,hz,Pv,p0,pl,ps,pe⟩:=q;have hsl:sizeLine=16777216:=jt;refine ⟨a,rfl,⟨xs,hx⟩,fun i m H2 acc=>m=xs.length-i/\i<=xs.length/\acc.length<=i/\Pv i H2 acc,⟨xs.length,by omega,Qu _,Qf _,p0⟩,?_⟩;rintro i m H2 acc ⟨rfl,hi,hla,pv'⟩;refine ⟨by omega,?_⟩;have hx2:=pl i H2 acc hi pv';by_cases hlt:i<xs.length
  ·refine .inr ⟨⟨xs,xs[i],hx2,by simp [hlt]⟩,fun y H3 ⟨e3,ey⟩=>?_⟩;subst e3;obtain ⟨t,x0,y0,e4,e5,q1⟩:=ps i y H3 acc (ey xs hx2) pv';subst e4;refine ⟨t,_,rfl,e5,rfl,_,_,rfl,_,_,rfl,rfl,?_⟩;exact ZbB (N':=fun H a=>∃m',m'<xs.length-i/\(m'=xs.length-(i+1)/\i+1<=xs.length/\a.length<=i+1/\Pv (i+1) H a)) (fun H a ha z=>⟨xs.length-(i+1),by omega,rfl,hlt,by omega,z⟩) q1
  ·have e:i=xs.length:=by omega
   subst e;exact .inl ⟨⟨xs,hx2,Qf _⟩,fun l hl'=>pe H2 acc pv' l hl'⟩
 |_=>exact False.elim q
end
end
section
variable {X:Cx}
def ZqK (K:Qa):List V->Hp->VK->Prop:=fun vs H Q=>match vs with
 |[.ref a]=>∃ns:List Int,SqL K H a (ns.map V.int)/\Q (.int ns.sum) H
 |_=>False
theorem ZBy {K:Qa} (hK:X.K=K) (hc:X.calm=true):JM X (.builtin "sum") (ZqK K):=by
 subst hK;intro Zb s σ H vs us Q I r h;unfold ZqK at h;split at h
 ·rename_i a;obtain ⟨ns,hx,q⟩:=h;obtain ⟨u,rfl,ru⟩:=Zab r;cases ru;obtain ⟨its,r1,p1,z1⟩:=I.list hx;have hi:=Zfp r1;obtain ⟨xs,e⟩:=hi.allInts.items;have hl:=p1.isList;have hn:=hi.numsOf;rw [e] at hl;refine sum_intListG (I.ok.hd hc) hl fun h' tk t' hk=>?_;have e2:preSum (numAt xs) xs.size=ns.sum:=by rw [preSum_eq,QD (by simp),<-nums_intItems,<-e];exact congrArg List.sum hn
  rw [e2];exact ⟨.int ns.sum,H,I.kept (t':=tk) hk,⟨_,rfl⟩,q⟩
 ·exact h.elim
end
theorem ZuD:jR "sum"=some (.builtin "sum"):=by rfl'
theorem ZuC:jR "set"=some (.type "set"):=by rfl'
theorem JV {P:jk} {pos:Pos} {q:Str} {H H':Hp} (h:Bk P pos q H) (sm:Zs H H'):Bk P pos q H':=by
 rcases h with h|⟨c',h1,h2⟩
 ·exact .inl (sm _ _ h)
 ·exact .inr ⟨c',sm _ _ h1,sm _ _ h2⟩
end L2
namespace LO
theorem Zrh {a b:Nat} {x y:List Nat} (h:a::x<=b::y):a<b\/(a=b/\x<=y):=by
 have h':¬(b::y<a::x):=Uq.mpr h;rw [QL] at h';by_cases hab:a=b
 ·exact .inr ⟨hab,Uq.mp fun z=>h' (.inr ⟨hab.symm,z⟩)⟩
 ·exact .inl (Nat.lt_of_le_of_ne (VO fun z=>h' (.inl z)) hab)
theorem ZeT {α:Type} [DecidableEq α]:∀{ks ps:List α},ks.Nodup->(∀x∈ks,x∈ps)->ks.length<=ps.length
 |[],_,_,_=>Qu _
 |x::r,ps,nd,h=>by
  have hx:=h x (jW ..);obtain ⟨n1,n2⟩:=Uu.mp nd
  have:=ZeT (ks:=r) (ps:=ps.erase x) n2 fun y hy=>by
   have hne:y≠x:=by rintro rfl;exact n1 hy
   exact (Wu hne).mpr (h y (jH _ hy))
  rw [V8 hx] at this;have:=List.length_pos_of_mem hx;rw [jy];omega
def cms (t:List Nat):List Nat:=0::(Qk t.length).map fun k=>LW.com (t.drop ((ord t).getD k 0)) (t.drop ((ord t).getD (k+1) 0))
open LW L2
def en (t:List Nat) (k:Nat):List Nat:=t.drop ((ord t).getD k 0)
def cmx (t:List Nat) (k:Nat):Nat:=(cms t++[0]).getD k 0
def ZDX (t:List Nat) (p:Nat):Option Nat:=if p+(1+max (cmx t (ZaF t p)) (cmx t (ZaF t p+1)))<=t.length then some (1+max (cmx t (ZaF t p)) (cmx t (ZaF t p+1))) else none
theorem Zk4 {l q:List Nat} {i:Nat}:i∈LP.plc l q↔i+q.length<=l.length/\(l.drop i).take q.length=q:=by unfold LP.plc;rw [UX,QB,decide_eq_true_eq];refine ⟨fun ⟨h1,h2⟩=>⟨by omega,h2⟩,fun ⟨h1,h2⟩=>⟨by omega,h2⟩⟩
end LO
namespace L2
end L2
namespace LO
open LW L2
def ZCf (t:List Nat) (k:Nat):List (List Nat):=(Qk ((en t k).length-cmx t k)).map fun j=>(en t k).take (cmx t k+1+j)
def pcs (t:List Nat):List (List Nat):=[]::(Qk (t.length+1)).flatMap (ZCf t)
def ZDW (t:List Nat):Nat:=(pcs t).length
end LO
namespace L2
open PySem
open PySem.Spec PyProof.Rows
def ZhR (w:jB) (t:uV) (n:Nat):Prop:=(w.params.followText "set-order"=false->t.led=true)/\(0<n->t.plain=false)
abbrev JB (es:Array (Int×Value)) (ep:Nat) (t:uV):Obj:= {cls:=.type "set",dict:=none,data:=.set es ep t}
def Jz (prog:jw) (w:jB) (h:Heap) (a:jk) (S:Str->Bool) (n:Nat):Prop:=
 ∃es ep t,h.get? a=some (JB es ep t)/\ElemsOf (PySem.strKind prog w) es.toList/\(∀k,S k=true↔∃e∈es.toList,(PySem.strKind prog w).is k e.2=true)/\es.size<vc/\t.fits es.size=true/\es.size=n/\ZhR w t es.size
theorem ZiC (t:uV) (n:Nat):(t.orStandIn n).led=t.led/\(t.plain=false->(t.orStandIn n).plain=false):=by
 unfold SetTable.orStandIn;split
 ·exact ⟨rfl,id⟩
 ·exact ⟨rfl,fun _=>rfl⟩
theorem ZrL (t:uV) (es:Array (Int×Value)) (h:Int) (x:Value):(layNew t es h x).2.1.led=t.led/\(t.plain=false->(layNew t es h x).2.1.plain=false):=by
 unfold layNew;split
 ·rename_i slot wd _;have:=ZiC (t.put slot).1 (SetTable.insertAt es (t.put slot).2 (h,x)).size;exact ⟨this.1.trans rfl,fun z=>this.2 z⟩
 ·exact ⟨rfl,fun _=>rfl⟩
theorem ZjJ {t t':uV} {hs:Array Int} {n:Nat} {order:Array Nat} (h:t.relaid hs n=some (t',order)):t'.led=t.led/\t'.plain=t.plain:=by unfold SetTable.relaid SetTable.laid at h;simp only [Option.bind_eq_bind,Option.bind_eq_some_iff,Option.pure_def,Option.some.injEq,Prod.mk.injEq] at h;obtain ⟨_,_,e,_⟩:=h;rw [<-e];exact ⟨rfl,rfl⟩
theorem Zme (t:uV) (es:Array (Int×Value)) (n:Nat):(vQ t es n).2.1.led=t.led/\(t.plain=false->(vQ t es n).2.1.plain=false):=by
 unfold vQ;split
 ·rename_i t' order e;have:=ZjJ e;dsimp only;split
  ·exact ⟨this.1,fun z=>this.2.trans z⟩
  ·exact ⟨rfl,fun _=>rfl⟩
 ·exact ⟨rfl,fun _=>rfl⟩
section
variable {prog:jw} {w:jB} {A:Around} {E:Value->jj->Prop} {s:jj}
theorem ZiT {h:Heap} {a:jk} {es es':Array (Int×Value)} {ep:Nat} {t t':uV} (ho:h.get? a=some (JB es ep t)):(h.update a (Obj.putSet es' t')).get? a=some (JB es' (ep+1) t'):=by have e:=putSet_of (o:=JB es ep t) es' t' rfl;have g:=Q3 (Obj.putSet es' t') ho (by rw [e];rfl);rw [e] at g;exact g
theorem ZiX {g:Bool->Sem Unit} (gok:∀(b:Bool) (z:jj) (R:Unit->jj->Prop),R () z->jo (jr prog w) A (g b) R E z) {a:jk} {es:Array (Int×Value)} {ep:Nat} {t:uV} (ho:s.heap.get? a=some (JB es ep t))
 {fs:Array (Int×Value)} {u:uV} {S':Str->Bool} (el:ElemsOf (PySem.strKind prog w) fs.toList) (mem:∀k,S' k=true↔∃e∈fs.toList,(PySem.strKind prog w).is k e.2=true) (small:fs.size<vc) (fit:u.fits fs.size=true) (tab:ZhR w u fs.size)
 {wd:Bool} {R:Option Bool->jj->Prop} (fin:∀h',Heap.SameBut a s.heap h'->Jz prog w h' a S' fs.size->R (some true) {s with heap:=h'}):
 jo (jr prog w) A (do
  storeSet a fs u
  if (!wd && u.tooFull)=true then do
      g (vQ u fs (SetTable.grown fs.size)).2.2
      storeSet a (vQ u fs (SetTable.grown fs.size)).1 (vQ u fs (SetTable.grown fs.size)).2.1
      pure (some true)
   else pure (some true)) R E s:=by
 refine ji (wpAny_storeSet_of ho rfl ?_ (fits_of_scanBound small));have o1:=ZiT (es':=fs) (t':=u) ho;have b1:=Heap.SameBut.update s.heap a (Obj.putSet fs u);split
 ·have pm:=relayAll_perm u fs (SetTable.grown fs.size);have ft:=relayAll_fits u fs (SetTable.grown fs.size);have ld:=Zme u fs (SetTable.grown fs.size)
  generalize vQ u fs (SetTable.grown fs.size)=rl at pm ft ld ⊢
  obtain ⟨gs,v,gv⟩:=rl
  dsimp only at pm ft ld ⊢
  have sz:gs.size=fs.size:=by rw [<-Qp,pm.length_eq,Qp]
  refine ji (gok _ _ _ (ji (wpAny_storeSet_of o1 rfl ?_ (fits_of_scanBound (by rw [sz];exact small)))));have o2:=ZiT (es':=gs) (t':=v) o1;refine jl (fin _ (b1.trans (Heap.SameBut.update _ a _)) ⟨gs,_,v,o2,el.perm pm,fun k=>(mem k).trans ⟨fun ⟨e,he,q⟩=>⟨e,pm.mem_iff.mpr he,q⟩,fun ⟨e,he,q⟩=>⟨e,pm.mem_iff.mp he,q⟩⟩,by rw [sz];exact small,ft,sz,?_⟩);rw [sz];exact ⟨fun z=>ld.1.trans (tab.1 z),fun z=>ld.2 (tab.2 z)⟩
 ·exact jl (fin _ b1 ⟨fs,_,u,o1,el,mem,small,fit,rfl,tab⟩)
theorem add_str {a:jk} {S:Str->Bool} {n:Nat} {x:Str} {tk:Tok} {Q:Bool->jj->Prop} (st:Jz prog w s.heap a S n) (room:n+1<vc)
 (fin:∀h',Heap.SameBut a s.heap h'->Jz prog w h' a (fun k=>S k || decide (k=x)) (if S x then n else n+1)->Q (!S x) {s with heap:=h'}):
 jo (jr prog w) A (setAddHashed a (.str x tk) ((PySem.strKind prog w).hash x)) Q E s:=by
 obtain ⟨es,ep,t,ho,el,mem,small,fit,rfl,tab⟩:=st;have key:(PySem.strKind prog w).is x (.str x tk)=true:=by show QU x (.str x tk)=true;simp [QU,W5]
 unfold setAddHashed setAddHashedIn;refine jS (ji (uh ho rfl fit ?_));dsimp only;rw [byScan_of (knd:=PySem.strKind prog w) (x:=.str x tk) rfl small el];simp only [↓reduceIte];unfold setAddByScan;refine ji (ji (uC (ji (wpAny_setScan_of (knd:=PySem.strKind prog w) key ho rfl fit el ?_))))
 cases found:List.findIdx? (fun e=>(PySem.strKind prog w).is x e.2) es.toList with
 |some j=>
  dsimp only;obtain ⟨hj,at_,_⟩:=List.findIdx?_eq_some_iff_getElem.mp found;have yes:S x=true:=(mem x).mpr ⟨es.toList[j],QT hj,at_⟩;refine jl (jl ?_);have f:=fin s.heap (Heap.SameBut.refl a s.heap) ⟨es,ep,t,ho,el,fun k=>?_,small,fit,by rw [yes];rfl,tab⟩
  ·rw [yes] at f;exact f
  ·rw [QS,decide_eq_true_eq,<-mem k];exact ⟨fun z=>z.elim id fun e=>e▸yes,.inl⟩
 |none=>
  dsimp only
  have no:S x=false:=by
   cases hx:S x with
   |false=>rfl
   |true=>
    obtain ⟨e,he,q⟩:=(mem x).mp hx;have:=List.findIdx?_eq_none_iff.mp found e he;rw [q] at this;cases this
  have pm:=layNew_perm t es ((PySem.strKind prog w).hash x) (.str x tk);have ft:=layNew_fits t es ((PySem.strKind prog w).hash x) (.str x tk);have ld:=ZrL t es ((PySem.strKind prog w).hash x) (.str x tk)
  generalize layNew t es ((PySem.strKind prog w).hash x) (.str x tk)=ly at pm ft ld ⊢
  obtain ⟨fs,u,wd,gave⟩:=ly
  dsimp only at pm ft ld ⊢
  rw [Array.toList_push] at pm;have el':ElemsOf (PySem.strKind prog w) fs.toList:=(el.push key rfl).perm pm;have mem':=mem_push_iff (knd:=PySem.strKind prog w) key mem pm;have sz:fs.size=es.size+1:=by rw [<-Qp,pm.length_eq,jq,Qp];rfl
  have gok:∀(b:Bool) (z:jj) (R:Unit->jj->Prop),R () z->jo (jr prog w) A (match b with|true=>rule "set.scan.the-table-gave-way"|false=>pure ()) R E z:=fun b z R q=>by
   cases b
   ·exact jl q
   ·exact uC q
  refine ji (gok _ _ _ ?_);have last:∀h',Heap.SameBut a s.heap h'->Jz prog w h' a (fun k=>S k || decide (k=x)) fs.size->Q true {s with heap:=h'}:=fun h' sb q=>by have f:=fin h' sb;rw [no,if_neg Qg] at f;rw [sz] at q;exact f q
  split
  ·rename_i pl;refine ji ?_;rw [hashByValue_scannable 8 (x:=.str x tk) rfl];refine jl ?_;show jo _ _ _ _ _ _;refine ZiX (w:=w) (fun b z R q=>gok b z R q) ho el' mem' (by omega) (u:= {u with plain:=false}) (SetTable.fits_plain_off ft) ⟨fun z=>ld.1.trans (tab.1 z),fun _=>rfl⟩ fun h' sb q=>?_;exact jl (last h' sb q)
  ·rename_i pl;refine ji (jl ?_);simp only [↓reduceIte];refine ZiX (w:=w) (fun b z R q=>gok b z R q) ho el' mem' (by omega) ft ⟨fun z=>ld.1.trans (tab.1 z),fun _=>by simpa using pl⟩ fun h' sb q=>?_;exact jl (last h' sb q)
end
def ZeJ (ds:List Nat):Str->Bool:=fun k=>ds.any fun c=>decide (k=T [c])
theorem Zjs (ds:List Nat) (c:Nat):ZeJ ds (T [c])=decide (c∈ds):=by unfold ZeJ;rw [Ug,VN,decide_eq_true_eq];refine ⟨fun ⟨d,hd,e⟩=>?_,fun h=>⟨c,h,by simp⟩⟩;have:=ZcL.mp (of_decide_eq_true e);rw [Vc this];exact hd
theorem ZhF {prog:jw} {w:jB} {h:Heap} {a:jk} {S S':Str->Bool} {n n':Nat} (x:Jz prog w h a S n) (e:∀k,S k=S' k) (en:n=n'):Jz prog w h a S' n':=by have:S=S':=funext e;subst this en;exact x
section
variable {prog:jw} {w:jB} {A:Around} {E:Value->jj->Prop} {s:jj}
theorem ZoH {R:Qaq->jj->Prop} {I:jk} {fp wr:List jk} {G:Array Qal->Array Qal->Prop} {n:Nat} {P:Nat->Value->Prop} {St:Nat->jj->Prop} (W:WalksS prog w A.in1 I fp wr G n P St) (a:jk) (out:a∉fp) (ys:List Nat) (hn:n=ys.length)
 (hP:∀i v,P i v->∃c u,ys[i]?=some c/\v=.str (T [c]) u) (room:n+1<vc):∀(k i:Nat) (s:jj) (ds:List Nat),n-i=k->i<=n->St i s->ds.Nodup->(∀c,c∈ds↔c∈ys.take i)->ds.length<=i->Jz prog w s.heap a (ZeJ ds) ds.length->
  (∀s' ds,Moved (a::wr) G s s'->ds.Nodup->(∀c,c∈ds↔c∈ys)->Jz prog w s'.heap a (ZeJ ds) ds.length->R (.ok (.ret .none)) s')->uW (jr prog w) A (.builtin "set.update.loop" ⟨[.ref a,.ref I],[]⟩) R s:=by
 have aw:a∉wr:=fun h=>out (W.sub _ h);have more:∀b∈wr,b∈a::wr:=fun b hb=>jH _ hb;have stay:∀{s s':jj} {S:Str->Bool} {m:Nat},Jz prog w s.heap a S m->Moved wr G s s'->Jz prog w s'.heap a S m:=fun {s s' S m} x mv=>by obtain ⟨es,ep,t,ho,r⟩:=x;exact ⟨es,ep,t,mv.heap a _ aw ho,r⟩
 intro k
 induction k with
 |zero=>
  intro i s ds hk hi st nd mem len set fin;have:i=n:=by omega
  subst this;refine j9 F.entry_set_update_loop ?_;rw [Around.under_plainId F.plain_set_update_loop _];show jo _ A.in1 (uf (.ref I) >>=_) _ _ s;refine ji (W.done s _ _ st fun s' mv=>?_);exact jl (fin s' ds (mv.mono more) nd (fun c=>by rw [mem c,QD (by omega)]) (stay set mv))
 |succ k ih=>
  intro i s ds hk hi st nd mem len set fin;have lt:i<n:=by omega
  refine j9 F.entry_set_update_loop ?_;rw [Around.under_plainId F.plain_set_update_loop _];show jo _ A.in1 (uf (.ref I) >>=_) _ _ s;refine ji (W.item i s _ _ lt st fun v s' hv st' mv=>?_);obtain ⟨c,u,hc,rfl⟩:=hP i v hv;show jo _ A.in1 (vH [UR (T [c]) u] (setAdd a (.str (T [c]) u)) >>=_) _ _ s';refine ji (jS ?_);unfold setAdd;have key:(PySem.strKind prog w).is (T [c]) (.str (T [c]) u)=true:=by show QU (T [c]) (.str (T [c]) u)=true;simp [QU,W5]
  refine jS (ji ((PySem.strKind prog w).pyHash (k:=T [c]) key ?_));refine add_str (s:= {s' with toks:=s'.toks+1}) (show Jz prog w s'.heap a _ _ from stay set mv) (by omega) fun h' sb set2=>?_
  have mem2:∀d,d∈(if c∈ds then ds else ds++[c])↔d∈ys.take (i+1):=fun d=>by
   rw [Ua,hc,jL,<-mem d];split
   ·rename_i h
    exact ⟨.inl,fun z=>z.elim id fun e=>by have:d=c:=by simpa using e
                                           rw [this];exact h⟩
   ·simp
  have nd2:(if c∈ds then ds else ds++[c]).Nodup:=by
   split
   ·exact nd
   ·rename_i h;rw [List.nodup_append];exact ⟨nd,by simp,fun x hx y hy e=>h (by rw [<-ju.mp hy,<-e];exact hx)⟩
  have len2:(if c∈ds then ds else ds++[c]).length<=i+1:=by
   split
   ·omega
   ·rw [jq,jE];omega
  have set3:Jz prog w h' a (ZeJ (if c∈ds then ds else ds++[c])) (if c∈ds then ds else ds++[c]).length:=by
   refine ZhF set2 (fun k=>?_) ?_
   ·split
    ·rename_i h;rw [Ug,QS,decide_eq_true_eq];refine ⟨fun z=>z.elim id fun e=>?_,.inl⟩;rw [e,Zjs];exact decide_eq_true h
    ·unfold ZeJ;rw [List.any_append];simp
   ·rw [Zjs];by_cases h:c∈ds
    ·simp [h]
    ·simp [h]
  refine jl ⟨uX F.plain_set_update_loop _,ih (i+1) _ _ (by omega) lt (W.frame _ s' _ _ st' (U7 _) fun b hb o e=>?_) nd2 mem2 len2 set3 fun s2 ds' mv2 nd' mem' set'=>?_⟩
  ·rw [sb.2 b (fun z:b=a=>out (z▸hb))];exact e
  ·refine fin s2 ds' (Moved.trans W.gtrans ((mv.mono more).then_heap (U7 _) fun b o hb e=>?_) mv2) nd' mem' set';rw [sb.2 b (fun z:b=a=>hb (z▸jW))];exact e
end
theorem ZiU:isSubtype (.type "str") (.type "set")=pure false:=by rw [uF];kernel_rfl
theorem Zf0:isSubtype (.type "str") (.type "frozenset")=pure false:=by rw [uF];kernel_rfl
section
variable {prog:jw} {w:jB} {A:Around} {E:Value->jj->Prop} {s:jj}
theorem ZiR (v:Value) {Q₁:Value->jj->Prop} (h:Q₁ (.ref s.heap.objs.size) {s with heap:=s.heap.push (JB #[] 0 (.fresh 0 0 (!w.params.followText "set-order")))}):
 uW (jr prog w) A (.call (.builtin "set.__new__") ⟨[.type "set",v],[]⟩) (wants Q₁ E) s:=by
 refine codeAny_of_tree ?_;show jo _ A.in1 (do Qap "set.__new__" ⟨[.type "set",v],[]⟩;again (.builtin "set.__new__" ⟨[.type "set",v],[]⟩)) _ _ s;refine ji (uT (F.newCall_set_1 v) (jl ⟨uX F.plain_set_new _,j9 F.entry_set_new ?_⟩));rw [Around.under_plainId F.plain_set_new _];unfold Builtin.«set.__new__» Builtin.Frozenset.newClass;have sub:=sub_set_self;obtain ⟨hp,g,d,tk,os⟩:=s;dsimp only
 wp_walk
 refine ue (jl ?_);dsimp only;simp only [newObj];exact ji (wpAny_alloc (jl (jl h)))
set_option maxHeartbeats 3200000 in
theorem Zg8 {x:Str} {tk:Tok} {Q:Value->jj->Prop} (hh:A.handled=none) (small:(L x).length+1<vc)
 (h:∀(h':Heap) (tk':Nat) (ds:List Nat),Jz prog w h' s.heap.objs.size (ZeJ ds) ds.length->ds.Nodup->(∀c,c∈ds↔c∈L x)->(∀b o,b<s.heap.objs.size->s.heap.get? b=some o->h'.get? b=some o)->Q (.ref s.heap.objs.size) {s with heap:=h',toks:=tk'}):
 jo (jr prog w) A (call (.type "set") [.str x tk]) Q E s:=by
 obtain ⟨c,tl,hmro⟩:=F.called_set.mro;have hmade:=F.called_set.made;have hsub:=F.called_set.sub;refine uN (codeAny_of_tree ?_);show jo _ _ (callAny (.type "set") _) _ _ _;refine jl ⟨Code.quiet_builtin _ (by rfl'),j9 F.entry_type_call ?_⟩;rw [Around.under_plain (weight_type_call_type "set" [.str x tk] []) rfl];have h1:=F.called_set.notType;have h2:=F.called_set.canCreate;have hct:=F.typeCall_set_1 (.str x tk)
 repeat (any_goals (first|assumption|wp_step))
 refine ub (ZiR (.str x tk) (E:=E) (Q₁:=fun obj z=>obj=.ref s.heap.objs.size/\z= {s with heap:=s.heap.push (JB #[] 0 (.fresh 0 0 (!w.params.followText "set-order")))}) ⟨rfl,rfl⟩) fun r z hr=>?_
 cases r with
 |error e=>exact hr
 |ok fl=>
  cases fl with
  |ret obj=>
   obtain ⟨rfl,rfl⟩:=hr;generalize hled:(!w.params.followText "set-order")=led;have own:(s.heap.push (JB #[] 0 (.fresh 0 0 led))).get? s.heap.objs.size=some (JB #[] 0 (.fresh 0 0 led)):=Qh _ rfl;have hT:Shared.TypeIs {s with heap:=s.heap.push (JB #[] 0 (.fresh 0 0 led))} (.ref s.heap.objs.size) "set":=⟨_,own,rfl⟩;have hli:=F.called_set.init.lookup;have hbi:=F.called_set.init.bind (.ref s.heap.objs.size)
   repeat (any_goals (first|assumption|wp_step))
   refine ub (vW (R:=wants (fun r z=>r=.none/\∃h' tk' ds,z= {s with heap:=h',toks:=tk'}/\Jz prog w h' s.heap.objs.size (ZeJ ds) ds.length/\ds.Nodup/\(∀c,c∈ds↔c∈L x)/\
    (∀b o,b<s.heap.objs.size->s.heap.get? b=some o->h'.get? b=some o)) E) F.called_set.init.plain F.entry_set_init (check_set_init_1 hT ?_)) fun r₂ z₂ hr₂=>?_
   ·have hsls:=ZiU;have hslf:=Zf0;have hne:(UA "str"==UA "dict")=false:=by decide
    have hts:Shared.TypeIs {s with heap:=s.heap.push (JB #[] 0 (.fresh 0 0 led))} (.str x tk) "str":=ui _ _ _;unfold Builtin.«set.__init__» noKeywords Builtin.Frozenset.updateFrom;generalize hPI:Qac=PI
    wp_walk
    subst hPI;refine wpAny_pyIter_str fun o St W st=>?_;refine ji (vM ?_);have hh3:A.in1.in1.in1.handled=none:=by simp [hh]
    have hsz:(s.heap.push (JB #[] 0 (.fresh 0 0 led))).objs.size=s.heap.objs.size+1:=Uo ..
    have hlx:x.cps.size=(L x).length:=by unfold L;simp
    have out:s.heap.objs.size∉[(s.heap.push (JB #[] 0 (.fresh 0 0 led))).objs.size]:=by rw [hsz,ju];exact Qm (UU _)
    refine ZoH ((W _ hh3).toS) s.heap.objs.size out (L x) hlx (fun i v hv=>?_) (by rw [hlx];exact small) (x.cps.size-0) 0 _ [] (by omega) (Qu _) st List.nodup_nil (fun c=>by simp) (Qu _) ?_ fun z ds mv nd mem set=>?_
    ·obtain ⟨d,u,e1,e2⟩:=hv;refine ⟨d,u,?_,e2⟩;unfold L;rw [Uy];exact e1
    ·refine ⟨#[],0,_,Qe _ own,fun e he=>by simp at he,fun k=>?_,by decide,rfl,rfl,fun z=>?_,fun z=>absurd z (QV _)⟩
     ·simp [ZeJ]
     ·rw [<-hled,z];rfl
    ·obtain ⟨h',g',d',tk',os'⟩:=z;have eg:g'=s.gens:=mv.gens;have ed:d'=s.drawn:=mv.drawn;have eo:os'=s.os:=mv.os;subst eg ed eo;refine jl (jl ⟨rfl,h',tk',ds,rfl,set,nd,mem,fun b o hb e=>?_⟩);refine mv.heap b o ?_ (Qe _ (Qe _ e));rw [hsz];simp only [jK,ju,QG,or_false,not_or];exact ⟨Qm hb,Qm (UQ hb)⟩
   ·cases r₂ with
    |error e=>exact hr₂
    |ok fl₂=>
     cases fl₂ with
     |ret r=>
      obtain ⟨rfl,h',tk',ds,rfl,q1,q2,q3,q4⟩:=hr₂
      repeat (any_goals (first|assumption|wp_step))
      exact h _ _ _ q1 q2 q3 q4
     |_=>exact hr₂.elim
  |_=>exact hr.elim
end
def ZgZ (w:jB) (h:Heap) (a:jk) (cs:List Nat):Prop:=∃es ep t,h.get? a=some (JB es ep t)/\ZE (cs.map fun c=>V.str (T [c])) (es.toList.map (·.2))/\t.fits es.size=true/\es.size<vc/\ZhR w t es.size
theorem ZiI {α:Type} [DecidableEq α]:∀{ds cs:List α},ds.Nodup->(∀x∈ds,x∈cs)->cs.length=ds.length->cs.Perm ds
 |[],cs,_,_,h=>by rw [uP.mp h]
 |d::r,cs,nd,sub,h=>by
  obtain ⟨n1,n2⟩:=Uu.mp nd;have hd:=sub d (jW ..);have p1:cs.Perm (d::cs.erase d):=List.perm_cons_erase hd;refine p1.trans (List.Perm.cons d (ZiI n2 (fun x hx=>?_) ?_))
  ·have hne:x≠d:=by rintro rfl;exact n1 hx
   exact (Wu hne).mpr (sub x (jH _ hx))
  ·rw [V8 hd,h,jy];omega
theorem ZiS {prog:jw} {w:jB} {ds:List Nat}:∀{es:List (Int×Value)},ElemsOf (PySem.strKind prog w) es->(∀e∈es,∀k,(PySem.strKind prog w).is k e.2=true->ZeJ ds k=true)->
 ∃cs:List Nat,ZE (cs.map fun c=>V.str (T [c])) (es.map (·.2))/\(∀c∈cs,c∈ds)/\∀c,(∃e∈es,(PySem.strKind prog w).is (T [c]) e.2=true)->c∈cs
 |[],_,_=>⟨[],.nil,fun c h=>(QG h).elim,fun c ⟨e,h,_⟩=>(QG h).elim⟩
 |e::r,el,mem=>by
  obtain ⟨cs,v1,m1,m2⟩:=ZiS (ds:=ds) el.tail fun x hx=>mem x (jH _ hx);obtain ⟨⟨k,hk,_⟩,_⟩:=el.head;obtain ⟨t,ht⟩:=Wr hk;have hm:=mem e (jW ..) k hk;unfold ZeJ at hm;rw [VN] at hm;obtain ⟨c,hc,ec⟩:=hm;have ec:=of_decide_eq_true ec;subst ec;refine ⟨c::cs,.cons ⟨t,ht⟩ v1,fun d hd=>?_,fun d ⟨x,hx,hk2⟩=>?_⟩
  ·rcases jK.mp hd with rfl|hd
   ·exact hc
   ·exact m1 d hd
  ·rcases jK.mp hx with rfl|hx
   ·have:T [d]=T [c]:=(PySem.strKind prog w).inj _ _ _ hk2 hk;rw [Vc (ZcL.mp this)]
    exact jW ..
   ·exact jH _ (m2 d ⟨x,hx,hk2⟩)
theorem Zmn {prog:jw} {w:jB} {h:Heap} {a:jk} {ds:List Nat} (st:Jz prog w h a (ZeJ ds) ds.length) (nd:ds.Nodup):∃cs,cs.Perm ds/\ZgZ w h a cs:=by obtain ⟨es,ep,t,ho,el,mem,small,fit,sz,tab⟩:=st;obtain ⟨cs,v1,m1,m2⟩:=ZiS (ds:=ds) el fun e he k hk=>(mem k).mpr ⟨e,he,hk⟩;have hl:=v1.length;rw [jn,jn] at hl;have hl:cs.length=ds.length:=hl.trans (Qp.trans sz);refine ⟨cs,ZiI nd (fun c hc=>m2 c ((mem (T [c])).mp ?_)) hl,es,ep,t,ho,v1,fit,small,tab⟩;rw [Zjs];exact decide_eq_true hc
def Ze7 (w:jB) (a:jk) (cs:List Nat):HO:=.ext fun h=>ZgZ w h a cs
section
variable {X:Cx}
def Zzx (w:jB):List V->Hp->VK->Prop:=fun vs H Q=>match vs with
 |[.str z]=>(L z).length<=1000/\∀p cs,H p=none->cs.Nodup->(∀c,c∈cs↔c∈L z)->Q (.ref p) (upd H p (Ze7 w p cs))
 |_=>False
theorem ZuR {w:jB} (hw:X.w=w) (hc:X.calm=true):JM X (.type "set") (Zzx w):=by
 subst hw;intro Zb s σ H vs us Q I r h;unfold Zzx at h;split at h
 ·rename_i z;obtain ⟨hl,q⟩:=h;obtain ⟨u,rfl,ru⟩:=Zab r;obtain ⟨t,rfl⟩:=ru;refine Zg8 (prog:=X.prog) (w:=X.w) (I.ok.hd hc) (by unfold vc;omega) fun h' tk ds set nd mem kp=>?_;obtain ⟨cs,pm,ss⟩:=Zmn set nd;have hn:=I.hok.fresh (Qf s.heap.objs.size);refine ⟨.ref s.heap.objs.size,_,I.laid (o:=Ze7 X.w s.heap.objs.size cs) (t':=tk) (fun b o e=>kp b o (Qj e) e) (Qf _) ⟨ss,?_,?_⟩,rfl,q _ cs hn (pm.nodup_iff.mpr nd) fun c=>(pm.mem_iff).trans (mem c)⟩
  ·obtain ⟨es,ep,t,ho,_⟩:=ss;exact ⟨_,ho⟩
  ·rintro h1 h2 ⟨es,ep,t,ho,r⟩ k;exact ⟨es,ep,t,k _ ho,r⟩
 ·exact h.elim
end
theorem ZN:Slot "set_iterator" "__next__" "set_iterator.__next__":=
 .of (owner:="set_iterator") (n:="__next__") (by rw [uR,uo];kernel_rfl) (by rfl') (by rfl') (by rfl') (by first|exact .inl (by rfl')|exact .inr (by rfl')) (by rw [uF];kernel_rfl)
theorem Yl:vE table "set_iterator.__next__"=some Builtin.«set_iterator.__next__»:=vD (by kernel_rfl)
theorem YU (v:Value):Qad "set_iterator.__next__" ⟨[v],[]⟩:=by unfold Qad;kernel_rfl
theorem Zck:Slot "set_iterator" "__iter__" "set_iterator.__iter__":=
 .of (owner:="set_iterator") (n:="__iter__") (by rw [uR,uo];kernel_rfl) (by rfl') (by rfl') (by rfl') (by first|exact .inl (by rfl')|exact .inr (by rfl')) (by rw [uF];kernel_rfl)
theorem ZeG:vE table "set_iterator.__iter__"=some Builtin.«dict_keyiterator.__iter__»:=
 vV (id':="dict_keyiterator.__iter__") (by kernel_rfl) (by first|rfl|rfl') (by rfl') (by kernel_rfl)
theorem Zfa (v:Value):Qad "set_iterator.__iter__" ⟨[v],[]⟩:=by unfold Qad;kernel_rfl
theorem ZeF:vE table "set.__iter__"=some Builtin.«frozenset.__iter__»:=
 vV (id':="frozenset.__iter__") (by kernel_rfl) (by first|rfl|rfl') (by rfl') (by kernel_rfl)
def ZcW (h:Heap) (I:jk) (first:Value) (i:Nat) (a:jk) (n ep:Nat):Prop:=h.get? I=some {cls:=.type "set_iterator",data:=.fields #[first,.int i 0,.ref a,.int n 0,.int ep 0]}
section
variable {prog:jw} {w:jB} {A:Around} {E:Value->jj->Prop} {s:jj} {I Fr a:jk} {i n ep:Nat} {es:Array (Int×Value)} {t:uV}
theorem Zju {pl:Array Value} {m p:Nat} {hx:Int} {x:Value} {Q:Option Value->jj->Prop} (hI:ZcW s.heap I (.ref Fr) i a n ep) (hF:s.heap.get? Fr=some {cls:=.type "tuple",data:=.seq pl m}) (hS:s.heap.get? a=some (JB es ep t)) (fit:t.fits es.size=true) (hn:es.size=n)
 (hp:pl[i]?=some (ua p)) (he:es[p]?=some (hx,x)) (hQ:∀h',ZcW h' I (.ref Fr) (i+1) a n ep->Heap.SameBut I s.heap h'->Q (some x) {s with heap:=h'}):jo (jr prog w) A (uf (.ref I)) Q E s:=by
 have hT:s.TypeIs (.ref I) "set_iterator":=⟨_,hI,rfl⟩;unfold uf;refine ji (jV (jM (name:=Qc "__next__") hT ZN (jP ZN hT Yl ?_ (YU _))))
 unfold Builtin.«set_iterator.__next__»
 refine ji (m:=vP _ _ _) (jl ?_);refine ji (u7 hI rfl ?_);dsimp only;refine ji (ux hS rfl fit ?_);rw [if_neg (by rw [hn];simp)];refine ji (u6 hF rfl ?_);dsimp only;rw [Qn,hp];show jo _ _ (setNextDrawn a (p:Int).toNat (ep:Int).toNat >>=_) _ _ s;rw [Qn,Qn];refine ji ?_;unfold setNextDrawn;refine ji (uh hS rfl fit ?_);dsimp only;rw [if_neg (by simp),he];dsimp only;refine jl (ji (uq hI (by simp) fun h' hI' sb=>jl ⟨x,rfl,jl (hQ h' ?_ sb)⟩));show h'.get? I=_;rw [hI'];simp [ua]
theorem ZfY {Q:Option Value->jj->Prop} {h0:Heap} {o:Obj} {vs:Array Value} (hh:A.handled=none) (ho:h0.get? I=some {cls:=.type "set_iterator",data:=.fields vs}) (h2:2<vs.size)
 (sb0:∀b o,b≠I->s.heap.get? b=some o->h0.get? b=some o) (hQ:∀h',(∀b o,b≠I->s.heap.get? b=some o->h'.get? b=some o)->Q none {s with heap:=h'}):
 jo (jr prog w) A.in1 (do
  QaA (.ref I) 2 Qq
  let e <-newExc (UA "StopIteration") []
  raiseNew e:Sem PySem.Fin) (fun fin s'=>∃v,fin=Fin.done (Flow.ret v)/\jo (jr prog w) A (pure (some v)) Q E s')
  (fun e s'=>jo (jr prog w) A (do
   let b <-isInstance e (UA "StopIteration")
   if b=true then pure none else throw e) Q E s') {s with heap:=h0}:=by
 refine ji (uq (s:= {s with heap:=h0}) ho (by simpa using h2) fun h1 h1' sb=>?_);refine ji ?_;simp only [newExc,newTuple];refine ji (jZ ?_ (by size_fits));refine ji (m:=u8 _ _) (uT (a:=Qq) (by first|rfl|(simp only [u8];rfl)) ?_);refine jZ ?_ (by size_fits);simp only [raiseNew];refine ji (wpAny_handled ?_);rw [show A.in1.handled=none from hh];refine ji (jl (wpAny_throw ?_));refine ji (vb (T:="StopIteration") (b:=true) ⟨_,Qh _ rfl,rfl⟩ vU ?_);exact jl (hQ _ fun b o hb e=>Qe _ (Qe _ ((sb.2 b hb).trans (sb0 b o hb e))))
theorem ZlB {pl:Array Value} {m:Nat} {Q:Option Value->jj->Prop} (hh:A.handled=none) (hI:ZcW s.heap I (.ref Fr) i a n ep) (hF:s.heap.get? Fr=some {cls:=.type "tuple",data:=.seq pl m}) (hS:s.heap.get? a=some (JB es ep t)) (fit:t.fits es.size=true) (hn:es.size=n)
 (hp:pl[i]?=none) (hQ:∀h',(∀b o,b≠I->s.heap.get? b=some o->h'.get? b=some o)->Q none {s with heap:=h'}):jo (jr prog w) A (uf (.ref I)) Q E s:=by
 have hT:s.TypeIs (.ref I) "set_iterator":=⟨_,hI,rfl⟩;unfold uf;refine ji (jV (jM (name:=Qc "__next__") hT ZN (jP ZN hT Yl ?_ (YU _))))
 unfold Builtin.«set_iterator.__next__»
 refine ji (m:=vP _ _ _) (jl ?_);refine ji (u7 hI rfl ?_);dsimp only;refine ji (ux hS rfl fit ?_);rw [if_neg (by rw [hn];simp)];refine ji (u6 hF rfl ?_);dsimp only;rw [Qn,hp];refine ji (uq hI (by simp) fun h' hI' sb=>?_);exact ZfY (o:=JB es ep t) hh hI' (by simp) (fun b o hb e=>(sb.2 b hb).trans e) hQ
theorem ZlZ {hx:Int} {x:Value} {Q:Option Value->jj->Prop} (bt:w.params.followText "set-order"=true) (hI:ZcW s.heap I (.int 0 0) i a n ep) (hS:s.heap.get? a=some (JB es ep t)) (fit:t.fits es.size=true) (hn:es.size=n)
 (he:(u0 (w.params.setOrder a ep) es)[i]?=some (hx,x)) (hQ:∀h',ZcW h' I (.int 0 0) (i+1) a n ep->Heap.SameBut I s.heap h'->Q (some x) {s with heap:=h'}):jo (jr prog w) A (uf (.ref I)) Q E s:=by
 have hT:s.TypeIs (.ref I) "set_iterator":=⟨_,hI,rfl⟩;unfold uf;refine ji (jV (jM (name:=Qc "__next__") hT ZN (jP ZN hT Yl ?_ (YU _))))
 unfold Builtin.«set_iterator.__next__»
 refine ji (m:=vP _ _ _) (jl ?_);refine ji (u7 hI rfl ?_);dsimp only;refine ji (ux hS rfl fit ?_);rw [if_neg (by rw [hn];simp)];refine ji ?_;unfold setNext vw;rw [Qn,Qn];refine ji (uh hS rfl fit ?_);dsimp only;refine ji (ji (ue (jl ?_)));show jo _ _ (if w.params.followText "set-order"=true then _ else _) _ _ s;rw [if_pos bt,if_neg (by simp)];unfold setWalk vw;refine ji (ji (uh hS rfl fit ?_));dsimp only;refine ji (ji (ue (jl ?_)));show jo _ _ (if w.params.followText "set-order"=true then _ else _) _ _ s;rw [if_pos bt];refine ji (ue (jl ?_));show jo _ _ (pure (Vu _ (u0 (w.params.setOrder a ep) es)[i]?)) _ _ s;rw [he];refine jl ?_;dsimp only [Vu];refine ji (uq hI (by simp) fun h1 hI1 sb1=>?_);refine ji (uq (s:= {s with heap:=h1}) hI1 (by simp) fun h2 hI2 sb2=>jl ⟨x,rfl,jl (hQ h2 ?_ (sb1.trans sb2))⟩);show h2.get? I=_;rw [hI2];simp [ua]
theorem ZoB {Q:Option Value->jj->Prop} (bt:w.params.followText "set-order"=true) (hh:A.handled=none) (hI:ZcW s.heap I (.int 0 0) i a n ep) (hS:s.heap.get? a=some (JB es ep t)) (fit:t.fits es.size=true) (hn:es.size=n)
 (he:(u0 (w.params.setOrder a ep) es)[i]?=none) (hQ:∀h',(∀b o,b≠I->s.heap.get? b=some o->h'.get? b=some o)->Q none {s with heap:=h'}):jo (jr prog w) A (uf (.ref I)) Q E s:=by
 have hT:s.TypeIs (.ref I) "set_iterator":=⟨_,hI,rfl⟩;unfold uf;refine ji (jV (jM (name:=Qc "__next__") hT ZN (jP ZN hT Yl ?_ (YU _))))
 unfold Builtin.«set_iterator.__next__»
 refine ji (m:=vP _ _ _) (jl ?_);refine ji (u7 hI rfl ?_);dsimp only;refine ji (ux hS rfl fit ?_);rw [if_neg (by rw [hn];simp)];refine ji ?_;unfold setNext vw;rw [Qn,Qn];refine ji (uh hS rfl fit ?_);dsimp only;refine ji (ji (ue (jl ?_)));show jo _ _ (if w.params.followText "set-order"=true then _ else _) _ _ s;rw [if_pos bt,if_neg (by simp)];unfold setWalk vw;refine ji (ji (uh hS rfl fit ?_));dsimp only;refine ji (ji (ue (jl ?_)));show jo _ _ (if w.params.followText "set-order"=true then _ else _) _ _ s;rw [if_pos bt];refine ji (ue (jl ?_));show jo _ _ (pure (Vu _ (u0 (w.params.setOrder a ep) es)[i]?)) _ _ s;rw [he];refine jl ?_;dsimp only [Vu];exact ZfY (h0:=s.heap) (o:=JB es ep t) hh hI (by simp) (fun b o hb e=>e) hQ
end
theorem Zc1 {α:Type}:∀(l:List α) (i:Nat) (h:i<l.length),(l[i]::l.eraseIdx i).Perm l
 |x::r,0,_=>List.Perm.refl _
 |x::r,i+1,h=>by
  have h':i<r.length:=by simpa using h
  exact (List.Perm.swap x r[i] (r.eraseIdx i)).trans (List.Perm.cons x (Zc1 r i h'))
theorem Zk9 {α:Type} (next:Nat->Nat):∀(f k:Nat) (left:List α) (out:Array α),left.length=f->∃r:List α,(pickOrder.go next f k left out).toList=out.toList++r/\r.Perm left
 |0,k,left,out,h=>by rw [uP.mp h];exact ⟨[],by simp [pickOrder.go],List.Perm.refl _⟩
 |f+1,k,left,out,h=>by
  have hlt:next k%left.length<left.length:=jh _ (by omega)
  unfold pickOrder.go;rw [Qd hlt];dsimp only;obtain ⟨r,e,p⟩:=Zk9 next f (k+1) (left.eraseIdx (next k%left.length)) (out.push left[next k%left.length]) (by rw [VX hlt,h];rfl)
  refine ⟨left[next k%left.length]::r,by rw [e];simp,(List.Perm.cons _ p).trans ?_⟩;exact Zc1 left _ hlt
theorem Zej {α:Type} (next:Nat->Nat) (xs:Array α):(u0 next xs).toList.Perm xs.toList:=by
 obtain ⟨r,e,p⟩:=Zk9 next xs.size 0 xs.toList #[] (by simp)
 unfold u0;rw [e];simpa using p
section
variable {prog:jw} {w:jB} {A:Around} {E:Value->jj->Prop}
theorem Zet {src:Source} {n:Nat} {Q:Nat->jj->Prop} {s:jj} (hn:0<n) (h:∀i d,i<n->Q i {s with drawn:=d}):jo (jr prog w) A (choose src n) Q E s:=by intro Γ p hΓ;unfold choose;rw [Sem.wp_choose];exact ⟨by omega,h _ _ (jh _ hn)⟩
theorem Zh6 {α:Type}:∀(n:Nat) (xs:List α) (s:jj) (Q:List α->jj->Prop),xs.length=n->(∀r d,r.Perm xs->Q r {s with drawn:=d})->jo (jr prog w) A (drawOrder n xs) Q E s
 |0,xs,s,Q,h,q=>by rw [uP.mp h];unfold drawOrder;exact jl (by have:=q [] s.drawn (by rw [uP.mp h]);exact this)
 |n+1,[],s,Q,h,q=>by simp at h
 |n+1,x::xs,s,Q,h,q=>by unfold drawOrder;refine ji (Zet (by simp) fun i d hi=>?_);rw [Qd hi];dsimp only;refine ji (Zh6 n ((x::xs).eraseIdx i) _ _ (by rw [VX hi,h];rfl) fun r d' p=>?_);exact jl (q _ d' ((List.Perm.cons _ p).trans (Zc1 _ i hi)))
end
section
variable {prog:jw} {w:jB} {A:Around} {E:Value->jj->Prop} {s:jj} {I a:jk} {i n ep sl:Nat} {es:Array (Int×Value)} {t:uV}
theorem Zjv {hx:Int} {x:Value} {j:Nat} {Q:Option Value->jj->Prop} (bt:w.params.followText "set-order"=false) (hI:ZcW s.heap I (.int sl 0) i a n ep) (hS:s.heap.get? a=some (JB es ep t)) (fit:t.fits es.size=true) (hn:es.size=n) (one:n<=1) (led:t.led=true)
 (he:es[SetTable.below t.place sl]?=some (hx,x)) (hp:t.place[SetTable.below t.place sl]?=some j) (hQ:∀h',ZcW h' I (.int (j+1:Nat) 0) (i+1) a n ep->Heap.SameBut I s.heap h'->Q (some x) {s with heap:=h'}):jo (jr prog w) A (uf (.ref I)) Q E s:=by
 have hT:s.TypeIs (.ref I) "set_iterator":=⟨_,hI,rfl⟩;unfold uf;refine ji (jV (jM (name:=Qc "__next__") hT ZN (jP ZN hT Yl ?_ (YU _))))
 unfold Builtin.«set_iterator.__next__»
 refine ji (m:=vP _ _ _) (jl ?_);refine ji (u7 hI rfl ?_);dsimp only;refine ji (ux hS rfl fit ?_);rw [if_neg (by rw [hn];simp)];refine ji ?_;unfold setNext vw;rw [Qn,Qn,Qn];refine ji (uh hS rfl fit ?_);dsimp only;refine ji (ji (ue (jl ?_)));show jo _ _ (if w.params.followText "set-order"=true then _ else _) _ _ s;rw [if_neg (by rw [bt];exact Qg)];show jo _ _ (if (!t.plain && decide (es.size>1))=true then _ else _) _ _ s;rw [if_neg (by rw [decide_eq_false (by omega),Vs];exact Qg)];refine ji ?_;show jo _ _ (if (!t.led && !es.isEmpty)=true then _ else _) _ _ s;rw [if_neg (by rw [led];exact Qg)];refine jl ?_;rw [he,hp];refine jl ?_;dsimp only;refine ji (uq hI (by simp) fun h1 hI1 sb1=>?_);refine ji (uq (s:= {s with heap:=h1}) hI1 (by simp) fun h2 hI2 sb2=>jl ⟨x,rfl,jl (hQ h2 ?_ (sb1.trans sb2))⟩);show h2.get? I=_;rw [hI2];simp [ua]
theorem Zgz {Q:Option Value->jj->Prop} (bt:w.params.followText "set-order"=false) (hh:A.handled=none) (hI:ZcW s.heap I (.int sl 0) i a n ep) (hS:s.heap.get? a=some (JB es ep t)) (fit:t.fits es.size=true) (hn:es.size=n) (one:n<=1) (led:t.led=true)
 (he:es[SetTable.below t.place sl]?=none) (hQ:∀h',(∀b o,b≠I->s.heap.get? b=some o->h'.get? b=some o)->Q none {s with heap:=h'}):jo (jr prog w) A (uf (.ref I)) Q E s:=by
 have hT:s.TypeIs (.ref I) "set_iterator":=⟨_,hI,rfl⟩;unfold uf;refine ji (jV (jM (name:=Qc "__next__") hT ZN (jP ZN hT Yl ?_ (YU _))))
 unfold Builtin.«set_iterator.__next__»
 refine ji (m:=vP _ _ _) (jl ?_);refine ji (u7 hI rfl ?_);dsimp only;refine ji (ux hS rfl fit ?_);rw [if_neg (by rw [hn];simp)];refine ji ?_;unfold setNext vw;rw [Qn,Qn,Qn];refine ji (uh hS rfl fit ?_);dsimp only;refine ji (ji (ue (jl ?_)));show jo _ _ (if w.params.followText "set-order"=true then _ else _) _ _ s;rw [if_neg (by rw [bt];exact Qg)];show jo _ _ (if (!t.plain && decide (es.size>1))=true then _ else _) _ _ s;rw [if_neg (by rw [decide_eq_false (by omega),Vs];exact Qg)];refine ji ?_;show jo _ _ (if (!t.led && !es.isEmpty)=true then _ else _) _ _ s;rw [if_neg (by rw [led];exact Qg)];refine jl ?_;rw [he];refine jl ?_;dsimp only;exact ZfY (h0:=s.heap) (o:=JB es ep t) hh hI (by simp) (fun b o hb e=>e) hQ
theorem Zcy {first:Value} {Q:Value->jj->Prop} (hI:ZcW s.heap I first i a n ep) (h:Q (.ref I) s):jo (jr prog w) A (Qac (.ref I)) Q E s:=by have hT:s.TypeIs (.ref I) "set_iterator":=⟨_,hI,rfl⟩;refine Qaf hT Zck (jP Zck hT ZeG ?_ (Zfa _));show jo _ _ (ret (.ref I)) _ _ s;exact jl ⟨_,rfl,"set_iterator",_,hT,ZN.lookup,h⟩
theorem Zo7 {Q:Value->jj->Prop} (hS:s.heap.get? a=some (JB es ep t)) (fit:t.fits es.size=true) (tab:ZhR w t es.size)
 (hA:¬(w.params.followText "set-order"=false/\1<es.size)->Q (.ref s.heap.objs.size) {s with heap:=s.heap.push {cls:=.type "set_iterator",data:=.fields #[.int 0 0,.int 0 0,.ref a,.int es.size 0,.int ep 0]} })
 (hB:w.params.followText "set-order"=false->∀(r:List Nat) d,r.Perm (Qk es.size)->Q (.ref (s.heap.objs.size+1)) {s with heap:=(s.heap.push {cls:=.type "tuple",data:=.seq (r.map fun i:Nat=>ua i).toArray}).push {cls:=.type "set_iterator",data:=.fields #[.ref s.heap.objs.size,.int 0 0,.ref a,.int es.size 0,.int ep 0]},drawn:=d})
 (small:es.size<=sizeLine):jo (jr prog w) A (Qac (.ref a)) Q E s:=by
 have hT:s.TypeIs (.ref a) "set":=⟨_,hS,rfl⟩;refine Qaf hT F.slot_set_iter (jP F.slot_set_iter hT ZeF ?_ (F.args_set_iter_1 _))
 unfold Builtin.«frozenset.__iter__»
 refine ji (m:=Builtin.Frozenset.slot0 _ _) (ji (m:=vP _ _ _) (jl ?_));refine jl ?_;dsimp only;unfold Builtin.Frozenset.sizeOf;refine ji (ji (ux hS rfl fit (jl ?_)));unfold setDrawn vw;refine ji (ji (uh hS rfl fit ?_));dsimp only;refine ji (ji (ue (jl (jl ?_))));show jo _ _ (if (!w.params.followText "set-order" && (!t.plain && decide (es.size>1)))=true then _ else _) _ _ s;have hep:∀(s':jj) (Q':Nat->jj->Prop),s'.heap.get? a=some (JB es ep t)->Q' ep s'->jo (jr prog w) A.in1 (setEpoch a) Q' E s':=fun s' Q' h1 h2=>wpAny_setEpoch_of h1 rfl fit h2;refine wpAny_ite_split (fun c=>?_) fun c=>?_
 ·have c1:w.params.followText "set-order"=false:=by
   cases e:w.params.followText "set-order" with
   |false=>rfl
   |true=>rw [e] at c;simp at c
  refine ji (Zh6 es.size (Qk es.size) s _ (by simp) fun r d pm=>?_);refine ji (vN ?_ (by rw [jn,pm.length_eq,uO];exact small));refine ji (hep _ _ (Qe _ hS) ?_);refine ji (jZ (jl ⟨_,rfl,"set_iterator",_,⟨_,Qh _ rfl,rfl⟩,ZN.lookup,?_⟩));have:=hB c1 r d pm;simpa [Uo,ua] using this
 ·refine ji (jl ?_);refine ji (hep _ _ hS ?_);refine ji (jZ (jl ⟨_,rfl,"set_iterator",_,⟨_,Qh _ rfl,rfl⟩,ZN.lookup,?_⟩));refine hA fun ⟨e1,e2⟩=>c ?_;rw [e1,tab.2 (by omega),decide_eq_true (by omega)];rfl
end
abbrev vals (es:Array (Int×Value)):List Value:=es.toList.map (·.2)
theorem Zq0 {es:Array (Int×Value)} {p:Nat} {v:Value} (h:(vals es)[p]?=some v):∃hx,es[p]?=some (hx,v):=by rw [Qi] at h;obtain ⟨⟨hx,x⟩,e,rfl⟩:=Qz.mp h;exact ⟨hx,by rw [<-Uy];exact e⟩
theorem Zqe {α:Type} {l:List α} {n:Nat} (h:l.length<=n):l.toArray[n]?=none:=by rw [Q8];simpa using h
section
variable {prog:jw} {w:jB} {A:Around} {I Fr a:jk} {es:Array (Int×Value)} {t:uV} {ep:Nat}
theorem ZjV (hh:A.handled=none) (nIF:Fr≠I) (nIa:a≠I) (fit:t.fits es.size=true) {r:List Nat} (hr:r.Perm (Qk es.size)):
 WalksS prog w A I [I,Fr,a] [I] (fun x y=>y=x) es.size (fun i v=>(r.map fun p=>(vals es).getD p Qq)[i]?=some v)
  (fun i s=>ZcW s.heap I (.ref Fr) i a es.size ep/\s.heap.get? Fr=some {cls:=.type "tuple",data:=.seq (r.map fun i:Nat=>ua i).toArray}/\s.heap.get? a=some (JB es ep t)) where
 sub:=fun b hb=>by rw [ju.mp hb];simp
 grefl:=fun _=>rfl
 gtrans:=fun _ _ _ h1 h2=>h2.trans h1
 frame:=fun i s h' tk st _ k=>⟨k I (by simp) _ st.1,k Fr (by simp) _ st.2.1,k a (by simp) _ st.2.2⟩
 item:=fun i s Q E hi st hQ=>by
  have hl:=hr.length_eq;rw [uO] at hl;have hri:i<r.length:=by omega
  have hp:r[i]<es.size:=QB.mp (hr.mem_iff.mp (QT hri));have hv:(vals es)[r[i]]?=some ((vals es).getD r[i] Qq):=by rw [Qb,Qd (by simpa using hp)];rfl
  obtain ⟨hx,he⟩:=Zq0 hv;refine Zju st.1 st.2.1 st.2.2 fit rfl (p:=r[i]) (by simp [hri]) he fun h' hI sb=>hQ _ _ ?_ ⟨hI,(sb.2 Fr nIF).trans st.2.1,(sb.2 a nIa).trans st.2.2⟩ ⟨fun b o hb e=>(sb.2 b (fun z=>hb (by simp [z]))).trans e,rfl,rfl,rfl,Qf _⟩;rw [Qi,Qd hri];rfl
 done:=fun s Q E st hQ=>by have hl:=hr.length_eq;rw [uO] at hl;exact ZlB hh st.1 st.2.1 st.2.2 fit rfl (Zqe (by rw [jn];omega)) fun h' k=>hQ _ ⟨fun b o hb e=>k b o (fun z=>hb (by simp [z])) e,rfl,rfl,rfl,Qf _⟩
 self:=fun i s Q E st hQ=>Zcy st.1 hQ
theorem Zmu (bt:w.params.followText "set-order"=true) (hh:A.handled=none) (nIa:a≠I) (fit:t.fits es.size=true):
 WalksS prog w A I [I,a] [I] (fun x y=>y=x) es.size (fun i v=>((u0 (w.params.setOrder a ep) es).toList.map (·.2))[i]?=some v)
  (fun i s=>ZcW s.heap I (.int 0 0) i a es.size ep/\s.heap.get? a=some (JB es ep t)) where
 sub:=fun b hb=>by rw [ju.mp hb];simp
 grefl:=fun _=>rfl
 gtrans:=fun _ _ _ h1 h2=>h2.trans h1
 frame:=fun i s h' tk st _ k=>⟨k I (by simp) _ st.1,k a (by simp) _ st.2⟩
 item:=fun i s Q E hi st hQ=>by
  have hl:=(Zej (w.params.setOrder a ep) es).length_eq;rw [Qp,Qp] at hl;have hi':i<(u0 (w.params.setOrder a ep) es).size:=by omega
  refine ZlZ bt st.1 st.2 fit rfl (hx:=(u0 (w.params.setOrder a ep) es)[i].1) (x:=(u0 (w.params.setOrder a ep) es)[i].2) (by rw [QZ hi']) fun h' hI sb=>hQ _ _ ?_ ⟨hI,(sb.2 a nIa).trans st.2⟩ ⟨fun b o hb e=>(sb.2 b (fun z=>hb (by simp [z]))).trans e,rfl,rfl,rfl,Qf _⟩;rw [Qi,Uy,QZ hi'];rfl
 done:=fun s Q E st hQ=>by have hl:=(Zej (w.params.setOrder a ep) es).length_eq;rw [Qp,Qp] at hl;exact ZoB bt hh st.1 st.2 fit rfl (by rw [Q8];omega) fun h' k=>hQ _ ⟨fun b o hb e=>k b o (fun z=>hb (by simp [z])) e,rfl,rfl,rfl,Qf _⟩
 self:=fun i s Q E st hQ=>Zcy st.1 hQ
theorem Zfc (j:Nat):SetTable.below #[j] 0=0:=by simp [SetTable.below,SetTable.below.go]
theorem Zi6 (j:Nat):SetTable.below #[j] (j+1)=1:=by simp [SetTable.below,SetTable.below.go]
theorem ZjW (bt:w.params.followText "set-order"=false) (hh:A.handled=none) (nIa:a≠I) (fit:t.fits es.size=true) (one:es.size<=1) (led:t.led=true):
 ∃g:Nat->Nat,g 0=0/\WalksS prog w A I [I,a] [I] (fun x y=>y=x) es.size (fun i v=>(vals es)[i]?=some v)
  (fun i s=>ZcW s.heap I (.int (g i:Nat) 0) i a es.size ep/\s.heap.get? a=some (JB es ep t)):=by
 have hps:t.place.size=es.size:=by unfold SetTable.fits at fit;rw [QM] at fit;exact eq_of_beq fit.1
 by_cases h0:es.size=0
 ·have e0:es=#[]:=Array.eq_empty_of_size_eq_zero h0;refine ⟨fun _=>0,rfl,fun b hb=>by rw [ju.mp hb];simp,fun _=>rfl,fun _ _ _ h1 h2=>h2.trans h1,fun i s h' tk st _ k=>⟨k I (by simp) _ st.1,k a (by simp) _ st.2⟩,fun i s Q E hi st hQ=>by omega,fun s Q E st hQ=>?_,fun i s Q E st hQ=>Zcy st.1 hQ⟩;exact Zgz bt hh st.1 st.2 fit rfl one led (by rw [e0];simp) fun h' k=>hQ _ ⟨fun b o hb e=>k b o (fun z=>hb (by simp [z])) e,rfl,rfl,rfl,Qf _⟩
 ·have h1:es.size=1:=by omega
  obtain ⟨j,hj⟩:∃j,t.place=#[j]:=by
   have:t.place.size=1:=hps.trans h1
   exact ⟨t.place[0],by
    apply Array.ext
    ·simpa using this
    ·intro i hi1 hi2;have:i=0:=by simp at hi2;omega
     subst this;rfl⟩
  have hle:(vals es).length=1:=by simpa using h1
  have hv:(vals es)[0]?=some ((vals es).getD 0 Qq):=by rw [Qb,Qd (by omega)];rfl
  obtain ⟨hx,he⟩:=Zq0 hv;refine ⟨fun i=>if i=0 then 0 else j+1,rfl,fun b hb=>by rw [ju.mp hb];simp,fun _=>rfl,fun _ _ _ h1 h2=>h2.trans h1,fun i s h' tk st _ k=>⟨k I (by simp) _ st.1,k a (by simp) _ st.2⟩,fun i s Q E hi st hQ=>?_,fun s Q E st hQ=>?_,fun i s Q E st hQ=>Zcy st.1 hQ⟩
  ·have:i=0:=by omega
   subst this;refine Zjv bt st.1 st.2 fit rfl one led (hx:=hx) (j:=j) ?_ ?_ fun h' hI sb=>hQ _ _ hv ⟨hI,(sb.2 a nIa).trans st.2⟩ ⟨fun b o hb e=>(sb.2 b (fun z=>hb (by simp [z]))).trans e,rfl,rfl,rfl,Qf _⟩
   ·rw [hj];show es[SetTable.below #[j] 0]?=_;rw [Zfc];exact he
   ·rw [hj];show (#[j]:Array Nat)[SetTable.below #[j] 0]?=_;rw [Zfc];rfl
  ·have st1:=st.1;rw [h1] at st1;have st1':ZcW s.heap I (.int (j+1:Nat) 0) 1 a es.size ep:=by rw [h1];exact st1
   exact Zgz bt hh st1' st.2 fit rfl one led (by rw [hj,Zi6];exact Q8 (by omega)) fun h' k=>hQ _ ⟨fun b o hb e=>k b o (fun z=>hb (by simp [z])) e,rfl,rfl,rfl,Qf _⟩
end
section
variable {prog:jw} {w:jB} {A:Around} {E:Value->jj->Prop} {s:jj} {a:jk} {es:Array (Int×Value)} {t:uV} {ep:Nat}
theorem Zie {Q:Bool->jj->Prop} (hS:s.heap.get? a=some (JB es ep t)) (h:Q false s):jo (jr prog w) A (Builtin.List.listLengthHint (.ref a)) Q E s:=by
 have hT:s.TypeIs (.ref a) "set":=⟨_,hS,rfl⟩;unfold Builtin.List.listLengthHint;refine ji (vI hT F.slot_set_len.lookup ?_)
 wp_delta
 refine ji (vb (T:="set") (b:=true) hT sub_set_self ?_);show jo _ _ (typeOf (Value.ref a) >>=_) _ _ _;refine ji (Qae (T:="set") hT ?_);exact jl h
theorem Zfr {acc:Array Value} {n:Nat} {qs:List Value} (h:Qax (fun i v=>qs[i]?=some v) acc n) (hn:qs.length=n):acc.toList=qs:=by
 obtain ⟨h1,h2⟩:=h;refine WJ fun i=>?_;rw [Uy];by_cases hi:i<acc.size
 ·have:=h2 i acc[i] (by rw [QZ hi]);rw [QZ hi,this]
 ·rw [Q8 (by omega),Vl (by omega)]
theorem ZoO {R:Qaq->jj->Prop} {G:Array Qal->Array Qal->Prop} {n c0:Nat} {P:Nat->Value->Prop} {St:Nat->jj->Prop} {I S:jk} {fp:List jk} {res:Value} {z:jj} (W:WalksS prog w A.in1 I fp [I] G n P St) (out:S∉fp) (st:St 0 z) (hn:n<=sizeLine)
 (h0:z.heap.get? S=some {cls:=.type "list",data:=.seq #[] c0}) (fin:∀s' acc c',Moved (S::[I]) G z s'->s'.heap.get? S=some {cls:=.type "list",dict:=none,data:=.seq acc c',slots:=#[]}->Qax P acc n->R (.ok (.ret res)) s'):
 jo (jr prog w) A.in1 (do
  rule "list.extend.makes-room"
  Builtin.List.listTouch (.ref S)
  again (.builtin "list.extend.loop" ⟨[.ref S,.ref I,res],[]⟩))
  (fun fin s'=>match fin with| .done f=>R (.ok f) s'| .again c'=>c'.quiet=true/\uW (jr prog w) A c' R s') (fun e s'=>R (.error e) s') z:=by
 refine ji (uC ?_);refine ji ?_;show jo _ _ (updateSeq S (·.push .none) >>=fun _=>updateSeq S (·.pop)) _ _ _;refine ji (wpAny_updateSeq h0 rfl ?_);have g1:=Q3 (Obj.mapSeq (·.push Qq)) h0 rfl;refine wpAny_updateSeq (hz:=by seq_fits) g1 rfl ?_;have g2:=Q3 (Obj.mapSeq (·.pop)) g1 rfl
 have oth:∀b o,b≠S->z.heap.get? b=some o->((z.heap.update S (Obj.mapSeq (·.push Qq))).update S (Obj.mapSeq (·.pop))).get? b=some o:=fun b o hb e=>
  (QW _ _ (Ne.symm hb)).trans ((QW _ _ (Ne.symm hb)).trans e)
 refine jl ⟨uX F.plain_extend_loop _,codeAny_extend_loopS W hn _ out _ n 0 _ #[] _ rfl (Qu _) (W.frame 0 z _ z.toks st (Qf _) fun b hb o e=>oth b o (fun y=>out (y▸hb)) e) g2 (ItemsOf.nil _) fun s' acc c' mv hS' it=>?_⟩;refine fin s' acc c' ⟨fun b o hb e=>mv.heap b o hb (oth b o (fun y=>hb (by simp [y])) e),mv.gens,mv.drawn,mv.os,mv.toks⟩ hS' it
theorem Zjf {R:Qaq->jj->Prop} (hh:A.handled=none) {S:jk} {c0:Nat} {res:Value} (h0:s.heap.get? S=some {cls:=.type "list",data:=.seq #[] c0}) (hS:s.heap.get? a=some (JB es ep t)) (fit:t.fits es.size=true) (tab:ZhR w t es.size) (small:es.size<vc)
 (hR:∀s' acc c',s'.gens=s.gens->s'.os=s.os->(∀b o,b≠S->s.heap.get? b=some o->s'.heap.get? b=some o)->s'.heap.get? S=some {cls:=.type "list",dict:=none,data:=.seq acc c',slots:=#[]}->acc.toList.Perm (vals es)->R (.ok (.ret res)) s'):
 jo (jr prog w) A.in1 (Builtin.List.listExtendWith (.ref S) (.ref a) res)
  (fun fin s'=>match fin with| .done f=>R (.ok f) s'| .again c'=>c'.quiet=true/\uW (jr prog w) A c' R s') (fun e s'=>R (.error e) s') s:=by
 have hsl:sizeLine=16777216:=jt;have sm:es.size<=sizeLine:=by unfold vc at small;omega
 have nSa:S≠a:=fun z=>by rw [z,hS] at h0;simp [JB] at h0
 have lS:S<s.heap.objs.size:=Qj h0;have la:a<s.heap.objs.size:=Qj hS;have vl:(vals es).length=es.size:=by simp
 unfold Builtin.List.listExtendWith;refine ji (Qae (T:="set") ⟨_,hS,rfl⟩ ?_);have e1:Builtin.List.listSameRef (.ref S) (.ref a)=false:=by simp [Builtin.List.listSameRef,nSa]
 have e2:(UA "set"==UA "list")=false:=by decide
 have e3:(UA "set"==UA "tuple")=false:=by decide
 simp only [e1,e2,e3,Wb,Q4,if_false];refine ji (Zo7 hS fit tab (fun no=>?_) (fun bt r d pm=>?_) sm)
 ·have nI:a≠s.heap.objs.size:=Qm la;have kept:∀b o,s.heap.get? b=some o->(s.heap.push {cls:=.type "set_iterator",data:=.fields #[.int 0 0,.int 0 0,.ref a,.int es.size 0,.int ep 0]}).get? b=some o:=fun b o e=>Qe _ e;have new:ZcW (s.heap.push {cls:=.type "set_iterator",data:=.fields #[.int 0 0,.int 0 0,.ref a,.int es.size 0,.int ep 0]}) s.heap.objs.size (.int 0 0) 0 a es.size ep:=Qh _ rfl;refine ji (jS (Zie (kept _ _ hS) ?_));rw [if_pos (by decide)];have out:S∉[s.heap.objs.size,a]:=by simp only [jK,QG,or_false,not_or];exact ⟨Qm lS,nSa⟩
  have fin:∀(qs:List Value),qs.Perm (vals es)->∀(s':jj) (acc:Array Value) (c':Nat),Moved (S::[s.heap.objs.size]) (fun x y=>y=x) {s with heap:=s.heap.push {cls:=.type "set_iterator",data:=.fields #[.int 0 0,.int 0 0,.ref a,.int es.size 0,.int ep 0]} } s'->
   s'.heap.get? S=some {cls:=.type "list",dict:=none,data:=.seq acc c',slots:=#[]}->Qax (fun i v=>qs[i]?=some v) acc es.size->R (.ok (.ret res)) s':=fun qs pm s' acc c' mv hS' it=>by
   refine hR s' acc c' mv.gens mv.os (fun b o hb e=>mv.heap b o ?_ (kept b o e)) hS' (by rw [Zfr it (by rw [pm.length_eq,vl])];exact pm);simp only [jK,QG,or_false,not_or];exact ⟨hb,Qm (Qj e)⟩
  cases bt:w.params.followText "set-order" with
  |true=>
   have W:=Zmu (prog:=prog) (w:=w) (A:=A.in1) (I:=s.heap.objs.size) (a:=a) (es:=es) (t:=t) (ep:=ep) bt hh nI fit;exact ZoO W out ⟨new,kept _ _ hS⟩ (by omega) (kept _ _ h0) fun s' acc c' mv hS' it=>fin _ ((Zej _ es).map _) s' acc c' mv hS' it
  |false=>
   have one:es.size<=1:=VO fun z=>no ⟨bt,z⟩;obtain ⟨g,g0,W⟩:=ZjW (prog:=prog) (w:=w) (A:=A.in1) (I:=s.heap.objs.size) (a:=a) (es:=es) (t:=t) (ep:=ep) bt hh nI fit one (tab.1 bt);exact ZoO W out ⟨by rw [g0];exact new,kept _ _ hS⟩ (by omega) (kept _ _ h0) fun s' acc c' mv hS' it=>fin _ (List.Perm.refl _) s' acc c' mv hS' it
 ·generalize hF:({cls:=.type "tuple",data:=.seq (r.map fun i:Nat=>ua i).toArray}:Obj)=oF;generalize hO:({cls:=.type "set_iterator",data:=.fields #[.ref s.heap.objs.size,.int 0 0,.ref a,.int es.size 0,.int ep 0]}:Obj)=oI;have kept:∀b o,s.heap.get? b=some o->((s.heap.push oF).push oI).get? b=some o:=fun b o e=>Qe _ (Qe _ e)
  have sz:(s.heap.push oF).objs.size=s.heap.objs.size+1:=Uo ..
  have new:((s.heap.push oF).push oI).get? (s.heap.objs.size+1)=some oI:=by have:=Qh (s.heap.push oF) (o:=oI) (by rw [<-hO];rfl);rwa [sz] at this
  have newF:((s.heap.push oF).push oI).get? s.heap.objs.size=some oF:=Qe _ (Qh _ (by rw [<-hF];rfl));refine ji (jS (Zie (kept _ _ hS) ?_));rw [if_pos (by decide)];have nF:@Ne jk s.heap.objs.size (s.heap.objs.size+1):=Qm (UU _);have nI:@Ne jk a (s.heap.objs.size+1):=Qm (UQ la);have W:=ZjV (prog:=prog) (w:=w) (A:=A.in1) (I:=s.heap.objs.size+1) (Fr:=s.heap.objs.size) (a:=a) (es:=es) (t:=t) (ep:=ep) hh nF nI fit pm;have out:S∉[s.heap.objs.size+1,s.heap.objs.size,a]:=by simp only [jK,QG,or_false,not_or];exact ⟨Qm (UQ lS),Qm lS,nSa⟩
  refine ZoO W out ⟨new.trans (by rw [<-hO];rfl),newF.trans (by rw [<-hF]),kept _ _ hS⟩ (by omega) (kept _ _ h0) fun s' acc c' mv hS' it=>?_
  have pq:(r.map fun p=>(vals es).getD p Qq).Perm (vals es):=by
   have h1:=pm.map fun p=>(vals es).getD p Qq;have h2:((Qk es.size).map fun p=>(vals es).getD p Qq)=vals es:=by refine VM (by simp) fun i hi1 hi2=>?_;rw [VL,WG,Qb,Qd hi2];rfl
   rw [h2] at h1;exact h1
  refine hR s' acc c' mv.gens mv.os (fun b o hb e=>mv.heap b o ?_ (kept b o e)) hS' (by rw [Zfr it (by rw [pq.length_eq,vl])];exact pq);simp only [jK,QG,or_false,not_or];exact ⟨hb,Qm (UQ (Qj e))⟩
end
section
variable {prog:jw} {w:jB} {A:Around} {E:Value->jj->Prop} {s:jj} {a:jk}
theorem Zmt {xs:List V} {us vs:List Value} (h:ZE xs us) (p:vs.Perm us):∃ys,ys.Perm xs/\ZE ys vs:=by
 induction p generalizing xs with
 |nil=>exact ⟨xs,List.Perm.refl _,h⟩
 |cons v p ih=>
  cases h with
  |cons r h=>
   obtain ⟨ys,q1,q2⟩:=ih h;exact ⟨_::ys,List.Perm.cons _ q1,.cons r q2⟩
 |swap x y l=>
  cases h with
  |cons r1 h=>
   cases h with
   |cons r2 h=>exact ⟨_,List.Perm.swap _ _ _,.cons r2 (.cons r1 h)⟩
 |trans p1 p2 ih1 ih2=>
  obtain ⟨ys,q1,q2⟩:=ih2 h;obtain ⟨zs,q3,q4⟩:=ih1 q2;exact ⟨zs,q3.trans q1,q4⟩
theorem Zh2 {cs:List Nat} {Q:List Value->jj->Prop} (hh:A.handled=none) (st:ZgZ w s.heap a cs)
 (h:∀vs s' (ds:List Nat),ds.Perm cs->ZE (ds.map fun c=>V.str (T [c])) vs->s'.gens=s.gens->s'.os=s.os->(∀b o,s.heap.get? b=some o->s'.heap.get? b=some o)->Q vs s'):jo (jr prog w) A (collect (.ref a)) Q E s:=by
 obtain ⟨es,ep,t,ho,vl,fit,small,tab⟩:=st;have hsl:sizeLine=16777216:=jt;unfold collect;refine ji (vM (j9 F.entry_proto_collect ?_));rw [Around.under_plainId F.plain_proto_collect _];show jo _ A.in1 (newList [] >>=fun l=>again (.builtin "list.__iadd__" ⟨[l,.ref a],[]⟩)) _ _ s;refine ji (jZ ?_);refine jl ⟨uX F.plain_list_iadd _,j9 F.entry_list_iadd ?_⟩;rw [Around.under_plainId F.plain_list_iadd _];show jo _ A.in1 (Builtin.List.listExtendWith (.ref s.heap.objs.size) (.ref a) (.ref s.heap.objs.size)) _ _ _
 let ZtJ:jj->Prop:=fun s'=>∃acc c',s'.gens=s.gens/\s'.os=s.os/\(∀b o,s.heap.get? b=some o->s'.heap.get? b=some o)/\s'.heap.get? s.heap.objs.size=some {cls:=.type "list",dict:=none,data:=.seq acc c',slots:=#[]}/\acc.toList.Perm (vals es)
 have fin:∀s':jj,ZtJ s'->jo (jr prog w) A (match Value.ref s.heap.objs.size with
  |Value.ref a=>do
   match (<-load a).data with
    |Data.seq xs _=>pure xs.toList
    |_=>unsupported "internal:collect"
  |_=>unsupported "internal:collect") Q E s':=by
  rintro s' ⟨acc,c',g1,g2,g3,g4,g5⟩;show jo _ A (load s.heap.objs.size >>=_) _ _ _;refine ji (wpAny_load g4 ?_);obtain ⟨ys,q1,q2⟩:=Zmt vl g5
  obtain ⟨ds,hd,rfl⟩:∃ds:List Nat,ds.Perm cs/\(ds.map fun c=>V.str (T [c]))=ys:=by
   have back:∀{ys zs:List V},ys.Perm zs->∀cs:List Nat,zs=(cs.map fun c=>V.str (T [c]))->∃ds:List Nat,ds.Perm cs/\(ds.map fun c=>V.str (T [c]))=ys:=by
    intro ys zs p
    induction p with
    |nil=>
     intro cs e;exact ⟨[],by rw [show cs=[] by simpa using e.symm],rfl⟩
    |cons v p ih=>
     intro cs e
     cases cs with
     |nil=>cases e
     |cons c r=>
      rw [jT] at e;obtain ⟨e1,e2⟩:=List.cons.inj e;obtain ⟨ds,q1,q2⟩:=ih r e2;exact ⟨c::ds,List.Perm.cons _ q1,by rw [jT,q2,e1]⟩
    |swap x y l=>
     intro cs e
     match cs,e with
     |c::d::r,e=>
      rw [jT,jT] at e;obtain ⟨e1,e2⟩:=List.cons.inj e;obtain ⟨e3,e4⟩:=List.cons.inj e2;exact ⟨d::c::r,List.Perm.swap _ _ _,by rw [jT,jT,e1,e3,e4]⟩
    |trans p1 p2 ih1 ih2=>
     intro cs e;obtain ⟨ds,q1,q2⟩:=ih2 cs e;obtain ⟨fs,q3,q4⟩:=ih1 ds q2.symm;exact ⟨fs,q3.trans q1,q4⟩
   exact back q1 cs rfl
  exact jl (h _ s' ds hd q2 g1 g2 g3)
 refine jU (Zjf (s:= {s with heap:=s.heap.push {cls:=.type "list",data:=.seq ([]:List Value).toArray} }) (R:=fun r s'=>r=.ok (.ret (.ref s.heap.objs.size))/\ZtJ s') hh (Qh _ rfl) (Qe _ ho) fit tab small fun s' acc c' g1 g2 g3 g4 g5=>⟨rfl,acc,c',g1,g2,fun b o e=>g3 b o (Qm (Qj e)) (Qe _ e),g4,g5⟩) (fun fn s' hf=>?_) fun e s' he=>?_
 ·cases fn with
  |done fl=>
   obtain ⟨e,hf⟩:=hf;cases e;exact fin s' hf
  |again c'=>
   refine ⟨hf.1,ub hf.2 fun r s2 hr=>?_⟩;obtain ⟨e,hr⟩:=hr;subst e;exact fin s2 hr
 ·exact absurd he.1 (by intro z;cases z)
end
theorem ZfC (x y:Str) (hi limit:Nat) (hy:y.length=1):∀(l:List Nat) (st:Array Nat×Nat),(∀i∈l,st.2<=i)->l.Pairwise (· <·)->st.1.size+l.length<=limit->
 (forIn l st (StrLaws.occBody x y hi limit)).run.fst.size=st.1.size+l.countP fun i=>decide (i+1<=hi) && Builtin.Str.subAt x y i
 |[],st,_,_,_=>rfl
 |a::l,st,hf,pw,hl=>by
  rw [Uv];unfold StrLaws.occBody;obtain ⟨p1,p2⟩:=QJ.mp pw;rw [jy] at hl;by_cases hc:a+y.length<=hi/\Builtin.Str.subAt x y a=true
  ·rw [if_pos ⟨⟨⟨by omega,hf a (jW ..)⟩,hc.1⟩,hc.2⟩];have:=ZfC x y hi limit hy l (st.1.push a,a+y.length) (fun i h=>by have:=p1 i h;show a+y.length<=i;omega) p2 (by rw [Vi];omega);rw [Vi] at this;refine this.trans ?_;rw [Qw,if_pos (by rw [hc.2,Bool.and_true,decide_eq_true_eq];omega)];omega
  ·rw [if_neg fun z=>hc ⟨z.1.2,z.2⟩];have:=ZfC x y hi limit hy l st (fun i h=>hf i (jH _ h)) p2 (by omega);refine this.trans ?_;rw [Qw,if_neg]
   ·rfl
   ·intro z;rw [QM,decide_eq_true_eq] at z;exact hc ⟨by omega,z.2⟩
theorem Zfi (l:List Nat) (c:Nat):∀hi,hi<=l.length->(Qk hi).countP (fun i=>decide (l[i]?=some c))=(l.take hi).count c
 |0,_=>rfl
 |hi+1,h=>by rw [Ut,Us,Zfi l c hi (by omega),Ua,List.count_append,Qd (by omega)];have e:l[hi]?=some l[hi]:=Qd (by omega);simp [WS,Qw,e]
theorem ZiA (x y:Str) (c hi:Nat) (hy:L y=[c]) (hh:hi<=(L x).length):(Builtin.Str.occurrences x y 0 hi (x.length+1)).length=((L x).take hi).count c:=by
 have ly:y.length=1:=by rw [<-Z7,hy];rfl
 rw [StrLaws.occ_eq,Qp,ZfC x y hi _ ly _ _ (fun i _=>Qu _) (List.pairwise_lt_range' ..) (by rw [List.length_range',<-Z7];simp;omega)];rw [<-List.range_eq_range',<-Zfi (L x) c hi hh];show 0+_=_;rw [VD,VF,Ut,Us];have e0:[hi].countP (fun i=>decide (i+1<=hi) && Builtin.Str.subAt x y i)=0:=by rw [QY];intro i h;rw [ju.mp h,decide_eq_false (by omega)];exact Qg
 rw [e0,Uk];refine List.countP_congr fun i h=>?_;have h:=QB.mp h;rw [QM,decide_eq_true_eq,decide_eq_true_eq];have e:=ZC7 x y i;unfold ZAa at e;rw [hy] at e;have hl:i+y.length<=x.length:=by rw [ly,<-Z7];omega
 rw [decide_eq_true hl,W3] at e;rw [e,decide_eq_true_eq];constructor
 ·rintro ⟨_,_,e2⟩;have:=congrArg (fun l:List Nat=>l[0]?) e2;simpa using this
 ·intro e2;refine ⟨by omega,by show i+1<=_;omega,?_⟩;refine VM (by simp;omega) fun k h1 h2=>?_;have:k=0:=by simp at h2;omega
  subst this;rw [Qd (by omega)] at e2;simpa using Option.some.inj e2
theorem Zhd (x y:Str) (i j:Int) (t u v v':Tok):Gives (Builtin.«str.count» ⟨[.str x t,.str y u,.int i v,.int j v'],[]⟩) (.int (Builtin.Str.occurrences x y (PySem.fromIndex x.length i) (min (PySem.fromIndex x.length j) x.length) (x.length+1)).length):=by show Gives (retInt (Builtin.Str.occurrences x y (PySem.fromIndex x.length i) (min (PySem.fromIndex x.length j) x.length) (x.length+1)).length) _;exact .of_eq rfl
section
variable {X:Cx}
def ZuS:V->List V->Hp->VK->Prop:=fun x vs H Q=>match x,vs with
 | .str z,[.str y]=>∃c,L y=[c]/\Q (.int ((L z).count c:Nat)) H
 | .str z,[.str y,.int i,.int j]=>∃c,L y=[c]/\i=0/\0<=j/\Q (.int (((L z).take j.toNat).count c:Nat)) H
 |_,_=>False
theorem Zip:MtR X "str.count" ZuS:=by
 intro Zb s σ H x vs v us Q I rx rv h;unfold ZuS at h;split at h
 ·rename_i z y;obtain ⟨c,hy,q⟩:=h;obtain ⟨t,rfl⟩:=rx;obtain ⟨u,rfl,t',rfl⟩:=Zab rv;refine call_gives F.slot_str_count (ui _ _ _) F.entry_str_count (F.args_str_count_2 _ _) (gives_str_count z y t t') ?_;have:=ZiA z y c (L z).length hy (Qf _);rw [QF,Z7] at this;rw [this];exact ⟨.int ((L z).count c:Nat),H,I.tok _,⟨_,rfl⟩,q⟩
 ·rename_i z y i j;obtain ⟨c,hy,hi,hj,q⟩:=h;subst hi;obtain ⟨t,rfl⟩:=rx
  obtain ⟨t',t'',t3,rfl⟩:∃t' t'' t3,us=[.str y t',.int 0 t'',.int j t3]:=by
   cases rv with
   |cons r1 rv=>
    cases rv with
    |cons r2 rv=>
     cases rv with
     |cons r3 rv=>
      cases rv;obtain ⟨t',rfl⟩:=r1;obtain ⟨t'',rfl⟩:=r2;obtain ⟨t3,rfl⟩:=r3;exact ⟨t',t'',t3,rfl⟩
  refine call_gives F.slot_str_count (ui _ _ _) F.entry_str_count (F.args_str_count_4 _ _ _ _) (Zhd z y 0 j t t' t'' t3) ?_;have e1:PySem.fromIndex z.length 0=0:=rfl;have e2:PySem.fromIndex z.length j=j.toNat:=by unfold PySem.fromIndex;rw [if_neg (by omega)];omega
  rw [e1,e2];have:=ZiA z y c (min j.toNat z.length) hy (by rw [Z7];omega);rw [this,<-Z7]
  have e3:(L z).take (min j.toNat (L z).length)=(L z).take j.toNat:=by
   by_cases h:j.toNat<=(L z).length
   ·rw [Uh h]
   ·rw [Vf (by omega),QF,QD (by omega)]
  rw [e3];exact ⟨.int (((L z).take j.toNat).count c:Nat),H,I.tok _,⟨_,rfl⟩,q⟩
 ·exact h.elim
end
def qX:Stmt->List Stmt
 | .ClassDef _ _ _ b _ _ _ _ _ _ _=>b
 |_=>[]
section
variable {P:jw} {w:jB} {K:Qa} {mg:Str->Option Value} {base:Heap}
theorem Fun.okLX {x qual:Str} {st:Stmt} {f c:jk} {fd:j7} {N ps:List Str} {k:Nat} {sp:Sp} (F:Fun K x qual st f fd) (hc:fd.code=.ref c) (S:Zw N ps (Zf st)) (len:∀vs H Q E,sp vs H Q E->vs.length=ps.length)
 (hbody:∀(A:Around) (outer:List Env) (s:jj) (H:Hp) (vs:List V) (Q:VK) (E:XK),Ye k (A.deeper (ul qual (Zf st) s.heap.objs.size f (.ref c)))->sp vs H Q E->
  ∃t,PSs (Zau (CX1 P w) P w K mg base N qual (Zf st) f (.ref c) A outer s H E) (Zt st) t/\t {nx:=fun _ H'=>Q .non H',rt:=Q} (Zaa N vs) H):Z0 P w K mg base (CX1 P w) (k+1) f fd ps sp:=by
 obtain ⟨oc,od,kV,doc,pm,an,cdv,ct,osl,rfl,lk,hcd⟩:=F.ex;have hc:cdv=.ref c:=hc;subst hc;exact Zh9 lk hcd S len fun A outer s H vs Q E hr hsp=>hbody A outer s H vs Q E hr hsp
end
section
variable {X:Cx} {K:Qa} {o e value:jF} {f:Str} {pos pos':Pos} {ta tv:TE}
def ZCW (C:jk) (ta:TE) (f:Str):TE:=fun σ H Q=>ta σ H fun x H1=>match x with
 | .ref a=>∃dx fs v,H1 a=some (.ins C dx fs)/\fs.lookup f=some v/\Q v H1
 |_=>False
theorem YE {C:jk} (hK:X.K=K) (c:Cls K C) (n:qK K C f) (he:PE X e ta) (hb:vh e f X.env (eval e X.env)=eval e X.env:=by rfl):PE X (.Attribute e f pos) (ZCW C ta f):=by
 subst hK;have he':PE X e (fun σ H Q=>∃Q0:VK,ta σ H Q0/\∀v H',Q0 v H'->Q v H'):=he.imp fun σ H Q h=>h;intro Zb s σ H Q I h;refine ZyC (pos:=pos) he' hb Zb s σ H Q I ⟨_,h,fun v H' q=>?_⟩
 cases v with
 |ref a=>
  obtain ⟨dx,fs,v,q1,q2,q3⟩:=q;exact ⟨a,C,dx,fs,v,rfl,q1,c,n,q2,q3⟩
 |_=>exact False.elim q
def ZDj (C:jk) (ta tv:TE) (f:Str):TS:=fun D σ H=>tv σ H fun y H1=>ta σ H1 fun x H2=>match x with
 | .ref a=>∃dx fs,H2 a=some (.ins C dx fs)/\fs.length<1000/\D.nx σ (upd H2 a (.ins C dx (YZ f y fs)))
 |_=>False
theorem ZaT {C:jk} (hK:X.K=K) (c:Cls K C) (n:qK K C f) (ha:PE X o ta) (hv:PE X value tv) (hs:uZ value (some (.Attribute o f pos')) pos.line X.env=pure false):PS X (.Assign [.Attribute o f pos'] value pos) (ZDj C ta tv f):=by
 subst hK;have ha':PE X o (fun σ H Q=>∃Q0:VK,ta σ H Q0/\∀v H',Q0 v H'->Q v H'):=ha.imp fun σ H Q h=>h;have hv':PE X value (fun σ H Q=>∃Q0:VK,tv σ H Q0/\∀v H',Q0 v H'->Q v H'):=hv.imp fun σ H Q h=>h;intro Zb s σ H D I h;refine Zzp (pos':=pos') (pos:=pos) ha' hv' hs Zb s σ H D I ⟨_,h,fun y H1 q1=>⟨_,q1,fun x H2 q=>?_⟩⟩
 cases x with
 |ref a=>
  obtain ⟨dx,fs,q1,q2,q3⟩:=q;exact ⟨a,C,dx,fs,rfl,q1,c,n,q2,q3⟩
 |_=>exact False.elim q
end
section
variable {X:Cx} {x:Str} {pos:Pos}
theorem Zqk {z:Str} (hg:Gl X x) (hm:∃t,X.mg x=some (.str z t)) (hd:(x==("__debug__":Str))=false:=by decide):PE X (.Name x pos) (tC (.str z)):=by obtain ⟨t,hm⟩:=hm;exact YN hg hm ⟨t,rfl⟩ hd
theorem Zqj {z:Int} (hg:Gl X x) (hm:∃t,X.mg x=some (.int z t)) (hd:(x==("__debug__":Str))=false:=by decide):PE X (.Name x pos) (tC (.int z)):=by obtain ⟨t,hm⟩:=hm;exact YN hg hm ⟨t,rfl⟩ hd
end
def YV (cs:List Nat) (h:Nat):List Nat:=cs.take h++10::cs.drop h
theorem Zh1 {cs:List Nat} {h:Nat} (hh:h<=cs.length):(YV cs h).length=cs.length+1:=by unfold YV;rw [jq,jy,jz,jJ];omega
def fsL (cs:List Nat) (h:Nat) (tot fo:jk):List (Str×V):=[("column",.str (T (YV cs h))),("home",.int h),("last",.int cs.length),("totals",.ref tot),("forths",.ref fo)]
def Tot (H:Hp) (tot:jk) (cs:List Nat):Prop:=∃(ts:List jk) (ds:List Nat),H tot=some (.lst (ts.map V.ref))/\ts.length=ds.length/\(∀(j d:Nat),ds[j]?=some d->∃t,ts[j]?=some t/\H t=some (.tup [.str (T [d]),.int (cs.count d:Nat)]))/\ds.Nodup/\(∀c,c∈ds↔c∈cs)
def Fo (H:Hp) (fo:jk) (cs:List Nat) (h:Nat):Prop:=∃p:List Nat,H fo=some (.lst (p.map fun i:Nat=>V.int i))/\p.Perm (Qk (cs.length+1))/\p.Pairwise (fun i j=>[(YV cs h).getD i 0]<=[(YV cs h).getD j 0]/\([(YV cs h).getD i 0]=[(YV cs h).getD j 0]->i<j))
def JQ (C:jk) (H:Hp) (a:jk) (cs:List Nat) (h:Nat):Prop:=∃dx tot fo,H a=some (.ins C dx (fsL cs h tot fo))/\(Tot H tot cs/\Fo H fo cs h)/\h<=cs.length
theorem Tot.same {H H':Hp} {tot:jk} {cs:List Nat} (x:Tot H tot cs) (sm:∀b o,H b=some o->(∀ps,o≠ .tbl ps)->H' b=some o):Tot H' tot cs:=by obtain ⟨ts,ds,h1,h2,h3,h4⟩:=x;refine ⟨ts,ds,sm _ _ h1 (by nofun),h2,fun j d e=>?_,h4⟩;obtain ⟨t,e1,e2⟩:=h3 j d e;exact ⟨t,e1,sm _ _ e2 (by nofun)⟩
theorem JQ.same {C:jk} {H H':Hp} {a:jk} {cs:List Nat} {h:Nat} (x:JQ C H a cs h) (sm:∀b o,H b=some o->(∀ps,o≠ .tbl ps)->H' b=some o):JQ C H' a cs h:=by obtain ⟨dx,tot,fo,h1,h2,h3⟩:=x;obtain ⟨p,p1,p2⟩:=h2.2;exact ⟨dx,tot,fo,sm _ _ h1 (by nofun),⟨h2.1.same sm,p,sm _ _ p1 (by nofun),p2⟩,h3⟩
theorem ZiV (c:Nat):∀(cs ds:List Nat),ds.Nodup->(∀x∈cs,x∈ds)->((ds.filter fun d=>decide (d<c)).map fun d=>(cs.count d:Int)).sum=(cs.countP fun x=>decide (x<c):Nat)
 |[],ds,_,_=>by
  have:(ds.filter fun d=>decide (d<c)).map (fun d=>(([]:List Nat).count d:Int))=(ds.filter fun d=>decide (d<c)).map fun _=>0:=uE fun _ _=>rfl;rw [this]
  induction (ds.filter fun d=>decide (d<c)) with
  |nil=>rfl
  |cons a r ih=>simpa using ih
 |x::cs,ds,nd,sub=>by
  have ih:=ZiV c cs ds nd fun y hy=>sub y (jH _ hy);have hx:=sub x (jW ..)
  have one:∀(es:List Nat),es.Nodup->(es.map fun d=>((x::cs).count d:Int)).sum=(es.map fun d=>(cs.count d:Int)).sum+if x∈es then 1 else 0:=by
   intro es
   induction es with
   |nil=>intro _;rfl
   |cons a r ihe=>
    intro nde;obtain ⟨n1,n2⟩:=Uu.mp nde;have:=ihe n2;rw [jT,jT,Vw,Vw,this,WS];by_cases e:x=a
    ·subst e;simp [n1];omega
    ·have:(x==a)=false:=by simpa using e
     simp [this,e];omega
  rw [one _ (nd.sublist Vv),ih,Qw];by_cases hl:x<c
  ·rw [if_pos (UX.mpr ⟨hx,by simpa using hl⟩),if_pos (by simpa using hl)];rfl
  ·rw [if_neg fun z=>hl (by simpa using (UX.mp z).2),if_neg (by simpa using hl)];simp
theorem ZoL (cs:List Nat) (h:Nat) (tot fo:jk):YZ "forths" (.ref fo) (YZ "totals" (.ref tot) (YZ "last" (.int cs.length) (YZ "home" (.int h) (YZ "column" (.str (T (YV cs h))) []))))=fsL cs h tot fo:=by unfold fsL;rfl
theorem Zha {α:Type} (l:List α) (m:Nat):cut l none (some (m:Int))=l.take m:=by
 unfold cut;show (l.drop 0).take ((if (m:Int)<0 then ((m:Int)+(l.length:Int)).toNat else min (m:Int).toNat l.length)-0)=l.take m;rw [if_neg (by omega),Qn,Uc,VF];by_cases h:m<=l.length
 ·rw [Uh h]
 ·rw [Vf (by omega),QD (Qf _),QD (by omega)]
theorem Zok (cs:List Nat) (m:Nat):cut cs none (some (m:Int))++L (Qc "\n")++cut cs (some (m:Int)) none=YV cs m:=by
 have e:L (Qc "\n")=[10]:=by rfl'
 rw [Zha,LP.Zdj,e];unfold YV;simp
def Prs (H:Hp) (ts:List jk) (ds cs:List Nat):Prop:=ts.length=ds.length/\∀(j d:Nat),ds[j]?=some d->∃t,ts[j]?=some t/\H t=some (.tup [.str (T [d]),.int (cs.count d:Nat)])
theorem Prs.same {H H':Hp} {ts:List jk} {ds cs:List Nat} (x:Prs H ts ds cs) (sm:LP.Ztb H H'):Prs H' ts ds cs:=⟨x.1,fun j d e=>by
 obtain ⟨t,e1,e2⟩:=x.2 j d e;exact ⟨t,e1,sm _ _ e2⟩⟩
theorem Prs.snoc {H:Hp} {ts:List jk} {ds cs:List Nat} {t:jk} {d:Nat} (x:Prs H ts ds cs) (ht:H t=some (.tup [.str (T [d]),.int (cs.count d:Nat)])):Prs H (ts++[t]) (ds++[d]) cs:=by
 refine ⟨by simp [x.1],fun j e hj=>?_⟩;by_cases h:j<ds.length
 ·rw [Qx h] at hj;obtain ⟨u,e1,e2⟩:=x.2 j e hj;exact ⟨u,by rw [Qx (by rw [x.1];exact h)];exact e1,e2⟩
 ·have hl:=(Qo.mp hj).1;rw [jq,jE] at hl;have ej:j=ds.length:=by omega
  subst ej;rw [Qt (Qf _),UP] at hj;have hj:d=e:=by simpa using hj
  subst hj;exact ⟨t,by rw [<-x.1,Qt (Qf _),UP];rfl,ht⟩
theorem Zce {P:jk} {pos:Pos} {q:Str} {H:Hp} {a C dx:jk} {fs:List (Str×V)} {o:HO} (h:Bk P pos q H) (hl:H a=some (.ins C dx fs)):Bk P pos q (upd H a o):=by
 rcases h with h|⟨c',h1,h2⟩
 ·have:P≠a:=by rintro rfl;rw [h] at hl;cases hl
  exact .inl ((Zj this).trans h)
 ·have n1:P≠a:=by rintro rfl;rw [h1] at hl;cases hl
  have n2:c'≠a:=by rintro rfl;rw [h2] at hl;cases hl
  exact .inr ⟨c',(Zj n1).trans h1,(Zj n2).trans h2⟩
theorem ZqB (n:Nat):ZdK 0 (n:Int)=(Qk n).map fun j:Nat=>V.int j:=by unfold ZdK;rw [show ((n:Int)-0).toNat=n by omega];refine uE fun j _=>?_;rw [VJ]
theorem Zkh {cs:List Nat} {h i:Nat} (hh:h<=cs.length):(YV cs h)[i]?=if i<h then cs[i]? else if i=h then some 10 else cs[i-1]?:=by
 unfold YV;by_cases h1:i<h
 ·rw [if_pos h1,Qx (by rw [jz];omega),UG,if_pos h1]
 ·rw [if_neg h1,Qt (by rw [jz];omega),jz,Uh hh];by_cases h2:i=h
  ·subst h2;simp
  ·rw [if_neg h2,show i-h=(i-h-1)+1 by omega,Vd,Ub]
   congr 1
   omega
theorem Zrf {cs:List Nat} {h i:Nat} (hh:h<=cs.length) (h10:∀c∈cs,c≠10) (hi:i<cs.length+1) (hn:i≠h):(YV cs h).getD i 0≠10:=by
 rw [Qb,Zkh hh];by_cases h1:i<h
 ·rw [if_pos h1,Qd (by omega)];exact h10 _ (QT _)
 ·rw [if_neg h1,if_neg hn,Qd (by omega)];exact h10 _ (QT _)
open Builtin Builtin.Str
end L2
namespace LO
open L2
def rsL (cs:List Nat) (h:Nat):Rs:=(cs.take h).map some++none::(cs.drop h).map some
theorem ZqE {cs:List Nat} {h:Nat} (hh:h<=cs.length):(rsL cs h)[h]?=some none:=by unfold rsL;rw [Qt (by rw [jn,jz];omega),jn,jz,Uh hh,UP];rfl
theorem Zzt {cs:List Nat} {h i:Nat} (hh:h<=cs.length) (hi:i<cs.length+1) (hn:i≠h):(rsL cs h)[i]?=some (some ((YV cs h).getD i 0)):=by
 rw [Qb,Zkh hh];unfold rsL;by_cases h1:i<h
 ·rw [if_pos h1,Qx (by rw [jn,jz];omega),Qi,V9 h1,Qd (by omega)];rfl
 ·rw [if_neg h1,if_neg hn,Qt (by rw [jn,jz];omega),jn,jz,Uh hh];obtain ⟨k,rfl⟩:∃k,i=h+k+1:=⟨i-h-1,by omega⟩;rw [show h+k+1-h=k+1 by omega,Vd,Qi,Ub,show h+k+1-1=h+k by omega,Qd (by omega)];rfl
theorem Zfw (cs:List Nat) (h d:Nat):less (rsL cs h) d=cs.countP fun x=>decide (x<d):=by unfold less rsL;rw [Us,Qw,Uw,Uw];have e:(Zdv d∘some)=fun x=>decide (x<d):=rfl;rw [e];show _+(_+if (false:Bool)=true then 1 else 0)=_;rw [if_neg (by decide),Uk,<-Us,QP]
theorem ZcZ {cs:List Nat} {h d:Nat} (r:Nat) (hd:d≠10):Za4 (rsL cs h) d r=((YV cs h).take r).count d:=by
 unfold Za4 rsL YV List.count
 have key:∀(a b:List Nat) (r:Nat),((a.map some++none::b.map some).take r).countP (fun o=>o==some d)=((a++10::b).take r).countP (fun x=>x==d):=by
  intro a b;have kb:∀(b:List Nat) (r:Nat),((b.map some).take r).countP (fun o=>o==some d)=(b.take r).countP (fun x=>x==d):=by intro b r;rw [<-QaB,Uw];rfl
  induction a with
  |nil=>
   intro r
   cases r with
   |zero=>rfl
   |succ r=>
    rw [map_nil,uH,uH,QO,QO,Qw,Qw,kb];have:((10:Nat)==d)=false:=by simpa using Ne.symm hd
    rw [this];rfl
  |cons x t ih=>
   intro r
   cases r with
   |zero=>rfl
   |succ r=>
    rw [jT,uM,uM,QO,QO,Qw,Qw,ih];rfl
 exact key _ _ _
theorem Zra {cs:List Nat} {h:Nat} (hh:h<=cs.length):bk (rsL cs h) h=none:=by unfold bk;rw [ZqE hh]
theorem ZuB {cs:List Nat} {h i:Nat} (hh:h<=cs.length) (h10:∀c∈cs,c≠10) (hi:i<cs.length+1) (hn:i≠h):bk (rsL cs h) i=some (1+cs.countP (fun x=>decide (x<(YV cs h).getD i 0))+((YV cs h).take i).count ((YV cs h).getD i 0)):=by rw [Zkd (Zzt hh hi hn),Zfw,ZcZ i (Zrf hh h10 hi hn)]
theorem Zkr (l:List Nat):ZdZ l<=l.length:=by have:=Zrw l;omega
theorem ZdL (l:List Nat):ZaG l=rsL (zC l) (ZdZ l):=by
 have key:∀(xs:List (Option Nat)) (h:Nat),xs[h]?=some none->(∀i,xs[i]?=some none->i=h)->xs=rsL (xs.filterMap id) h:=by
  intro xs
  induction xs with
  |nil=>intro h e;simp at e
  |cons x t ih=>
   intro h e u
   cases h with
   |zero=>
    have:x=none:=by simpa using e
    subst this
    have al:∀t:List (Option Nat),(∀i:Nat,t[i]?≠some none)->(t.filterMap id).map some=t:=by
     intro t
     induction t with
     |nil=>intro _;rfl
     |cons y t ih=>
      intro hn
      cases y with
      |none=>exact absurd rfl (hn 0)
      |some y=>
       rw [Um];show some y::(t.filterMap id).map some=_;rw [ih fun i=>hn (i+1)]
    unfold rsL;rw [Um];show none::t=[]++none::((t.filterMap id)).map some;rw [al t fun i z=>absurd (u (i+1) z) (by omega)];rfl
   |succ h=>
    cases x with
    |none=>exact absurd (u 0 rfl) (by omega)
    |some y=>
     have:=ih h (by simpa using e) fun i z=>by have:=u (i+1) (by simpa using z);omega
     rw [Um];show some y::t=rsL (y::t.filterMap id) (h+1);unfold rsL;rw [QO,WA,jT,uM]
     congr 1
 have e1:zC l=(ZaG l).filterMap id:=by unfold zC ZaG;rw [List.filterMap_map];rfl
 rw [e1];refine key _ _ ?_ fun i z=>?_
 ·rw [Zhz (Zq7 l)];rfl
 ·have hi:i<(ord l).length:=by have:=(Qo.mp z).1;rwa [ZeB,<-qP] at this
  have e2:=Qd hi;rw [Zhz e2] at z;have z:Yf l (ord l)[i]=none:=by simpa using z
  have hm:=ZaR.mp (QT hi);unfold Yf at z;by_cases e0:(ord l)[i]=0
  ·rw [e0] at e2;exact (ZeZ e2).symm
  ·rw [if_neg e0,Qd (by omega)] at z;cases z
theorem Zch (l:List Nat):(zC l).length=l.length:=by have h1:=ZeB l;rw [ZdL] at h1;unfold rsL at h1;rw [jq,jy,jn,jn,jz,jJ] at h1;have:=Zkr l;omega
theorem Ziu {l:List Nat} {c:Nat} (h:c∈zC l):c∈l:=by
 obtain ⟨i,_,e⟩:=UY.mp h;unfold Yf at e;split at e
 ·cases e
 ·exact QE e
end LO
namespace L2
open PySem
def ZDU:Option Nat->V
 |some b=>.int b
 |none=>.non
theorem Zbu {H:Hp} {a b:jk} {o:HO} (h:H b≠none):upd H a o b≠none:=by
 unfold upd;split
 ·simp
 ·exact h
theorem Zs.nn {H H':Hp} (s:Zs H H') {b:jk} (h:H b≠none):H' b≠none:=by
 cases e:H b with
 |none=>exact absurd e h
 |some o=>rw [s b o e];simp
theorem zQ.nn {H H':Hp} (s:zQ H H') {b:jk} (h:H b≠none):H' b≠none:=by
 cases e:H b with
 |none=>exact absurd e h
 |some o=>exact (s b o e).1
theorem ZgI {H H':Hp} {x dx:jk} {o1 o2:HO} (hx:H x=none) (hdx:H dx=none) (kp:∀b o,b≠x->upd (upd H dx o1) x o2 b=some o->(∀ps,o≠ .tbl ps)->H' b=some o)
 (nn:∀b,upd (upd H dx o1) x o2 b≠none->H' b≠none):zQ H H':=fun b o e=>by
 have n1:=Zk e hx;have e2:upd (upd H dx o1) x o2 b=some o:=(Zj n1).trans ((Zj (Zk e hdx)).trans e);exact ⟨nn b (by rw [e2];simp),fun n=>kp b o n1 e2 n⟩
theorem Zjp {P:jk} {H H':Hp} {x dx:jk} {o1 o2:HO} (hx:H x=none) (hdx:H dx=none) (kp:∀b o,b≠x->b≠P->upd (upd H dx o1) x o2 b=some o->H' b=some o):Zat P H H':=fun b o n e=>by have n1:=Zk e hx;exact kp b o n1 n ((Zj n1).trans ((Zj (Zk e hdx)).trans e))
def ZeE (ps:List (Int×V)):List (Key×V):=ps.map fun p=>(.inl p.1,p.2)
theorem Zf2 (k:Int):∀ps:List (Int×V),zk (ZeE ps) (.inl k)=ps.lookup k
 |[]=>rfl
 |x::r=>by
  by_cases e:k=x.1
  ·have e1:(x::r).lookup k=some x.2:=by rw [QH,show (k==x.1)=true by simpa using e]
   rw [e1];exact zN (p:=((.inl x.1:Key),x.2)) (r:=ZeE r) (by rw [e])
  ·have e1:zk (ZeE (x::r)) (.inl k)=zk (ZeE r) (.inl k):=zM (p:=((.inl x.1:Key),x.2)) (r:=ZeE r) fun z=>e (Sum.inl.inj z).symm;rw [e1,Zf2 k r,QH,show (k==x.1)=false by simpa using e]
theorem Zqu {k:Int} {ps:List (Int×V)} (v:V) (h:ps.lookup k=none):Zag (ZeE ps) (.inl k) v=ZeE (ps++[(k,v)]):=by rw [Zqt _ (by rw [Zf2,h])];unfold ZeE;rw [uw];rfl
theorem Zez (k j:Int) (v:V):∀ps:List (Int×V),(ps++[(k,v)]).lookup j=(ps.lookup j).or (if j=k then some v else none)
 |[]=>by
  rw [uH,QH];by_cases e:j=k
  ·rw [if_pos e,show (j==k)=true by simpa using e];rfl
  ·rw [if_neg e,show (j==k)=false by simpa using e];rfl
 |x::r=>by
  rw [uM,QH,QH]
  cases (j==x.1) with
  |true=>rfl
  |false=>exact Zez k j v r
end L2
namespace LO
theorem Zrb {l:List Nat} {p:Nat} (hp:p<l.length):bk (ZaG l) (ZaF l (p+1))=some (ZaF l p):=by
 have e:(ZaG l)[ZaF l (p+1)]?=some (some l[p]):=by rw [Zhz (ZbC (show p+1<=l.length by omega)),ZcY,Qd hp]
 rw [Zkd e,Zm5 hp (Qd hp)]
end LO
namespace L2
open PySem
theorem Zgw {P:jk} {pos:Pos} {q:Str} {H:Hp} {a:jk} {kvs:List (Key×V)} {o:HO} (h:Bk P pos q H) (hl:H a=some (.dK kvs)):Bk P pos q (upd H a o):=by
 rcases h with h|⟨c',h,g⟩
 ·exact .inl ((Zj (Zdy h hl (by intro z;cases z))).trans h)
 ·exact .inr ⟨c',(Zj (Zdy h hl (by intro z;cases z))).trans h,(Zj (Zdy g hl (by intro z;cases z))).trans g⟩
open PySem.Spec PyProof.Rows
section
variable {X:Cx} {pos:Pos} {K:Qa}
theorem Zr1 {es:List jF} {k:Nat} {t:TGs} {n:Nat} (hK:X.K=K) (hc:X.calm=true) (h:PGs X es t)
 (hn:(jO es X.env).length=n:=by rfl) (hst:(jO es X.env).findIdx? (·.1)=none:=by rfl):PG X (.Tuple es k pos) (ZlG K n t):=by
 subst hK;exact ZjE hc h hn hst
def b2i (b:Bool):Int:=if b then 1 else 0
def Zig:List V->Hp->VK->Prop:=fun xs H Q=>match xs with
 |[.bl b]=>Q (.int (b2i b)) H
 |[.int i]=>Q (.int i) H
 |_=>False
theorem ZhZ:JM X (.type "int") Zig:=by
 intro Zb s σ H xs us Q I r h;unfold Zig at h;split at h
 ·rename_i b;obtain ⟨u,rfl,rfl⟩:=Zab r;exact call_int_bool ⟨.int (b2i b),H,I.tok _,⟨_,rfl⟩,h⟩
 ·rename_i i;obtain ⟨u,rfl,t,rfl⟩:=Zab r;exact call_int_int ⟨.int i,H,I,⟨_,rfl⟩,h⟩
 ·exact h.elim
def Zv6 (K:Qa) (a:jk) (xs:List V) (g:TG) (tb:TS):TS:=fun D σ H=>∃Pv:Nat->St->Hp->Prop,Pv 0 σ H/\(∀i σ H,i<=xs.length->Pv i σ H->SqT K H a xs)/\
 (∀i x σ H,xs[i]?=some x->Pv i σ H->g x σ H fun σ2 H2=>tb {nx:=Pv (i+1),rt:=D.rt,bk:=D.nx,ct:=Pv (i+1)} σ2 H2)/\∀σ H,Pv xs.length σ H->D.nx σ H
def ZtF (K:Qa) (tl:TE) (g:TG) (tb:TS):TS:=fun D σ H=>tl σ H fun v H1=>match v with
 | .ref a=>∃xs,SqT K H1 a xs/\Zv6 K a xs g tb D σ H1
 |_=>False
theorem Zsa {l tg:jF} {body:List Stmt} {tl:TE} {g:TG} {tb:TS} (hK:X.K=K) (hp:u5 (jr X.prog X.w) X.A X.env X.xe) (hc:X.calm=true) (hl:PE X l tl) (hg:PG X tg g) (hb:PSs X body tb)
 (hf:∀x,jG l X.env x=pure x:=by intro _;rfl):PS X (.For tg l body [] pos) (ZtF K tl g tb):=by
 subst hK;have hl':PE X l (fun σ H Q=>∃Q0:VK,tl σ H Q0/\∀v H',Q0 v H'->Q v H'):=hl.imp fun σ H Q h=>h;intro Zb s σ H D I h;refine ZfK hp hc (ZyK hl') hg hb hf Zb s σ H D I ⟨_,h,fun v H1 q=>?_⟩
 cases v with
 |ref a=>
  obtain ⟨xs,hx,Pv,h0,hs,h1,hd⟩:=q;exact ⟨a,rfl,⟨xs,hx⟩,Zrr Pv h0 hs h1 hd⟩
 |_=>exact False.elim q
end
end L2
namespace LO
end LO
namespace L2
open PySem
end L2
namespace LO
end LO
namespace L2
open PySem PySem.Spec PyProof.Rows
theorem ZoE:∀{x:V},ZaI x=true->eqV x x=true:=by intro x h;cases x<;>first|(simp [eqV];done)|(simp [ZaI] at h;done)
theorem Ze9 {K:Qa} {H:Hp} {a b:jk} {xs:List V} (hf:∀x∈xs,ZaI x=true) (h1:H a=some (.tup xs)) (h2:H b=some (.tup xs)):ZjY K H a b:=by refine ⟨_,_,.inr ⟨SqT.of h1,SqT.of h2⟩,rfl,fun j x y ex ey=>?_⟩;rw [ex] at ey;cases Option.some.inj ey;have:=hf x (QE ex);exact .flat this this (ZoE this)
theorem Ztr {x y:V} (hx:ZaI x=true) (hy:ZaI y=true):∀v∈[x,y],ZaI v=true:=by
 intro v hv;rcases jK.mp hv with rfl|hv
 ·exact hx
 ·cases ju.mp hv;exact hy
theorem ZiO:Manifest.owners.lookup (String.ofList ['d','e','s','r','e','v','e','r'].reverse)=some Manifest.sig_reversed:=by kernel_rfl
theorem J1:Slot "reversed" "__next__" "reversed.__next__":=
 .of (owner:="reversed") (n:="__next__") (by rw [uR,uo];kernel_rfl) (by rfl') (by rfl') (by rfl')
  (by first|exact .inl (by rfl')|exact .inr (by rfl')) (by rw [uF];kernel_rfl)
theorem ZcR:vE table "reversed.__next__"=some Builtin.«reversed.__next__»:=vD (by kernel_rfl)
theorem ZdM (a:Value):Qad "reversed.__next__" ⟨[a],[]⟩:=by unfold Qad;rw [signature?_of (id:="reversed.__next__") (n:=['_','_','t','x','e','n','_','_']) (o:=['d','e','s','r','e','v','e','r']) (by kernel_rfl) ZiO];kernel_rfl
theorem ZdN:Slot "reversed" "__iter__" "reversed.__iter__":=
 .of (owner:="reversed") (n:="__iter__") (by rw [uR,uo];kernel_rfl) (by rfl') (by rfl') (by rfl')
  (by first|exact .inl (by rfl')|exact .inr (by rfl')) (by rw [uF];kernel_rfl)
theorem ZhA (a:Value):Qad "reversed.__iter__" ⟨[a],[]⟩:=by unfold Qad;rw [signature?_of (id:="reversed.__iter__") (n:=['_','_','r','e','t','i','_','_']) (o:=['d','e','s','r','e','v','e','r']) (by kernel_rfl) ZiO];kernel_rfl
theorem Zgl:vE table "reversed.__iter__"=some Builtin.«dict_keyiterator.__iter__»:=
 vV (id':="dict_keyiterator.__iter__") (by kernel_rfl) (by first|rfl|rfl'|(unfold String.splitOn;simp +decide [String.splitOnAux])) (by rfl') (by kernel_rfl)
theorem ZhB:Slot "reversed" "__init__" "object.__init__":=
 .of (owner:="object") (n:="__init__") (by rw [uR,uo];kernel_rfl) (by rfl') (by rfl') (by rfl')
  (by first|exact .inl (by rfl')|exact .inr (by rfl')) (by rw [uF];kernel_rfl)
theorem Zmf:TypeCalled "reversed" "reversed.__new__" "object.__init__":=
 ⟨by rfl',by rfl',⟨_,_,F.mro_reversed⟩,madeBy_type F.mro_reversed F.lookup_reversed_new (by rfl'),by rfl',by rw [uF];kernel_rfl,ZhB⟩
theorem Zsk:vG (.type "str") "__reversed__"=pure none:=by rw [uR,uo];kernel_rfl
theorem Zsi:isSubtype (.type "str") (.type "dict")=pure false:=by rw [uF];kernel_rfl
def ZgN (z:Str) (t:Tok) (i:Int):Obj:= {cls:=.type "reversed",data:=.fields #[.str z t,ua i]}
theorem Zzv (z:Str) (t:Tok) (hz:z.length<2 ^ 63):Meets (Builtin.«reversed.__new__» ⟨[.type "reversed",.str z t],[]⟩) (fun _ R s=>
 R (.ok (.ret (.ref s.heap.objs.size))) {s with heap:=s.heap.push (ZgN z t ((z.length:Int)-1)),toks:=s.toks+1+1}):=
 .of_wp fun prog w A R s h=>by
  unfold Builtin.«reversed.__new__»
  refine ji (uT (newClass_reversed _) ?_)
  try dsimp only
  refine ji (uT (a:=()) (by first|rfl|kernel_rfl) ?_);refine ji (uT (a:=()) (by first|rfl|kernel_rfl) ?_)
  try dsimp only
  refine ji (vI (ui _ _ _) Zsk ?_)
  try dsimp only
  have hT:s.TypeIs (.str z t) "str":=ui _ _ _;have hd:=Zsi;have hg:=F.slot_str_getitem.lookup;have hl:¬(z.length:Int) ≥ 2 ^ 63:=by omega
  obtain ⟨hp,g,d,tk,os⟩:=s
  wp_walk using len_str hl
  exact ⟨_,rfl,h⟩
theorem Zlv {prog:jw} {w:jB} {A:Around} {E:Value->jj->Prop} {s:jj} {z:Str} {t:Tok} {Q:Value->jj->Prop} (hz:z.length<2 ^ 63)
 (h:Q (.ref s.heap.objs.size) {s with heap:=s.heap.push (ZgN z t ((z.length:Int)-1)),toks:=s.toks+1+1}):jo (jr prog w) A (call (.type "reversed") [.str z t]) Q E s:=by
 refine callType_new Zmf (by decide) (F.typeCall_reversed_1 _) (F.newCall_reversed_1 _) (fun obj=>F.args_object_init_2 obj _) F.entry_reversed_new (Zzv z t hz) ?_;exact ⟨⟨_,Qh _ rfl,rfl⟩,h⟩
def Zeu (h:Heap) (a:jk) (z:Str) (t:Tok) (i:Int):Prop:=∃o,h.get? a=some o/\o.cls=.type "reversed"/\o.data=.fields #[.str z t,ua i]
section
variable {prog:jw} {w:jB} {A:Around} {E:Value->jj->Prop} {s:jj}
theorem Zeu.typeIs {a:jk} {z:Str} {t:Tok} {i:Int} (x:Zeu s.heap a z t i):s.TypeIs (.ref a) "reversed":=let ⟨o,ho,hc,_⟩:=x;⟨o,ho,hc⟩
theorem Zlg {it:jk} {z:Str} {t:Tok} {i:Int} {Q:Value->jj->Prop} (hit:Zeu s.heap it z t i) (h:Q (.ref it) s):jo (jr prog w) A (Qac (.ref it)) Q E s:=by refine Qaf hit.typeIs ZdN (jP ZdN hit.typeIs Zgl ?_ (ZhA _));show jo _ _ (ret (.ref it)) _ _ s;exact jl ⟨_,rfl,"reversed",_,hit.typeIs,J1.lookup,h⟩
theorem Zsj {it:jk} {z:Str} {t:Tok} {i c:Nat} {Q:Option Value->jj->Prop} (hit:Zeu s.heap it z t (i:Int)) (hz:z.length<2 ^ 63) (hi:i<z.length) (hx:z.cps[i]?=some c)
 (hQ:∀h',Zeu h' it z t ((i:Int)-1)->Heap.SameBut it s.heap h'->Q (some (.str ⟨#[c]⟩ (s.toks+1))) {s with heap:=h',toks:=s.toks+1+1}):jo (jr prog w) A (uf (.ref it)) Q E s:=by
 obtain ⟨o,ho,hc,hd⟩:=id hit;unfold uf
 refine ji (jV (jM (name:=Qc "__next__") hit.typeIs J1
  (jP J1 hit.typeIs ZcR ?_ (ZdM _))))
 unfold Builtin.«reversed.__next__»
 refine ji (uT (a:=(Value.ref it,[])) rfl ?_)
 try dsimp only
 refine ji (uj ho hd (x:=.str z t) rfl ?_);refine ji (uj ho hd (x:=ua (i:Int)) rfl ?_);show jo _ _ (if (i:Int)<0 then _ else _) _ _ s;rw [if_neg (by omega)];refine ji (vI (ui _ _ _) F.slot_str_getitem.lookup ?_);rw [if_neg (show ¬((some (V0 "str.__getitem__")).isNone=true) from Qg)];refine ji (wpAny_mkInt (ji (jV (PyProof.Rows.getItem_str (c:=c) ?_ ?_ ?_))))
 ·rw [decide_eq_false (by omega),decide_eq_false (by omega)];rfl
 ·have:seqIndex? (i:Int) z.length=some i:=by unfold seqIndex?;simp;omega
  rw [this];exact hx
 refine ji (uj ho hd (x:=ua (i:Int)) rfl (ji (vt ho hd (by simp) (jl ⟨_,rfl,jl (hQ _ ?_ (Heap.SameBut.update ..))⟩))));exact ⟨_,Q3 _ ho (Obj.isFreed_of_fields (Obj.data_mapFields hd _)),(Obj.cls_mapFields ..).trans hc,by rw [Obj.data_mapFields hd];simp⟩
theorem Zzu {it:jk} {z:Str} {t:Tok} {Q:Option Value->jj->Prop} (hh:A.handled=none) (hit:Zeu s.heap it z t (-1))
 (hQ:∀h',Wv it s.heap h'->Q none {s with heap:=h'}):jo (jr prog w) A (uf (.ref it)) Q E s:=by
 obtain ⟨o,ho,hc,hd⟩:=id hit;unfold uf
 refine ji (jV (jM (name:=Qc "__next__") hit.typeIs J1
  (jP J1 hit.typeIs ZcR ?_ (ZdM _))))
 unfold Builtin.«reversed.__next__»
 refine ji (uT (a:=(Value.ref it,[])) rfl ?_)
 try dsimp only
 refine ji (uj ho hd (x:=.str z t) rfl ?_);refine ji (uj ho hd (x:=ua (-1)) rfl ?_);show jo _ _ (if (-1:Int)<0 then _ else _) _ _ s;rw [if_pos (by decide)];refine ji (uC ?_);refine ji ?_;show jo _ _ (QaA (.ref it) 1 (ua (-1)) >>=fun _=>QaA (.ref it) 0 .none) _ _ _;refine ji (vt ho hd (by simp) ?_);have ho1:=Q3 (Obj.mapFields fun x=>x.setIfInBounds 1 (ua (-1))) ho (Obj.isFreed_of_fields (Obj.data_mapFields hd _));refine vt ho1 (Obj.data_mapFields hd _) (by simp) ?_
 have hb:Wv it s.heap ((s.heap.update it (Obj.mapFields fun x=>x.setIfInBounds 1 (ua (-1)))).update it (Obj.mapFields fun x=>x.setIfInBounds 0 .none)):=fun b o hb e=>
  (Heap.SameBut.update ..).extBut b o hb ((Heap.SameBut.update ..).extBut b o hb e)
 generalize (s.heap.update it (Obj.mapFields fun x=>x.setIfInBounds 1 (ua (-1)))).update it (Obj.mapFields fun x=>x.setIfInBounds 0 .none)=h1 at hb ⊢
 refine ji ?_;show jo _ _ (newExc (.type "StopIteration") [] >>=_) _ _ _;refine ji ?_;simp only [newExc,newTuple];refine ji (jZ ?_ (by size_fits));refine ji (m:=u8 _ _) (uT (a:=Qq) (by first|rfl|(simp only [u8];rfl)) (jZ ?_ (by size_fits)));simp only [raiseNew];refine ji (wpAny_handled ?_);rw [show A.in1.handled=none from hh];refine ji (jl (wpAny_throw ?_));refine ji (vb (T:="StopIteration") (b:=true) ⟨_,Qh _ rfl,rfl⟩ vU (jl (hQ _ ((hb.push _).push _))))
end
def ZAH (z:Str):It:=⟨fun i _=>i<(L z).length,fun i H x H'=>H'=H/\x=.str (T [(L z).getD ((L z).length-1-i) 0]),fun i _=>(L z).length<=i⟩
section
variable {P:jw} {w:jB} {K:Qa} {tg:jF}
theorem Zms (z:Str) (t:Tok) (it:jk) (hz:z.length<2 ^ 63):Zlu P w K tg (ZAH z) [it] it (fun i h=>i<=(L z).length/\Zeu h it z t (((L z).length:Int)-1-(i:Int))) where
 mem:=by simp
 obj:=fun i h st b hb=>by
  have e:b=it:=by simpa using hb
  subst e;obtain ⟨_,o,e,c,d⟩:=st;exact ⟨o,e,fun v y=>by rw [d] at y;cases y⟩
 keep:=fun i h h' st k=>by obtain ⟨hi,o,e,c,d⟩:=st;exact ⟨hi,o,k it (by simp) o e,c,d⟩
 item:=by intro X hP hw hK hc i Zb s σ H E I hf st hg;subst hP hw hK;obtain ⟨f0,f1,f2,f3,f4,f5⟩:=hf it (by simp);have hg:i<(L z).length:=hg;obtain ⟨_,st⟩:=st;rw [show ((L z).length:Int)-1-(i:Int)=(((L z).length-1-i:Nat):Int) by omega] at st;refine Zsj st hz (by rw [<-Z7];omega) (ZuT (show (L z).length-1-i<(L z).length by omega)) fun h' st' sb=>?_;have I1:Inv X Zb σ H {s with heap:=h',toks:=s.toks+1+1}:=I.turned (t':=s.toks+1+1) (fun b o hb e=>(sb.2 b hb).trans e) f0 f1 f3 f4 f5;rw [show (((L z).length-1-i:Nat):Int)-1=((L z).length:Int)-1-((i+1:Nat):Int) by omega] at st';obtain ⟨o,e,c,d⟩:=id st';exact ⟨_,rfl,Zic (s:= {s with heap:=h',toks:=s.toks+1+1}) e c d (by decide) ⟨.str (T [(L z).getD ((L z).length-1-i) 0]),H,I1,⟨_,rfl⟩,⟨rfl,rfl⟩,⟨hg,st'⟩,fun b hb=>(hf b hb).1⟩⟩
 done:=by intro X hP hw hK hc i Zb s σ H E I hf st hg;subst hP hw hK;obtain ⟨f0,f1,f2,f3,f4,f5⟩:=hf it (by simp);have hg:(L z).length<=i:=hg;obtain ⟨h1,st⟩:=st;rw [show ((L z).length:Int)-1-(i:Int)= -1 by omega] at st;exact Zzu (I.ok.hd hc) st fun h' eb=>⟨rfl,I.turned (t':=s.toks) (fun b o hb e=>eb b o hb e) f0 f1 f3 f4 f5⟩
 self:=fun _ _ _ _ _ st h=>Zlg st.2 h
end
section
variable {X:Cx} {tg:jF}
def ZBZ (ta:TA):TI:=fun σ H R=>ta σ H fun vs H1=>∃z,vs=[.str z]/\(L z).length<=sizeLine/\R (ZAH z) H1
theorem Zr3 {a:jF} {ta:TA} {p pos:Pos} (hm:X.mg "reversed"=none) (ha:PA X [a] ta) (hg:Gl X "reversed":=by rfl) (hs:jx [a] X.env=[(false,eval a X.env)]:=by rfl):PI X tg (.Call (.Name "reversed" p) [a] [] pos) (ZBZ ta):=by
 intro Zb s σ H R I h;refine Call_ (Zbr I hg hm ZhW (PyProof.Rows.callWith_type1 (thn (ha pos Zb s σ H _ I h) fun us s1 ⟨vs,H1,I1,r1,z,e,hz,q⟩=>?_) hs rfl));subst e;obtain ⟨u,rfl,t,rfl⟩:=Zab r1;have hn:=Zc3;have hz2:z.length<2 ^ 63:=by rw [<-Z7];omega
 refine Zlv hz2 ?_;have I2:Inv X Zb σ H1 {s1 with heap:=s1.heap.push (ZgN z t ((z.length:Int)-1)),toks:=s1.toks+1+1}:=I1.kept (t':=s1.toks+1+1) fun b o e=>Qe _ e
 have hit:Zeu (s1.heap.push (ZgN z t ((z.length:Int)-1))) s1.heap.objs.size z t (((L z).length:Int)-1-((0:Nat):Int)):=
  ⟨_,Qh _ rfl,rfl,by rw [Z7];simp [ZgN]⟩
 refine Zlg (s:= {s1 with heap:=s1.heap.push (ZgN z t ((z.length:Int)-1)),toks:=s1.toks+1+1}) hit ?_;refine ⟨s1.heap.objs.size,[s1.heap.objs.size],_,_,H1,rfl,I2,Zms z t _ hz2,⟨Qu _,hit⟩,fun b hb=>?_,q⟩;have e:b=s1.heap.objs.size:=by simpa using hb
 subst e;exact I1.fpOk (Qf _) (I1.hok.fresh (Qf _))
def ZtE (ta:TA) (g:TG) (tb:TS):TS:=fun D σ H=>ta σ H fun vs H1=>match vs with
 |[.str z]=>(L z).length<=sizeLine/\Zrq (T (L z).reverse) g tb D σ H1
 |_=>False
theorem Zr8 {l tg:jF} {body:List Stmt} {ta:TA} {g:TG} {tb:TS} {p pos pos':Pos} (hp:u5 (jr X.prog X.w) X.A X.env X.xe) (hc:X.calm=true) (hm:X.mg "reversed"=none) (ha:PA X [l] ta) (hg:PG X tg g) (hb:PSs X body tb)
 (hgl:Gl X "reversed":=by rfl) (hs:jx [l] X.env=[(false,eval l X.env)]:=by rfl) (hf:∀x,jG (.Call (.Name "reversed" p) [l] [] pos') X.env x=pure x:=by intro _;rfl):
 PS X (.For tg (.Call (.Name "reversed" p) [l] [] pos') body [] pos) (ZtE ta g tb):=by
 have ha':PA X [l] (fun σ H Q=>∃Q0:List V->Hp->Prop,ta σ H Q0/\∀v H',Q0 v H'->Q v H'):=ha.imp fun σ H Q h=>h;intro Zb s σ H D I h;refine ZfK hp hc (Zr3 hm ha' hgl hs) hg hb hf Zb s σ H D I ⟨_,h,fun vs H1 q=>?_⟩;split at q
 ·rename_i z;obtain ⟨hz,Pv,p0,ps,pe⟩:=q;rw [L_T,vx] at ps pe;refine ⟨z,rfl,hz,fun n m σ H=>m=(L z).length-n/\n<=(L z).length/\Pv n σ H,⟨(L z).length,by simp,Qu _,p0⟩,?_⟩;rintro n m σ2 H2 ⟨rfl,hn,pv'⟩;by_cases hlt:n<(L z).length
  ·refine .inr ⟨hlt,Pv (n+1),fun σ' H' p'=>⟨(L z).length-(n+1),by omega,rfl,hlt,p'⟩,fun y H' ⟨e1,e2⟩=>?_⟩;subst e1 e2;have e3:(L z).reverse.getD n 0=(L z).getD ((L z).length-1-n) 0:=by rw [Qb,Qb,Vk hlt]
   have:=ps n σ2 H' hlt pv';rw [e3] at this;exact this
  ·have e:n=(L z).length:=by omega
   exact .inl ⟨by show (L z).length<=n;omega,by subst e;exact pe σ2 H2 pv'⟩
 ·exact q.elim
end
structure Zlt (K:Qa) (x qual:Str) (st:Stmt) (f T:jk) (fd:j7):Prop where
 ex:∃(oc:Value) (od:Option jk) (kV doc pm:Value) (an:Option jk) (cdv ct:Value) (osl:Array (Option Value)),
  fd=ur x qual (Zx st) (Zt st) (Zf st) (.ref T) kV doc pm an cdv ct/\K.lookup f=some ⟨oc,od,.func fd,osl⟩/\jN K cdv qual=true
 kp:jI K (.ref f)=true
section
variable {P:jw} {w:jB} {K:Qa} {mg:Str->Option Value} {base:Heap} {x qual:Str} {st:Stmt} {f T:jk} {fd:j7} {N ps:List Str} {k:Nat} {sp:Sp}
theorem Zrt {oc:Value} {od an:Option jk} {osl:Array (Option Value)} {kV doc pm cdv ct:Value} (l:K.lookup f=some ⟨oc,od,.func (ur x qual (Zx st) (Zt st) (Zf st) (.ref T) kV doc pm an cdv ct),osl⟩)
 (c:jN K cdv qual=true) (k:jI K (.ref f)=true):Zlt K x qual st f T (ur x qual (Zx st) (Zt st) (Zf st) (.ref T) kV doc pm an cdv ct):=⟨⟨oc,od,kV,doc,pm,an,cdv,ct,osl,rfl,l,c⟩,k⟩
theorem Zlt.okX (F:Zlt K x qual st f T fd) (S:Zw N ps (Zf st)) (len:∀vs H Q E,sp vs H Q E->vs.length=ps.length)
 (hbody:∀(cdv:Value) (A:Around) (outer:List Env) (s:jj) (H:Hp) (vs:List V) (Q:VK) (E:XK),Ye k (A.deeper (ul qual (Zf st) s.heap.objs.size f cdv))->sp vs H Q E->
  ∃t,PSs (Zau (CX1 P w) P w K mg base N qual (Zf st) f cdv A outer s H E) (Zt st) t/\t {nx:=fun _ H'=>Q .non H',rt:=Q} (Zaa N vs) H):Z0 P w K mg base (CX1 P w) (k+1) f fd ps sp:=by
 obtain ⟨oc,od,kV,doc,pm,an,cdv,ct,osl,rfl,lk,hcd⟩:=F.ex;exact Zh9 lk hcd S len fun A outer s H vs Q E hr hsp=>hbody cdv A outer s H vs Q E hr hsp
theorem Zlt.binds {ds:List Value} {items:Array Value} {n:Nat} {qc:Value} {qo:Option jk} {qs:Array (Option Value)} (F:Zlt K x qual st f T fd) (hT:K.lookup T=some ⟨qc,qo,.seq items n,qs⟩)
 (h:∀(kV doc pm:Value) (an:Option jk) (cdv ct:Value) (us:List Value),us.length+ds.length=ps.length->
  ∃g:Option (Array Value)->Sem (List (Str×Value)),QaG (ur x qual (Zx st) (Zt st) (Zf st) (.ref T) kV doc pm an cdv ct) ⟨us,[]⟩=seqItems? (.ref T) >>=g/\g (some items)=pure (ps.zip (us++ds))):Zaq K fd ps ds:=by
 obtain ⟨oc,od,kV,doc,pm,an,cdv,ct,osl,rfl,lk,hcd⟩:=F.ex;intro s us hin hl;obtain ⟨g,h1,h2⟩:=h kV doc pm an cdv ct us (by rw [<-jq];exact hl);exact PySem.W.binds_K hin rfl hT rfl h1 h2
end
theorem Zi1:∀{xs:List V} {us:List Value},xs.length=us.length->(∀(i:Nat) x u,xs[i]?=some x->us[i]?=some u->ZW x u)->ZE xs us
 |[],[],_,_=>.nil
 |x::xs,u::us,hl,h=>.cons (h 0 x u rfl rfl) (Zi1 (by simpa using hl) fun i x u h1 h2=>h (i+1) x u (by simpa using h1) (by simpa using h2))
theorem JQ.same2 {C:jk} {H H':Hp} {a:jk} {cs:List Nat} {h:Nat} (x:JQ C H a cs h) (sm:∀b o,H b=some o->(∀ps,o≠ .tbl ps)->(∀kvs,o≠ .dK kvs)->(∀C' dx fs,o=.ins C' dx fs->fs.length=5)->H' b=some o):JQ C H' a cs h:=by obtain ⟨dx,tot,fo,h1,⟨⟨ts,ds,t1,t2,t3,t4⟩,p,p1,p2⟩,h3⟩:=x;refine ⟨dx,tot,fo,sm _ _ h1 (by nofun) (by nofun) (by intro C' dx' fs z;cases z;rfl),⟨⟨ts,ds,sm _ _ t1 (by nofun) (by nofun) (by intro C' dx' fs z;cases z),t2,fun j d e=>?_,t4⟩,p,sm _ _ p1 (by nofun) (by nofun) (by intro C' dx' fs z;cases z),p2⟩,h3⟩;obtain ⟨t,e1,e2⟩:=t3 j d e;exact ⟨t,e1,sm _ _ e2 (by nofun) (by nofun) (by intro C' dx' fs z;cases z)⟩
def J9 (x d:jk) (H H':Hp):Prop:=(∀b o,b≠x->b≠d->H b=some o->(∀ps,o≠ .tbl ps)->H' b=some o)/\∀b,H b≠none->H' b≠none
theorem J9.ofN {x d:jk} {H H':Hp} (s:zQ H H'):J9 x d H H':=⟨fun _ _ _ _ e n=>s.at e n,fun _ e=>s.nn e⟩
theorem J9.trans {x d:jk} {H H1 H2:Hp} (a:J9 x d H H1) (b:J9 x d H1 H2):J9 x d H H2:=⟨fun c o h1 h2 e n=>b.1 c o h1 h2 (a.1 c o h1 h2 e n) n,fun c e=>b.2 c (a.2 c e)⟩
theorem J9.updX {x d:jk} {H H1:Hp} {o:HO} (a:J9 x d H H1):J9 x d H (upd H1 x o):=⟨fun b u h1 h2 e n=>(Zj h1).trans (a.1 b u h1 h2 e n),fun b e=>Zbu (a.2 b e)⟩
theorem J9.updD {x d:jk} {H H1:Hp} {o:HO} (a:J9 x d H H1):J9 x d H (upd H1 d o):=⟨fun b u h1 h2 e n=>(Zj h2).trans (a.1 b u h1 h2 e n),fun b e=>Zbu (a.2 b e)⟩
def JG (l:List Nat) (r:Nat):Nat:=(LO.ord l).getD r 0
def Zbd (ps:List (Int×V)) (l:List Nat) (g:Int) (k:Nat):Prop:=∀r:Int,ps.lookup r=if 0<=r/\r<k/\(JG l r.toNat:Int)%g=0 then some (.int (JG l r.toNat:Nat)) else none
def fsF (h d:jk) (g:Int):List (Str×V):=[("held",.ref h),("gap",.int g),("known",.ref d)]
def Ze6 (C CL:jk) (H:Hp) (x:jk) (l:List Nat) (g:Int):Prop:=∃dx h d ps,H x=some (.ins C dx (fsF h d g))/\JQ CL H h (LO.zC l) (LO.ZdZ l)/\H d=some (.dK (ZeE ps))/\Zbd ps l g (l.length+1)/\1<=g
theorem Ze6.same {C CL:jk} {H H':Hp} {x:jk} {l:List Nat} {g:Int} (f:Ze6 C CL H x l g) (sm:∀b o,H b=some o->(∀ps,o≠ .tbl ps)->H' b=some o):Ze6 C CL H' x l g:=by obtain ⟨dx,h,d,ps,h1,h2,h3,h4⟩:=f;exact ⟨dx,h,d,ps,sm _ _ h1 (by nofun),h2.same sm,sm _ _ h3 (by nofun),h4⟩
theorem Zbd.step {ps:List (Int×V)} {l:List Nat} {g:Int} {k j:Nat} (h:Zbd ps l g k) (e:(LO.ord l)[k]?=some j):((j:Int)%g=0->ps.lookup (k:Int)=none/\Zbd (ps++[((k:Int),.int (j:Int))]) l g (k+1))/\(¬(j:Int)%g=0->Zbd ps l g (k+1)):=by
 have ej:JG l k=j:=by unfold JG;rw [Qb,e];rfl
 refine ⟨fun hz=>⟨by rw [h,if_neg fun z=>by omega],fun r=>?_⟩,fun hz r=>?_⟩
 ·rw [Zez,h r];by_cases er:r=(k:Int)
  ·subst er;rw [if_neg fun z=>by omega,if_pos rfl,Qn,ej,if_pos ⟨by omega,by omega,hz⟩];rfl
  ·rw [if_neg er,Option.or_none];by_cases hr:0<=r/\r<k/\(JG l r.toNat:Int)%g=0
   ·rw [if_pos hr,if_pos ⟨hr.1,by omega,hr.2.2⟩]
   ·rw [if_neg hr,if_neg fun z=>hr ⟨z.1,by omega,z.2.2⟩]
 ·rw [h r];by_cases er:r=(k:Int)
  ·subst er;rw [if_neg fun z=>by omega,if_neg fun z=>hz (by rw [Qn,ej] at z;exact z.2.2)]
  ·by_cases hr:0<=r/\r<k/\(JG l r.toNat:Int)%g=0
   ·rw [if_pos hr,if_pos ⟨hr.1,by omega,hr.2.2⟩]
   ·rw [if_neg hr,if_neg fun z=>hr ⟨z.1,by omega,z.2.2⟩]
end L2
namespace LO
theorem Zw5 (l t:List Nat):low l t<=l.length+1:=by unfold low;exact QI Wp (by simp)
theorem Zdq (l t:List Nat):Zb2 l t<=l.length+1:=by rw [ZeR];exact QI Wp (by simp)
theorem Zsf {l:List Nat} {c:Nat} (t:List Nat) (hc:c≠10):(1+((zC l).countP fun x=>decide (x<c):Nat)+(((L2.YV (zC l) (ZdZ l)).take (low l t)).count c:Nat):Int)=((low l (c::t):Nat):Int):=by rw [ZpY,ZdL,Zfw,ZcZ _ hc];omega
theorem ZqD {l:List Nat} {c:Nat} (t:List Nat) (hc:c≠10):(1+((zC l).countP fun x=>decide (x<c):Nat)+(((L2.YV (zC l) (ZdZ l)).take (Zb2 l t)).count c:Nat):Int)=((Zb2 l (c::t):Nat):Int):=by rw [ZlK,ZdL,Zfw,ZcZ _ hc];omega
end LO
namespace L2
open PySem
theorem ZqJ {p s g:Int} (hg:1<=g) (h0:0<=s) (h1:s<=p%g):(p-s)%g=p%g-s:=by
 have h2:=Ud p (show 0<g by omega);have e:p-s=(p%g-s)+g * (p/g):=by have:=Int.emod_add_mul_ediv p g;omega
 rw [e,Int.add_mul_emod_self_left,Int.emod_eq_of_lt (by omega) (by omega)]
theorem ZfI {l:List Nat} {j:Nat} (h:j<=l.length):JG l (LO.ZaF l j)=j:=by unfold JG;rw [Qb,LO.ZbC h];rfl
theorem ZdG {l:List Nat} {r:Nat} (h:r<=l.length):JG l r<=l.length/\LO.ZaF l (JG l r)=r:=by
 have hl:=LO.qP l;have e:(LO.ord l)[r]?=some (LO.ord l)[r]:=Qd (by omega);have e2:JG l r=(LO.ord l)[r]:=by unfold JG;rw [Qb,e];rfl
 rw [e2];exact ⟨LO.ZaR.mp (QT _),LO.ZeZ e⟩
theorem Zbd.at {ps:List (Int×V)} {l:List Nat} {g:Int} {j:Nat} (h:Zbd ps l g (l.length+1)) (hj:j<=l.length):ps.lookup ((LO.ZaF l j:Nat):Int)=if (j:Int)%g=0 then some (.int (j:Int)) else none:=by
 have hr:=LO.Zhw (l:=l) (j:=j) hj;rw [h,Qn,ZfI hj];by_cases z:(j:Int)%g=0
 ·rw [if_pos ⟨by omega,by omega,z⟩,if_pos z]
 ·rw [if_neg fun w=>z w.2.2,if_neg z]
open PySem.Spec PyProof.Rows
section
variable {X:Cx}
def ZDc (n:Nat) (cp:List (Str×Nat)) (ta:TA) (tc:TT) (te:TE):TE:=fun σ H Q=>ta σ H fun vs H1=>match vs with
 |[.int a,.int b]=>(-(2 ^ 62)<=a/\a<2 ^ 62/\ -(2 ^ 62)<=b/\b<2 ^ 62/\b-a<16777216)/\∃Pv:Nat->Hp->List V->Prop,Pv 0 H1 []/\(∀i H2 acc,i<(b-a).toNat->Pv i H2 acc->Zgj tc te ((ZaK n cp σ).set 0 (some (.int (a+(i:Int))))) acc (Pv (i+1)) H2)/\∀H2 acc,Pv (b-a).toNat H2 acc->∀l,H2 l=none->Q (.ref l) (upd H2 l (.lst acc))
 |_=>False
theorem Zl8 {elt a b:jF} {ifs:List jF} {x:Str} {px p p':Pos} {scope:Scope} {pos:Pos} {cl:List (Str×jk)} {own:List Str} {cp:List (Str×Nat)} {ta:TA} {tc:TT} {te:TE}
 (hm:X.mg "range"=none) (hc:X.calm=true) (hcl:qj scope.names X.env.cells []=some cl) (hk:scope.kind=.function) (hnc:∀y∈scope.names,y.2≠ .cell)
 (hnm:∀x∈scope.names,x.2=.local->scope.names.lookup x.1=some .local) (hcp:JE X scope cp) (ha:PA X [a,b] ta) (hn:0<own.length)
 (hg:∀fp C s H,PG (cxC X scope cl (own++cp.map (·.1)) fp C s H) (.Name x px) (Y6 0)) (ht:∀fp C s H,PFs (cxC X scope cl (own++cp.map (·.1)) fp C s H) ifs tc) (he:∀fp C s H,PE (cxC X scope cl (own++cp.map (·.1)) fp C s H) elt te)
 (hgl:Gl X "range":=by rfl) (hst:jx [a,b] X.env=[(false,eval a X.env),(false,eval b X.env)]:=by rfl) (hst2:jx [b] X.env=[(false,eval b X.env)]:=by rfl)
 (hs:∀z,jG (.Call (.Name "range" p) [a,b] [] p') X.env z=pure z:=by intro _;rfl):PE X (.ListComp elt [⟨.Name x px,.Call (.Name "range" p) [a,b] [] p',ifs,0⟩] scope pos) (ZDc own.length cp ta tc te):=by
 have ha':PA X [a,b] (fun σ H Q=>∃Q0:List V->Hp->Prop,ta σ H Q0/\∀v H',Q0 v H'->Q v H'):=ha.imp fun σ H Q h=>h;intro Zb s σ H Q I h;refine ZdH hc hcl hk hnc hnm hcp (Zma hgl hm ha' hst hst2) (Zcx hn) hg (fun fp C s H=>(ht fp C s H).imp (t':=Zjb tc) fun _ _ _ z=>z) (fun fp C s H=>(he fp C s H).imp (t':=Zja te) fun _ _ _ z=>z) hs Zb s σ H Q I ?_;refine ⟨_,h,fun vs H1 q=>?_⟩;split at q
 ·rename_i a b;obtain ⟨⟨b1,b2,b3,b4,b5⟩,Pv,p0,ps,pe⟩:=q;have hsl:sizeLine=16777216:=jt;refine ⟨a,b,rfl,⟨b1,b2,b3,b4⟩,fun i m H2 acc=>m=(b-a).toNat-i/\i<=(b-a).toNat/\acc.length<=i/\Pv i H2 acc,⟨(b-a).toNat,by omega,Qu _,Qf _,p0⟩,?_⟩;rintro i m H2 acc ⟨rfl,hi,hl,pv'⟩;refine ⟨by omega,?_⟩;by_cases hlt:i<(b-a).toNat
  ·refine .inr ⟨hlt,fun y H3 ⟨e3,ey⟩=>?_⟩;subst e3 ey;exact ZbB (N':=fun H z=>∃m',m'<(b-a).toNat-i/\(m'=(b-a).toNat-(i+1)/\i+1<=(b-a).toNat/\z.length<=i+1/\Pv (i+1) H z)) (fun H z hz w=>⟨(b-a).toNat-(i+1),by omega,rfl,hlt,by omega,w⟩) (ps i H3 acc hlt pv')
  ·have e:i=(b-a).toNat:=by omega
   subst e;exact .inl ⟨Qf _,fun l hl'=>pe H2 acc pv' l hl'⟩
 ·exact q.elim
def Zhe:u9 where
 α:=Int
 blt:=fun a b=>decide (a<b)
 irrefl:=fun a=>decide_eq_false (Int.lt_irrefl a)
 trans:=fun a b c h1 h2=>by have:=of_decide_eq_true h1;have:=of_decide_eq_true h2;exact decide_eq_true (by omega)
 negTrans:=fun a b c h=>by
  have:=of_decide_eq_true h;by_cases h2:a<b
  ·exact .inl (decide_eq_true h2)
  ·exact .inr (decide_eq_true (by omega))
 total:=fun a b h1 h2=>by have:=of_decide_eq_false h1;have:=of_decide_eq_false h2;omega
theorem Zji {ns:List Int} {ks:List Value} (r:ZE (ns.map V.int) ks) {i:Nat} (hi:i<ns.length):∃t,ks.getD i Qq=.int (ns.getD i 0) t:=by
 have e:(ns.map V.int)[i]?=some (V.int (ns.getD i 0)):=by rw [Qi,Qb,Qd hi];rfl
 obtain ⟨u,hu,t,rfl⟩:=r.get e;exact ⟨t,by rw [Qb,hu];rfl⟩
theorem Zq6 {prog:jw} {w:jB} {A:Around} {s:jj} {ns:List Int} {ks:List Value} (r:ZE (ns.map V.int) ks):LS.Zls (O:=Zhe) (fun i=>ns.getD i (0:Int)) ns.length (fun s'=>s'=s) (v6 prog w A vS ks):=by refine ⟨fun i j C s1 hi hj e h=>?_⟩;subst e;unfold v6;obtain ⟨t,e1⟩:=Zji r hi;obtain ⟨t',e2⟩:=Zji r hj;rw [e1,e2,keyLt'_oneType];exact oneLt_int (h s1 rfl)
theorem Zpe {M:uL} {A:Around} {E:Value->jj->Prop} {s:jj} {ns:List Int} {ks:List Value} (r:ZE (ns.map V.int) ks) (h2:2<=ns.length) {Q:uz->jj->Prop} (h:Q vS s):jo M A (QaC (QA ks)) Q E s:=by
 have hl:=r.length;rw [jn] at hl;refine kas_kind (T:=.type "int") (by omega) (fun v hv=>?_) (by decide) (by decide) h;obtain ⟨i,hi⟩:=Vr hv;have hlt:i<ns.length:=by have:=(Qo.mp hi).1;omega
 obtain ⟨t,e⟩:=Zji r hlt;rw [Qb,hi] at e;have e:v=.int (ns.getD i 0) t:=e;rw [e];exact PySem.W.Looks.of_pure rfl
theorem Zsw {ns:List Int} {n:Nat} {p:Array Nat} (hp:LS.Pm n p) (hu:LS.Up (O:=Zhe) (fun i=>ns.getD i (0:Int)) p n):p.toList.Pairwise (fun i j=>ns.getD i 0<=ns.getD j 0):=by
 have hps:=hp.size;refine Ue.mpr fun i j hi hj hij=>?_;rw [Qp] at hi hj;have:=hu i j (QQ hij) (by omega);have gi:LS.gt p i=p.toList[i]:=by unfold LS.gt;rw [QK];simp [hi]
 have gj:LS.gt p j=p.toList[j]:=by unfold LS.gt;rw [QK];simp [hj]
 rw [gi,gj] at this;have this:decide (ns.getD p.toList[j] 0<ns.getD p.toList[i] 0)=false:=this;have:=of_decide_eq_false this;omega
theorem Zfy (ns:List Int):(Qk ns.length).map (fun i=>ns.getD i 0)=ns:=by
 refine WJ fun i=>?_;rw [Qi];by_cases h:i<ns.length
 ·rw [Ul h,Qd h,UF,Qb,Qd h];rfl
 ·rw [Vl (by simpa using h),Vl (by omega)];rfl
end
end L2
namespace LO
open L2
theorem Zid {l t:List Nat} {i:Nat}:Zbj l t i=true↔(l.drop i).take t.length=t:=by unfold Zbj;rw [UZ,List.prefix_iff_eq_take];exact ⟨fun h=>h.symm,fun h=>h.symm⟩
theorem ZiJ (l t:List Nat):((Qk (Zb2 l t-low l t)).map fun k=>JG l (low l t+k)).Perm (LP.plc l t):=by
 have hh:=Zdq l t;have ol:=qP l;refine (List.perm_ext_iff_of_nodup ?_ (List.nodup_range.sublist Vv)).mpr fun i=>?_
 ·rw [VW,U4];refine List.Pairwise.imp_of_mem (R:=fun a b=>a≠b) (fun {a b} ha hb hab e=>hab ?_) (VW.mp List.nodup_range);have ha:=QB.mp ha;have hb:=QB.mp hb;obtain ⟨_,e1⟩:=ZdG (l:=l) (r:=low l t+a) (by omega);obtain ⟨_,e2⟩:=ZdG (l:=l) (r:=low l t+b) (by omega);rw [e] at e1;omega
 ·refine Iff.trans ?_ (Zk4 (l:=l) (q:=t) (i:=i)).symm;rw [UD];constructor
  ·rintro ⟨k,hk,rfl⟩;have hk:=QB.mp hk;obtain ⟨h1,e1⟩:=ZdG (l:=l) (r:=low l t+k) (by omega);have:=(Zle (t:=t) h1).mpr (by omega);have h2:=Zid.mp this;refine ⟨?_,h2⟩;have:=congrArg Ur h2;rw [jz,jJ] at this;omega
  ·rintro ⟨h1,h2⟩;have hi:i<=l.length:=by omega
   have hr:=(Zle (t:=t) hi).mp (Zid.mpr h2);refine ⟨ZaF l i-low l t,QB.mpr (by omega),?_⟩;rw [show low l t+(ZaF l i-low l t)=ZaF l i by omega];exact ZfI hi
theorem ZyL (l t:List Nat):(LP.plc l t).Pairwise (· <=·):=by refine List.Pairwise.sublist Vv ?_;exact (List.pairwise_lt_range).imp fun h=>QQ h
theorem ZjF {l t:List Nat} {ms:List Int} (hp:ms.Perm ((Qk (Zb2 l t-low l t)).map fun k=>((JG l (low l t+k):Nat):Int))) (hs:ms.Pairwise (· <=·)):ms=(LP.plc l t).map fun i:Nat=>(i:Int):=by
 refine List.Perm.eq_of_pairwise (le:=(· <=·)) (fun a b _ _ h1 h2=>Int.le_antisymm h1 h2) hs ?_ (hp.trans ?_)
 ·rw [U4];exact (ZyL l t).imp fun h=>Int.ofNat_le.mpr h
 ·have:=(ZiJ l t).map fun i:Nat=>(i:Int);rw [uJ] at this;exact this
theorem Zfx (l t:List Nat):(LP.plc l t).length=Zb2 l t-low l t:=by rw [<-(ZiJ l t).length_eq,jn,uO]
theorem Zla {l t:List Nat} {i:Nat} (h:i∈LP.plc l t):i+t.length<=l.length:=(Zk4.mp h).1
end LO
namespace L2
open PySem PySem.Spec PyProof.Rows
end L2
namespace LO
open LW L2
def sz (l:List Nat) (m r:Nat):Nat:=com (l.drop (JG l r)) (l.drop (JG l (r+(m-1))))
end LO
namespace L2
open PySem PySem.Spec PyProof.Rows
open Builtin Builtin.Str
end L2
namespace LG
open LO
theorem Zkq {l t:List Nat} {i:Nat}:Zbj l t i=true↔∃u,l.drop i=t++u:=by unfold Zbj;rw [UZ];exact ⟨fun ⟨u,h⟩=>⟨u,h.symm⟩,fun ⟨u,h⟩=>⟨u,h.symm⟩⟩
theorem ZqU {l t:List Nat} {i:Nat}:((l.drop i).take t.length=t)↔Zbj l t i=true:=by
 rw [Zkq];constructor
 ·intro h;exact ⟨(l.drop i).drop t.length,by conv=>lhs;rw [<-QP t.length (l.drop i),h]⟩
 ·rintro ⟨u,h⟩;rw [h,List.take_left]
theorem Zfx (l t:List Nat):(LP.plc l t).length=Zp3 l t:=by
 unfold LP.plc Zp3;rw [<-List.countP_eq_length_filter]
 have e:(fun i=>decide ((l.drop i).take t.length=t))=fun i=>Zbj l t i:=by
  funext i
  rw [Ug,decide_eq_true_iff];exact ZqU
 rw [e];obtain ⟨k,hk⟩:∃k,l.length+1=((l.length:Int)-(t.length:Int)+1).toNat+k:=⟨l.length+1-((l.length:Int)-(t.length:Int)+1).toNat,by omega⟩;rw [hk,List.range_add,Us];have z:((Qk k).map (((l.length:Int)-(t.length:Int)+1).toNat+·)).countP (fun i=>Zbj l t i)=0:=by rw [QY];intro i hi h;obtain ⟨j,hj,rfl⟩:=UD.mp hi;have hj:=QB.mp hj;obtain ⟨u,hu⟩:=Zkq.mp h;have:=congrArg Ur hu;rw [jJ,jq] at this;omega
 rw [z,Uk]
open L2
end LG
namespace L2
open PySem
open PySem.Spec PyProof.Rows
theorem ZfH {y:Str} {c:Nat} (h:L y=[c]):y=⟨#[c]⟩:=by have:=T_L y;rw [h] at this;exact this.symm
theorem ZfZ (z:Str) (i j:Nat):Builtin.Str.strSub z i j=T (((L z).take j).drop i):=by
 have e:L (Builtin.Str.strSub z i j)=((L z).take j).drop i:=by show (z.cps.extract i j).toList=_;rw [Array.toList_extract];show ((z.cps.toList).drop i).take (j-i)=_;rw [List.drop_take];rfl
 rw [<-e,T_L]
theorem Zcn {f:Nat->Bool}:∀{l:List Nat},(∀c∈l,f c=true)->l.takeWhile f=l
 |[],_=>rfl
 |c::r,h=>by rw [VV (h c (jW ..)),Zcn fun d hd=>h d (jH _ hd)]
theorem Zbt {f:Nat->Bool}:∀{l:List Nat} {c:Nat},c∈l->f c=false->(l.takeWhile f).length<l.length
 |d::r,c,hc,h=>by
  rw [Wx];split
  ·rename_i hd;rcases jK.mp hc with e|hc
   ·rw [e,hd] at h;cases h
   ·have:=Zbt hc h;rw [jy,jy];omega
  ·rw [jy,j8];omega
theorem ZbY {f:Nat->Bool}:∀{l:List Nat} {c:Nat},c∈l->f c=false->∃d∈l.drop (l.takeWhile f).length,f d=false
 |d::r,c,hc,h=>by
  rw [Wx];split
  ·rename_i hd;rcases jK.mp hc with e|hc
   ·rw [e,hd] at h;cases h
   ·obtain ⟨x,h1,h2⟩:=ZbY hc h;exact ⟨x,by rw [jy,WA];exact h1,h2⟩
  ·rename_i hd;exact ⟨d,jW ..,by simpa using hd⟩
theorem Zmo (z y:Str):L (Txt.stripChars z y)=[]↔∀c∈L z,y.cps.contains c=true:=by
 have e0:Txt.stripChars z y=T (((L z).take (stripHi y.cps.contains true z (stripLo y.cps.contains true z))).drop (stripLo y.cps.contains true z)):=by
  unfold Txt.stripChars Txt.stripBy;by_cases hs:stripSame y.cps.contains true true z=true
  ·rw [if_pos hs];unfold stripSame at hs;rw [QM] at hs;rw [eq_of_beq hs.1];have h2:=eq_of_beq hs.2;rw [eq_of_beq hs.1] at h2;rw [h2,<-Z7,QF];exact (T_L z).symm
  ·rw [if_neg hs];unfold stripped
   exact ZfZ ..
 have elo:stripLo y.cps.contains true z=((L z).takeWhile y.cps.contains).length:=rfl;have ehi:∀lo,stripHi y.cps.contains true z lo=(L z).length-(((L z).drop lo).reverse.takeWhile y.cps.contains).length:=fun lo=>by rw [Z7];rfl
 rw [e0,L_T,ehi,elo];constructor
 ·intro h c hc
  cases hg:y.cps.contains c with
  |true=>rfl
  |false=>
   exfalso;obtain ⟨d,hd,hd2⟩:=ZbY hc hg;have l1:=Zbt hc hg;have l2:=Zbt (f:=y.cps.contains) (List.mem_reverse.mpr hd) hd2;rw [vx,jJ] at l2;have:=congrArg Ur h;rw [jJ,jz,j8] at this;omega
 ·intro h;rw [Zcn h,Q9];rw [jz];omega
section
variable {X:Cx}
def ZjN:List V->Hp->VK->Prop:=fun xs H Q=>match xs with
 |[.int i]=>i.natAbs.log2<1920/\Q (.str (T (JL i))) H
 |_=>False
theorem Zkg:JM X (.type "str") ZjN:=by
 intro Zb s σ H xs us Q I r h;unfold ZjN at h;split at h
 ·rename_i i;obtain ⟨hi,q⟩:=h;obtain ⟨u,rfl,t,rfl⟩:=Zab r;have e:T (JL i)=(toString i:Str):=T_L _;rw [e] at q;exact PySem.P.str_of_int hi ⟨.str _,H,I.tok _,⟨_,rfl⟩,q⟩
 ·exact h.elim
def Zv9:List V->Hp->VK->Prop:=fun xs H Q=>match xs with
 |[.bl b]=>Q (.int (b2i b)) H
 |[.int i]=>Q (.int i) H
 |[.str z]=>(L z).length<=640/\L z≠[]/\(∀c∈L z,48<=c/\c<=57)/\Q (.int (NumText.digitsVal (L z):Nat)) H
 |_=>False
theorem ZuP:JM X (.type "int") Zv9:=by
 intro Zb s σ H xs us Q I r h;unfold Zv9 at h;split at h
 ·exact ZhZ Zb s σ H _ us Q I r h
 ·exact ZhZ Zb s σ H _ us Q I r h
 ·rename_i z;obtain ⟨hl,h0,hd,q⟩:=h;obtain ⟨u,rfl,t,rfl⟩:=Zab r;rw [Z7] at hl;exact PySem.W.KIN.call_text (intText_digits (x:=z) hd h0 (by omega)) hl ⟨.int _,H,I.tok _,⟨_,rfl⟩,q⟩
 ·exact h.elim
def Zzm:V->List V->Hp->VK->Prop:=fun x vs H Q=>match x,vs with
 | .str z,[.str y]=>∃c,L y=[c]/\(L z).length<=sizeLine/\(∀k:Nat,(L z)[k]?=some c->(∀v,v<k->(L z)[v]?≠some c)->∀p,H p=none->Q (.ref p) (upd H p (.tup [.str (T ((L z).take k)),.str (T [c]),.str (T ((L z).drop (k+1)))])))/\
   ((∀v:Nat,(L z)[v]?≠some c)->∀p,H p=none->Q (.ref p) (upd H p (.tup [.str z,.str (T []),.str (T [])])))
 |_,_=>False
theorem Ziq:MtR X "str.partition" Zzm:=by
 intro Zb s σ H x vs v us Q I rx rv h;unfold Zzm at h;split at h
 ·rename_i z y;obtain ⟨c,hy,hl,q1,q2⟩:=h;obtain ⟨t,rfl⟩:=rx;obtain ⟨u,rfl,t',rfl⟩:=Zab rv;have hy2:=ZfH hy;subst hy2;rw [Z7] at hl;have hn:=I.hok.fresh (Qf s.heap.objs.size);refine uI F.slot_str_partition (ui _ _ _) F.entry_str_partition (F.args_str_partition_2 _ _) (meets_str_partition z ⟨#[c]⟩ t t' rfl hl) ?_;rcases StrLaws.occ_head z ⟨#[c]⟩ 1 (Qf 1) with ⟨h0,h1⟩|⟨k,r,h0,hk,h1⟩
  ·rw [h0];refine ⟨.ref s.heap.objs.size,_,?_,rfl,q2 (fun v e=>h1 v ((StrLaws.subAt_one z c v).mpr e)) _ hn⟩;refine I.laid (fun b o e=>Qe _ e) (Qf _) ⟨by simp only [jy,j8];rw [jt];decide,[.str z t,.str Vt s.toks,.str Vt s.toks],.cons ⟨_,rfl⟩ (.cons ⟨_,rfl⟩ (.cons ⟨_,rfl⟩ .nil)),?_⟩;exact ⟨_,Qh s.heap rfl,rfl,0,rfl⟩
  ·rw [h0];have hm:=(StrLaws.subAt_one z c k).mp hk;refine ⟨.ref s.heap.objs.size,_,?_,rfl,q1 k hm (fun v h2 e=>h1 v h2 ((StrLaws.subAt_one z c v).mpr e)) _ hn⟩;refine I.laid (fun b o e=>Qe _ e) (Qf _) ⟨by simp only [jy,j8];rw [jt];decide,[.str (Builtin.Str.strSub z 0 k) s.toks,.str ⟨#[c]⟩ t',.str (Builtin.Str.strSub z (k+1) z.length) (s.toks+1)],.cons ⟨s.toks,?_⟩ (.cons ⟨_,rfl⟩ (.cons ⟨s.toks+1,?_⟩ .nil)),?_⟩
   ·rw [ZfZ];rfl
   ·rw [ZfZ,<-Z7,QF]
   ·exact ⟨_,Qh s.heap rfl,rfl,0,rfl⟩
 ·exact h.elim
def ZAb:V->List V->Hp->VK->Prop:=fun x vs H Q=>match x,vs with
 | .str z,[.str y]=>(L z).length<=sizeLine/\∀l:List Nat,(l=[]↔∀c∈L z,c∈L y)->Q (.str (T l)) H
 |_,_=>False
theorem Zk3:MtR X "str.strip" ZAb:=by
 intro Zb s σ H x vs v us Q I rx rv h;unfold ZAb at h;split at h
 ·rename_i z y;obtain ⟨hl,q⟩:=h;obtain ⟨t,rfl⟩:=rx;obtain ⟨u,rfl,t',rfl⟩:=Zab rv;rw [Z7] at hl;refine SC.stripChars (fun t2 k=>⟨.str (T (L (Txt.stripChars z y))),H,I.tok _,⟨_,by rw [T_L]⟩,q _ ?_⟩) hl;rw [Zmo];refine forall_congr' fun c=>forall_congr' fun _=>?_;show (y.cps.contains c=true)↔c∈y.cps.toList;rw [Array.contains_iff,Wq]
 ·exact h.elim
end
end L2
namespace LP
open PySem L2
def wr (rs:List (Nat×Nat)):List Nat:=(rs.map fun r=>r.1::(JL (r.2:Nat)++[59])).flatten
end LP
namespace L2
open PySem PySem.Spec PyProof.Rows
section
variable {X:Cx}
def inT (neg:Bool):R2:=fun x y H Q=>match x,y with
 | .str i,.str j=>∃c,L i=[c]/\Q (.bl (neg !=decide (c∈L j))) H
 |_,_=>False
end
end L2
namespace LP
open PySem L2 NumText
def J8 (l:List Nat):Prop:=1<=l.length/\l.length<=9/\(∀c∈l,48<=c/\c<=57)/\(l.getD 0 0=48->l=[48])
theorem Zbk (n:Nat):JL (n:Int)=(Nat.toDigits 10 n).map Char.toNat:=PySem.W.KIN.signs_num n
theorem Zdz (n:Nat):digitsVal (JL (n:Int))=n:=by rw [Zbk];exact PySem.W.KIN.val_back n
theorem Ziy (n:Nat):∀c∈JL (n:Int),48<=c/\c<=57:=by intro c hc;rw [Zbk] at hc;obtain ⟨ch,hch,e⟩:=UD.mp hc;have r:=PyProof.Rows.digit_range (Nat.isDigit_of_mem_toDigits (by decide) (by decide) hch);rw [<-e];exact r
end LP
namespace L2
open PySem PySem.Spec PyProof.Rows
theorem ZlO {k:Key} {v:Value} (h:Zdt k v=true):ZW (kV k) v:=by
 rcases zR h with ⟨i,t,rfl,rfl⟩|⟨x,t,rfl,rfl⟩
 ·exact ⟨t,rfl⟩
 ·exact ⟨t,rfl⟩
theorem JW:vE table "dict.update.loop"=some Builtin.«dict.update.loop»:=vD (by kernel_rfl)
theorem zP:plainId "dict.update.loop"=true:=by rfl'
def Zkm (vs:List (Key×Value)) (ps:List (Key×Value)):List (Key×Value):=ps.foldl (fun acc p=>stored acc p.1 p.2) vs
section
variable {prog:jw} {w:jB} {A:Around} {R:Qaq->jj->Prop} {I o D:jk} {its:List Value} {ps:List (Key×Value)}
theorem Zjo (vs:List (Key×Value)) (k:Key) (u:Value):(stored vs k u).length<=vs.length+1:=by
 unfold stored;split
 ·rw [jn];omega
 ·rw [jq,jE];omega
end
def ZbZ (ps:List (Key×V)) (acc:List (Key×V)):List (Key×V):=ps.foldl (fun acc p=>Zag acc p.1 p.2) acc
theorem KV.fill:∀{ps:List (Key×V)} {us:List (Key×Value)} {acc:List (Key×V)} {bcc:List (Key×Value)},KV ps us->KV acc bcc->KV (ZbZ ps acc) (Zkm bcc us)
 |_,_,_,_,.nil,h=>h
 |p::ps,q::us,_,_,.cons e t,h=>by obtain ⟨e1,e2⟩:=e;show KV (ZbZ ps (Zag _ p.1 p.2)) (Zkm (stored _ q.1 q.2) us);refine KV.fill t ?_;rw [<-e1];exact KV.put h _ e2
theorem Zil:∀(ps:List (Key×V)) (acc:List (Key×V)),(ZbZ ps acc).length<=acc.length+ps.length
 |[],acc=>Qf _
 |p::ps,acc=>by have h1:=Zil ps (Zag acc p.1 p.2);have h2:=Zex acc p.1 p.2;rw [jy];show (ZbZ ps (Zag acc p.1 p.2)).length<=_;omega
theorem ZCg {X:Cx} {K:Qa} (hK:X.K=K):OpR X (jX .In) (rIn K false):=by subst hK;exact Zl4
theorem Zf8:vE table "proto.unchain"=some Builtin.«proto.unchain»:=vD (by kernel_rfl)
theorem Zgk:plainId "proto.unchain"=true:=by rfl'
section
variable {prog:jw} {w:jB} {A:Around} {E:Value->jj->Prop} {s:jj}
theorem ZqW {e a:jk} {Q:Value->jj->Prop} (c:Zb5 a s.heap) (q:Q .none s):jo (jr prog w) A (runValue (.builtin "proto.unchain" ⟨[.ref e,.ref a,.ref a,.bool false],[]⟩)) Q E s:=by obtain ⟨o,vs,h1,h2,h3⟩:=c;refine vM (j9 Zf8 ?_);rw [Around.under_plainId Zgk _];show jo _ _ (field (.ref a) 2 >>=_) _ _ s;refine ji (uj h1 h2 h3 ?_);exact jl q
theorem ZlU {it l xa:jk} {i:Nat} {its:Array Value} {Q:Option Value->jj->Prop} (hh:A.handled=some (.ref xa)) (c:Zb5 xa s.heap) (hit:s.heap.IsListIter it l i) (hl:s.heap.IsList l its) (hx:its[i]?=none) (hne:xa≠it)
 (hQ:∀h',Wv it s.heap h'->Q none {s with heap:=h'}):jo (jr prog w) A (uf (.ref it)) Q E s:=by
 obtain ⟨o1,k1,kc,kd⟩:=id hit;obtain ⟨o2,l1,lc,n2,l2⟩:=hl;unfold uf;refine ji (jV (jM (name:=Qc "__next__") hit.typeIs slot_listiter_next (jP slot_listiter_next hit.typeIs entry_listiter_next ?_ (args_listiter_next _))));show jo _ _ (field (.ref it) 0 >>=_) _ _ s;refine ji (uj k1 kd (x:=.ref l) rfl ?_);show jo _ _ (if (Value.ref l==Qq)=true then _ else _) _ _ s;rw [if_neg (by exact Qg)];show jo _ _ (field (.ref it) 1 >>=_) _ _ s;refine ji (uj k1 kd (x:=.int i 0) rfl ?_);show jo _ _ (seqItems? (.ref l) >>=_) _ _ s;refine ji (u6 l1 l2 ?_);dsimp only;rw [Qn,hx];refine ji (uC (ji (vt k1 kd (by simp) ?_)));have c1:Zb5 xa (s.heap.update it (Obj.mapFields (·.setIfInBounds 0 Qq))):=by obtain ⟨o,vs,h1,h2,h3⟩:=c;exact ⟨o,vs,(QW _ _ (Ne.symm hne)).trans h1,h2,h3⟩
 show jo _ _ (newExc (.type "StopIteration") [] >>=_) _ _ _;refine ji ?_;simp only [newExc,newTuple];refine ji (jZ ?_ (by size_fits));refine ji (m:=u8 _ _) (uT (a:=Qq) (by first|rfl|(simp only [u8];rfl)) ?_);refine jZ ?_ (by size_fits);simp only [raiseNew];refine ji (wpAny_handled ?_);rw [show A.in1.handled=some (.ref xa) from hh];have l0:xa<(s.heap.update it (Obj.mapFields (·.setIfInBounds 0 Qq))).objs.size:=by obtain ⟨o,vs,h1,_⟩:=c1;exact Qj h1
 have ek:∀b o,b≠it->s.heap.get? b=some o->(s.heap.update it (Obj.mapFields (·.setIfInBounds 0 Qq))).get? b=some o:=fun b o hb e=>(QW _ _ (Ne.symm hb)).trans e
 generalize s.heap.update it (Obj.mapFields (·.setIfInBounds 0 Qq))=hA at c1 l0 ek ⊢
 have c2:=c1.push {cls:=.type "tuple",dict:=none,data:=.seq ([]:List Value).toArray};have l1:xa<(hA.push {cls:=.type "tuple",dict:=none,data:=.seq ([]:List Value).toArray}).objs.size:=by rw [Uo];exact UQ l0
 have ek2:∀b o,b≠it->s.heap.get? b=some o->(hA.push {cls:=.type "tuple",dict:=none,data:=.seq ([]:List Value).toArray}).get? b=some o:=fun b o hb e=>Qe _ (ek b o hb e)
 generalize hA.push {cls:=.type "tuple",dict:=none,data:=.seq ([]:List Value).toArray}=hB at c2 l1 ek2 ⊢
 show jo _ _ (if (Value.ref xa !=Value.ref hB.objs.size)=true then _ else _) _ _ _;have nx:(Value.ref xa !=Value.ref hB.objs.size)=true:=by rw [bne_iff_ne];intro z;injection z with z;exact QV _ (z▸l1)
 rw [if_pos nx];refine ji (jS (ZqW (c2.push _) ?_));show jo _ _ (QaA (.ref hB.objs.size) 2 (.ref xa) >>=_) _ _ _;refine ji (vt (Qh _ rfl) rfl (by simp;omega) ?_);refine wpAny_throw ?_;refine ji (vb (T:="StopIteration") (b:=true) ⟨_,Q3 _ (Qh _ rfl) (Obj.isFreed_of_fields (Obj.data_mapFields rfl _)),rfl⟩ vU ?_);refine jl (hQ _ fun b o hb e=>?_);have e2:=ek2 b o hb e;rw [QW _ _ (fun z=>QV _ (z▸Qj e2))];exact Qe _ e2
end
abbrev HdX (xa:jk):Cx->Prop:=fun X=>X.A.handled=some (.ref xa)
def ZAG (xa:jk) (K:Qa) (a:jk):It:=⟨(Itl K a).go,(Itl K a).yld,fun i H=>(∃C,H xa=some (ZgX xa C))/\(Itl K a).stop i H⟩
theorem ZjS {xa:jk} {P:jw} {w:jB} {K:Qa} {tg:jF} (a it:jk):Ztc (HdX xa) P w K tg (ZAG xa K a) [it] it (fun i h=>h.IsListIter it a i) where
 mem:=(ZbJ (P:=P) (w:=w) (K:=K) (tg:=tg) a it).mem
 obj:=(ZbJ (P:=P) (w:=w) (K:=K) (tg:=tg) a it).obj
 keep:=(ZbJ (P:=P) (w:=w) (K:=K) (tg:=tg) a it).keep
 item:=by intro X hP hw hK hh i Zb s σ H E I hf st hg;subst hP hw hK;obtain ⟨xs,x,hq,hx⟩:=hg;obtain ⟨its,rv,p,hz⟩:=I.list hq;obtain ⟨u,hu,ru⟩:=rv.get hx;obtain ⟨f0,f1,f2,f3,f4,f5⟩:=hf it (by simp);refine wpAny_pyNext_list_item st p.isList (x:=u) (by simpa using hu) fun h1 st1 sb=>?_;obtain ⟨o,e,c,d⟩:=id st1;exact ⟨u,rfl,Zic (s:= {s with heap:=h1}) e c d (by decide) ⟨x,H,I.turned (t':=s.toks) (fun b o hb e=>(sb.2 b hb).trans e) f0 f1 f3 f4 f5,ru,⟨rfl,fun ys hy=>by rw [I.list_inj hy hq];exact hx⟩,st1,fun b hb=>(hf b hb).1⟩⟩
 done:=by intro X hP hw hK hh i Zb s σ H E I hf st hg;subst hP hw hK;obtain ⟨⟨C,hxa⟩,xs,hq,hx⟩:=hg;obtain ⟨its,rv,p,hz⟩:=I.list hq;obtain ⟨f0,f1,f2,f3,f4,f5⟩:=hf it (by simp);have hl:=rv.length;obtain ⟨⟨o0,v0,z1,z2,z3,z4⟩,_,_⟩:=I.hok xa _ hxa;exact ZlU hh ⟨o0,v0,z1,z3,z4⟩ st p.isList (by simp;omega) (fun z=>by rw [z,f0] at hxa;cases hxa) fun h1 eb=>⟨rfl,I.turned (t':=s.toks) (fun b o hb e=>eb b o hb e) f0 f1 f3 f4 f5⟩
 self:=(ZbJ (P:=P) (w:=w) (K:=K) (tg:=tg) a it).self
def Zv7 (xa:jk) (K:Qa) (tl:TE):TI:=fun σ H R=>tl σ H fun v H1=>∃a,v=.ref a/\(∃xs,SqL K H1 a xs)/\R (ZAG xa K a) H1
section
variable {X:Cx}
theorem Zqn {tg l:jF} {tl:TE} (xa:jk) (hl:PE X l tl):PIG (HdX xa) X tg l (Zv7 xa X.K tl):=by
 intro Zb s σ H R I h;refine thn (hl Zb s σ H _ I h) fun v s1 ⟨x,H1,I1,r1,q1⟩=>?_;obtain ⟨a,e,⟨xs,hq⟩,q⟩:=q1;subst e;cases r1;obtain ⟨its,rv,p,hz⟩:=I1.list hq;refine wpAny_pyIter_list p.isList ?_;have hb:∀b∈[s1.heap.objs.size],ZcE X Zb H1 b:=fun b hb=>by cases ju.mp hb;exact I1.fpOk (Qf _) (I1.hok.fresh (Qf _))
 exact ⟨s1.heap.objs.size,[s1.heap.objs.size],_,_,H1,rfl,I1.kept (t':=s1.toks) fun b o e=>Qe _ e,ZjS a _,⟨_,Qh _ rfl,rfl,rfl⟩,hb,q⟩
theorem Zqq {elt iter target:jF} {i₀:Nat} {y₀:Str} {p₀ p₁:Pos} {ifs:List jF} {scope:Scope} {pos:Pos} {cl:List (Str×jk)} {own:List Str} {cp:List (Str×Nat)} {wi:TI} {g:TG} {tc:TT} {te:TE}
 {xa:jk} (hh:X.A.handled=some (.ref xa)) (hcl:qj scope.names X.env.cells []=some cl) (hk:scope.kind=.function) (hnc:∀y∈scope.names,y.2≠ .cell)
 (hnm:∀x∈scope.names,x.2=.local->scope.names.lookup x.1=some .local) (hcp:JE X scope cp) (hi:PIG (HdX xa) X target iter wi) (gk:Zgq own.length g)
 (hg:∀fp C s H,PG (cxC X scope cl (own++cp.map (·.1)) fp C s H) target g) (ht:∀fp C s H,PFs (cxC X scope cl (own++cp.map (·.1)) fp C s H) ifs tc) (he:∀fp C s H,PE (cxC X scope cl (own++cp.map (·.1)) fp C s H) elt te)
 (hN:X.N.Nodup) (hi₀:X.N[i₀]?=some y₀) (hx₀:X.env.scope.names.lookup y₀=some .local) (hsw:uZ (.ListComp elt [⟨target,iter,ifs,0⟩] scope pos) (some (.Name y₀ p₀)) p₁.line X.env=pure true)
 (hs:∀x,jG iter X.env x=pure x:=by intro _;rfl):PS X (.Assign [.Name y₀ p₀] (.ListComp elt [⟨target,iter,ifs,0⟩] scope pos) p₁) (ZhI (Zlk own.length cp wi g tc te) (Y6 i₀)):=
 ZiK (Cd:=HdX xa) (fun _ _ _ _=>hh) hcl hk hnc hnm hcp hi gk hg ht he hN hi₀ hx₀ hsw hs
def ZDb (K:Qa) (xa:jk) (n:Nat) (cp:List (Str×Nat)) (tl:TE) (tc:TT) (te:TE):TE:=fun σ H Q=>tl σ H fun v H1=>match v with
 | .ref a=>∃xs,SqL K H1 a xs/\xs.length<16777216/\∃Pv:Nat->Hp->List V->Prop,Pv 0 H1 []/\(∀i H2 acc,i<=xs.length->Pv i H2 acc->SqL K H2 a xs/\∃C,H2 xa=some (ZgX xa C))/\(∀i y H2 acc,xs[i]?=some y->Pv i H2 acc->Zgj tc te ((ZaK n cp σ).set 0 (some y)) acc (Pv (i+1)) H2)/\∀H2 acc,Pv xs.length H2 acc->∀l,H2 l=none->Q (.ref l) (upd H2 l (.lst acc))
 |_=>False
theorem Zmd {i₀:Nat} {y₀:Str} {p₀ p₁:Pos} {K:Qa} {elt iter:jF} {ifs:List jF} {x:Str} {px:Pos} {scope:Scope} {pos:Pos} {cl:List (Str×jk)} {own:List Str} {cp:List (Str×Nat)} {tl:TE} {tc:TT} {te:TE} (hK:X.K=K)
 {xa:jk} (hh:X.A.handled=some (.ref xa)) (hcl:qj scope.names X.env.cells []=some cl) (hk:scope.kind=.function) (hnc:∀y∈scope.names,y.2≠ .cell)
 (hnm:∀x∈scope.names,x.2=.local->scope.names.lookup x.1=some .local) (hcp:JE X scope cp) (hl:PE X iter tl) (hn:0<own.length)
 (hg:∀fp C s H,PG (cxC X scope cl (own++cp.map (·.1)) fp C s H) (.Name x px) (Y6 0)) (ht:∀fp C s H,PFs (cxC X scope cl (own++cp.map (·.1)) fp C s H) ifs tc) (he:∀fp C s H,PE (cxC X scope cl (own++cp.map (·.1)) fp C s H) elt te)
 (hN:X.N.Nodup) (hi₀:X.N[i₀]?=some y₀) (hx₀:X.env.scope.names.lookup y₀=some .local) (hsw:uZ (.ListComp elt [⟨.Name x px,iter,ifs,0⟩] scope pos) (some (.Name y₀ p₀)) p₁.line X.env=pure true:=by rfl)
 (hs:∀z,jG iter X.env z=pure z:=by intro _;rfl):PS X (.Assign [.Name y₀ p₀] (.ListComp elt [⟨.Name x px,iter,ifs,0⟩] scope pos) p₁) (ZhI (ZDb K xa own.length cp tl tc te) (Y6 i₀)):=by
 subst hK;have hl':PE X iter (fun σ H Q=>∃Q0:VK,tl σ H Q0/\∀v H',Q0 v H'->Q v H'):=hl.imp fun σ H Q h=>h;intro Zb s σ H D I h;refine Zqq hh hcl hk hnc hnm hcp (Zqn xa hl') (Zcx hn) hg (fun fp C s H=>(ht fp C s H).imp (t':=Zjb tc) fun _ _ _ z=>z) (fun fp C s H=>(he fp C s H).imp (t':=Zja te) fun _ _ _ z=>z) hN hi₀ hx₀ hsw hs Zb s σ H D I ?_;refine ⟨_,h,fun v H1 q=>?_⟩
 cases v with
 |ref a=>
  obtain ⟨xs,hx,hz,Pv,p0,pl,ps,pe⟩:=q;have hsl:sizeLine=16777216:=jt;refine ⟨a,rfl,⟨xs,hx⟩,fun i m H2 acc=>m=xs.length-i/\i<=xs.length/\acc.length<=i/\Pv i H2 acc,⟨xs.length,by omega,Qu _,Qf _,p0⟩,?_⟩;rintro i m H2 acc ⟨rfl,hi,hla,pv'⟩;refine ⟨by omega,?_⟩;obtain ⟨hx2,hxa⟩:=pl i H2 acc hi pv';by_cases hlt:i<xs.length
  ·refine .inr ⟨⟨xs,xs[i],hx2,by simp [hlt]⟩,fun y H3 ⟨e3,ey⟩=>?_⟩;subst e3;exact ZbB (N':=fun H a=>∃m',m'<xs.length-i/\(m'=xs.length-(i+1)/\i+1<=xs.length/\a.length<=i+1/\Pv (i+1) H a)) (fun H a ha z=>⟨xs.length-(i+1),by omega,rfl,hlt,by omega,z⟩) (ps i y H3 acc (ey xs hx2) pv')
  ·have e:i=xs.length:=by omega
   subst e;exact .inl ⟨⟨hxa,xs,hx2,Qf _⟩,fun l hl'=>pe H2 acc pv' l hl'⟩
 |_=>exact False.elim q
end
end L2
namespace LP
def ahd (p:List Nat):List (List Nat)->List (List Nat)
 |[]=>[p]
 |w::r=>(p++w)::r
def spl (c:Nat):Nat->List Nat->List (List Nat)
 |_,[]=>[[]]
 |0,x::r=>[x::r]
 |n+1,x::r=>if x=c then []::spl c n r else ahd [x] (spl c (n+1) r)
def ZdI (c:Nat):Nat->List Nat->List Nat
 |_,[]=>[]
 |i,x::r=>if x=c then i::ZdI c (i+1) r else ZdI c (i+1) r
theorem ZfV (c n:Nat):∀l,spl c n l≠[]
 |[]=>by simp [spl]
 |x::r=>by
  cases n with
  |zero=>simp [spl]
  |succ n=>
   unfold spl;split
   ·simp
   ·cases spl c (n+1) r<;>simp [ahd]
theorem Zq4 (p q:List Nat):∀{ws:List (List Nat)},ws≠[]->ahd p (ahd q ws)=ahd (p++q) ws
 |[],h=>absurd rfl h
 |w::r,_=>by simp [ahd]
theorem ZfX (c:Nat):∀l,spl c 0 l=[l]
 |[]=>rfl
 |_::_=>rfl
theorem J7 {c:Nat} (n:Nat) (r:List Nat):∀{p:List Nat},c∉p->spl c (n+1) (p++c::r)=p::spl c n r
 |[],_=>by simp [spl]
 |x::p,h=>by have hx:x≠c:=fun e=>h (by simp [e]);have hp:c∉p:=fun e=>h (by simp [e]);show (if x=c then _ else ahd [x] (spl c (n+1) (p++c::r)))=_;rw [if_neg hx,J7 n r hp];rfl
theorem ZfW {c:Nat} (n:Nat):∀{p:List Nat},c∉p->spl c n p=[p]
 |[],_=>rfl
 |x::p,h=>by
  cases n with
  |zero=>rfl
  |succ n=>
   have hx:x≠c:=fun e=>h (by simp [e]);have hp:c∉p:=fun e=>h (by simp [e]);show (if x=c then _ else ahd [x] (spl c (n+1) p))=_;rw [if_neg hx,ZfW (n+1) hp];rfl
theorem ZdR (c:Nat):∀(n:Nat) (l:List Nat),(spl c n l).length<=l.length+1
 |n,[]=>by simp [spl]
 |0,x::r=>by simp [spl]
 |n+1,x::r=>by
  unfold spl;split
  ·have:=ZdR c n r;simp only [jy];omega
  ·have:=ZdR c (n+1) r
   have e:(ahd [x] (spl c (n+1) r)).length=(spl c (n+1) r).length:=by
    have:=ZfV c (n+1) r
    cases h:spl c (n+1) r with
    |nil=>exact absurd h this
    |cons w ws=>rfl
   rw [e];simp only [jy];omega
end LP
namespace L2
open PySem PySem.Spec PyProof.Rows Builtin.Str LP
theorem ZdA (z:Str) (c:Nat) (lim:Nat):∀(l:List Nat) (i:Nat) (acc:Array Nat) (free:Nat),(L z).drop i=l->free<=i->i<=z.length->
 (forIn (Vp i (l.length+1)) (acc,free) (StrLaws.occBody z ⟨#[c]⟩ z.length lim)).run.fst.toList=acc.toList++(ZdI c i l).take (lim-acc.size)
 |[],i,acc,free,hl,hf,hi=>by
  rw [j8,WM,Uv];unfold StrLaws.occBody;have hn:(L z)[i]?=none:=by have:=congrArg (·[0]?) hl;simpa using this
  rw [if_neg (fun h=>by
   have:=(StrLaws.subAt_one z c i).mp ⟨h.1.2,h.2⟩;have h2:(L z)[i]?=some c:=this;rw [hn] at h2;cases h2)]
  show (forIn (Vp (i+1) 0) (acc,free) (StrLaws.occBody z ⟨#[c]⟩ z.length lim)).run.fst.toList=_;simp [ZdI]
 |x::r,i,acc,free,hl,hf,hi=>by
  have hx:(L z)[i]?=some x:=by have:=congrArg (·[0]?) hl;simpa using this
  have hlt:i<z.length:=by have:=(Qo.mp hx).1;rw [Z7] at this;exact this
  have hr:(L z).drop (i+1)=r:=by rw [<-UO,hl];rfl
  rw [jy,WM,Uv];unfold StrLaws.occBody;by_cases e:x=c
  ·by_cases hs:acc.size<lim
   ·have st:=(StrLaws.subAt_one z c i).mpr (show (L z)[i]?=some c by rw [hx,e]);rw [if_pos ⟨⟨⟨hs,hf⟩,st.1⟩,st.2⟩];show (forIn (Vp (i+1) (r.length+1)) (acc.push i,i+1) (StrLaws.occBody z ⟨#[c]⟩ z.length lim)).run.fst.toList=_;rw [ZdA z c lim r (i+1) _ _ hr (Qf _) hlt];rw [show ZdI c i (x::r)=i::ZdI c (i+1) r from if_pos e,Vi];obtain ⟨d,hd⟩:∃d,lim-acc.size=d+1:=⟨lim-acc.size-1,by omega⟩;rw [hd,show lim-(acc.size+1)=d by omega,QO];simp
   ·rw [if_neg (fun h=>hs h.1.1.1)];show (forIn (Vp (i+1) (r.length+1)) (acc,free) (StrLaws.occBody z ⟨#[c]⟩ z.length lim)).run.fst.toList=_;rw [ZdA z c lim r (i+1) _ _ hr (VH hf) hlt,show lim-acc.size=0 by omega];simp
  ·rw [if_neg (fun h=>by
    have:=(StrLaws.subAt_one z c i).mp ⟨h.1.2,h.2⟩;have h2:(L z)[i]?=some c:=this;rw [hx] at h2;exact e (Option.some.inj h2))]
   show (forIn (Vp (i+1) (r.length+1)) (acc,free) (StrLaws.occBody z ⟨#[c]⟩ z.length lim)).run.fst.toList=_;rw [ZdA z c lim r (i+1) _ _ hr (VH hf) hlt];rw [show ZdI c i (x::r)=ZdI c (i+1) r from if_neg e]
theorem ZrR (z:Str) (c lim:Nat):occurrences z ⟨#[c]⟩ 0 z.length lim=(ZdI c 0 (L z)).take lim:=by rw [StrLaws.occ_eq];have:=ZdA z c lim (L z) 0 #[] 0 rfl (Qf _) (Qu _);rw [Z7] at this;simpa using this
theorem Zee (z:Str) (c:Nat):∀(l:List Nat) (n:Nat) (A P:List Nat),L z=A++P++l->StrLaws.partsFrom z 1 A.length ((ZdI c (A.length+P.length) l).take n)=(ahd P (spl c n l)).map T
 |[],n,A,P,h=>by
  have e:strSub z A.length z.length=T P:=by rw [ZfZ,<-Z7,QF,h];simp
  show StrLaws.partsFrom z 1 A.length (([]:List Nat).take n)=_;rw [List.take_nil];show [strSub z A.length z.length]=_;rw [e];simp [spl,ahd]
 |x::r,0,A,P,h=>by rw [Q5,ZfX];show [strSub z A.length z.length]=_;rw [ZfZ,<-Z7,QF,h];simp [ahd]
 |x::r,n+1,A,P,h=>by
  by_cases e:x=c
  ·rw [show ZdI c (A.length+P.length) (x::r)=(A.length+P.length)::ZdI c (A.length+P.length+1) r from if_pos e,show spl c (n+1) (x::r)=[]::spl c n r from if_pos e,QO];show strSub z A.length (A.length+P.length)::StrLaws.partsFrom z 1 (A.length+P.length+1) _=_;have ih:=Zee z c r n (A++P++[x]) [] (by rw [h];simp);simp only [jq,jE,j8,Uk] at ih;rw [ih,ZfZ,h];have e2:List.drop A.length (List.take (A.length+P.length) (A++P++x::r))=P:=by rw [VP (by simp),QD (by simp)];simp
   rw [e2]
   cases hs:spl c n r with
   |nil=>exact absurd hs (ZfV c n r)
   |cons w ws=>simp [ahd]
  ·rw [show ZdI c (A.length+P.length) (x::r)=ZdI c (A.length+P.length+1) r from if_neg e,show spl c (n+1) (x::r)=ahd [x] (spl c (n+1) r) from if_neg e];have ih:=Zee z c r (n+1) A (P++[x]) (by rw [h];simp);rw [jq,jE,<-Wc] at ih;rw [ih,Zq4 _ _ (ZfV c (n+1) r)]
theorem Zef (z:Str) (c lim:Nat):partsBetween z (occurrences z ⟨#[c]⟩ 0 z.length lim) 1=(spl c lim (L z)).map T:=by
 rw [StrLaws.partsBetween_eq,ZrR];have:=Zee z c (L z) lim [] [] rfl;simp only [j8,Uk] at this;rw [this]
 cases hs:spl c lim (L z) with
 |nil=>exact absurd hs (ZfV c lim (L z))
 |cons w ws=>simp [ahd]
theorem Zfs {z:Str} {c lim:Nat} (h:(occurrences z ⟨#[c]⟩ 0 z.length lim).isEmpty=true):(spl c lim (L z)).map T=[z]:=by rw [<-Zef,List.isEmpty_iff.mp h];show [strSub z 0 z.length]=_;rw [ZfZ,<-Z7,QF,Uc,T_L]
theorem Zes:∀(xs:List Str) (tk:Nat),ZE (xs.map V.str) (strsFrom tk xs)
 |[],_=>.nil
 |x::r,tk=>.cons ⟨tk,rfl⟩ (Zes r (tk+1))
theorem Zpf (z:Str):1<=Builtin.Str.strKind z:=by
 unfold Builtin.Str.strKind;split
 ·exact Qf _
 ·split<;>decide
section
variable {X:Cx}
def Zz9:V->List V->Hp->VK->Prop:=fun x vs H Q=>match x,vs with
 | .str z,[.str y]=>∃c,L y=[c]/\c<256/\(L z).length+2<=sizeLine/\∀a,H a=none->Q (.ref a) (upd H a (.lst ((spl c ((L z).length+1) (L z)).map fun w=>V.str (T w))))
 | .str z,[.str y,.int k]=>∃c,L y=[c]/\c<256/\(L z).length+2<=sizeLine/\0<=k/\k<1000/\∀a,H a=none->Q (.ref a) (upd H a (.lst ((spl c k.toNat (L z)).map fun w=>V.str (T w))))
 |_,_=>False
theorem Zhi:MtR X "str.split" Zz9:=by
 intro Zb s σ H x vs v us Q I rx rv h
 have fin:∀(c lim:Nat) (z:Str) (tk:Nat) (its:List Value),(L z).length+2<=sizeLine->ZE (((spl c lim (L z)).map T).map V.str) its->(∀a,H a=none->Q (.ref a) (upd H a (.lst ((spl c lim (L z)).map fun w=>V.str (T w)))))->
  EP X Zb σ Q (.ref s.heap.objs.size) {s with toks:=tk,heap:=s.heap.push {cls:=.type "list",data:=.seq its.toArray} }:=fun c lim z tk its hz r q=>by
  have hn:=I.hok.fresh (Qf s.heap.objs.size);have em:((spl c lim (L z)).map T).map V.str=(spl c lim (L z)).map fun w=>V.str (T w):=by rw [uJ];rfl
  have hl:=ZdR c lim (L z);refine ⟨.ref s.heap.objs.size,_,I.laid (o:=.lst ((spl c lim (L z)).map fun w=>V.str (T w))) (t':=tk) (fun b o e=>Qe _ e) (Qf _) ⟨by rw [jn];omega,its,0,em▸r,Qh _ rfl⟩,rfl,q _ hn⟩
 have kd:∀(z:Str) (c:Nat),c<256->z.length≠0->(decide (z.length<(⟨#[c]⟩:Str).length) || decide (Builtin.Str.strKind z<Builtin.Str.strKind ⟨#[c]⟩))=false:=fun z c hc hz=>by
  have h1:Builtin.Str.strKind ⟨#[c]⟩=1:=by unfold Builtin.Str.strKind;rw [if_pos (by simpa using hc)]
  have h2:=Zpf z;rw [h1,show (⟨#[c]⟩:Str).length=1 from rfl,decide_eq_false (by omega),decide_eq_false (by omega)];rfl
 have mt:∀(z:Str) (c:Nat),z.length=0->(decide (z.length<(⟨#[c]⟩:Str).length) || decide (Builtin.Str.strKind z<Builtin.Str.strKind ⟨#[c]⟩))=true:=fun z c hz=>by rw [hz];rfl
 have one:∀(z:Str) (c lim:Nat) (t:Tok),(spl c lim (L z)).map T=[z]->ZE (((spl c lim (L z)).map T).map V.str) [.str z t]:=fun z c lim t e=>by rw [e];exact .cons ⟨t,rfl⟩ .nil
 have nil:∀(z:Str) (c lim:Nat),z.length=0->(spl c lim (L z)).map T=[z]:=fun z c lim hz=>by
  have e:L z=[]:=by rw [<-Z7] at hz;exact uP.mp hz
  rw [e];have:=T_L z;rw [e] at this;simp [spl,this]
 unfold Zz9 at h;split at h
 ·rename_i z y;obtain ⟨c,hy,hc,hz,q⟩:=h;obtain ⟨t,rfl⟩:=rx;obtain ⟨u,rfl,t',rfl⟩:=Zab rv;have hy2:=ZfH hy;subst hy2;have hl:=ZdR c ((L z).length+1) (L z);by_cases h0:z.length=0
  ·exact uI F.slot_str_split (ui _ _ _) F.entry_str_split (F.args_str_split_2 _ _) (meets_str_split_cannot_occur z ⟨#[c]⟩ t t' (mt z c h0)) (fin c _ z _ _ hz (one z c _ t (nil z c _ h0)) q)
  ·cases hf:(occurrences z ⟨#[c]⟩ 0 z.length (z.length+1)).isEmpty with
   |true=>exact uI F.slot_str_split (ui _ _ _) F.entry_str_split (F.args_str_split_2 _ _) (meets_str_split_not_found z ⟨#[c]⟩ t t' (kd z c hc h0) rfl hf) (fin c _ z _ _ hz (one z c _ t (by rw [Z7];exact Zfs hf)) q)
   |false=>
    have e:=Zef z c (z.length+1);refine uI F.slot_str_split (ui _ _ _) F.entry_str_split (F.args_str_split_2 _ _) (meets_str_split_sep z ⟨#[c]⟩ t t' (kd z c hc h0) rfl hf (by rw [<-Z7];omega) (by show (partsBetween z _ 1).length<=_;rw [e,jn,<-Z7];omega)) ?_;exact fin c _ z _ _ hz (by show ZE _ (strsFrom _ (partsBetween z _ 1));rw [e,Z7];exact Zes _ _) q
 ·rename_i z y k;obtain ⟨c,hy,hc,hz,k0,k1,q⟩:=h;obtain ⟨t,rfl⟩:=rx;obtain ⟨u,u2,rfl,⟨t',rfl⟩,⟨t2,rfl⟩⟩:=Zf5 rv;have hy2:=ZfH hy;subst hy2;have hk:(decide (k < -(2 ^ 63:Int)) || decide (k ≥ 2 ^ 63))=false:=by rw [decide_eq_false (by omega),decide_eq_false (by omega)];rfl
  have hlim:limitOf z k=k.toNat:=if_neg (by omega);have hl:=ZdR c k.toNat (L z);by_cases h0:z.length=0
  ·exact uI F.slot_str_split (ui _ _ _) F.entry_str_split (F.args_str_split_3 _ _ _) (meets_str_split_max_cannot_occur z ⟨#[c]⟩ k t t' t2 hk (mt z c h0)) (fin c _ z _ _ hz (one z c _ t (nil z c _ h0)) q)
  ·cases hf:(occurrences z ⟨#[c]⟩ 0 z.length (limitOf z k)).isEmpty with
   |true=>exact uI F.slot_str_split (ui _ _ _) F.entry_str_split (F.args_str_split_3 _ _ _) (meets_str_split_max_not_found z ⟨#[c]⟩ k t t' t2 hk (kd z c hc h0) rfl hf) (fin c _ z _ _ hz (one z c _ t (by rw [hlim] at hf;exact Zfs hf)) q)
   |false=>
    have e:=Zef z c (limitOf z k);have e':partsBetween z (occurrences z ⟨#[c]⟩ 0 z.length (limitOf z k)) (⟨#[c]⟩:Str).length=(spl c k.toNat (L z)).map T:=by rw [hlim] at e ⊢;exact e
    refine uI F.slot_str_split (ui _ _ _) F.entry_str_split (F.args_str_split_3 _ _ _) (meets_str_split_sep_max z ⟨#[c]⟩ k t t' t2 hk (kd z c hc h0) rfl hf (by rw [<-Z7];omega) (by rw [e',jn];omega)) ?_;exact fin c _ z _ _ hz (by rw [e'];exact Zes _ _) q
 ·exact h.elim
end
section
variable {X:Cx}
def ZqY (r1 r2:R2) (ta tb tc:TE):TE:=fun σ H Q=>ta σ H fun x H1=>tb σ H1 fun y H2=>r1 x y H2 fun z H3=>match z with
 | .bl k=>if k=true then tc σ H3 fun u H4=>r2 y u H4 Q else Q (.bl false) H3
 |_=>False
theorem Zl7 {op1 op2:CmpOp} {r1 r2:R2} {a b c:jF} {ta tb tc:TE} {pos:Pos} (h1:OpR X (jX op1) r1) (h2:OpR X (jX op2) r2) (ha:PE X a ta) (hb:PE X b tb) (hc:PE X c tc) (hm:lastMarks [op1,op2] [b,c]=false:=by with_unfolding_all rfl):PE X (.Compare a [op1,op2] [b,c] pos) (ZqY r1 r2 ta tb tc):=by
 intro Zb s σ H Q I h;refine Compare_chain (thn (ha Zb s σ H _ I h) fun v s1 ⟨x,H1,I1,rx,q1⟩=>chain_link (thn (hb Zb s1 σ H1 _ I1 q1) fun u s2 ⟨y,H2,I2,ry,q2⟩=>thn (h1 Zb s2 σ H2 x y v u _ I2 rx ry q2) fun k s3 ⟨z,H3,I3,rz,q3⟩=>?_)) hm
 cases z with
 |bl k=>
  cases rz;refine uS ?_
  cases k with
  |true=>exact chain_last (thn (hc Zb s3 σ H3 _ I3 q3) fun t s4 ⟨w',H4,I4,rw',q4⟩=>h2 Zb s4 σ H4 y w' u t _ I4 ry rw' q4)
  |false=>exact ⟨.bl false,H3,I3,rfl,q3⟩
 |_=>exact False.elim q3
def ZtH:List DictEntry->List (Str×V)->Prop
 |[],[]=>True
 |e::es,p::ps=>(∃t,e.key=.str p.1 t)/\ZW p.2 e.val/\ZtH es ps
 |_,_=>False
def Zda:List (Str×V)->Str->Option V
 |[],_=>none
 |p::r,z=>if p.1=z then some p.2 else Zda r z
structure Ze8 (K:Qa) (P:vZ) (a:jk) (kvs:List (Str×V)):Prop where
 ex:∃es n,K.lookup a=some ⟨.type "dict",none,.dict es n,#[]⟩/\PySem.W.KeysLit P es.toList/\ZtH es.toList kvs
 ns:(a==uU)=false
theorem ZgA {z:Str}:∀{es:List DictEntry} {kvs:List (Str×V)},ZtH es kvs->(∃u v,(es.find? fun d=>QU z d.key).map (·.val)=some u/\Zda kvs z=some v/\ZW v u)\/((es.find? fun d=>QU z d.key).map (·.val)=none/\Zda kvs z=none)
 |[],[],_=>.inr ⟨rfl,rfl⟩
 |e::es,p::ps,⟨⟨t,hk⟩,hv,r⟩=>by
  unfold Zda;rw [QN,hk];by_cases q:p.1=z
  ·have:QU z (.str p.1 t)=true:=by subst q;simp [QU]
   rw [this,if_pos q];exact .inl ⟨_,_,rfl,rfl,hv⟩
  ·have:QU z (.str p.1 t)=false:=by simp [QU,q]
   rw [this,if_neg q];exact ZgA r
 |[],_::_,h=>h.elim
 |_::_,[],h=>h.elim
theorem Ze8.map {P:jw} {w:jB} {K:Qa} {a:jk} {kvs:List (Str×V)} {h:Heap} (D:Ze8 K w.params a kvs) (KX:K.In h):∃f,h.MapOf (strKind P w) a f/\∀z,(∃u v,f z=some u/\Zda kvs z=some v/\ZW v u)\/(f z=none/\Zda kvs z=none):=by obtain ⟨es,n,hl,hk,he⟩:=D.ex;refine ⟨_,PySem.W.mapOf_K (prog:=P) KX hl hk,fun z=>?_⟩;have:=ZgA (z:=z) he;obtain ⟨l⟩:=es;unfold findBy;rw [List.find?_toArray];exact this
def Zhv (neg:Bool) (A:jk) (kvs:List (Str×V)):R2:=fun x y H Q=>match x,y with
 | .str z,.ref a=>a=A/\Q (.bl (neg !=(Zda kvs z).isSome)) H
 |_,_=>False
def Zel (A:jk) (kvs:List (Str×V)):R2:=fun x y H Q=>match x,y with
 | .ref a,.str z=>a=A/\∃v,Zda kvs z=some v/\Q v H
 |_,_=>False
theorem Zqa {A:jk} {kvs:List (Str×V)} (D:Ze8 X.K X.w.params A kvs):OpR X (jX .NotIn) (Zhv true A kvs):=by
 intro Zb s σ H x y v u Q I rx ry h;unfold Zhv at h;split at h
 ·rename_i z a;obtain ⟨rfl,q⟩:=h;obtain ⟨t,rfl⟩:=rx;cases ry;obtain ⟨f,hm,hf⟩:=D.map (P:=X.prog) (w:=X.w) I.kIn;refine wpAny_notIn_of (strKind_is X.prog X.w z t) D.ns hm ⟨.bl _,H,I.kept (t':=s.toks+1) fun b o e=>e,rfl,?_⟩;have e:(f z).isSome=(Zda kvs z).isSome:=by rcases hf z with ⟨_,_,e1,e2,_⟩|⟨e1,e2⟩<;>rw [e1,e2]<;>rfl
  rw [e];simpa using q
 ·exact h.elim
theorem Zo3 {A:jk} {kvs:List (Str×V)} (D:Ze8 X.K X.w.params A kvs):IxR X (Zel A kvs):=by
 intro value slice Zb s σ H x y v u Q I rx ry h hs;unfold Zel at h;split at h
 ·rename_i a z;obtain ⟨rfl,v',hv,q⟩:=h;obtain ⟨t,rfl⟩:=ry;cases rx;obtain ⟨f,hm,hf⟩:=D.map (P:=X.prog) (w:=X.w) I.kIn;rcases hf z with ⟨u',v2,e1,e2,r⟩|⟨_,e2⟩
  ·rw [hv] at e2;cases e2;exact tail_any hm.typeIs slot_dict_getitem.lookup (wpAny_getItem_of (strKind_is X.prog X.w z t) hm e1 ⟨v',H,I.kept (t':=s.toks+1) fun b o e=>e,r,q⟩) hs
  ·rw [hv] at e2;cases e2
 ·exact h.elim
structure Zq3 (K:Qa) (a:jk) (xs:List V):Prop where
 ex:∃(o:Obj) (its:Array Value) (n:Nat),K.lookup a=some o/\o.cls=.type "tuple"/\o.data=.seq its n/\its.size<=sizeLine/\ZE xs its.toList
theorem Zq3.sq {K:Qa} {a:jk} {xs:List V} (T:Zq3 K a xs) (H:Hp):SqT K H a xs:=.inr T.ex
structure ZtL (K:Qa) (P:vZ) (mg:Str->Option Value) (a:jk) (kns:List (Str×Str)):Prop where
 ex:∃kvs,Ze8 K P a kvs/\∀z nm,(kns.find? fun p=>p.1=z).map (·.2)=some nm->∃f,mg nm=some (.ref f)/\Zda kvs z=some (.ref f)
def ZC9 (kns:List (Str×Str)) (G:Str->Sp->Prop) (F:St->XK) (tk:TE) (t:TA):TE:=fun σ H Q=>tk σ H fun kv H1=>match kv with
 | .str z=>∃nm sp,(kns.find? fun p=>p.1=z).map (·.2)=some nm/\G nm sp/\t σ H1 fun vs H2=>sp vs H2 Q (F σ)
 |_=>False
theorem ZrV {F:St->XK} {A:jk} {kns:List (Str×Str)} {G:Str->Sp->Prop} {k:Nat} {x:Str} {ke e:jF} {es:List jF} {tk:TE} {t:TA} {p p' pos:Pos} (T:Tk X F) (D:ZtL X.K X.w.params X.mg A kns) (hA:X.mg x=some (.ref A)) (hG:∀nm sp,G nm sp->∃j ps,j<=k/\FnX X.prog X.w X.K X.mg X.base j nm ps sp) (hr:Ye k X.A) (hk:PE X ke tk) (ha:PA X (e::es) t) (hs:Zj2 ke) (hg:Gl X x:=by rfl) (hdb:(x==("__debug__":Str))=false:=by decide)
 (he:jx (e::es) X.env=(false,eval e X.env)::jx es X.env:=by rfl) (hpl:(uu pos (jx es X.env)).any (·.1)=false:=by rfl)
 (hev:eval (.Call (.Subscript (.Name x p) ke p') (e::es) [] pos) X.env=(do callWith pos (<-eval (.Subscript (.Name x p) ke p') X.env) [] (uu pos (jx (e::es) X.env)) (vX pos (vj [] X.env))):=by rfl):
 PE X (.Call (.Subscript (.Name x p) ke p') (e::es) [] pos) (ZC9 kns G F tk t):=by
 intro Zb s σ H Q I h;obtain ⟨kvs,D,hD⟩:=D.ex;refine Call_ ?_ hev;have hsub:PE X (.Subscript (.Name x p) ke p') (tOp (Zel A kvs) (tC (.ref A)) tk):=zw (Zo3 D) (YN (v:=.ref A) hg hA rfl hdb) hk hs
 have h0:∃Q0:VK,tk σ H Q0/\∀kv H1,Q0 kv H1->match kv with
  | .str z=>∃nm sp,(kns.find? fun p=>p.1=z).map (·.2)=some nm/\G nm sp/\t σ H1 fun vs H2=>sp vs H2 Q (F σ)
  |_=>False:=⟨_,h,fun _ _ z=>z⟩
 have hk':PE X ke (fun σ H Q=>∃Q0:VK,tk σ H Q0/\∀v H',Q0 v H'->Q v H'):=hk.imp fun σ H Q h=>h;have hsub:PE X (.Subscript (.Name x p) ke p') (tOp (Zel A kvs) (tC (.ref A)) (fun σ H Q=>∃Q0:VK,tk σ H Q0/\∀v H',Q0 v H'->Q v H')):=zw (Zo3 D) (YN (v:=.ref A) hg hA rfl hdb) hk' hs;refine thn (hsub Zb s σ H (fun v H1=>∃nm sp f,v=.ref f/\X.mg nm=some (.ref f)/\G nm sp/\t σ H1 fun vs H2=>sp vs H2 Q (F σ)) I ?_) fun v s1 ⟨v',H1,I1,rv,nm,sp,f,ev,hf,hg1,q1⟩=>?_
 ·obtain ⟨Q0,a1,a2⟩:=h0;refine ⟨Q0,a1,fun kv H1 q=>?_⟩;have q:=a2 kv H1 q
  cases kv with
  |str z=>
   obtain ⟨nm,sp,e1,e2,e3⟩:=q;obtain ⟨f,f1,f2⟩:=hD z nm e1;exact ⟨rfl,_,f2,nm,sp,f,rfl,f1,e2,e3⟩
  |_=>exact q.elim
 ·subst ev;cases rv;obtain ⟨j,ps,hj,G1⟩:=hG nm sp hg1;obtain ⟨f',fd,G1,hm,hkp,hb⟩:=G1.ex;rw [hf] at hm;cases hm;refine ve (h₀:=X.base) I1.ok.mod.kin hkp (thn (ha pos Zb s1 σ H1 _ I1 q1) fun us s2 ⟨vs,H2,I2,r,q⟩=>⟨I2.kIn,?_⟩) he hpl;have hl:us.length=ps.length:=by rw [<-r.length];exact G1.len _ _ _ _ q
  refine uN (ub (G1.run X.A X.stack s2 H2 ⟨us,[]⟩ us vs Q (F σ) (hr.mono hj) I2.env0 (by simpa using hb s2 us I2.kIn (by simpa using hl)) r q) fun r s' hq=>?_)
  cases r with
  |error e=>exact T.pass Zb σ H2 s2 e s' I2 hq
  |ok fl=>
   cases fl with
   |ret u=>exact I2.after hq
   |next=>exact False.elim hq
   |brk=>exact False.elim hq
   |cont=>exact False.elim hq
end
structure ZtI (P:jw) (w:jB) (K:Qa) (mg:Str->Option Value) (base:Heap) (k:Nat) (f:jk) (fd:j7) (ps:List Str) (sp:jk->Sp):Prop where
 len:∀xa vs H Q E,sp xa vs H Q E->vs.length=ps.length
 run:∀(A:Around) (outer:List Env) (s:jj) (H:Hp) (args:Args) (us:List Value) (vs:List V) (Q:VK) (xa:jk),A.handled=some (.ref xa)->Zby k A->Ze4 P w K mg base A outer s H->Qam s fd args (ps.zip us)->ZE vs us->sp xa vs H Q E0->
  uW (jr P w) A (.call (.ref f) args) (CR CX0 outer P w H s Q E0) s
structure FnZ (P:jw) (w:jB) (K:Qa) (mg:Str->Option Value) (base:Heap) (k:Nat) (x:Str) (ps:List Str) (sp:jk->Sp):Prop where
 ex:∃f fd,ZtI P w K mg base k f fd ps sp/\mg x=some (.ref f)/\jI K (.ref f)=true/\Zaq K fd ps []
section
variable {P:jw} {w:jB} {K:Qa} {mg:Str->Option Value} {base:Heap}
theorem Fun.okZ {x qual:Str} {st:Stmt} {f:jk} {fd:j7} {N ps:List Str} {k:Nat} {sp:jk->Sp} (F:Fun K x qual st f fd) (S:Zw N ps (Zf st)) (len:∀xa vs H Q E,sp xa vs H Q E->vs.length=ps.length)
 (hbody:∀(xa:jk) (cdv:Value) (A:Around) (outer:List Env) (s:jj) (H:Hp) (vs:List V) (Q:VK),(A.deeper (ul qual (Zf st) s.heap.objs.size f cdv)).handled=some (.ref xa)->Zby k (A.deeper (ul qual (Zf st) s.heap.objs.size f cdv))->sp xa vs H Q E0->
  ∃t,PSs (cxW P w K mg base N qual (Zf st) f cdv A outer s H) (Zt st) t/\t {nx:=fun _ H'=>Q .non H',rt:=Q} (Zaa N vs) H):ZtI P w K mg base (k+1) f fd ps sp:=by
 obtain ⟨oc,od,kV,doc,pm,an,cdv,ct,osl,rfl,lk,hcd⟩:=F.ex;refine ⟨len,fun A outer s H args us vs Q xa hh hr e0 hb r hsp=>?_⟩;have hl:=len _ _ _ _ _ hsp;have KX:K.In s.heap:=e0.mod.kin.keeps fun b o e=>(e0.bs b o e).1;have lim:s.heap.NoLimit:=e0.mod.nolimit.keeps fun b o e=>(e0.bs b o e).1
 have hkind:∀y∈ps.zip us,(Zf st).names.lookup y.1=some .local\/((Zf st).names.lookup y.1=some .cell/\((cellsFrom (s.heap.objs.size+1) (Zf st).names []).lookup y.1).isSome=true):=fun ⟨n,v⟩ hy=>by
  rcases S.par n (Vj hy).1 with q|q
  ·exact .inl q
  ·exact .inr ⟨q,QaF _ _ _ (.inl q)⟩
 refine codeAny_call_function (by have:=hr.dp;omega) (KX _ _ lk) rfl S.co S.gen rfl (codeRec_of KX hcd) (hb _ _ _ _ ?_);refine Qay S.kind hkind fun env he s1 x=>?_;subst he;refine ⟨lim.keeps x.toInCall.keep,codeAny_func ?_⟩;obtain ⟨t,ht,hq⟩:=hbody xa cdv A outer s H vs Q hh (hr.deeper _) hsp;have I0:Inv (Zau CX0 P w K mg base N qual (Zf st) f cdv (still A) outer s H E0) [] (Zaa N vs) H s1:=ZgE S rfl e0.still hl r x;refine jU (ht [] s1 (Zaa N vs) H _ I0.toW hq) (fun fl s' hs=>?_) fun e s' hs=>False.elim hs
 have fin:∀{σ':St} {H':Hp} {v:V} {u:Value},Inv (cxW P w K mg base N qual (Zf st) f cdv A outer s H) [] σ' H' s'->ZW v u->Q v H'->CE outer P w H s Q u s':=
  fun {σ' H' v u} J rv q=>⟨v,H',J.os,J.bare,J.base,J.hok,rv,q⟩
 cases fl with
 |ret u=>
  obtain ⟨v,σ',H',J,rv,q⟩:=hs;exact fin J rv q
 |next=>
  obtain ⟨σ',H',J,q⟩:=hs;exact fin (v:=V.non) (u:=Qq) J rfl q
 |brk=>
  obtain ⟨_,_,_,q⟩:=hs;exact False.elim q
 |cont=>
  obtain ⟨_,_,_,q⟩:=hs;exact False.elim q
end
section
variable {X:Cx} {k:Nat} {x:Str} {ps:List Str} {sp:jk->Sp} {p pos:Pos} {e:jF} {es:List jF} {t:TA}
def ZDd (xa:jk) (sp:jk->Sp) (t:TA):TE:=fun σ H Q=>t σ H fun vs H1=>sp xa vs H1 Q E0
theorem ZyE {xa:jk} (hh:X.A.handled=some (.ref xa)) (G:FnZ X.prog X.w X.K X.mg X.base k x ps sp) (hr:Zby k X.A) (ha:PA X (e::es) t) (hg:Gl X x:=by rfl) (hdb:(x==("__debug__":Str))=false:=by decide)
 (he:jx (e::es) X.env=(false,eval e X.env)::jx es X.env:=by rfl) (hpl:(uu pos (jx es X.env)).any (·.1)=false:=by rfl):PE X (.Call (.Name x p) (e::es) [] pos) (ZDd xa sp t):=by
 obtain ⟨f,fd,G,hm,hk,hb⟩:=G.ex;intro Zb s σ H Q I h;refine j0 (Zap I hg hm ?_ hdb);refine ve (h₀:=X.base) I.ok.mod.kin hk (thn (ha pos Zb s σ H _ I h) fun us s1 ⟨vs,H1,I1,r,q⟩=>⟨I1.kIn,?_⟩) he hpl;have hl:us.length=ps.length:=by rw [<-r.length];exact G.len _ _ _ _ _ q
 refine uN (ub (G.run X.A X.stack s1 H1 ⟨us,[]⟩ us vs Q xa hh hr I1.env0 (by simpa using hb s1 us I1.kIn (by simpa using hl)) r q) fun r s' hq=>?_)
 cases r with
 |error e=>exact False.elim hq
 |ok fl=>
  cases fl with
  |ret u=>exact I1.after hq
  |next=>exact False.elim hq
  |brk=>exact False.elim hq
  |cont=>exact False.elim hq
end
def Zss (K:Qa) (C0:jk) (i:Nat) (ts:jk->TS) (th:ZbL->St->XK):ZbL->St->XK:=fun D σ cls d H=>match cls with
 | .ref C=>ExC K C/\if (ZaC K C).contains (.ref C0)=true then ∀a,H a=none->ts a (unb i D) (σ.set i (some (.ref a))) (upd H a (ZgX a C)) else th D σ (.ref C) d H
 |_=>False
theorem Zl9 {X:Cx} {x n:Str} {C0:jk} {i:Nat} {np pos:Pos} {b₀:Stmt} {suite:List Stmt} {J0:List vB} {ts:jk->TS} {th:ZbL->St->XK} (hex:X.ex=[]) (hC0:ExC X.K C0) (hg:Gl X x) (hm:X.mg x=some (.ref C0)) (hN:X.N.Nodup) (hi:X.N[i]?=some n) (hk:X.env.kindOf n=some .local) (hb:∀a,PSs (cxH X a (fun _ _=>False)) (b₀::suite) (ts a)) (hr:PHs X J0 th) (hdb:(x==("__debug__":Str))=false:=by decide):
 PHs X (.ExceptHandler (some (.Name x np)) (some n) (b₀::suite) pos::J0) (Zss X.K C0 i ts th):=by
 intro Zb σ H1 s1 a C a0 B H s2 h D c hfl hup q;have I:=c.inv hfl hup;have hd:X.calm=true->X.A.handled=none:=c.inv1.ok.hd;obtain ⟨hC,q⟩:=q;obtain ⟨ob,hob,hobc⟩:=hfl.1.there;refine wpAny_handleBy_cons (codeAny_handlers_test (Zap (X:=cxH X a (notedBy (jr X.prog X.w) (X.A.mark (some (.ref a))) X.env (cameBackBy (jr X.prog X.w) X.A X.env X.xe))) (I.marked a _) hg hm ?_ hdb)) (by intro z;cases z);refine Zis (s:= {s2 with heap:=h}) I.kIn hC hC0 hob hobc ?_
 cases e:(ZaC X.K C).contains (.ref C0) with
 |true=>
  rw [e] at q;refine codeAny_handlers_suite_as (Zhf hfl fun h3 hfl3 hup3=>?_);obtain ⟨ha,I3⟩:=c.held hex hfl3 (hup.trans hup3);refine Zcm I3 hN hi (.inl hk) (show ZW (.ref a) (.ref a) from rfl) (fun s4 I4=>?_) (.inr hk);refine jU (hb a Zb _ _ _ _ (I4.marked a _) (q a ha)) (fun f s' z=>?_) fun _ _ z=>False.elim z;have z:=z.unmarked hd
  cases f with
  |next=>obtain ⟨σ',H',J,w'⟩:=z;exact ZeQ J hN hi hk fun s5 J5=>⟨_,H',J5,w'⟩
  |brk=>obtain ⟨σ',H',J,w'⟩:=z;exact ZeQ J hN hi hk fun s5 J5=>⟨_,H',J5,w'⟩
  |cont=>obtain ⟨σ',H',J,w'⟩:=z;exact ZeQ J hN hi hk fun s5 J5=>⟨_,H',J5,w'⟩
  |ret u=>obtain ⟨v,σ',H',J,r,w'⟩:=z;exact ZeQ J hN hi hk fun s5 J5=>⟨v,_,H',J5,r,w'⟩
 |false=>
  rw [e] at q;exact hr Zb σ H1 s1 a C a0 B H s2 h D c hfl hup q
def ZhS (h:Heap) (z TI TO:jk):Prop:=∃(t:jk) (b:Bool) (o:Obj),h.get? z=some {cls:=.type "zip",dict:=none,data:=.fields #[ua t,.bool b,.bool false,.ref TI,.ref TO],slots:=#[]}/\h.get? t=some o/\t≠z
section
variable {prog:jw} {w:jB} {A:Around} {E:Value->jj->Prop} {s:jj} {z TI TO i1 i2 l1 l2:jk} {k1 k2:Nat} {xs ys:Array Value}
theorem Zke {Q:Bool->jj->Prop} (hz:ZhS s.heap z TI TO) (hQ:∀h',ZhS h' z TI TO->Heap.SameBut z s.heap h'->Q false {s with heap:=h'}):jo (jr prog w) A (Builtin.SmallTypes.ownedTupleIsFree (.ref z)) Q E s:=by
 obtain ⟨t,b,o,g,ht,ne⟩:=hz;unfold Builtin.SmallTypes.ownedTupleIsFree;refine ji (uj g rfl (x:=ua t) rfl ?_);show jo _ _ (loadIfAlive ((t:Int).toNat) >>=_) _ _ _;rw [Qn];refine ji ?_;have la:∀(Q':Option Obj->jj->Prop),Q' (s.heap.get? t) s->jo (jr prog w) A (loadIfAlive t) Q' E s:=fun Q' q Γ p hΓ=>by show Sem.wp _ _ (Sem.loadIfAlive t Sem.pure) _ _ _ _;rw [Sem.wp_loadIfAlive,Sem.wp_pure];exact q
 refine la _ ?_;rw [ht];show jo _ _ (field (.ref z) 1 >>=_) _ _ _;refine ji (uj g rfl (x:=.bool b) rfl ?_)
 cases b with
 |true=>
  refine jl (hQ s.heap ⟨t,true,o,g,ht,ne⟩ ⟨rfl,fun _ _=>rfl⟩)
 |false=>
  show jo _ _ (QaA (.ref z) 1 (.bool true) >>=_) _ _ _;refine ji (uq g (by simp) fun h' hz' hs'=>jl (hQ h' ⟨t,true,o,hz',(hs'.2 t ne).trans ht,ne⟩ hs'))
theorem ZsA {x y:Value} {Q:Option Value->jj->Prop} (D:vY z TI TO i1 i2 l1 l2) (hz:ZhS s.heap z TI TO) (hTI:v4 s.heap TI (.ref i1) (.ref i2))
 (h1:s.heap.IsListIter i1 l1 k1) (h2:s.heap.IsListIter i2 l2 k2) (hl1:s.heap.IsList l1 xs) (hl2:s.heap.IsList l2 ys) (hx:xs[k1]?=some x) (hy:ys[k2]?=some y)
 (hQ:∀h',ZhS h' z TI TO->h'.IsListIter i1 l1 (k1+1)->h'.IsListIter i2 l2 (k2+1)->v4 h' s.heap.objs.size x y->(∀c o,c≠z->c≠i1->c≠i2->s.heap.get? c=some o->h'.get? c=some o)->Q (some (.ref s.heap.objs.size)) {s with heap:=h'}):
 jo (jr prog w) A (uf (.ref z)) Q E s:=by
 have hT:s.TypeIs (.ref z) "zip":=by obtain ⟨t,b,o,g,_⟩:=hz;exact ⟨_,g,rfl⟩
 obtain ⟨t,b,o,g,ht,ne⟩:=id hz;unfold uf;refine ji (jV (jM (name:=Qc "__next__") hT F.slot_zip_next (jP F.slot_zip_next hT F.entry_zip_next ?_ (F.args_zip_next_1 _))));show jo _ _ (field (.ref z) 2 >>=_) _ _ _;refine ji (uj g rfl (x:=.bool false) rfl ?_);show jo _ _ (field (.ref z) 3 >>=_) _ _ _;refine ji (uj g rfl (x:=.ref TI) rfl (ji (u6 hTI rfl ?_)));show jo _ _ (Builtin.SmallTypes.ownedTupleIsFree (.ref z) >>=_) _ _ _;refine ji (Zke hz fun ha hza hsa=>?_);rw [if_neg Qg];dsimp only;refine ji ?_;rw [<-Vy];show jo _ _ (forIn [Value.ref i1,Value.ref i2] _ _) _ _ _;rw [Uv];refine ji (ji (jS ?_));show jo _ _ (Builtin.SmallTypes.nextOf (.ref i1) >>=_) _ _ _;refine ji (wpAny_nextOf_list_item (h1.extBut hsa.extBut D.i1z) (hl1.extBut hsa.extBut D.l1z) hx fun hb b1 hsb=>jl (jl ?_));dsimp only;rw [Uv];refine ji (ji (jS ?_));show jo _ _ (Builtin.SmallTypes.nextOf (.ref i2) >>=_) _ _ _;refine ji (wpAny_nextOf_list_item ((h2.extBut hsa.extBut D.i2z).extBut hsb.extBut D.i12.symm) ((hl2.extBut hsa.extBut D.l2z).extBut hsb.extBut D.l2i1) hy fun hc c1 hsc=>jl (jl ?_));dsimp only;rw [List.forIn_nil];refine jl ?_;dsimp only;refine ji (vN ?_ (by show 2<=sizeLine;rw [jt];decide));have esz:hc.objs.size=s.heap.objs.size:=by rw [hsc.1,hsb.1,hsa.1]
 refine jl ⟨_,rfl,jl ?_⟩;have up:∀c o,c≠i1->c≠i2->ha.get? c=some o->hc.get? c=some o:=fun c o n1 n2 e=>(hsc.2 c n2).trans ((hsb.2 c n1).trans e)
 have hzc:ZhS hc z TI TO:=by
  obtain ⟨t',b',o',g',ht',ne'⟩:=hza
  have:∃o2,hc.get? t'=some o2:=by
   by_cases n1:t'=i1
   ·subst n1;obtain ⟨oo,e,_⟩:=b1;exact ⟨oo,(hsc.2 _ D.i12).trans e⟩
   ·by_cases n2:t'=i2
    ·subst n2;obtain ⟨oo,e,_⟩:=c1;exact ⟨oo,e⟩
    ·exact ⟨o',up t' o' n1 n2 ht'⟩
  obtain ⟨o2,e2⟩:=this;exact ⟨t',b',o2,up z _ D.i1z.symm D.i2z.symm g',e2,ne'⟩
 have r:=hQ (hc.push {cls:=.type "tuple",data:=.seq #[x,y]}) ?_ ?_ ?_ ?_ ?_
 ·rw [<-esz] at r;exact r
 ·obtain ⟨t',b',o',g',ht',ne'⟩:=hzc;exact ⟨t',b',o',Qe _ g',Qe _ ht',ne'⟩
 ·exact (b1.at fun o e=>(hsc.2 _ D.i12).trans e).at fun o e=>Qe _ e
 ·exact c1.at fun o e=>Qe _ e
 ·rw [<-esz];exact Qh _ rfl
 ·exact fun c o n0 n1 n2 e=>Qe _ (up c o n1 n2 ((hsa.2 c n0).trans e))
theorem ZAq {Q:Option Value->jj->Prop} (hh:A.handled=none) (D:vY z TI TO i1 i2 l1 l2) (hz:ZhS s.heap z TI TO) (hTI:v4 s.heap TI (.ref i1) (.ref i2))
 (h1:s.heap.IsListIter i1 l1 k1) (hl1:s.heap.IsList l1 xs) (hx:xs[k1]?=none)
 (hQ:∀h',(∀c o,c≠z->c≠i1->c≠i2->s.heap.get? c=some o->h'.get? c=some o)->Q none {s with heap:=h'}):
 jo (jr prog w) A (uf (.ref z)) Q E s:=by
 have hT:s.TypeIs (.ref z) "zip":=by obtain ⟨t,b,o,g,_⟩:=hz;exact ⟨_,g,rfl⟩
 obtain ⟨t,b,o,g,ht,ne⟩:=id hz;unfold uf;refine ji (jV (jM (name:=Qc "__next__") hT F.slot_zip_next (jP F.slot_zip_next hT F.entry_zip_next ?_ (F.args_zip_next_1 _))));show jo _ _ (field (.ref z) 2 >>=_) _ _ _;refine ji (uj g rfl (x:=.bool false) rfl ?_);show jo _ _ (field (.ref z) 3 >>=_) _ _ _;refine ji (uj g rfl (x:=.ref TI) rfl (ji (u6 hTI rfl ?_)));show jo _ _ (Builtin.SmallTypes.ownedTupleIsFree (.ref z) >>=_) _ _ _;refine ji (Zke hz fun ha hza hsa=>?_);rw [if_neg Qg];dsimp only;refine ji ?_;rw [<-Vy];show jo _ _ (forIn [Value.ref i1,Value.ref i2] _ _) _ _ _;rw [Uv];refine ji (ji (jS ?_));show jo _ _ (Builtin.SmallTypes.nextOf (.ref i1) >>=_) _ _ _;refine ji (wpAny_nextOf_list_end hh (h1.extBut hsa.extBut D.i1z) (hl1.extBut hsa.extBut D.l1z) hx fun hb e hsb he=>?_);obtain ⟨oe,hoe,hce⟩:=he;refine ji (vb (T:="StopIteration") (b:=true) ⟨oe,hoe,hce⟩ vU ?_);exact jl (hQ _ fun c o n0 n1 n2 q=>hsb _ _ n1 ((hsa.2 c n0).trans q))
def ZtM (h:Heap) (z TI TO:jk):Prop:=(IsZip h z TI TO .none/\∃a b,v4 h TO a b)\/ZhS h z TI TO
theorem ZsB {x y:Value} {Q:Option Value->jj->Prop} (D:vY z TI TO i1 i2 l1 l2) (hz:ZtM s.heap z TI TO) (hTI:v4 s.heap TI (.ref i1) (.ref i2))
 (h1:s.heap.IsListIter i1 l1 k1) (h2:s.heap.IsListIter i2 l2 k2) (hl1:s.heap.IsList l1 xs) (hl2:s.heap.IsList l2 ys) (hx:xs[k1]?=some x) (hy:ys[k2]?=some y)
 (hQ:∀h',ZhS h' z TI TO->h'.IsListIter i1 l1 (k1+1)->h'.IsListIter i2 l2 (k2+1)->v4 h' s.heap.objs.size x y->(∀c o,c≠z->c≠TO->c≠i1->c≠i2->s.heap.get? c=some o->h'.get? c=some o)->Q (some (.ref s.heap.objs.size)) {s with heap:=h'}):
 jo (jr prog w) A (uf (.ref z)) Q E s:=by
 rcases hz with ⟨g,a,b,gT⟩|hz
 ·have lz:=Qj g;exact wpAny_pyNext_zip_item D g hTI gT h1 h2 hl1 hl2 hx hy fun h' a1 a2 a3 a4 a5 a6 a7=>hQ h' ⟨_,false,_,a1,a5,QX lz⟩ a3 a4 a5 a7
 ·exact ZsA D hz hTI h1 h2 hl1 hl2 hx hy fun h' a1 a2 a3 a4 a5=>hQ h' a1 a2 a3 a4 fun c o n0 _ n1 n2 e=>a5 c o n0 n1 n2 e
theorem ZAr {Q:Option Value->jj->Prop} (hh:A.handled=none) (D:vY z TI TO i1 i2 l1 l2) (hz:ZtM s.heap z TI TO) (hTI:v4 s.heap TI (.ref i1) (.ref i2))
 (h1:s.heap.IsListIter i1 l1 k1) (h2:s.heap.IsListIter i2 l2 k2) (hl1:s.heap.IsList l1 xs) (hl2:s.heap.IsList l2 ys) (hx:xs[k1]?=none)
 (hQ:∀h',(∀c o,c≠z->c≠TO->c≠i1->c≠i2->s.heap.get? c=some o->h'.get? c=some o)->Q none {s with heap:=h'}):
 jo (jr prog w) A (uf (.ref z)) Q E s:=by
 rcases hz with ⟨g,a,b,gT⟩|hz
 ·exact wpAny_pyNext_zip_end hh D g hTI gT h1 h2 hl1 hl2 (.inl hx) hQ
 ·exact ZAq hh D hz hTI h1 hl1 hx fun h' a=>hQ h' fun c o n0 _ n1 n2 e=>a c o n0 n1 n2 e
theorem ZpX {R:Qaq->jj->Prop} {Dd:jk} {its ist:List Value} {ps:List (Key×Value)} (hh:A.handled=none) (D:vY z TI TO i1 i2 l1 l2) (nz:Dd≠z) (nTI:Dd≠TI) (nTO:Dd≠TO) (n1:Dd≠i1) (n2:Dd≠i2) (nl1:Dd≠l1) (nl2:Dd≠l2)
 (e1:its.length=ps.length) (e2:ist.length=ps.length) (hz:ps.length<=sizeLine) (hk:∀(j:Nat) u (p:Key×Value),its[j]?=some u->ps[j]?=some p->Zdt p.1 u=true) (hv:∀(j:Nat) v (p:Key×Value),ist[j]?=some v->ps[j]?=some p->v=p.2):
 ∀(n i:Nat) (s:jj) (vs:List (Key×Value)),ps.length-i=n->i<=ps.length->vs.length<=i->ZtM s.heap z TI TO->v4 s.heap TI (.ref i1) (.ref i2)->s.heap.IsListIter i1 l1 i->s.heap.IsListIter i2 l2 i->s.heap.IsList l1 its.toArray->s.heap.IsList l2 ist.toArray->s.heap.DictOf (zO prog w) Dd vs->
  (∀h' tk,(∀c o,c≠Dd->c≠z->c≠TO->c≠i1->c≠i2->s.heap.get? c=some o->h'.get? c=some o)->h'.DictOf (zO prog w) Dd (Zkm vs (ps.drop i))->R (.ok (.ret .none)) {s with heap:=h',toks:=tk})->
  uW (jr prog w) A (.builtin "dict.update.loop" ⟨[.ref Dd,.ref z,ua (i:Int),.none],[]⟩) R s:=by
 intro n
 induction n with
 |zero=>
  intro i s vs hn hi hvs zs pTI q1 q2 g1 g2 dd fin;refine j9 JW ?_;rw [Around.under_plainId zP _];show jo _ A.in1 (uf (.ref z) >>=_) _ _ s;refine ji (ZAr hh D zs pTI q1 q2 g1 g2 (by simp;omega) fun h' eb=>ji (jl (jl (fin h' s.toks (fun c o _ c1 c2 c3 c4 e=>eb c o c1 c2 c3 c4 e) ?_))));rw [List.drop_of_length_le (by omega)];obtain ⟨ob,es,ep,e,r⟩:=dd;exact ⟨ob,es,ep,eb _ _ nz nTO n1 n2 e,r⟩
 |succ n ih=>
  intro i s vs hn hi hvs zs pTI q1 q2 g1 g2 dd fin;have lt:i<ps.length:=by omega
  have hx:its[i]?=some (its[i]'(by omega)):=Qd _;have hy:ist[i]?=some (ist[i]'(by omega)):=Qd _;have ep:ps[i]?=some ps[i]:=Qd _;have ku:=hk i _ _ hx ep;have ev:=hv i _ _ hy ep;generalize its[i]'(by omega)=u at hx ku;generalize ist[i]'(by omega)=v at hy ev;subst ev;generalize hp:ps[i]=p at ep ku hy;refine j9 JW ?_;rw [Around.under_plainId zP _];show jo _ A.in1 (uf (.ref z) >>=_) _ _ s;refine ji (ZsB D zs pTI q1 q2 g1 g2 (x:=u) (y:=p.2) (by simpa using hx) (by simpa using hy) fun h' a1 a2 a3 a4 a5=>?_);show jo _ A.in1 (vH [Value.ref s.heap.objs.size] _ >>=_) _ _ _;refine ji (jS (ji ?_));have hpi:∀(Q:List Value->jj->Prop) (E:Value->jj->Prop),Q [u,p.2] {s with heap:=h'}->jo (jr prog w) A.in1 (Builtin.Dict.pairItems (Value.ref s.heap.objs.size)) Q E {s with heap:=h'}:=fun Q E q=>by have hT:({s with heap:=h'}:jj).TypeIs (.ref s.heap.objs.size) "tuple":=⟨_,a4,rfl⟩;unfold Builtin.Dict.pairItems;refine ji (Qae hT ?_);rw [if_pos (by decide)];exact ji (u6 a4 rfl (jl q))
  refine wpAny_tryCatch (hpi _ _ ?_);show jo _ _ (vH [u,p.2] (dictSet Dd u p.2)) _ _ _;have dd':h'.DictOf (zO prog w) Dd vs:=by obtain ⟨ob,es,epp,e,r⟩:=dd;exact ⟨ob,es,epp,a5 _ _ nz nTO n1 n2 e,r⟩
  refine jS (wpAny_dictSet_pairs (s:= {s with heap:=h'}) (knd:=zO prog w) ku dd' (fun h2 dd2 sb2=>?_) (by omega));refine jl ⟨uX zP _,?_⟩;have er:ua ((i:Int)+1)=ua ((i+1:Nat):Int):=by rw [Int.natCast_add];rfl
  rw [er];have keep:∀c o,c≠Dd->c≠z->c≠TO->c≠i1->c≠i2->s.heap.get? c=some o->h2.get? c=some o:=fun c o c0 c1 c2 c3 c4 e=>(sb2.2 c c0).trans (a5 c o c1 c2 c3 c4 e);refine ih (i+1) {s with heap:=h2,toks:=s.toks+1} _ (by omega) (by omega) (by have:=Zjo vs p.1 p.2;omega) (.inr ?_) ?_ (a2.at fun o e=>(sb2.2 _ (Ne.symm n1)).trans e) (a3.at fun o e=>(sb2.2 _ (Ne.symm n2)).trans e) (g1.at fun o e=>keep _ o (Ne.symm nl1) D.l1z D.l1TO D.l1i1 D.l1i2 e) (g2.at fun o e=>keep _ o (Ne.symm nl2) D.l2z D.l2TO D.l2i1 D.l2i2 e) dd2 fun h3 tk keep3 dd3=>?_
  ·obtain ⟨t,b,o,w1,w2,w3⟩:=a1;by_cases c0:t=Dd
   ·subst c0;obtain ⟨ob,es,epp,e,r⟩:=dd2;exact ⟨t,b,ob,(sb2.2 _ (Ne.symm nz)).trans w1,e,w3⟩
   ·exact ⟨t,b,o,(sb2.2 _ (Ne.symm nz)).trans w1,(sb2.2 _ c0).trans w2,w3⟩
  ·exact keep _ _ (Ne.symm nTI) D.TIz D.TITO D.TIi1 D.TIi2 pTI
  ·refine fin h3 tk (fun c o c0 c1 c2 c3 c4 e=>keep3 c o c0 c1 c2 c3 c4 (keep c o c0 c1 c2 c3 c4 e)) ?_;rw [Q1 lt,hp];exact dd3
end
theorem Zga:vG (.type "zip") "keys"=pure none:=am_miss_of_fast (by rfl')
theorem Zf6:vG (.type "zip") "__getattr__"=pure none:=by rw [uR,uo];kernel_rfl
theorem ZcK:vE table "zip.__getattribute__"=some Builtin.«object.__getattribute__»:=vV (id':="object.__getattribute__") (by kernel_rfl) (by rfl') (by rfl') (by kernel_rfl)
theorem Zi2 (z:jk) (ws:Array Value) (name:Str) (u:Tok) (hmiss:vG (.type "zip") name=pure none) (hname:(["__module__","__name__","__qualname__","__doc__","__annotations__"]:List Str).contains name=false) (hsz:name.length+100<=sizeLine):
 Meets (Builtin.«object.__getattribute__» ⟨[.ref z,.str name u],[]⟩) (fun A R s=>s.heap.get? z=some {cls:=.type "zip",dict:=none,data:=.fields ws,slots:=#[]}/\raisesAttr (.ref z) name A R s):=
 Meets.of_wp fun prog w A R s hs=>by
  obtain ⟨hp,g,d,tk,os⟩:=s;obtain ⟨hx,hs⟩:=hs;have hT:(⟨hp,g,d,tk,os⟩:jj).TypeIs (.ref z) "zip":=⟨_,hx,rfl⟩
  unfold Builtin.«object.__getattribute__»
  repeat (any_goals (first|assumption|wp_step))
  simp only [hname,Q4,if_false];repeat (any_goals (first|assumption|wp_step))
  exact wpAny_raiseAttrError hs.1 hs.2 (attrMsg_fits (by rfl') hsz)
theorem Zgp {prog:jw} {w:jB} {A:Around} {E:Value->jj->Prop} {s:jj} {z:jk} {ws:Array Value} {Q:Option Value->jj->Prop}
 (hx:s.heap.get? z=some {cls:=.type "zip",dict:=none,data:=.fields ws,slots:=#[]}) (hA:A.handled=none) (h:∀h' tk,(∀b ob,s.heap.get? b=some ob->h'.get? b=some ob)->Q none {s with heap:=h',toks:=tk}):
 jo (jr prog w) A (getAttr? (.ref z) "keys") Q E s:=by
 obtain ⟨hp,g,d,tk,os⟩:=s;have hT:∀tk',(⟨hp,g,d,tk',os⟩:jj).TypeIs (.ref z) "zip":=fun _=>⟨_,hx,rfl⟩;have f1:=sub_AttributeError;have f3:=F.slot_zip_getattribute.lookup;have f4:=F.slot_zip_getattribute.bind (.ref z);have f5:=Zf6;unfold getAttr? getAttrBy? getAttrBy
 repeat (any_goals (first|assumption|exact hT _|((with_reducible show jo _ _ (call (V0 "zip.__getattribute__") _ _) _ _ _);refine uI F.slot_zip_getattribute (hT _) ZcK (F.args_zip_getattribute_2 _ _) (Zi2 z ws _ _ Zga (by rfl') (by size_fits)) ⟨hx,hA,fun h' tk' e hx'=>?_⟩)|wp_step))
 obtain ⟨t',u',he⟩:=hx'.there;show jo _ _ (getattributeRaised _ _ _ _ _ _ _) _ _ _;unfold getattributeRaised;repeat (any_goals (first|assumption|wp_step))
 exact h _ _ hx'.keeps
section
variable {prog:jw} {w:jB} {A:Around} {E:Value->jj->Prop} {s:jj} {z TI TO i1 i2 l1 l2:jk} {its ist:List Value} {ps:List (Key×Value)} {Q:Value->jj->Prop}
theorem Zg5 (hh:A.handled=none) (D:vY z TI TO i1 i2 l1 l2) (hz:IsZip s.heap z TI TO .none) (hTI:v4 s.heap TI (.ref i1) (.ref i2)) (hTO:∃a b,v4 s.heap TO a b) (h1:s.heap.IsListIter i1 l1 0) (h2:s.heap.IsListIter i2 l2 0) (hl1:s.heap.IsList l1 its.toArray) (hl2:s.heap.IsList l2 ist.toArray)
 (e1:its.length=ps.length) (e2:ist.length=ps.length) (hsz:ps.length<=sizeLine) (hk:∀(j:Nat) u (p:Key×Value),its[j]?=some u->ps[j]?=some p->Zdt p.1 u=true) (hv:∀(j:Nat) v (p:Key×Value),ist[j]?=some v->ps[j]?=some p->v=p.2)
 (fin:∀h' tk,(∀c o,c≠z->c≠TO->c≠i1->c≠i2->s.heap.get? c=some o->h'.get? c=some o)->h'.DictOf (zO prog w) s.heap.objs.size (Zkm [] ps)->Q (.ref s.heap.objs.size) {s with heap:=h',toks:=tk}):
 jo (jr prog w) A (call (.type "dict") [.ref z]) Q E s:=by
 refine callType_codes (Q₁:=fun obj s₁=>obj=.ref s.heap.objs.size/\s₁= {s with heap:=s.heap.push {cls:=.type "dict",data:=.dict #[]} }) F.kt_called_dict (F.kt_typeCall_dict_1 _) F.entry_dict_init (kt_code_dict_new _ ⟨rfl,rfl⟩) ?_;rintro obj s₁ ⟨rfl,rfl⟩;have hnew:(s.heap.push {cls:=.type "dict",data:=.dict #[]}).DictOf (zO prog w) s.heap.objs.size []:=Heap.DictOf.new s.heap;have kp0:∀c o,s.heap.get? c=some o->(s.heap.push {cls:=.type "dict",data:=.dict #[]}).get? c=some o:=fun c o e=>Qe _ e;refine ⟨hnew.typeIs,F.args_dict_init_2 _ _,?_⟩
 unfold Builtin.«dict.__init__»
 refine ji ?_;unfold Builtin.Dict.selfAndRest;refine ji (wpAny_notOrdered_dict hnew.typeIs ?_);show jo _ _ (pure (s.heap.objs.size,[Value.ref z])) _ _ _;refine jl ?_;show jo _ _ (Builtin.Dict.updateFrom "dict.__init__" s.heap.objs.size (.ref z) [] .none) _ _ _;unfold Builtin.Dict.updateFrom;refine ji (Qae (show ({s with heap:=s.heap.push {cls:=.type "dict",data:=.dict #[]} }:jj).TypeIs (.ref z) "zip" from ⟨_,kp0 _ _ hz,rfl⟩) ?_);rw [if_pos (by decide)];refine ji (Zgp (s:= {s with heap:=s.heap.push {cls:=.type "dict",data:=.dict #[]} }) (kp0 _ _ hz) hh fun h1' tk1 keep1=>?_);rw [show (none:Option Value).isNone=true from rfl,if_pos rfl];refine ji (uC ?_);have keep0:∀c o,s.heap.get? c=some o->h1'.get? c=some o:=fun c o e=>keep1 c o (kp0 c o e);have dd1:h1'.DictOf (zO prog w) s.heap.objs.size []:=by obtain ⟨ob,es,ep,e,r⟩:=hnew;exact ⟨ob,es,ep,keep1 _ _ e,r⟩
 have ne:∀{b:jk} {ob:Obj},s.heap.get? b=some ob->s.heap.objs.size≠b:=fun e=>QX (Qj e);obtain ⟨a,b,hTO⟩:=hTO;refine ji (wpAny_pyIter_zip (s:= {s with heap:=h1',toks:=tk1}) (keep0 _ _ hz) ?_);refine jl ⟨uX zP _,?_⟩;have n1:s.heap.objs.size≠i1:=by obtain ⟨o,e,_⟩:=h1;exact ne e
 have n2:s.heap.objs.size≠i2:=by obtain ⟨o,e,_⟩:=h2;exact ne e
 have m1:s.heap.objs.size≠l1:=by obtain ⟨o,e,_⟩:=hl1;exact ne e
 have m2:s.heap.objs.size≠l2:=by obtain ⟨o,e,_⟩:=hl2;exact ne e
 refine ZpX (A:=A.in1) hh D (ne hz) (ne hTI) (ne hTO) n1 n2 m1 m2 e1 e2 hsz hk hv ps.length 0 {s with heap:=h1',toks:=tk1} [] rfl (Qu _) (Qf _) (.inl ⟨keep0 _ _ hz,a,b,keep0 _ _ hTO⟩) (keep0 _ _ hTI) (h1.at fun o e=>keep0 _ o e) (h2.at fun o e=>keep0 _ o e) (hl1.at fun o e=>keep0 _ o e) (hl2.at fun o e=>keep0 _ o e) dd1 fun h3 tk keep3 dd3=>?_;exact ⟨rfl,fin h3 tk (fun c o c1 c2 c3 c4 e=>keep3 c o (Ne.symm (ne e)) c1 c2 c3 c4 (keep0 c o e)) dd3⟩
end
section
variable {X:Cx}
def ZeN (ks:List (List Nat)) (xs:List V):List (Key×V):=(ks.map fun q=>(Sum.inr (T q):Key)).zip xs
theorem Zph:∀(ks:List (List Nat)) (xs:List V) (us:List Value),ks.length=xs.length->ZE xs us->KV (ZeN ks xs) ((ks.map fun q=>(Sum.inr (T q):Key)).zip us)
 |[],[],_,_,.nil=>.nil
 |k::ks,x::xs,u::us,h,.cons r rr=>.cons ⟨rfl,r⟩ (Zph ks xs us (Nat.succ.inj h) rr)
def ZjI (K:Qa) (Q:VK):List V->Hp->Prop:=fun vs H1=>match vs with
 |[.ref a,.ref b]=>∃(ks:List (List Nat)) (xs:List V),SqL K H1 a (ks.map fun q=>V.str (T q))/\SqL K H1 b xs/\ks.length=xs.length/\∀d,H1 d=none->Q (.ref d) (upd H1 d (.dK (ZbZ (ZeN ks xs) [])))
 |_=>False
def ZqM (K:Qa) (ta:TA):TE:=fun σ H Q=>ta σ H (ZjI K Q)
theorem Zqi {K:Qa} {x y:jF} {ta:TA} {p0 p p' pos:Pos} (hK:X.K=K) (hc:X.calm=true) (hmd:X.mg "dict"=none) (hmz:X.mg "zip"=none) (ha:PA X [x,y] ta)
 (hg0:Gl X "dict":=by rfl) (hgl:Gl X "zip":=by rfl) (hs:jx [x,y] X.env=[(false,eval x X.env),(false,eval y X.env)]:=by rfl) (hs2:jx [y] X.env=[(false,eval y X.env)]:=by rfl)
 (hsd:jx [.Call (.Name "zip" p) [x,y] [] p'] X.env=[(false,eval (.Call (.Name "zip" p) [x,y] [] p') X.env)]:=by rfl):
 PE X (.Call (.Name "dict" p0) [.Call (.Name "zip" p) [x,y] [] p'] [] pos) (ZqM K ta):=by
 subst hK;intro Zb s σ H Q I h;refine j0 (Zbr I hg0 hmd Zrc ?_);refine PyProof.Rows.callWith_type1 ?_ hsd rfl;rw [hsd];show jo _ _ (spliced ((false,_)::[])) _ _ s;refine Calls.spliced_cons ?_;refine Call_ (Zbr I hgl hmz ZuE (PyProof.Rows.callWith_type1 (thn (ha p' Zb s σ H _ I h) fun us s1 ⟨vs,H1,I1,r1,q1⟩=>?_) (by rw [hs,hs2]) (by rw [hs2];rfl)));unfold ZjI at q1;split at q1
 ·rename_i a b;obtain ⟨ks,xs,hq1,hq2,el,q⟩:=q1;obtain ⟨u1,u2,rfl,r,r'⟩:=Zf5 r1;cases r;cases r';obtain ⟨its,rv1,p1,z1⟩:=I1.list hq1;obtain ⟨ist,rv2,p2,z2⟩:=I1.list hq2;refine call_zip_2 p1.isList p2.isList fun h' k1 k2 k3 k4 k5 k6 k7=>?_;refine Calls.spliced_nil ?_;have la:a<s1.heap.objs.size:=by obtain ⟨o,q,_⟩:=p1.isList;exact Qj q
  have lb:b<s1.heap.objs.size:=by obtain ⟨o,q,_⟩:=p2.isList;exact Qj q
  have D:=Zmv la lb;have l1:=rv1.length;have l2:=rv2.length;rw [jn] at l1;have lp:((ks.map fun q=>(Sum.inr (T q):Key)).zip ist).length=ks.length:=by rw [WQ,jn];omega
  have hz2:h'.objs.size=s1.heap.objs.size+5:=k6;refine Zg5 (s:= {s1 with heap:=h'}) (ps:=(ks.map fun q=>(Sum.inr (T q):Key)).zip ist) (I1.ok.hd hc) D k1 k2 ⟨_,_,k3⟩ k4 k5 (p1.isList.at fun o e=>k7 _ o e) (p2.isList.at fun o e=>k7 _ o e) (by rw [lp];omega) (by rw [lp];omega) (by rw [lp];omega) (fun j u p g1 g2=>?_) (fun j v p g1 g2=>?_) fun h3 tk keep dd=>?_
  ·obtain ⟨g3,g4⟩:=V6.mp g2;rw [Qi] at g3;obtain ⟨q',hq',e'⟩:=Qz.mp g3;have rk:ZW (V.str (T q')) u:=by obtain ⟨u',hu,ru⟩:=rv1.get (i:=j) (x:=V.str (T q')) (by rw [Qi,hq'];rfl);rw [g1] at hu;cases hu;exact ru
   rw [<-e'];exact Zft (P:=X.prog) (w:=X.w) (k:=Sum.inr (T q')) rk
  ·obtain ⟨g3,g4⟩:=V6.mp g2;rw [g1] at g4;exact Option.some.inj g4
  ·have lf:=Zil (ZeN ks xs) [];have lzk:(ZeN ks xs).length=ks.length:=by unfold ZeN;rw [WQ,jn];omega
   rw [j8] at lf;have big:=I1.big;have hsz:sizeLine=16777216:=jt;have up:∀c o,s1.heap.get? c=some o->h3.get? c=some o:=fun c o e=>by have lc:=Qj e;have nk:∀k:Nat,c≠(s1.heap.objs.size+k:Nat):=fun k=>Qm (Ql lc (WP _ _));exact keep c o (nk 4) (nk 3) (nk 0) (nk 1) (k7 c o e)
   have hsn:s1.heap.objs.size<=h'.objs.size:=by omega
   refine ⟨.ref h'.objs.size,_,I1.laid (a:=h'.objs.size) (o:=.dK (ZbZ (ZeN ks xs) [])) (t':=tk) up hsn ⟨by omega,beq_false_of_ne (QX (Ql big hsn)),_,KV.fill (Zph ks xs ist el rv2) .nil,dd⟩,rfl,q _ (I1.hok.fresh hsn)⟩
 ·exact q1.elim
theorem Zl0 {K:Qa} {P:vZ} {A:jk} {kvs:List (Str×V)} (hK:X.K=K) (hP:X.w.params=P) (D:Ze8 K P A kvs):OpR X (jX .NotIn) (Zhv true A kvs):=by subst hK hP;exact Zqa D
theorem Zv8 {K:Qa} {P:vZ} {A:jk} {kvs:List (Str×V)} (hK:X.K=K) (hP:X.w.params=P) (D:Ze8 K P A kvs):IxR X (Zel A kvs):=by subst hK hP;exact Zo3 D
end
theorem Zsv {K:Qa} {P:vZ} {mg:Str->Option Value} {a:jk} {kvs:List (Str×V)} {kns:List (Str×Str)} (D:Ze8 K P a kvs) (h:∀p∈kns,∃f,mg p.2=some (.ref f)/\Zda kvs p.1=some (.ref f)):ZtL K P mg a kns:=by
 refine ⟨kvs,D,fun z nm e=>?_⟩;obtain ⟨p,hp,rfl⟩:=Qz.mp e;obtain ⟨f,f1,f2⟩:=h p (V5 hp);have hz:p.1=z:=by simpa using List.find?_some hp
 exact ⟨f,f1,hz▸f2⟩
end L2
namespace LD
open PySem L2 LP NumText
def cd (s:String):List Nat:=L (Qc s)
theorem Zcd (s:String):T (cd s)=Qc s:=T_L _
def Zia:Nat->String
 |0=>"word name rest"
 |1=>"word name"
 |2=>"word name number"
 |3=>"word name number rest"
 |_=>"word name other"
def Zkn:List (String×Nat):=[("keep",0),("load",0),("ahead",0),("drop",1),("off",2),("text",1),("pack",1),("count",0),("find",0),("near",3),("often",2),("kinds",1),("lone",1),("cut",0),("both",4)]
def YJ:Nat->List (List Nat)
 |0=>[cd "word",cd "name",cd "rest"]
 |1=>[cd "word",cd "name"]
 |2=>[cd "word",cd "name",cd "number"]
 |3=>[cd "word",cd "name",cd "number",cd "rest"]
 |_=>[cd "word",cd "name",cd "other"]
def ZcM (w:List Nat):Option Nat:=(Zkn.find? fun p=>cd p.1=w).map (·.2)
theorem Zlp (w:List Nat):∀l:List (String×Nat),Zda (l.map fun p=>(Qc p.1,V.str (Qc (Zia p.2)))) (T w)=((l.find? fun p=>cd p.1=w).map (·.2)).map fun i=>V.str (Qc (Zia i))
 |[]=>rfl
 |p::r=>by
  rw [jT,QN];unfold Zda;by_cases h:cd p.1=w
  ·have e:Qc p.1=T w:=by rw [<-h,Zcd]
   rw [if_pos e,decide_eq_true h];rfl
  ·have e:¬Qc p.1=T w:=fun z=>h (by show L (Qc p.1)=w;rw [z,L_T]);rw [if_neg e,decide_eq_false h];exact Zlp w r
theorem ZoK {w:List Nat} {i:Nat} (h:ZcM w=some i):i<5:=by
 obtain ⟨p,hp,rfl⟩:=Qz.mp h;have m:=V5 hp;have all:∀p∈Zkn,p.2<5:=by decide
 exact all p m
theorem ZqI:∀i,i<5->spl 32 ((cd (Zia i)).length+1) (cd (Zia i))=YJ i:=by rfl'
theorem Zjg:∀i,i<5->(YJ i).length=if i=1 then 2 else if i=3 then 4 else 3:=by rfl'
def ZpV:Nat->List Nat
 |0=>cd "rest"
 |1=>cd "name"
 |2=>cd "number"
 |3=>cd "rest"
 |_=>cd "other"
theorem ZlR {i:Nat} (hi:i<5):atI ((YJ i).map fun w=>V.str (T w)) (-1)=some (V.str (T (ZpV i))):=by
 match i,hi with
 |0,_=>rfl
 |1,_=>rfl
 |2,_=>rfl
 |3,_=>rfl
 |4,_=>rfl
theorem Zjl:∀i,i<5->decide (ZpV i=cd "rest")=decide (i=0\/i=3):=by rfl'
def fw (r:List Nat):List Nat:=r.takeWhile fun c=>decide (c≠32)
theorem Zdo {p:List Nat} (r:List Nat) (h:32∉p):fw (p++32::r)=p:=by unfold fw;rw [List.takeWhile_append_of_pos (by intro c hc;simp;rintro rfl;exact h hc)];simp
theorem Zko:∀{p:List Nat},32∉p->fw p=p
 |[],_=>rfl
 |x::p,h=>by have hx:x≠32:=fun e=>h (by simp [e]);have hp:32∉p:=fun e=>h (by simp [e]);unfold fw;rw [VV (by simpa using hx)];exact congrArg (x::·) (Zko hp)
theorem ZBV {r:List Nat} {k:Nat} (h:r[k]?=some 32) (hn:∀v,v<k->r[v]?≠some 32):fw r=r.take k:=by
 have e:r=r.take k++32::r.drop (k+1):=by have hk:=(Qo.mp h);obtain ⟨hk,e⟩:=hk;rw [<-e,<-Q1 hk,QP]
 rw [e];have nm:32∉r.take k:=fun m=>by obtain ⟨v,hv,ev⟩:=UV.mp m;rw [jz] at hv;rw [U5] at ev;exact hn v (by omega) (by rw [Qd (by omega),ev])
 rw [Zdo _ nm];have hk:=(Qo.mp h).1;rw [VP (by rw [jz];omega),WT,Nat.min_self]
theorem ZBW {r:List Nat} (hn:∀v:Nat,r[v]?≠some 32):fw r=r:=Zko fun m=>by obtain ⟨v,hv,ev⟩:=UV.mp m;exact hn v (by rw [Qd hv,ev])
theorem Ze0 (c:Nat):∀(n:Nat) (l:List Nat),∀w∈spl c n l,w.length<=l.length
 |n,[],w,h=>by
  have:w=[]:=by simpa [spl] using h
  simp [this]
 |0,x::r,w,h=>by
  have:w=x::r:=by simpa [spl] using h
  simp [this]
 |n+1,x::r,w,h=>by
  unfold spl at h;split at h
  ·rcases jK.mp h with rfl|h
   ·simp
   ·have:=Ze0 c n r w h;simp only [jy];omega
  ·cases hs:spl c (n+1) r with
   |nil=>exact absurd hs (ZfV c (n+1) r)
   |cons v vs=>
    rw [hs] at h;have ih:=Ze0 c (n+1) r;rw [hs] at ih;rcases jK.mp h with rfl|h
    ·have:=ih v (jW ..);simp only [jy,uM,uH];omega
    ·have:=ih w (jH _ h);simp only [jy];omega
def Zav (i:Nat) (r:List Nat):List (List Nat):=if i=0\/i=3 then spl 32 ((YJ i).length-1) r else spl 32 (r.length+1) r
theorem Zsg {i:Nat} {r w:List Nat} (h:w∈Zav i r):w.length<=r.length:=by
 unfold Zav at h;split at h
 ·exact Ze0 _ _ _ _ h
 ·exact Ze0 _ _ _ _ h
theorem Zlf (i:Nat) (r:List Nat) (k:Nat):((Zav i r).getD k []).length<=r.length:=by
 rw [Qb]
 cases h:(Zav i r)[k]? with
 |none=>simp
 |some w=>exact Zsg (QE h)
def qH (r:List Nat) (i:Nat) (ws:List (List Nat)):Prop:=ZcM (fw r)=some i/\ws=Zav i r/\ws.length=(YJ i).length/\((i=2\/i=3)->J8 (ws.getD 2 []))
theorem qH.uniq {r:List Nat} {i j:Nat} {ws vs:List (List Nat)} (a:qH r i ws) (b:qH r j vs):i=j/\ws=vs:=by have e:i=j:=Option.some.inj (a.1.symm.trans b.1);subst e;exact ⟨rfl,a.2.1.trans b.2.1.symm⟩
abbrev ky (s:String):Key:=.inr (T (cd s))
def Y7 (i:Nat) (ws:List (List Nat)):List (Key×V):=(ky "word",V.str (T (ws.getD 0 [])))::(ky "name",V.str (T (ws.getD 1 [])))::
 (if i=0 then [(ky "rest",V.str (T (ws.getD 2 [])))] else if i=1 then [] else if i=2 then [(ky "number",V.int (digitsVal (ws.getD 2 []):Nat))] else if i=3 then [(ky "number",V.int (digitsVal (ws.getD 2 []):Nat)),(ky "rest",V.str (T (ws.getD 3 [])))] else [(ky "other",V.str (T (ws.getD 2 [])))])
def JK (i:Nat) (ws:List (List Nat)):List (Key×V):=(ky "word",V.str (T (ws.getD 0 [])))::(ky "name",V.str (T (ws.getD 1 [])))::
 (if i=0 then [(ky "rest",V.str (T (ws.getD 2 [])))] else if i=1 then [] else if i=2 then [(ky "number",V.str (T (ws.getD 2 [])))] else if i=3 then [(ky "number",V.str (T (ws.getD 2 []))),(ky "rest",V.str (T (ws.getD 3 [])))] else [(ky "other",V.str (T (ws.getD 2 [])))])
def ZcN:List String:=["word","name","rest","number","other"]
theorem Zdu:∀a∈ZcN,∀b∈ZcN,a≠b->cd a≠cd b:=by rfl'
theorem ZbQ {a b:String} (h:cd a≠cd b):(ky a=ky b)=False:=by rw [eq_iff_iff,iff_false];intro z;exact h (ZcL.mp (Sum.inr.inj z))
theorem ZlD {i:Nat} (hi:i<5) {ws:List (List Nat)} (hl:ws.length=(YJ i).length):ZbZ (ZeN (YJ i) (ws.map fun w=>V.str (T w))) []=JK i ws:=by
 have q:∀a∈ZcN,∀b∈ZcN,a≠b->(ky a=ky b)=False:=fun a ha b hb n=>ZbQ (Zdu a ha b hb n);have q1:=q "word" (by decide) "name" (by decide) (by decide);have q2:=q "word" (by decide) "rest" (by decide) (by decide);have q3:=q "word" (by decide) "number" (by decide) (by decide);have q4:=q "word" (by decide) "other" (by decide) (by decide);have q5:=q "name" (by decide) "rest" (by decide) (by decide);have q6:=q "name" (by decide) "number" (by decide) (by decide);have q7:=q "name" (by decide) "other" (by decide) (by decide);have q8:=q "number" (by decide) "rest" (by decide) (by decide)
 match i,hi,ws,hl with
 |0,_,[a,b,c],_=>simp [YJ,ZeN,ZbZ,Zag,JK,q1,q2,q5]
 |1,_,[a,b],_=>simp [YJ,ZeN,ZbZ,Zag,JK,q1]
 |2,_,[a,b,c],_=>simp [YJ,ZeN,ZbZ,Zag,JK,q1,q3,q6]
 |3,_,[a,b,c,d],_=>simp [YJ,ZeN,ZbZ,Zag,JK,q1,q2,q3,q5,q6,q8]
 |4,_,[a,b,c],_=>simp [YJ,ZeN,ZbZ,Zag,JK,q1,q4,q7]
theorem Zf3 {i:Nat} (hi:i<5) (ws:List (List Nat)):zk (JK i ws) (ky "number")=if i=2\/i=3 then some (V.str (T (ws.getD 2 []))) else none:=by
 have q:∀a∈ZcN,∀b∈ZcN,a≠b->(ky a=ky b)=False:=fun a ha b hb n=>ZbQ (Zdu a ha b hb n);have q1:=q "word" (by decide) "number" (by decide) (by decide);have q2:=q "name" (by decide) "number" (by decide) (by decide);have q3:=q "rest" (by decide) "number" (by decide) (by decide);have q4:=q "other" (by decide) "number" (by decide) (by decide)
 match i,hi with
 |0,_=>simp [JK,zk,q1,q2,q3]
 |1,_=>simp [JK,zk,q1,q2,q3]
 |2,_=>simp [JK,zk,q1,q2,q3]
 |3,_=>simp [JK,zk,q1,q2,q3]
 |4,_=>simp [JK,zk,q1,q2,q4]
theorem ZjG {i:Nat} (hi:i<5) (h2:i=2\/i=3) (ws:List (List Nat)):Zag (JK i ws) (ky "number") (V.int (digitsVal (ws.getD 2 []):Nat))=Y7 i ws:=by
 have q:∀a∈ZcN,∀b∈ZcN,a≠b->(ky a=ky b)=False:=fun a ha b hb n=>ZbQ (Zdu a ha b hb n);have q1:=q "word" (by decide) "number" (by decide) (by decide);have q2:=q "name" (by decide) "number" (by decide) (by decide);have q3:=q "rest" (by decide) "number" (by decide) (by decide);rcases h2 with rfl|rfl
 ·simp [JK,Y7,Zag,q1,q2,q3]
 ·simp [JK,Y7,Zag,q1,q2,q3]
theorem Zsu {i:Nat} (h2:¬(i=2\/i=3)) (ws:List (List Nat)):JK i ws=Y7 i ws:=by unfold JK Y7;rw [if_neg (c:=i=2) fun z=>h2 (.inl z),if_neg (c:=i=3) fun z=>h2 (.inr z),if_neg (c:=i=2) fun z=>h2 (.inl z),if_neg (c:=i=3) fun z=>h2 (.inr z)]
theorem ZqV (i:Nat) (ws:List (List Nat)):(JK i ws).length<=4:=by
 unfold JK
 repeat' split
 all_goals simp
theorem Zi0 (i:Nat) (ws:List (List Nat)):zk (Y7 i ws) (ky "word")=some (V.str (T (ws.getD 0 []))):=zN (p:=(ky "word",_)) rfl
theorem qT (i:Nat) (ws:List (List Nat)):zk (Y7 i ws) (ky "name")=some (V.str (T (ws.getD 1 []))):=by have q1:=ZbQ (Zdu "word" (by decide) "name" (by decide) (by decide));exact (zM (p:=(ky "word",_)) (by rw [q1];exact id)).trans (zN (p:=(ky "name",_)) rfl)
theorem Zf4 (ws:List (List Nat)):zk (Y7 0 ws) (ky "rest")=some (V.str (T (ws.getD 2 []))):=by have q1:=ZbQ (Zdu "word" (by decide) "rest" (by decide) (by decide));have q2:=ZbQ (Zdu "name" (by decide) "rest" (by decide) (by decide));simp [Y7,zk,q1,q2]
theorem ZgT {i:Nat} (hi:i<5) (ws:List (List Nat)):zk (Y7 i ws) (ky "other")=if i=4 then some (V.str (T (ws.getD 2 []))) else none:=by
 have q:∀a∈ZcN,∀b∈ZcN,a≠b->(ky a=ky b)=False:=fun a ha b hb n=>ZbQ (Zdu a ha b hb n);have q1:=q "word" (by decide) "other" (by decide) (by decide);have q2:=q "name" (by decide) "other" (by decide) (by decide);have q3:=q "rest" (by decide) "other" (by decide) (by decide);have q4:=q "number" (by decide) "other" (by decide) (by decide)
 match i,hi with
 |0,_=>simp [Y7,zk,q1,q2,q3]
 |1,_=>simp [Y7,zk,q1,q2,q3]
 |2,_=>simp [Y7,zk,q1,q2,q4]
 |3,_=>simp [Y7,zk,q1,q2,q3,q4]
 |4,_=>simp [Y7,zk,q1,q2,q3]
theorem _root_.L2.DGet.kys {H:Hp} {d:jk} {kvs:List (Key×V)} (h:H d=some (.dK kvs)) (s:String):DGet H d (V.str (Qc s)) (zk kvs (ky s)):=by
 have e:V.str (Qc s)=kV (ky s):=by show _=V.str (T (cd s));rw [Zcd]
 rw [e];exact DGet.k h
abbrev zI:=List (List Nat×List Nat)
def txK (kept:zI):List (Key×V):=kept.map fun p=>((.inr (T p.1):Key),V.str (T p.2))
def ZU (kept:zI) (n:List Nat):Option (List Nat):=(kept.find? fun p=>p.1=n).map (·.2)
def Za6 (kept:zI) (n x:List Nat):zI:=if (ZU kept n).isSome then kept.map (fun p=>if p.1=n then (p.1,x) else p) else kept++[(n,x)]
def Zcf (kept:zI) (n:List Nat):zI:=kept.filter fun p=>decide (p.1≠n)
theorem qJ (n:List Nat):∀kept:zI,zk (txK kept) (.inr (T n))=(ZU kept n).map fun x=>V.str (T x)
 |[]=>rfl
 |p::r=>by
  by_cases h:p.1=n
  ·have e1:zk (txK (p::r)) (.inr (T n))=some (V.str (T p.2)):=zN (p:=((.inr (T p.1):Key),V.str (T p.2))) (r:=txK r) (by rw [h]);rw [e1];unfold ZU;rw [QN,decide_eq_true h];rfl
  ·have e1:zk (txK (p::r)) (.inr (T n))=zk (txK r) (.inr (T n)):=zM (p:=((.inr (T p.1):Key),V.str (T p.2))) (r:=txK r) fun z=>h (ZcL.mp (Sum.inr.inj z));rw [e1,qJ n r];unfold ZU;rw [QN,decide_eq_false h]
theorem ZdJ (kept:zI) (n x:List Nat):Zag (txK kept) (.inr (T n)) (V.str (T x))=txK (Za6 kept n x):=by
 unfold Zag Za6;rw [Zcp,qJ,Ux]
 cases (ZU kept n).isSome with
 |true=>
  rw [if_pos rfl,if_pos rfl];unfold txK;rw [uJ,uJ];refine uE fun p _=>?_;show (if (Sum.inr (T p.1):Key)=.inr (T n) then _ else _)=_;by_cases h:p.1=n
  ·rw [if_pos (by rw [h])];show _=((Sum.inr (T (if p.1=n then (p.1,x) else p).1):Key),V.str (T (if p.1=n then (p.1,x) else p).2));rw [if_pos h]
  ·rw [if_neg fun z=>h (ZcL.mp (Sum.inr.inj z))];show _=((Sum.inr (T (if p.1=n then (p.1,x) else p).1):Key),V.str (T (if p.1=n then (p.1,x) else p).2));rw [if_neg h]
 |false=>
  rw [if_neg (by decide),if_neg (by decide)];unfold txK;rw [uw];rfl
theorem Zfv (kept:zI) (n x:List Nat):(Za6 kept n x).length<=kept.length+1:=by
 unfold Za6;split
 ·rw [jn];omega
 ·rw [jq,jE];omega
theorem ZpW (kept:zI) (n x m:List Nat):ZU (Za6 kept n x) m=if m=n then some x else ZU kept m:=by
 have h:=congrArg (fun q=>zk q (.inr (T m))) (ZdJ kept n x);simp only [ZqZ,qJ] at h;by_cases e:m=n
 ·rw [if_pos e];rw [if_pos (by rw [e])] at h
  cases q:ZU (Za6 kept n x) m with
  |none=>rw [q] at h;cases h
  |some y=>
   rw [q] at h;have:=Option.some.inj h;injection this with this;rw [ZcL.mp this]
 ·rw [if_neg e];rw [if_neg fun z=>e (ZcL.mp (Sum.inr.inj z))] at h
  cases q:ZU (Za6 kept n x) m with
  |none=>
   rw [q] at h
   cases q2:ZU kept m with
   |none=>rfl
   |some y=>rw [q2] at h;cases h
  |some y=>
   rw [q] at h
   cases q2:ZU kept m with
   |none=>rw [q2] at h;cases h
   |some y2=>
    rw [q2] at h;have:=Option.some.inj h;injection this with this;rw [ZcL.mp this]
def YI (n:List Nat):Prop:=1<=n.length/\n.length<=8/\∀c∈n,97<=c/\c<=122
def ZcX (kept:zI) (i:Nat) (ws:List (List Nat)):Prop:=((ws.getD 0 []=cd "keep"\/ws.getD 0 []=cd "load")->YI (ws.getD 1 []))/\(¬(ws.getD 0 []=cd "keep"\/ws.getD 0 []=cd "load")->(ZU kept (ws.getD 1 [])).isSome=true/\(i=4->(ZU kept (ws.getD 2 [])).isSome=true))
theorem ZgO {H H':Hp} {t:jk} {o:HO} (s:Zs H H'):Zs (upd H t o) (upd H' t o):=fun b u h=>by
 by_cases e:b=t
 ·subst e
  rw [Zh] at h ⊢
  exact h
 ·rw [Zj e] at h ⊢
  exact s b u h
theorem Zmg {H H':Hp} {t:jk} {o:HO} (h:H t=some o) (s:Zs H H'):Zs (upd H t o) H':=fun b u e=>by
 by_cases z:b=t
 ·subst z;rw [Zh] at e;rw [<-e];exact s b o h
 ·rw [Zj z] at e;exact s b u e
def fsD (t:jk):List (Str×V):=[("texts",.ref t)]
def Yg (C:jk) (H:Hp) (o:jk) (t:jk) (kept:zI):Prop:=(∃dx,H o=some (.ins C dx (fsD t)))/\H t=some (.dK (txK kept))
theorem Yg.same {C:jk} {H H':Hp} {o t:jk} {kept:zI} (d:Yg C H o t kept) (s:zQ H H'):Yg C H' o t kept:=by obtain ⟨⟨dx,h1⟩,h2⟩:=d;exact ⟨⟨dx,s.at h1 (by nofun)⟩,s.at h2 (by nofun)⟩
theorem Zbe {α β:Type} (f:α->β) (l:List α) {r:Int} (h0:0<=r) (h1:r<l.length):∃x∈l,atI (l.map f) r=some (f x):=by
 have hk:r.toNat<l.length:=by omega
 refine ⟨l[r.toNat],QT hk,?_⟩;have hm:r<((l.map f).length:Int):=by rw [jn];exact h1
 rw [LW.Jm (f l[r.toNat]) h0 hm,Qb,Qi,Qd hk];rfl
theorem ZcA (n:Nat) {k:Nat} (hk:0<k):(JL (n:Int)).length<=k↔n<10 ^ k:=by rw [Zbk,jn];exact Nat.length_toDigits_le_iff (by decide) hk
theorem Zp9 (n:Nat):0<(JL (n:Int)).length:=by rw [Zbk,jn];exact Nat.length_toDigits_pos
theorem Zcz {n:Nat} (h:n<2 ^ 200):n.log2<1920:=by
 by_cases h0:n=0
 ·subst h0
  decide
 ·exact (Nat.log2_lt h0).mpr (Ql h (Nat.pow_le_pow_right (by decide) (by decide)))
theorem Yg.put {C:jk} {H H':Hp} {o t:jk} {kept kept':zI} (d:Yg C H o t kept) (s:zQ (upd H t (.dK (txK kept'))) H'):Yg C H' o t kept':=by
 obtain ⟨⟨dx,h1⟩,h2⟩:=d;have ne:o≠t:=fun z=>by rw [z,h2] at h1;cases h1
 exact ⟨⟨dx,s.at ((Zj ne).trans h1) (by nofun)⟩,s.at Zh (by nofun)⟩
theorem Yg.ne {C:jk} {H:Hp} {o t b:jk} {kept:zI} {u:HO} (d:Yg C H o t kept) (h:H b=some u) (hu:∀kvs,u≠ .dK kvs):b≠t:=fun z=>by rw [z,d.2] at h;exact hu _ (Option.some.inj h).symm
def Zgr (n:List Nat):Prop:=∃p q b s,n=Qv p b++s::Qv q b/\p+q<8/\97<=b/\b<=122/\97<=s/\s<=122
theorem Zgr.is {n:List Nat} (h:Zgr n):YI n:=by obtain ⟨p,q,b,s,rfl,h1,h2,h3,h4,h5⟩:=h;refine ⟨by simp;omega,by simp;omega,fun c hc=>?_⟩;simp only [jL,jK,Vz] at hc;rcases hc with ⟨_,rfl⟩|rfl|⟨_,rfl⟩<;>omega
theorem YI.noB {n:List Nat} (h:YI n):32∉n:=fun m=>by have:=h.2.2 32 m;omega
def Zty (n:List Nat):Bool:=decide (n.length<=1) || n.any fun b=>decide ((n.filter fun c=>decide (c≠b)).length<=1)
theorem Zgr.b {n:List Nat} (h:Zgr n):Zty n=true:=by
 obtain ⟨p,q,b,s,rfl,h1,h2⟩:=h;unfold Zty;by_cases e:p+q=0
 ·have hp:p=0:=by omega
  have hq:q=0:=by omega
  subst hp hq;rfl
 ·rw [QS,VN];refine .inr ⟨b,?_,?_⟩
  ·simp only [jL,jK,Vz];by_cases hp:p=0
   ·exact .inr (.inr ⟨by omega,trivial⟩)
   ·exact .inl ⟨hp,trivial⟩
  ·rw [decide_eq_true_eq,UH,UE];have f:∀m,(Qv m b).filter (fun c=>decide (c≠b))=[]:=fun m=>by rw [List.filter_eq_nil_iff];intro c hc;simp [List.eq_of_mem_replicate hc]
   rw [f,f];split<;>simp
end LD
namespace L2
open PySem
theorem ZyF {X:Cx} {k:Nat} {x:Str} {C:jk} {ps:List Str} {dvs:List V} {sp:Sp} {p pos:Pos} (M:Mkr X.prog X.w X.K X.mg X.base CX0 k x C ps dvs sp) (hr:Ye (k+1) X.A) (hg:Gl X x:=by rfl) (hdb:(x==("__debug__":Str))=false:=by decide):PE X (.Call (.Name x p) [] [] pos) (ZiW C sp dvs E0 Zmp):=by obtain ⟨f,fd,ds,F,hm,hb,hd⟩:=M.ex;exact Zql hm F hr hg M.at_ hb hd ZiD hdb
end L2
namespace LB
open PySem PySem.W PyProof.Rows
def gal:Bool->uA->Array uA->Nat->Nat->Nat->StateT jD Sem (Option Nat):=sortPriv% PySem.Builtin.gallop
def mlo:Array uA->Array uA->StateT jD Sem (Array uA):=sortPriv% PySem.Builtin.mergeLo
def mhi:Array uA->Array uA->StateT jD Sem (Array uA):=sortPriv% PySem.Builtin.mergeHi
structure Ks (st st':jD):Prop where
 kind:kindOf st'=kindOf st
 arr:vL st'=vL st
 pend:uB st'=uB st
 fail:vy st'=vy st
theorem Ks.refl (st:jD):Ks st st:=⟨rfl,rfl,rfl,rfl⟩
theorem Ks.trans {a b c:jD} (x:Ks a b) (y:Ks b c):Ks a c:=⟨y.kind.trans x.kind,y.arr.trans x.arr,y.pend.trans x.pend,y.fail.trans x.fail⟩
section
variable {prog:jw} {w:jB} {A:Around} {E:Value->jj->Prop} {s:jj} {κ:uz} {it:Array uA} {O:u9} {key:Nat->O.α} {n:Nat}
def Cmp (prog:jw) (w:jB) (A:Around) (s:jj) (κ:uz) (it:Array uA) (key:Nat->O.α) (n:Nat):Prop:=
 ∀i j,i<n->j<n->∀Q:Bool->jj->Prop,Q (O.blt (key i) (key j)) s->jo (jr prog w) A (keyLt' κ (um it i).1 (um it j).1) Q (fun _ _=>False) s
theorem ZCd (hC:Cmp prog w A s κ it key n) {st:jD} (hk:kindOf st=κ) {i j:Nat} (hi:i<n) (hj:j<n) {Q:Option Bool->jD->Prop} (h:Q (some (O.blt (key i) (key j))) st):wpS (jr prog w) A E s (lt' (um it i) (um it j)) Q st:=by rw [lt'_eq];refine jp (vo ?_);rw [hk];refine jp (vC (jV (jU (hC i j hi hj (fun a s'=>s'=s/\a=O.blt (key i) (key j)) ⟨rfl,rfl⟩) ?_ fun _ _ z=>z.elim)));rintro a s' ⟨rfl,rfl⟩;exact ⟨rfl,jv h⟩
def ZhO (prog:jw) (w:jB) (A:Around) (s:jj) (κ:uz) (it:Array uA) (key:Nat->O.α) (n:Nat):Prop:=
 ∀i j,j<i->i<n->∀Q:Bool->jj->Prop,Q (O.blt (key i) (key j)) s->jo (jr prog w) A (keyLt' κ (um it i).1 (um it j).1) Q (fun _ _=>False) s
theorem Zhh (hC:ZhO prog w A s κ it key n) {st:jD} (hk:kindOf st=κ) {i j:Nat} (hj:j<i) (hi:i<n) {Q:Option Bool->jD->Prop} (h:Q (some (O.blt (key i) (key j))) st):wpS (jr prog w) A E s (lt' (um it i) (um it j)) Q st:=by rw [lt'_eq];refine jp (vo ?_);rw [hk];refine jp (vC (jV (jU (hC i j hj hi (fun a s'=>s'=s/\a=O.blt (key i) (key j)) ⟨rfl,rfl⟩) ?_ fun _ _ z=>z.elim)));rintro a s' ⟨rfl,rfl⟩;exact ⟨rfl,jv h⟩
def AL (it:Array uA) (l:List Nat):Array uA:=(l.map (um it)).toArray
theorem ZaJ (l:List Nat):(AL it l).size=l.length:=by simp [AL]
theorem ZcU {l:List Nat} {i:Nat} (hi:i<l.length):(AL it l)[i]?=some (um it (l.getD i 0)):=by simp [AL,hi,Qb]
theorem Zdc (l:List Nat) (x:Nat):(AL it l).push (um it x)=AL it (l++[x]):=by simp [AL]
theorem Za0 (l m:List Nat):AL it l++AL it m=AL it (l++m):=by simp [AL]
theorem Ze3 (l:List Nat) (i j:Nat):(AL it l).extract i j=AL it ((l.drop i).take (j-i)):=by simp [AL,List.extract_eq_take_drop,map_drop,QaB]
theorem Zi3 (l:List Nat):(AL it l).reverse=AL it l.reverse:=by simp [AL]
theorem zb {l:List Nat} {i:Nat} (hi:i<l.length) {st:jD} {Q:uA->jD->Prop} (h:Q (um it (l.getD i 0)) st):wpS (jr prog w) A E s (elem' (AL it l) i) Q st:=by rw [elem'_eq,ZcU hi];exact jv h
def bey (key:Nat->O.α) (left:Bool) (x y:Nat):Bool:=if left then O.blt (key y) (key x) else !O.blt (key x) (key y)
def Bhd:Bool->Nat->Nat->Prop
 |true,x,y=>x<y
 |false,x,y=>y<x
theorem Zfd (hC:ZhO prog w A s κ it key n) {left:Bool} {x:Nat} {l:List Nat} {b i:Nat} (hl:∀y∈l,y<n) (hx:x<n) (hi:b+i<l.length) (hd:Bhd left x (l.getD (b+i) 0)) {st:jD} (hk:kindOf st=κ) {Q:Option Bool->jD->Prop} (h:Q (some (bey key left x (l.getD (b+i) 0))) st):
 wpS (jr prog w) A E s (elem' (AL it l) (b+i) >>=fun z=>if left=true then lt' z (um it x) else lt' (um it x) z >>=fun r=>pure (Vu (fun x=> !x) r)) Q st:=by
 have hy:l.getD (b+i) 0<n:=by refine hl _ ?_;rw [Qb,Qd hi];simp
 refine jp (zb hi ?_);unfold bey at h
 cases left with
 |true=>exact Zhh hC hk hd hy h
 |false=>exact jp (Zhh hC hk hd hx (jv h))
theorem Zte {M:uL} (P:Nat->Bool) {m:Nat} {st:jD} {f:Nat->Option (Option Nat)×Nat×Nat->StateT jD Sem (ForInStep (Option (Option Nat)×Nat×Nat))}
 (f1:∀i lo hi,lo ≥ hi->wpS M A E s (f i (none,lo,hi)) (fun r st'=>st'=st/\r=.done (none,lo,hi)) st)
 (f2:∀i lo hi,lo<hi->hi<=m->wpS M A E s (f i (none,lo,hi)) (fun r st'=>st'=st/\r=.yield (if P (lo+(hi-lo)/2)=true then (none,lo+(hi-lo)/2+1,hi) else (none,lo,lo+(hi-lo)/2))) st)
 (mono:∀i j,i<=j->j<m->P j=true->P i=true) {lo hi:Nat} (h1:lo<=hi) (h2:hi<=m) (h3:∀i,i<lo->P i=true) (h4:∀i,hi<=i->i<m->P i=false):
 wpS M A E s (forIn [0:m] ((none,lo,hi):Option (Option Nat)×Nat×Nat) f) (fun c st'=>st'=st/\∃k lo',c=(none,lo',k)/\k<=m/\(∀i,i<k->P i=true)/\∀i,k<=i->i<m->P i=false) st:=by
 refine j6 (I:=fun x c st'=>st'=st/\∃lo hi,c=(none,lo,hi)/\lo<=hi/\hi<=m/\hi-lo<=m-x/\(∀i,i<lo->P i=true)/\∀i,hi<=i->i<m->P i=false) ?_ ?_ ⟨rfl,lo,hi,rfl,h1,h2,by omega,h3,h4⟩
 ·rintro x c st' _ hx ⟨rfl,lo,hi,rfl,h1,h2,h5,h3,h4⟩;rcases Wm lo hi with h|h
  ·refine ug (f2 x lo hi h h2) ?_;rintro r st' ⟨rfl,rfl⟩;refine ⟨rfl,?_⟩;by_cases e:P (lo+(hi-lo)/2)=true
   ·rw [if_pos e];exact ⟨_,_,rfl,by omega,h2,by omega,fun i hi'=>mono i _ (by omega) (by omega) e,h4⟩
   ·rw [if_neg e];refine ⟨_,_,rfl,by omega,by omega,by omega,h3,fun i hi' hm=>?_⟩
    cases e2:P i with
    |false=>rfl
    |true=>exact absurd (mono _ i hi' hm e2) e
  ·refine ug (f1 x lo hi h) ?_;rintro r st' ⟨rfl,rfl⟩;have:lo=hi:=by omega
   subst this;exact ⟨rfl,lo,lo,rfl,h2,h3,h4⟩
 ·rintro c st' ⟨rfl,lo,hi,rfl,h1,h2,h5,h3,h4⟩;have:lo=hi:=by omega
  subst this;exact ⟨rfl,lo,lo,rfl,h2,h3,h4⟩
theorem ZdY (hC:ZhO prog w A s κ it key n) {left:Bool} {x:Nat} {l:List Nat} {b m h:Nat} (hl:∀y∈l,y<n) (hx:x<n) (hb:b+m<=l.length) (hh:h<m) (hd:∀i,i<m->Bhd left x (l.getD (b+i) 0)) {st:jD} (hk:kindOf st=κ) {Q:Option Nat->jD->Prop}
 (mono:∀i j,i<=j->j<m->bey key left x (l.getD (b+j) 0)=true->bey key left x (l.getD (b+i) 0)=true)
 (q:∀k,k<=m->(∀i,i<k->bey key left x (l.getD (b+i) 0)=true)->(∀i,k<=i->i<m->bey key left x (l.getD (b+i) 0)=false)->Q (some k) st):
 wpS (jr prog w) A E s (gal left (um it x) (AL it l) b m h) Q st:=by
 unfold gal;refine jp (Zfd hC hl hx (by omega) (hd _ (by omega)) hk ?_);dsimp only
 have neg:∀{i j},i<=j->j<m->bey key left x (l.getD (b+i) 0)=false->bey key left x (l.getD (b+j) 0)=false:=fun {i j} h1 h2 h3=>by
  cases e:bey key left x (l.getD (b+j) 0) with
  |false=>rfl
  |true=>rw [mono i j h1 h2 e] at h3;cases h3
 cases e0:bey key left x (l.getD (b+h) 0) with
 |true=>
  rw [if_pos rfl]
  refine jp (ug (j6 (I:=fun i c st'=>st'=st/\∃lo o,c=(none,lo,o)/\lo<o/\i+1<=o/\h+lo<m/\bey key left x (l.getD (b+(h+lo)) 0)=true)
   (Q:=fun c st'=>st'=st/\∃lo o,c=(none,lo,o)/\lo<o/\h+lo<m/\bey key left x (l.getD (b+(h+lo)) 0)=true/\(m-h<=o\/h+o<m/\bey key left x (l.getD (b+(h+o)) 0)=false)) ?_ ?_ ⟨rfl,0,1,rfl,by omega,by omega,by omega,e0⟩) ?_)
  ·rintro i c st' _ hi ⟨rfl,lo,o,rfl,h1,h2,h3,h4⟩;dsimp only;by_cases ho:o ≥ m-h
   ·rw [if_pos ho];exact jv ⟨rfl,lo,o,rfl,h1,h3,h4,.inl ho⟩
   ·rw [if_neg ho];refine jp (Zfd hC hl hx (by omega) (hd _ (by omega)) hk ?_);dsimp only
    cases e1:bey key left x (l.getD (b+(h+o)) 0) with
    |true=>
     exact jv ⟨rfl,o,2 * o+1,rfl,by omega,by omega,by omega,e1⟩
    |false=>
     exact jv ⟨rfl,lo,o,rfl,h1,h3,h4,.inr ⟨by omega,e1⟩⟩
  ·rintro c st' ⟨rfl,lo,o,rfl,h1,h2,h3,h4⟩;exact ⟨rfl,lo,o,rfl,h1,h3,h4,.inl (by omega)⟩
  ·rintro c st' ⟨rfl,lo,o,rfl,h1,h3,h4,h5⟩;dsimp only;refine jp (ug (Zte (fun i=>bey key left x (l.getD (b+i) 0)) (m:=m) (fun i lo hi hge=>?_) (fun i lo hi hlt hm=>?_) mono (by omega) (by omega) (fun i hi=>mono i _ (by omega) h3 h4) fun i hi hm=>?_) ?_)
   ·dsimp only;rw [if_pos hge];exact jv ⟨rfl,rfl⟩
   ·dsimp only;rw [if_neg (by omega)];refine jp (Zfd hC hl hx (by omega) (hd _ (by omega)) hk ?_);dsimp only;cases bey key left x (l.getD (b+(lo+(hi-lo)/2)) 0)<;>exact jv ⟨rfl,rfl⟩
   ·rcases h5 with h5|⟨h5,h6⟩
    ·omega
    ·exact neg (by omega) hm h6
   ·rintro c st' ⟨rfl,k,lo',rfl,k1,k2,k3⟩;exact jv (q k k1 k2 k3)
 |false=>
  rw [if_neg Qg]
  refine jp (ug (j6 (I:=fun i c st'=>st'=st/\∃lo o,c=(none,lo,o)/\lo<o/\i+1<=o/\lo<=h/\bey key left x (l.getD (b+(h-lo)) 0)=false)
   (Q:=fun c st'=>st'=st/\∃lo o,c=(none,lo,o)/\lo<o/\lo<=h/\bey key left x (l.getD (b+(h-lo)) 0)=false/\(h+1<=o\/o<=h/\bey key left x (l.getD (b+(h-o)) 0)=true)) ?_ ?_ ⟨rfl,0,1,rfl,by omega,by omega,by omega,e0⟩) ?_)
  ·rintro i c st' _ hi ⟨rfl,lo,o,rfl,h1,h2,h3,h4⟩;dsimp only;by_cases ho:o ≥ h+1
   ·rw [if_pos ho];exact jv ⟨rfl,lo,o,rfl,h1,h3,h4,.inl ho⟩
   ·rw [if_neg ho];refine jp (Zfd hC hl hx (by omega) (hd _ (by omega)) hk ?_);dsimp only
    cases e1:bey key left x (l.getD (b+(h-o)) 0) with
    |false=>
     exact jv ⟨rfl,o,2 * o+1,rfl,by omega,by omega,by omega,e1⟩
    |true=>
     exact jv ⟨rfl,lo,o,rfl,h1,h3,h4,.inr ⟨by omega,e1⟩⟩
  ·rintro c st' ⟨rfl,lo,o,rfl,h1,h2,h3,h4⟩;exact ⟨rfl,lo,o,rfl,h1,h3,h4,.inl (by omega)⟩
  ·rintro c st' ⟨rfl,lo,o,rfl,h1,h3,h4,h5⟩;dsimp only;refine jp (ug (Zte (fun i=>bey key left x (l.getD (b+i) 0)) (m:=m) (fun i lo hi hge=>?_) (fun i lo hi hlt hm=>?_) mono (by omega) (by omega) (fun i hi=>?_) fun i hi hm=>neg hi hm h4) ?_)
   ·dsimp only;rw [if_pos hge];exact jv ⟨rfl,rfl⟩
   ·dsimp only;rw [if_neg (by omega)];refine jp (Zfd hC hl hx (by omega) (hd _ (by omega)) hk ?_);dsimp only;cases bey key left x (l.getD (b+(lo+(hi-lo)/2)) 0)<;>exact jv ⟨rfl,rfl⟩
   ·rcases h5 with h5|⟨h5,h6⟩
    ·omega
    ·exact mono i _ (by omega) (by omega) h6
   ·rintro c st' ⟨rfl,k,lo',rfl,k1,k2,k3⟩;exact jv (q k k1 k2 k3)
end
end LB
namespace LB
open PySem PySem.W PyProof.Rows
section
variable {prog:jw} {w:jB} {A:Around} {E:Value->jj->Prop} {s:jj} {κ:uz} {it:Array uA} {O:u9} {key:Nat->O.α} {n:Nat}
def Srt (key:Nat->O.α) (l:List Nat):Prop:=l.Pairwise fun i j=>O.kle (key i) (key j)
theorem Srt.get {l:List Nat} (h:Srt key l) {i j:Nat} (hij:i<=j) (hj:j<l.length):O.kle (key (l.getD i 0)) (key (l.getD j 0)):=by
 rcases Wm i j with w|w
 ·have:=Ue.mp h i j (by omega) hj w;rw [Qb,Qb,Qd hj,Qd (show i<l.length by omega)];exact this
 ·have:i=j:=by omega
  subst this;exact Q7 _
theorem Srt.app {l m:List Nat} (h:Srt key l) (h':Srt key m) (hh:∀x∈l,∀y∈m,O.kle (key x) (key y)):Srt key (l++m):=UB.mpr ⟨h,h',hh⟩
theorem Srt.sub {l m:List Nat} (h:Srt key l) (s:List.Sublist m l):Srt key m:=List.Pairwise.sublist s h
structure Mg (key:Nat->O.α) (la lb:List Nat) (lo:List Nat) (ia ib:Nat):Prop where
 srt:Srt key lo
 lea:∀x∈lo,∀y∈la.drop ia,O.kle (key x) (key y)
 leb:∀x∈lo,∀y∈lb.drop ib,O.kle (key x) (key y)
 perm:(lo++(la.drop ia++lb.drop ib)).Perm (la++lb)
section
variable {la lb lo:List Nat} {ia ib:Nat}
theorem Mg.outA (h:Mg key la lb lo ia ib) (sa:Srt key la) (k:Nat) (hh:∀x∈(la.drop ia).take k,∀y∈lb.drop ib,O.kle (key x) (key y)):Mg key la lb (lo++(la.drop ia).take k) (ia+k) ib:=by
 have e:(la.drop ia).take k++la.drop (ia+k)=la.drop ia:=by rw [<-UO,QP]
 have sd:Srt key ((la.drop ia).take k++la.drop (ia+k)):=by rw [e];exact sa.sub (UN _ _)
 obtain ⟨s1,s2,s3⟩:=UB.mp sd;refine ⟨h.srt.app s1 fun x hx y hy=>h.lea x hx y (Q6 hy),fun x hx y hy=>?_,fun x hx y hy=>?_,?_⟩
 ·rcases jL.mp hx with hx|hx
  ·exact h.lea x hx y (by rw [<-e];exact js _ hy)
  ·exact s3 x hx y hy
 ·rcases jL.mp hx with hx|hx
  ·exact h.leb x hx y hy
  ·exact hh x hx y hy
 ·refine List.Perm.trans (List.Perm.of_eq ?_) h.perm;rw [<-e,j5,j5];simp only [e]
theorem Mg.outB (h:Mg key la lb lo ia ib) (sb:Srt key lb) (k:Nat) (hh:∀x∈(lb.drop ib).take k,∀y∈la.drop ia,O.kle (key x) (key y)):Mg key la lb (lo++(lb.drop ib).take k) ia (ib+k):=by
 have e:(lb.drop ib).take k++lb.drop (ib+k)=lb.drop ib:=by rw [<-UO,QP]
 have sd:Srt key ((lb.drop ib).take k++lb.drop (ib+k)):=by rw [e];exact sb.sub (UN _ _)
 obtain ⟨s1,s2,s3⟩:=UB.mp sd;refine ⟨h.srt.app s1 fun x hx y hy=>h.leb x hx y (Q6 hy),fun x hx y hy=>?_,fun x hx y hy=>?_,?_⟩
 ·rcases jL.mp hx with hx|hx
  ·exact h.lea x hx y hy
  ·exact hh x hx y hy
 ·rcases jL.mp hx with hx|hx
  ·exact h.leb x hx y (by rw [<-e];exact js _ hy)
  ·exact s3 x hx y hy
 ·refine List.Perm.trans ?_ h.perm;rw [j5];refine List.Perm.append_left lo ?_;rw [<-j5];refine List.Perm.trans (List.Perm.append_right _ US) ?_;rw [j5,e]
theorem ZeC {l:List Nat} {i:Nat} (h:i<l.length):(l.drop i).take 1=[l.getD i 0]:=by rw [Q1 h,QO,Q5,Qb,Qd h];rfl
theorem Zit {l:List Nat} {i:Nat} {y:Nat} (h:y∈l.drop i):∃j,i<=j/\j<l.length/\y=l.getD j 0:=by obtain ⟨k,hk,e⟩:=UV.mp h;rw [jJ] at hk;refine ⟨i+k,by omega,by omega,?_⟩;rw [U6] at e;rw [Qb,Qd (by omega),<-e];rfl
theorem ZbR {l:List Nat} {i k:Nat} {y:Nat} (h:y∈(l.drop i).take k):∃j,i<=j/\j<l.length/\j<i+k/\y=l.getD j 0:=by obtain ⟨j,hj,e⟩:=UV.mp h;rw [jz,jJ] at hj;refine ⟨i+j,by omega,by omega,by omega,?_⟩;rw [U5,U6] at e;rw [Qb,Qd (by omega),<-e];rfl
end
theorem ZeO (l:List Nat) (i:Nat):(AL it l).extract i l.length=AL it (l.drop i):=by rw [Ze3,QD (by rw [jJ];exact Qf _)]
theorem ZgW (l:List Nat) (i k:Nat):(AL it l).extract i (i+k)=AL it ((l.drop i).take k):=by rw [Ze3,Wh]
theorem Zmw (x:Nat):#[um it x]=AL it [x]:=rfl
def Res (it:Array uA) (key:Nat->O.α) (la lb:List Nat) (r:Array uA):Prop:=∃m,r=AL it m/\m.Perm (la++lb)/\Srt key m
section
variable {la lb lo:List Nat} {ia ib:Nat}
theorem Mg.stepA (h:Mg key la lb lo ia ib) (sa:Srt key la) (hi:ia<la.length) (hh:∀y∈lb.drop ib,O.kle (key (la.getD ia 0)) (key y)):Mg key la lb (lo++[la.getD ia 0]) (ia+1) ib:=by rw [<-ZeC hi];refine h.outA sa 1 fun x hx=>?_;rw [ZeC hi] at hx;rw [ju.mp hx];exact hh
theorem Mg.stepB (h:Mg key la lb lo ia ib) (sb:Srt key lb) (hi:ib<lb.length) (hh:∀y∈la.drop ia,O.kle (key (lb.getD ib 0)) (key y)):Mg key la lb (lo++[lb.getD ib 0]) ia (ib+1):=by rw [<-ZeC hi];refine h.outB sb 1 fun x hx=>?_;rw [ZeC hi] at hx;rw [ju.mp hx];exact hh
theorem Mg.fin1 (h:Mg key la lb lo ia ib) (sa:Srt key la) (sb:Srt key lb) (hi:ia=la.length\/ib=lb.length):Res it key la lb (AL it lo++(AL it la).extract ia la.length++(AL it lb).extract ib lb.length):=by
 rw [ZeO,ZeO,Za0,Za0,j5];refine ⟨_,rfl,h.perm,?_⟩;rcases hi with rfl|rfl
 ·rw [Ve,uH];exact h.srt.app (sb.sub (UN _ _)) h.leb
 ·rw [Ve,vf];exact h.srt.app (sa.sub (UN _ _)) h.lea
theorem Mg.fin2 (h:Mg key la lb lo ia ib) (sb:Srt key lb) (h1:∀y∈lb,O.kle (key y) (key (la.getD (la.length-1) 0))) (hi:ia+1=la.length):Res it key la lb (AL it lo++(AL it lb).extract ib lb.length++(AL it la).extract ia la.length):=by
 rw [ZeO,ZeO,Za0,Za0];refine ⟨_,rfl,?_,?_⟩
 ·rw [j5];exact List.Perm.trans (List.Perm.append_left lo US) h.perm
 ·have e:la.drop ia=[la.getD (la.length-1) 0]:=by rw [<-QD (l:=la.drop ia) (i:=1) (by rw [jJ];omega),ZeC (by omega),show la.length-1=ia by omega]
  rw [e];refine (h.srt.app (sb.sub (UN _ _)) h.leb).app (Wd _ _) fun x hx y hy=>?_;rw [ju.mp hy];rcases jL.mp hx with hx|hx
  ·exact h.lea x hx _ (by rw [e];exact ju.mpr rfl)
  ·exact h1 x (UC hx)
end
def In (it:Array uA) (key:Nat->O.α) (la lb:List Nat) (out:Array uA) (ia ib:Nat):Prop:=∃lo,out=AL it lo/\Mg key la lb lo ia ib/\ia+1<la.length/\ib<lb.length
theorem Z2 {l:List Nat} {i:Nat} (h:i<l.length):l.getD i 0∈l:=by rw [Qb,Qd h];exact QT h
def ZDO:Nat->StateT jD Sem Unit:=sortPriv% PySem.Builtin.setMinGallop
theorem Zli {M:uL} {g:Nat} {st:jD} {Q:Unit->jD->Prop} (h:∀st',Ks st st'->Q () st'):wpS M A E s (ZDO g) Q st:=va (h _ ⟨rfl,rfl,rfl,rfl⟩)
theorem zB {M:uL} {α:Type} {a b:Nat} {x y:StateT jD Sem α} {Q:α->jD->Prop} {st:jD} (h1:a=b->wpS M A E s x Q st) (h2:a≠b->wpS M A E s y Q st):wpS M A E s (if (a==b)=true then x else y) Q st:=by
 by_cases e:a=b
 ·rw [if_pos (by simpa using e)];exact h1 e
 ·rw [if_neg (by simpa using e)];exact h2 e
theorem qG {M:uL} {α:Type} {c:Prop} [Decidable c] {x y:StateT jD Sem α} {Q:α->jD->Prop} {st:jD} (h1:c->wpS M A E s x Q st) (h2:¬c->wpS M A E s y Q st):wpS M A E s (if c then x else y) Q st:=by
 by_cases e:c
 ·rw [if_pos e];exact h1 e
 ·rw [if_neg e];exact h2 e
theorem Ztw {l:List Nat} (sl:Srt key l) {x b m:Nat} (hb:b+m<=l.length) (i j:Nat) (hij:i<=j) (hj:j<m) (h:bey key false x (l.getD (b+j) 0)=true):bey key false x (l.getD (b+i) 0)=true:=by
 have h:(!O.blt (key x) (key (l.getD (b+j) 0)))=true:=h;show (!O.blt (key x) (key (l.getD (b+i) 0)))=true
 rw [QR] at h ⊢
 exact Qy (sl.get (by omega) (by omega)) h
theorem Ztx {l:List Nat} (sl:Srt key l) {x b m:Nat} (hb:b+m<=l.length) (i j:Nat) (hij:i<=j) (hj:j<m) (h:bey key true x (l.getD (b+j) 0)=true):bey key true x (l.getD (b+i) 0)=true:=by
 have h:O.klt (key (l.getD (b+j) 0)) (key x):=h;have g:O.kle (key (l.getD (b+i) 0)) (key (l.getD (b+j) 0)):=sl.get (by omega) (by omega);show O.blt (key (l.getD (b+i) 0)) (key x)=true;rcases O.negTrans _ (key (l.getD (b+i) 0)) _ h with w|w
 ·rw [show O.blt (key (l.getD (b+j) 0)) (key (l.getD (b+i) 0))=false from g] at w;cases w
 ·exact w
theorem Zi7 {left:Bool} {x y:Nat} (h:bey key left x y=true):O.kle (key y) (key x):=by
 cases left with
 |true=>exact Uf h
 |false=>
  have h:(!O.blt (key x) (key y))=true:=h;rw [QR] at h;exact h
theorem Zg2 {left:Bool} {x y:Nat} (h:bey key left x y=false):O.kle (key x) (key y):=by
 cases left with
 |true=>exact h
 |false=>
  have h:(!O.blt (key x) (key y))=false:=h;rw [Bool.not_eq_false'] at h;exact Uf h
theorem ZjR {left:Bool} {l:List Nat} {x b k:Nat} (h:∀i,i<k->bey key left x (l.getD (b+i) 0)=true) (y:Nat) (hy:y∈(l.drop b).take k):O.kle (key y) (key x):=by obtain ⟨i,i1,i2,i3,rfl⟩:=ZbR hy;have:=Zi7 (h (i-b) (by omega));rwa [show b+(i-b)=i by omega] at this
theorem Zov {left:Bool} {l:List Nat} {x b k m:Nat} (hm:l.length<=b+m) (h:∀i,k<=i->i<m->bey key left x (l.getD (b+i) 0)=false) (y:Nat) (hy:y∈l.drop (b+k)):O.kle (key x) (key y):=by obtain ⟨i,i1,i2,rfl⟩:=Zit hy;have:=Zg2 (h (i-b) (by omega) (by omega));rwa [show b+(i-b)=i by omega] at this
theorem Srt.head {l:List Nat} (h:Srt key l) {i y:Nat} (hy:y∈l.drop i):O.kle (key (l.getD i 0)) (key y):=by obtain ⟨j,j1,j2,rfl⟩:=Zit hy;exact h.get j1 j2
theorem Zw8 (hC:ZhO prog w A s κ it key n) {la lb:List Nat} (ha:∀y∈la,y<n) (hb:∀y∈lb,y<n) (sa:Srt key la) (sb:Srt key lb) (na:la≠[]) (nb:lb≠[]) (hd:∀x∈la,∀y∈lb,x<y)
 (h0:∀y∈la,O.kle (key (lb.getD 0 0)) (key y)) (h1:∀y∈lb,O.kle (key y) (key (la.getD (la.length-1) 0))) {st:jD} (hk:kindOf st=κ) {Q:Array uA->jD->Prop}
 (q:∀m st',Ks st st'->m.Perm (la++lb)->Srt key m->Q (AL it m) st'):wpS (jr prog w) A E s (mlo (AL it la) (AL it lb)) Q st:=by
 unfold mlo;have la0:0<la.length:=vT.mpr na;have lb0:0<lb.length:=vT.mpr nb;have qr:∀r st',Ks st st'->Res it key la lb r->Q r st':=fun r st' ks ⟨m,e,p,sm⟩=>e▸q m st' ks p sm;have m0:Mg key la lb [lb.getD 0 0] 0 1:=by have:=Mg.stepB (key:=key) (la:=la) (lb:=lb) (lo:=[]) (ia:=0) (ib:=0) ⟨List.Pairwise.nil,(fun x hx=>by cases hx),(fun x hx=>by cases hx),List.Perm.refl _⟩ sb lb0 (by rw [Uc];exact h0);exact this
 refine jp (vC (uC ⟨rfl,?_⟩));refine jp (zb lb0 ?_);dsimp only;simp only [ZaJ,Zmw];by_cases c1:1=lb.length
 ·rw [if_pos (by simpa using c1)];exact jv (qr _ _ (Ks.refl _) (m0.fin1 sa sb (.inr c1)))
 rw [if_neg (by simpa using c1)];by_cases c2:0+1=la.length
 ·rw [if_pos (by simpa using c2)];exact jv (qr _ _ (Ks.refl _) (m0.fin2 sb h1 c2))
 rw [if_neg (by simpa using c2)];refine jp (vo ?_)
 refine jp (ug (j6 (I:=fun i c st'=>Ks st st'/\c.1=none/\In it key la lb c.2.1 c.2.2.1 c.2.2.2.1/\i+1<=c.2.2.1+c.2.2.2.1)
  (Q:=fun c st'=>Ks st st'/\∃r,c.1=some r/\Res it key la lb r) ?_ ?_ ⟨Ks.refl _,rfl,⟨_,rfl,m0,by dsimp only;omega,by dsimp only;omega⟩,by dsimp only;omega⟩) ?_)
 ·rintro i ⟨ret,out,ia,ib,mg⟩ st1 _ hi ⟨ks1,r1,hin,cnt⟩
  dsimp only at r1 hin cnt ⊢
  subst r1
  refine jp (ug (j6 (I:=fun i c st'=>Ks st st'/\c.1=none/\In it key la lb c.2.1 c.2.2.1 c.2.2.2.1/\ia+ib+i<=c.2.2.1+c.2.2.2.1)
   (Q:=fun c st'=>Ks st st'/\((∃r,c.1=some r/\Res it key la lb r)\/c.1=none/\In it key la lb c.2.1 c.2.2.1 c.2.2.2.1/\ia+ib+1<=c.2.2.1+c.2.2.2.1)) ?_ ?_ ⟨ks1,rfl,hin,by show ia+ib+0<=ia+ib;omega⟩) ?_)
  ·rintro j ⟨ret,out,ja,jb,ac,bc⟩ st2 _ hj ⟨ks2,r2,⟨lo,rfl,mg2,d1,d2⟩,cnt2⟩
   dsimp only at r2 d1 d2 cnt2 mg2 ⊢
   subst r2;refine jp (zb d2 (jp (zb (by omega) (jp (Zhh hC (ks2.kind.trans hk) (hd _ (Z2 (by omega)) _ (Z2 d2)) (hb _ (Z2 d2)) ?_)))));dsimp only
   cases e:O.blt (key (lb.getD jb 0)) (key (la.getD ja 0)) with
   |true=>
    rw [if_pos rfl];refine jp (zb d2 ?_);have mg3:=mg2.stepB sb d2 fun y hy=>Qy (Uf e) (sa.head hy);simp only [Zdc];by_cases c3:jb+1=lb.length
    ·rw [if_pos (by simpa using c3)];exact jv ⟨ks2,.inl ⟨_,rfl,mg3.fin1 sa sb (.inr c3)⟩⟩
    rw [if_neg (by simpa using c3)];split
    ·exact jv ⟨ks2,.inr ⟨rfl,⟨_,rfl,mg3,d1,by dsimp only;omega⟩,by show ia+ib+1<=ja+(jb+1);omega⟩⟩
    ·exact jv ⟨ks2,rfl,⟨_,rfl,mg3,d1,by dsimp only;omega⟩,by show ia+ib+(j+1)<=ja+(jb+1);omega⟩
   |false=>
    rw [if_neg Qg];refine jp (zb (show ja<la.length by omega) ?_);have mg3:=mg2.stepA sa (by omega) fun y hy=>Qy e (sb.head hy);simp only [Zdc];by_cases c3:ja+1+1=la.length
    ·rw [if_pos (by simpa using c3)];exact jv ⟨ks2,.inl ⟨_,rfl,mg3.fin2 sb h1 c3⟩⟩
    rw [if_neg (by simpa using c3)];split
    ·exact jv ⟨ks2,.inr ⟨rfl,⟨_,rfl,mg3,by dsimp only;omega,d2⟩,by show ia+ib+1<=ja+1+jb;omega⟩⟩
    ·exact jv ⟨ks2,rfl,⟨_,rfl,mg3,by dsimp only;omega,d2⟩,by show ia+ib+(j+1)<=ja+1+jb;omega⟩
  ·rintro c st2 ⟨ks2,r2,hin2,cnt2⟩;exact ⟨ks2,.inr ⟨r2,hin2,by omega⟩⟩
  ·rintro ⟨ret,out,ja,jb,ac,bc⟩ st2 ⟨ks2,⟨r,r2,res⟩|⟨r2,hin2,cnt2⟩⟩
   ·dsimp only at r2;subst r2;exact jv ⟨ks2,r,rfl,res⟩
   dsimp only at r2 hin2 cnt2;subst r2;dsimp only;refine jp (vC (uC ⟨rfl,?_⟩))
   refine jp (ug (j6 (I:=fun i c st'=>Ks st st'/\c.1=none/\In it key la lb c.2.1 c.2.2.1 c.2.2.2.1/\ja+jb<=c.2.2.1+c.2.2.2.1)
    (Q:=fun c st'=>Ks st st'/\((∃r,c.1=some r/\Res it key la lb r)\/c.1=none/\In it key la lb c.2.1 c.2.2.1 c.2.2.2.1/\ja+jb<=c.2.2.1+c.2.2.2.1)) ?_ ?_ ⟨ks2,rfl,hin2,Qf _⟩) ?_)
   ·rintro j ⟨ret,out,ka,kb,mg3,ac3,bc3⟩ st3 _ hj ⟨ks3,r3,⟨lo,rfl,m3,d1,d2⟩,cnt3⟩
    dsimp only at r3 d1 d2 cnt3 m3 ⊢
    subst r3;refine qG (fun _=>?_) fun _=>?_
    all_goals
     refine jp (Zli fun st4 ks4=>jp (zb d2 (jp (ZdY hC ha (hb _ (Z2 d2)) (by omega) (by omega) (by intro i hi;exact hd _ (Z2 (by omega)) _ (Z2 d2)) ((ks3.trans ks4).kind.trans hk) (Ztw sa (by omega)) fun k k1 k2 k3=>?_))));replace ks4:=ks3.trans ks4;have m4:=m3.outA sa k fun x hx y hy=>Qy (ZjR k2 x hx) (sb.head hy);have g4:=Zov (by omega) k3;dsimp only;refine qG (fun kz=>?_) fun kz=>?_
    all_goals first
     |(simp only [ZgW,Za0]
       refine zB (fun c4=>jv ⟨ks4,.inl ⟨_,rfl,m4.fin2 sb h1 c4⟩⟩) fun c4=>zB (fun c5=>jv ⟨ks4,.inl ⟨_,rfl,m4.fin1 sa sb (.inl c5)⟩⟩) fun c5=>?_;have d4:ka+k+1<la.length:=by omega)
     |(obtain rfl:k=0:=by omega
       rw [Q5,vf,Uk] at m4;rw [Uk] at g4;have d4:=d1)
    all_goals
     have m5:=m4.stepB sb d2 g4;refine jp (zb d2 ?_);simp only [Zdc];refine zB (fun c6=>jv ⟨ks4,.inl ⟨_,rfl,m5.fin1 sa sb (.inr c6)⟩⟩) fun c6=>jp (zb (by omega) (jp (ZdY hC hb (ha _ (Z2 (by omega))) (by omega) (by omega) (by intro i hi;exact hd _ (Z2 (by omega)) _ (Z2 (by omega))) (ks4.kind.trans hk) (Ztx sb (by omega)) fun v v1 v2 v3=>?_)));have m6:=m5.outB sb v fun x hx y hy=>Qy (ZjR v2 x hx) (sa.head hy);have g6:=Zov (by omega) v3;dsimp only;refine qG (fun vz=>?_) fun vz=>?_
    all_goals first
     |(simp only [ZgW,Za0]
       refine zB (fun c7=>jv ⟨ks4,.inl ⟨_,rfl,m6.fin1 sa sb (.inr c7)⟩⟩) fun c7=>?_;have d6:kb+1+v<lb.length:=by omega)
     |(obtain rfl:v=0:=by omega
       rw [Q5,vf,Uk] at m6;rw [Uk] at g6;have d6:kb+1<lb.length:=by omega)
    all_goals
     have m7:=m6.stepA sa (by omega) g6;refine jp (zb (by omega) ?_);simp only [Zdc];refine zB (fun c8=>jv ⟨ks4,.inl ⟨_,rfl,m7.fin2 sb h1 c8⟩⟩) fun c8=>qG (fun _=>jv ⟨ks4,.inr ⟨rfl,⟨_,rfl,m7,by dsimp only;omega,d6⟩,by dsimp only;omega⟩⟩) fun _=>jv ⟨ks4,rfl,⟨_,rfl,m7,by dsimp only;omega,d6⟩,by dsimp only;omega⟩
   ·rintro c st3 ⟨ks3,r3,hin3,cnt3⟩;exact ⟨ks3,.inr ⟨r3,hin3,cnt3⟩⟩
   ·rintro ⟨ret,out,ka,kb,mg,ac,bc⟩ st3 ⟨ks3,⟨r,r3,res⟩|⟨r3,hin3,cnt3⟩⟩
    ·dsimp only at r3;subst r3;exact jv ⟨ks3,r,rfl,res⟩
    dsimp only at r3 hin3 cnt3;subst r3;dsimp only;refine jp (va (jv ⟨ks3.trans ⟨rfl,rfl,rfl,rfl⟩,rfl,hin3,?_⟩));show i+1+1<=ka+kb;omega
 ·rintro ⟨ret,out,ia,ib,mg⟩ st' ⟨_,_,⟨lo,_,_,d1,d2⟩,cnt⟩;dsimp only at d1 d2 cnt;omega
 ·rintro ⟨ret,out,ia,ib,mg⟩ st' ⟨ks,r,r1,res⟩;dsimp only at r1;subst r1;exact jv (qr r st' ks res)
end
end LB
namespace LB
open PySem PySem.W PyProof.Rows
section
variable {prog:jw} {w:jB} {A:Around} {E:Value->jj->Prop} {s:jj} {κ:uz} {it:Array uA} {O:u9} {key:Nat->O.α} {n:Nat}
structure Mh (key:Nat->O.α) (la lb:List Nat) (hi:List Nat) (na nb:Nat):Prop where
 srt:Srt key hi
 lea:∀x∈hi,∀y∈la.take na,O.kle (key y) (key x)
 leb:∀x∈hi,∀y∈lb.take nb,O.kle (key y) (key x)
 perm:(la.take na++(lb.take nb++hi)).Perm (la++lb)
section
variable {la lb hi:List Nat} {na nb:Nat}
theorem ZiY {l:List Nat} {j m:Nat} (h:j<=m):l.take j++(l.drop j).take (m-j)=l.take m:=by have e:=QP j (l.take m);rw [WT,show min j m=j by omega] at e;rw [List.take_drop,show j+(m-j)=m by omega];exact e
theorem Mh.outA (h:Mh key la lb hi na nb) (sa:Srt key la) {j:Nat} (hj:j<=na) (hh:∀x∈(la.drop j).take (na-j),∀y∈lb.take nb,O.kle (key y) (key x)):Mh key la lb ((la.drop j).take (na-j)++hi) j nb:=by
 have e:=ZiY (l:=la) hj;have sd:Srt key (la.take j++(la.drop j).take (na-j)):=by rw [e];exact sa.sub (Uz _ _)
 obtain ⟨s1,s2,s3⟩:=UB.mp sd;refine ⟨Srt.app s2 h.srt fun x hx y hy=>h.lea y hy x (by rw [<-e];exact js _ hx),fun x hx y hy=>?_,fun x hx y hy=>?_,?_⟩
 ·rcases jL.mp hx with hx|hx
  ·exact s3 y hy x hx
  ·exact h.lea x hx y (by rw [<-e];exact uk _ hy)
 ·rcases jL.mp hx with hx|hx
  ·exact hh x hx y hy
  ·exact h.leb x hx y hy
 ·refine List.Perm.trans ?_ h.perm;rw [<-e,j5];refine List.Perm.append_left _ ?_;rw [<-j5,<-j5];exact List.Perm.append_right _ US
theorem Mh.outB (h:Mh key la lb hi na nb) (sb:Srt key lb) {j:Nat} (hj:j<=nb) (hh:∀x∈(lb.drop j).take (nb-j),∀y∈la.take na,O.kle (key y) (key x)):Mh key la lb ((lb.drop j).take (nb-j)++hi) na j:=by
 have e:=ZiY (l:=lb) hj;have sd:Srt key (lb.take j++(lb.drop j).take (nb-j)):=by rw [e];exact sb.sub (Uz _ _)
 obtain ⟨s1,s2,s3⟩:=UB.mp sd;refine ⟨Srt.app s2 h.srt fun x hx y hy=>h.leb y hy x (by rw [<-e];exact js _ hx),fun x hx y hy=>?_,fun x hx y hy=>?_,?_⟩
 ·rcases jL.mp hx with hx|hx
  ·exact hh x hx y hy
  ·exact h.lea x hx y hy
 ·rcases jL.mp hx with hx|hx
  ·exact s3 y hy x hx
  ·exact h.leb x hx y (by rw [<-e];exact uk _ hy)
 ·refine List.Perm.trans (List.Perm.of_eq ?_) h.perm;rw [<-e,j5]
theorem Zk0 {l:List Nat} {m:Nat} (h:m<=l.length) (h0:0<m):(l.drop (m-1)).take (m-(m-1))=[l.getD (m-1) 0]:=by rw [show m-(m-1)=1 by omega,ZeC (by omega)]
theorem Mh.stepA (h:Mh key la lb hi na nb) (sa:Srt key la) (h1:na<=la.length) (h0:0<na) (hh:∀y∈lb.take nb,O.kle (key y) (key (la.getD (na-1) 0))):Mh key la lb (la.getD (na-1) 0::hi) (na-1) nb:=by
 have:=h.outA sa (j:=na-1) (by omega) fun x hx=>by rw [Zk0 h1 h0] at hx;rw [ju.mp hx];exact hh
 rwa [Zk0 h1 h0] at this
theorem Mh.stepB (h:Mh key la lb hi na nb) (sb:Srt key lb) (h1:nb<=lb.length) (h0:0<nb) (hh:∀y∈la.take na,O.kle (key y) (key (lb.getD (nb-1) 0))):Mh key la lb (lb.getD (nb-1) 0::hi) na (nb-1):=by
 have:=h.outB sb (j:=nb-1) (by omega) fun x hx=>by rw [Zk0 h1 h0] at hx;rw [ju.mp hx];exact hh
 rwa [Zk0 h1 h0] at this
theorem Zdb (l:List Nat) (m:Nat):(AL it l).extract 0 m=AL it (l.take m):=by rw [Ze3,Uc,VF]
theorem Mh.fin1 (h:Mh key la lb hi na nb) (sa:Srt key la) (sb:Srt key lb) (hn:na=0\/nb=0):Res it key la lb ((AL it la).extract 0 na++(AL it lb).extract 0 nb++(AL it hi.reverse).reverse):=by
 rw [Zdb,Zdb,Zi3,Wt,Za0,Za0,j5];refine ⟨_,rfl,h.perm,?_⟩;rcases hn with rfl|rfl
 ·rw [Q5,uH];exact (sb.sub (Uz _ _)).app h.srt fun x hx y hy=>h.leb y hy x hx
 ·rw [Q5,uH];exact (sa.sub (Uz _ _)).app h.srt fun x hx y hy=>h.lea y hy x hx
theorem Mh.fin2 (h:Mh key la lb hi na nb) (sa:Srt key la) (h0:∀y∈la,O.kle (key (lb.getD 0 0)) (key y)) (lb0:0<lb.length) (hn:nb=1):Res it key la lb ((AL it lb).extract 0 nb++(AL it la).extract 0 na++(AL it hi.reverse).reverse):=by
 rw [Zdb,Zdb,Zi3,Wt,Za0,Za0];subst hn;refine ⟨_,rfl,?_,?_⟩
 ·refine List.Perm.trans ?_ h.perm;rw [<-j5];exact List.Perm.append_right _ US
 ·have e:lb.take 1=[lb.getD 0 0]:=by have:=ZeC lb0;rwa [Uc] at this
  rw [j5];rw [e];refine Srt.app (Wd _ _) ((sa.sub (Uz _ _)).app h.srt fun x hx y hy=>h.lea y hy x hx) fun x hx y hy=>?_;rw [ju.mp hx];rcases jL.mp hy with hy|hy
  ·exact h0 y (Q6 hy)
  ·exact h.leb y hy _ (by rw [e];exact ju.mpr rfl)
theorem Zp4 {l:List Nat} {m y:Nat} (h:y∈l.take m):∃j,j<l.length/\j<m/\y=l.getD j 0:=by
 have:y∈(l.drop 0).take m:=by rwa [Uc]
 obtain ⟨j,_,j2,j3,e⟩:=ZbR this;exact ⟨j,j2,by omega,e⟩
theorem Srt.last {l:List Nat} (h:Srt key l) {m y:Nat} (hm:m<=l.length) (hy:y∈l.take m):O.kle (key y) (key (l.getD (m-1) 0)):=by obtain ⟨j,j1,j2,rfl⟩:=Zp4 hy;exact h.get (by omega) (by omega)
theorem Zlo {left:Bool} {l:List Nat} {x k:Nat} (h:∀i,i<k->bey key left x (l.getD (0+i) 0)=true) (y:Nat) (hy:y∈l.take k):O.kle (key y) (key x):=ZjR h y (by rwa [Uc])
theorem Ztv {left:Bool} {l:List Nat} {x k m:Nat} (h:∀i,k<=i->i<m->bey key left x (l.getD (0+i) 0)=false) (y:Nat) (hy:y∈(l.drop k).take (m-k)):O.kle (key x) (key y):=by obtain ⟨i,i1,i2,i3,rfl⟩:=ZbR hy;have:=Zg2 (h i i1 (by omega));rwa [VD] at this
theorem Zdd (h:List Nat) (x:Nat):(AL it h.reverse).push (um it x)=AL it (x::h).reverse:=by rw [Zdc,List.reverse_cons]
theorem ZjX (h l:List Nat) (i j:Nat):AL it h.reverse++((AL it l).extract i j).reverse=AL it ((l.drop i).take (j-i)++h).reverse:=by rw [Ze3,Zi3,Za0,List.reverse_append]
end
def Ih (it:Array uA) (key:Nat->O.α) (la lb:List Nat) (out:Array uA) (na nb:Nat):Prop:=∃hi,out=AL it hi.reverse/\Mh key la lb hi na nb/\1<=na/\na<=la.length/\2<=nb/\nb<=lb.length
theorem Zw7 (hC:ZhO prog w A s κ it key n) {la lb:List Nat} (ha:∀y∈la,y<n) (hb:∀y∈lb,y<n) (sa:Srt key la) (sb:Srt key lb) (na:la≠[]) (nb:lb≠[]) (hd:∀x∈la,∀y∈lb,x<y)
 (h0:∀y∈la,O.kle (key (lb.getD 0 0)) (key y)) (h1:∀y∈lb,O.kle (key y) (key (la.getD (la.length-1) 0))) {st:jD} (hk:kindOf st=κ) {Q:Array uA->jD->Prop}
 (q:∀m st',Ks st st'->m.Perm (la++lb)->Srt key m->Q (AL it m) st'):wpS (jr prog w) A E s (mhi (AL it la) (AL it lb)) Q st:=by
 unfold mhi;have la0:0<la.length:=vT.mpr na;have lb0:0<lb.length:=vT.mpr nb;have qr:∀r st',Ks st st'->Res it key la lb r->Q r st':=fun r st' ks ⟨m,e,p,sm⟩=>e▸q m st' ks p sm;have m0:Mh key la lb [la.getD (la.length-1) 0] (la.length-1) lb.length:=by refine Mh.stepA (key:=key) (la:=la) (lb:=lb) (hi:=[]) (na:=la.length) (nb:=lb.length) ⟨List.Pairwise.nil,(fun x hx=>by cases hx),(fun x hx=>by cases hx),?_⟩ sa (Qf _) la0 (by rw [QF];exact h1);rw [QF,QF,vf]
 refine jp (vC (uC ⟨rfl,?_⟩));simp only [ZaJ];refine jp (zb (by omega) ?_);simp only [Zmw];rw [show [la.getD (la.length-1) 0]=[la.getD (la.length-1) 0].reverse from rfl];refine zB (fun c1=>jv (qr _ _ (Ks.refl _) (m0.fin1 sa sb (.inl c1)))) fun c1=>zB (fun c2=>jv (qr _ _ (Ks.refl _) (m0.fin2 sa h0 lb0 c2))) fun c2=>?_;refine jp (vo ?_)
 refine jp (ug (j6 (I:=fun i c st'=>Ks st st'/\c.1=none/\Ih it key la lb c.2.2.2.1 c.2.1 c.2.2.1/\c.2.1+c.2.2.1+i+1<=la.length+lb.length)
  (Q:=fun c st'=>Ks st st'/\∃r,c.1=some r/\Res it key la lb r) ?_ ?_ ⟨Ks.refl _,rfl,⟨_,rfl,m0,by dsimp only;omega,by dsimp only;omega,by dsimp only;omega,by dsimp only;omega⟩,by dsimp only;omega⟩) ?_)
 ·rintro i ⟨ret,ia,ib,out,mg⟩ st1 _ hi ⟨ks1,r1,hin,cnt⟩
  dsimp only at r1 hin cnt ⊢
  subst r1
  refine jp (ug (j6 (I:=fun i c st'=>Ks st st'/\c.1=none/\Ih it key la lb c.2.2.2.1 c.2.1 c.2.2.1/\c.2.1+c.2.2.1+i<=ia+ib)
   (Q:=fun c st'=>Ks st st'/\((∃r,c.1=some r/\Res it key la lb r)\/c.1=none/\Ih it key la lb c.2.2.2.1 c.2.1 c.2.2.1/\c.2.1+c.2.2.1+1<=ia+ib)) ?_ ?_ ⟨ks1,rfl,hin,by dsimp only;omega⟩) ?_)
  ·rintro j ⟨ret,ja,jb,out,ac,bc⟩ st2 _ hj ⟨ks2,r2,⟨hi,rfl,mg2,d1,d2,d3,d4⟩,cnt2⟩
   dsimp only at r2 d1 d2 d3 d4 cnt2 mg2 ⊢
   subst r2;refine jp (zb (by omega) (jp (zb (by omega) (jp (Zhh hC (ks2.kind.trans hk) (hd _ (Z2 (by omega)) _ (Z2 (by omega))) (hb _ (Z2 (by omega))) ?_)))));dsimp only
   cases e:O.blt (key (lb.getD (jb-1) 0)) (key (la.getD (ja-1) 0)) with
   |true=>
    rw [if_pos rfl];refine jp (zb (show ja-1<la.length by omega) ?_);have mg3:=mg2.stepA sa d2 d1 fun y hy=>Qy (sb.last d4 hy) (Uf e);simp only [Zdd];refine zB (fun c3=>jv ⟨ks2,.inl ⟨_,rfl,mg3.fin1 sa sb (.inl c3)⟩⟩) fun c3=>qG (fun _=>jv ⟨ks2,.inr ⟨rfl,⟨_,rfl,mg3,by dsimp only;omega,by dsimp only;omega,d3,d4⟩,by dsimp only;omega⟩⟩) fun _=>jv ⟨ks2,rfl,⟨_,rfl,mg3,by dsimp only;omega,by dsimp only;omega,d3,d4⟩,by dsimp only;omega⟩
   |false=>
    rw [if_neg Qg];refine jp (zb (show jb-1<lb.length by omega) ?_);have mg3:=mg2.stepB sb d4 (by omega) fun y hy=>Qy (sa.last d2 hy) e;simp only [Zdd];refine zB (fun c3=>jv ⟨ks2,.inl ⟨_,rfl,mg3.fin2 sa h0 lb0 c3⟩⟩) fun c3=>qG (fun _=>jv ⟨ks2,.inr ⟨rfl,⟨_,rfl,mg3,d1,d2,by dsimp only;omega,by dsimp only;omega⟩,by dsimp only;omega⟩⟩) fun _=>jv ⟨ks2,rfl,⟨_,rfl,mg3,d1,d2,by dsimp only;omega,by dsimp only;omega⟩,by dsimp only;omega⟩
  ·rintro c st2 ⟨ks2,r2,hin2,cnt2⟩;exact ⟨ks2,.inr ⟨r2,hin2,by omega⟩⟩
  ·rintro ⟨ret,ja,jb,out,ac,bc⟩ st2 ⟨ks2,⟨r,r2,res⟩|⟨r2,hin2,cnt2⟩⟩
   ·dsimp only at r2;subst r2;exact jv ⟨ks2,r,rfl,res⟩
   dsimp only at r2 hin2 cnt2;subst r2;dsimp only;refine jp (vC (uC ⟨rfl,?_⟩))
   refine jp (ug (j6 (I:=fun i c st'=>Ks st st'/\c.1=none/\Ih it key la lb c.2.2.2.1 c.2.1 c.2.2.1/\c.2.1+c.2.2.1<=ja+jb)
    (Q:=fun c st'=>Ks st st'/\((∃r,c.1=some r/\Res it key la lb r)\/c.1=none/\Ih it key la lb c.2.2.2.1 c.2.1 c.2.2.1/\c.2.1+c.2.2.1<=ja+jb)) ?_ ?_ ⟨ks2,rfl,hin2,Qf _⟩) ?_)
   ·rintro j ⟨ret,ka,kb,out,mg3,ac3,bc3⟩ st3 _ hj ⟨ks3,r3,⟨hi,rfl,m3,d1,d2,d3,d4⟩,cnt3⟩
    dsimp only at r3 d1 d2 d3 d4 cnt3 m3 ⊢
    subst r3;refine qG (fun _=>?_) fun _=>?_
    all_goals
     refine jp (Zli fun st4 ks4=>jp (zb (by omega) (jp (ZdY hC ha (hb _ (Z2 (by omega))) (by omega) (by omega) (by intro i hi;exact hd _ (Z2 (by omega)) _ (Z2 (by omega))) ((ks3.trans ks4).kind.trans hk) (Ztw sa (by omega)) fun k k1 k2 k3=>?_))));replace ks4:=ks3.trans ks4;have m4:=m3.outA sa k1 fun x hx y hy=>Qy (sb.last d4 hy) (Ztv k3 x hx);have g4:=Zlo k2;dsimp only;refine qG (fun kz=>?_) fun kz=>?_
    all_goals first
     |(simp only [ZjX]
       refine zB (fun c4=>jv ⟨ks4,.inl ⟨_,rfl,m4.fin1 sa sb (.inl c4)⟩⟩) fun c4=>?_;have d5:1<=k/\k<=la.length:=by omega)
     |(obtain rfl:k=ka:=by omega
       rw [UP,Q5,uH] at m4;have d5:1<=k/\k<=la.length:=by omega)
    all_goals
     have m5:=m4.stepB sb d4 (by omega) g4;refine jp (zb (by omega) ?_);simp only [Zdd];refine zB (fun c6=>jv ⟨ks4,.inl ⟨_,rfl,m5.fin2 sa h0 lb0 c6⟩⟩) fun c6=>jp (zb (by omega) (jp (ZdY hC hb (ha _ (Z2 (by omega))) (by omega) (by omega) (by intro i hi;exact hd _ (Z2 (by omega)) _ (Z2 (by omega))) (ks4.kind.trans hk) (Ztx sb (by omega)) fun v v1 v2 v3=>?_)));have m6:=m5.outB sb v1 fun x hx y hy=>Qy (sa.last d5.2 hy) (Ztv v3 x hx);have g6:=Zlo v2;dsimp only;refine qG (fun vz=>?_) fun vz=>?_
    all_goals first
     |(simp only [ZjX]
       refine zB (fun c7=>jv ⟨ks4,.inl ⟨_,rfl,m6.fin2 sa h0 lb0 c7⟩⟩) fun c7=>zB (fun c8=>jv ⟨ks4,.inl ⟨_,rfl,m6.fin1 sa sb (.inr c8)⟩⟩) fun c8=>?_;have d6:2<=v/\v<=lb.length:=by omega)
     |(obtain rfl:v=kb-1:=by omega
       rw [UP,Q5,uH] at m6;have d6:2<=kb-1/\kb-1<=lb.length:=by omega)
    all_goals
     have m7:=m6.stepA sa d5.2 d5.1 g6;refine jp (zb (by omega) ?_);simp only [Zdd];refine zB (fun c8=>jv ⟨ks4,.inl ⟨_,rfl,m7.fin1 sa sb (.inl c8)⟩⟩) fun c8=>qG (fun _=>jv ⟨ks4,.inr ⟨rfl,⟨_,rfl,m7,by dsimp only;omega,by dsimp only;omega,d6.1,d6.2⟩,by dsimp only;omega⟩⟩) fun _=>jv ⟨ks4,rfl,⟨_,rfl,m7,by dsimp only;omega,by dsimp only;omega,d6.1,d6.2⟩,by dsimp only;omega⟩
   ·rintro c st3 ⟨ks3,r3,hin3,cnt3⟩;exact ⟨ks3,.inr ⟨r3,hin3,cnt3⟩⟩
   ·rintro ⟨ret,ka,kb,out,mg,ac,bc⟩ st3 ⟨ks3,⟨r,r3,res⟩|⟨r3,hin3,cnt3⟩⟩
    ·dsimp only at r3;subst r3;exact jv ⟨ks3,r,rfl,res⟩
    dsimp only at r3 hin3 cnt3;subst r3;dsimp only;refine jp (va (jv ⟨ks3.trans ⟨rfl,rfl,rfl,rfl⟩,rfl,hin3,?_⟩));dsimp only;omega
 ·rintro ⟨ret,ia,ib,out,mg⟩ st' ⟨_,_,⟨lo,_,_,d1,d2,d3,d4⟩,cnt⟩;dsimp only at d1 d2 d3 d4 cnt;omega
 ·rintro ⟨ret,ia,ib,out,mg⟩ st' ⟨ks,r,r1,res⟩;dsimp only at r1;subst r1;exact jv (qr r st' ks res)
end
end LB
namespace LB
open PySem PySem.W PyProof.Rows
section
variable {prog:jw} {w:jB} {A:Around} {E:Value->jj->Prop} {s:jj} {κ:uz} {it:Array uA} {O:u9} {key:Nat->O.α} {n:Nat}
def Sg (key:Nat->O.α) (l:List Nat) (a b:Nat):Prop:=∀i j,a<=i->i<=j->j<b->O.kle (key (l.getD i 0)) (key (l.getD j 0))
theorem Zhc {l:List Nat} {a m i:Nat} (hi:i<m):((l.drop a).take m).getD i 0=l.getD (a+i) 0:=by rw [Qb,Qb,UG,if_pos hi,Ub]
theorem Sg.srt {l:List Nat} {a m:Nat} (h:Sg key l a (a+m)):Srt key ((l.drop a).take m):=by refine Ue.mpr fun i j hi hj hij=>?_;rw [jz,jJ] at hi hj;have:=h (a+i) (a+j) (by omega) (by omega) (by omega);rw [U5,U5,U6,U6];rw [Qb,Qb,Qd (show a+i<l.length by omega),Qd (show a+j<l.length by omega)] at this;exact this
structure Gd (κ:uz) (it:Array uA) (n:Nat) (st:jD) (l:List Nat) (ps:List (Nat×Nat×Nat)):Prop where
 kind:kindOf st=κ
 fail:vy st=none
 arr:vL st=AL it l
 pend:uB st=ps.toArray
 perm:l.Perm (Qk n)
theorem Gd.len {st:jD} {l:List Nat} {ps:List (Nat×Nat×Nat)} (h:Gd κ it n st l ps):l.length=n:=by rw [h.perm.length_eq,uO]
theorem Gd.lt {st:jD} {l:List Nat} {ps:List (Nat×Nat×Nat)} (h:Gd κ it n st l ps):∀y∈l,y<n:=fun y hy=>QB.mp (h.perm.mem_iff.mp hy)
def Own (l:List Nat) (a b:Nat):Prop:=∀i,a<=i->i<b->a<=l.getD i 0/\l.getD i 0<b
def qi (key:Nat->O.α) (l:List Nat):List (Nat×Nat×Nat)->Nat->Nat->Prop
 |[],a,b=>a=b
 |p::r,a,b=>p.1=a/\1<=p.2.1/\(Sg key l a (a+p.2.1)/\Own l a (a+p.2.1))/\qi key l r (a+p.2.1) b
theorem qi.app {l:List Nat}:∀{x y:List (Nat×Nat×Nat)} {a b:Nat},qi key l (x++y) a b↔∃m,qi key l x a m/\qi key l y m b
 |[],y,a,b=>⟨fun h=>⟨a,rfl,h⟩,fun ⟨m,e,h⟩=>by rw [show a=m from e];exact h⟩
 |p::x,y,a,b=>by refine ⟨fun ⟨h1,h2,h3,h4⟩=>?_,fun ⟨m,⟨h1,h2,h3,h4⟩,h5⟩=>⟨h1,h2,h3,qi.app.mpr ⟨m,h4,h5⟩⟩⟩;obtain ⟨m,h5,h6⟩:=qi.app.mp h4;exact ⟨m,⟨h1,h2,h3,h5⟩,h6⟩
theorem qi.le {l:List Nat}:∀{x:List (Nat×Nat×Nat)} {a b:Nat},qi key l x a b->a<=b
 |[],a,b,h=>VI h
 |p::x,a,b,⟨_,_,_,h⟩=>by have:=h.le;omega
theorem qi.congr {l l':List Nat}:∀{x:List (Nat×Nat×Nat)} {a b:Nat},(∀i,a<=i->i<b->l'.getD i 0=l.getD i 0)->qi key l x a b->qi key l' x a b
 |[],a,b,_,h=>h
 |p::x,a,b,e,⟨h1,h2,h3,h4⟩=>by
  have:=h4.le;refine ⟨h1,h2,⟨fun i j hi hij hj=>?_,fun i hi hj=>?_⟩,qi.congr (fun i hi=>e i (by omega)) h4⟩
  ·rw [e i hi (by omega),e j (by omega) (by omega)];exact h3.1 i j hi hij hj
  ·rw [e i hi (by omega)];exact h3.2 i hi hj
theorem ZhU (c:Nat):∀(xs:List uA) (k:Nat) (arr:Array uA),c+k+xs.length<=arr.size->∀j:Nat,((xs.zipIdx k).foldl (fun a (p:uA×Nat)=>a.setIfInBounds (c+p.2) p.1) arr)[j]?=if c+k<=j/\j<c+k+xs.length then xs[j-(c+k)]? else arr[j]?
 |[],k,arr,h,j=>by rw [if_neg (by rw [j8];omega)];rfl
 |x::xs,k,arr,h,j=>by
  rw [jy] at h;have:=ZhU c xs (k+1) (arr.setIfInBounds (c+k) x) (by rw [Array.size_setIfInBounds];omega) j;rw [List.zipIdx_cons,WR];refine this.trans ?_;rw [jy];by_cases h1:j=c+k
  ·subst h1;rw [if_neg (by omega),if_pos (by omega),VR,if_pos rfl,UP];simp;omega
  ·by_cases h2:c+(k+1)<=j/\j<c+(k+1)+xs.length
   ·rw [if_pos h2,if_pos (by omega),show j-(c+k)=(j-(c+(k+1)))+1 by omega,Vd]
   ·rw [if_neg h2,if_neg (by omega),VR,if_neg (by omega)]
def Zfm (l m:List Nat) (c:Nat):List Nat:=l.take c++(m++l.drop (c+m.length))
theorem Zq9 {l m:List Nat} {c:Nat} (h:c+m.length<=l.length):(((m.map (um it)).zipIdx 0).foldl (fun a (p:uA×Nat)=>a.setIfInBounds (c+p.2) p.1) (AL it l))=AL it (Zfm l m c):=by
 apply WB;intro j;rw [ZhU c _ 0 _ (by rw [jn,ZaJ];omega) j,jn,Uk];unfold AL Zfm;rw [UT,UT,Qi,Qi,Qi];by_cases h1:c<=j/\j<c+m.length
 ·rw [if_pos h1,Qt (by rw [jz];omega),jz,show min c l.length=c by omega,Qx (by omega)]
 ·rw [if_neg h1];by_cases h2:j<c
  ·rw [Qx (by rw [jz];omega),UG,if_pos h2]
  ·rw [Qt (by rw [jz];omega),jz,show min c l.length=c by omega,Qt (by omega),Ub,show c+m.length+(j-c-m.length)=j by omega]
theorem Za5 {l m:List Nat} {c i:Nat} (h:c+m.length<=l.length):(Zfm l m c).getD i 0=if c<=i/\i<c+m.length then m.getD (i-c) 0 else l.getD i 0:=by
 unfold Zfm;rw [Qb];by_cases h1:c<=i/\i<c+m.length
 ·rw [if_pos h1,Qt (by rw [jz];omega),jz,show min c l.length=c by omega,Qx (by omega),Qb]
 ·rw [if_neg h1,Qb];by_cases h2:i<c
  ·rw [Qx (by rw [jz];omega),UG,if_pos h2]
  ·rw [Qt (by rw [jz];omega),jz,show min c l.length=c by omega,Qt (by omega),Ub,show c+m.length+(i-c-m.length)=i by omega]
theorem ZdX {l m:List Nat} {c:Nat} (h:m.Perm ((l.drop c).take m.length)):(Zfm l m c).Perm l:=by
 unfold Zfm;have e:l=l.take c++((l.drop c).take m.length++l.drop (c+m.length)):=by rw [<-UO,QP,QP]
 exact List.Perm.trans (List.Perm.append_left _ (List.Perm.append_right _ h)) (List.Perm.of_eq e.symm)
theorem Zsz {M:uL} {x st:jD} {Q:PUnit->jD->Prop} (h:Q ⟨⟩ x):wpS M A E s (set x:StateT jD Sem PUnit) Q st:=by unfold wpS;rw [StateT.run_set];exact jl ⟨rfl,h⟩
theorem Zzy {M:uL} {x st:jD} {l:List Nat} {ps:List (Nat×Nat×Nat)} {Q:PUnit->jD->Prop} (hx:Gd κ it n x l ps) (h:∀st1,Gd κ it n st1 l ps->Q ⟨⟩ st1):wpS M A E s (set x:StateT jD Sem PUnit) Q st:=Zsz (h x hx)
theorem Zw9 {M:uL} {f:jD->jD} {st:jD} {l:List Nat} {ps:List (Nat×Nat×Nat)} {Q:PUnit->jD->Prop} (hx:Gd κ it n (f st) l ps) (h:∀st1,Gd κ it n st1 l ps->Q ⟨⟩ st1):wpS M A E s (modify f:StateT jD Sem PUnit) Q st:=va (h _ hx)
theorem Gd.ks {st st':jD} {l:List Nat} {ps:List (Nat×Nat×Nat)} (h:Gd κ it n st l ps) (k:Ks st st'):Gd κ it n st' l ps:=⟨k.kind.trans h.kind,k.fail.trans h.fail,k.arr.trans h.arr,k.pend.trans h.pend,h.perm⟩
theorem Zjt (hC:ZhO prog w A s κ it key n) {st:jD} {l:List Nat} {pre post:List (Nat×Nat×Nat)} {sa na p sb nb r e:Nat} (hG:Gd κ it n st l (pre++(sa,na,p)::(sb,nb,r)::post)) (he:e<=n) (hR:qi key l (pre++(sa,na,p)::(sb,nb,r)::post) 0 e)
 {Q:Bool->jD->Prop} (q:∀st' l',Gd κ it n st' l' (pre++(sa,na+nb,p)::post)->(∀i,e<=i->l'.getD i 0=l.getD i 0)->qi key l' (pre++(sa,na+nb,p)::post) 0 e->Q true st'):wpS (jr prog w) A E s (mergeAt' pre.length) Q st:=by
 unfold mergeAt';have hln:=hG.len;have hlt:=hG.lt;obtain ⟨x,R1,rfl,a1,⟨S1,W1⟩,rfl,b1,⟨S2,W2⟩,R2⟩:=qi.app.mp hR;dsimp only at a1 S1 W1 b1 S2 W2 R2 hG R1;have he2:=R2.le
 have fin:∀l',(∀i,¬(sa<=i/\i<sa+na+nb)->l'.getD i 0=l.getD i 0)->Sg key l' sa (sa+na+nb)->Own l' sa (sa+na+nb)->qi key l' (pre++(sa,na+nb,p)::post) 0 e:=fun l' h1 h2 h2'=>by
  refine qi.app.mpr ⟨sa,R1.congr fun i _ hi=>h1 i (by omega),rfl,by show 1<=na+nb;omega,?_,?_⟩
  ·show Sg key l' sa (sa+(na+nb))/\Own l' sa (sa+(na+nb));rw [<-Wc];exact ⟨h2,h2'⟩
  ·show qi key l' post (sa+(na+nb)) e;rw [<-Wc];exact R2.congr fun i hi _=>h1 i (by omega)
 refine jp (vo ?_);have e1:(uB st)[pre.length]?=some (sa,na,p):=by rw [hG.pend];simp
 have e2:(uB st)[pre.length+1]?=some (sa+na,nb,r):=by rw [hG.pend];simp
 rw [e1,e2];dsimp only;have ea:=hG.arr;unfold vL at ea;refine jp (Zzy (κ:=κ) (it:=it) (n:=n) (l:=l) (ps:=pre++(sa,na+nb,p)::post) ⟨hG.kind,hG.fail,hG.arr,?_,hG.perm⟩ fun st1 G1=>?_)
 ·show ((uB st).setIfInBounds pre.length (sa,na+nb,p)).eraseIdxIfInBounds (pre.length+1)=_;rw [hG.pend];simp [List.eraseIdx_append_of_length_le]
 rw [ea]
 have mono:∀{left:Bool} {b m x:Nat},Sg key l b (b+m)->∀i j,i<=j->j<m->bey key left x (l.getD (b+j) 0)=true->bey key left x (l.getD (b+i) 0)=true:=fun {left b m x} S i j hij hj h=>by
  have g:=S (b+i) (b+j) (by omega) (by omega) (by omega)
  cases left with
  |true=>
   rcases O.negTrans _ (key (l.getD (b+i) 0)) _ (show O.blt (key (l.getD (b+j) 0)) (key x)=true from h) with w|w
   ·rw [show O.blt (key (l.getD (b+j) 0)) (key (l.getD (b+i) 0))=false from g] at w;cases w
   ·exact w
  |false=>
   have h:(!O.blt (key x) (key (l.getD (b+j) 0)))=true:=h;show (!O.blt (key x) (key (l.getD (b+i) 0)))=true
   rw [QR] at h ⊢
   exact Qy g h
 have W0:Own l sa (sa+na+nb):=fun i h1 h2=>by
  by_cases c:i<sa+na
  ·have:=W1 i h1 c;omega
  ·have:=W2 i (by omega) h2;omega
 have gm:∀i,i<n->l.getD i 0<n:=fun i hi=>hlt _ (Z2 (by omega));refine jp (zb (by omega) (jp (ZdY hC hlt (gm _ (by omega)) (by omega) (by omega) (by intro i hi;exact Ql (W1 (sa+i) (by omega) (by omega)).2 (W2 (sa+na) (by omega) (by omega)).1) G1.kind (mono S1) fun k k1 k2 k3=>?_)));dsimp only;have k2':∀i,sa<=i->i<sa+k->O.kle (key (l.getD i 0)) (key (l.getD (sa+na) 0)):=fun i h1 h2=>by have:=Zi7 (k2 (i-sa) (by omega));rwa [show sa+(i-sa)=i by omega] at this
 have k3':∀i,sa+k<=i->i<sa+na->O.kle (key (l.getD (sa+na) 0)) (key (l.getD i 0)):=fun i h1 h2=>by have:=Zg2 (k3 (i-sa) (by omega) (by omega));rwa [show sa+(i-sa)=i by omega] at this
 refine zB (fun c1=>jv (q st1 l G1 (fun _ _=>rfl) (fin l (fun _ _=>rfl) (fun i j h1 h2 h3=>?_) W0))) fun c1=>?_
 ·by_cases c:j<sa+na
  ·exact S1 i j h1 h2 c
  ·by_cases c':i<sa+na
   ·exact Qy (k2' i h1 (by omega)) (S2 _ j (Qf _) (by omega) h3)
   ·exact S2 i j (by omega) h2 h3
 rw [show sa+k+(na-k)-1=sa+na-1 by omega];refine jp (zb (by omega) (jp (ZdY hC hlt (gm _ (by omega)) (by omega) (by omega) (by intro i hi;exact Ql (W1 (sa+na-1) (by omega) (by omega)).2 (W2 (sa+na+i) (by omega) (by omega)).1) G1.kind (mono S2) fun v v1 v2 v3=>?_)));dsimp only;have v2':∀i,sa+na<=i->i<sa+na+v->O.kle (key (l.getD i 0)) (key (l.getD (sa+na-1) 0)):=fun i h1 h2=>by have:=Zi7 (v2 (i-(sa+na)) (by omega));rwa [show sa+na+(i-(sa+na))=i by omega] at this
 have v3':∀i,sa+na+v<=i->i<sa+na+nb->O.kle (key (l.getD (sa+na-1) 0)) (key (l.getD i 0)):=fun i h1 h2=>by have:=Zg2 (v3 (i-(sa+na)) (by omega) (by omega));rwa [show sa+na+(i-(sa+na))=i by omega] at this
 refine zB (fun c2=>jv (q st1 l G1 (fun _ _=>rfl) (fin l (fun _ _=>rfl) (fun i j h1 h2 h3=>?_) W0))) fun c2=>?_
 ·by_cases c:j<sa+na
  ·exact S1 i j h1 h2 c
  ·by_cases c':i<sa+na
   ·exact Qy (S1 i (sa+na-1) h1 (by omega) (by omega)) (v3' j (by omega) h3)
   ·exact S2 i j (by omega) h2 h3
 have ex:(AL it l).extract (sa+k) (sa+na)=AL it ((l.drop (sa+k)).take (na-k)):=by rw [Ze3,show sa+na-(sa+k)=na-k by omega]
 rw [ex,ZgW];have lx:((l.drop (sa+k)).take (na-k)).length=na-k:=by rw [jz,jJ];omega
 have ly:((l.drop (sa+na)).take v).length=v:=by rw [jz,jJ];omega
 have hx:∀y∈(l.drop (sa+k)).take (na-k),y<n:=fun y hy=>hlt y (UC (Q6 hy));have hy:∀y∈(l.drop (sa+na)).take v,y<n:=fun y hy=>hlt y (UC (Q6 hy));have sx:Srt key ((l.drop (sa+k)).take (na-k)):=Sg.srt fun i j h1 h2 h3=>S1 i j (by omega) h2 (by omega);have sy:Srt key ((l.drop (sa+na)).take v):=Sg.srt fun i j h1 h2 h3=>S2 i j h1 h2 (by omega);have p0:∀y∈(l.drop (sa+k)).take (na-k),O.kle (key (((l.drop (sa+na)).take v).getD 0 0)) (key y):=fun y hy=>by obtain ⟨j,j1,j2,j3,rfl⟩:=ZbR hy;rw [Zhc (by omega)];exact k3' j j1 (by omega)
 have p1:∀y∈(l.drop (sa+na)).take v,O.kle (key y) (key (((l.drop (sa+k)).take (na-k)).getD (((l.drop (sa+k)).take (na-k)).length-1) 0)):=fun y hy=>by obtain ⟨j,j1,j2,j3,rfl⟩:=ZbR hy;rw [lx,Zhc (by omega),show sa+k+(na-k-1)=sa+na-1 by omega];exact v2' j j1 j3
 have cat:(l.drop (sa+k)).take (na-k)++(l.drop (sa+na)).take v=(l.drop (sa+k)).take (na-k+v):=by rw [WX,UO,show sa+k+(na-k)=sa+na by omega]
 have last:∀m st2,Ks st1 st2->m.Perm ((l.drop (sa+k)).take (na-k)++(l.drop (sa+na)).take v)->Srt key m->Gd κ it n (setArr st2 ((((AL it m).toList).zipIdx 0).foldl (fun a (p:uA×Nat)=>a.setIfInBounds (sa+k+p.2) p.1) (vL st2))) (Zfm l m (sa+k)) (pre++(sa,na+nb,p)::post)/\(∀i,e<=i->(Zfm l m (sa+k)).getD i 0=l.getD i 0)/\qi key (Zfm l m (sa+k)) (pre++(sa,na+nb,p)::post) 0 e:=fun m st2 ks pm sm=>by
  have G2:=G1.ks ks;have lm:m.length=na-k+v:=by rw [pm.length_eq,jq,lx,ly]
  have hm:sa+k+m.length<=l.length:=by omega
  have mem:∀i,sa+k<=i->i<sa+k+m.length->(∃j,sa+k<=j/\j<sa+na/\m.getD (i-(sa+k)) 0=l.getD j 0)\/∃j,sa+na<=j/\j<sa+na+v/\m.getD (i-(sa+k)) 0=l.getD j 0:=fun i h1 h2=>by
   have:=pm.mem_iff.mp (Z2 (l:=m) (i:=i-(sa+k)) (by omega));rcases jL.mp this with z|z
   ·obtain ⟨j,j1,j2,j3,e⟩:=ZbR z;exact .inl ⟨j,j1,by omega,e⟩
   ·obtain ⟨j,j1,j2,j3,e⟩:=ZbR z;exact .inr ⟨j,j1,j3,e⟩
  refine ⟨⟨G2.kind,G2.fail,?_,G2.pend,(ZdX (by rw [lm,<-cat];exact pm)).trans G1.perm⟩,fun i hi=>by rw [Za5 hm,if_neg (by omega)],fin _ (fun i hi=>by rw [Za5 hm,if_neg (by omega)]) (fun i j h1 h2 h3=>?_) fun i h1 h2=>?_⟩
  ·show (((AL it m).toList).zipIdx 0).foldl (fun a (p:uA×Nat)=>a.setIfInBounds (sa+k+p.2) p.1) (vL st2)=_;rw [G2.arr];exact Zq9 hm
  ·rw [Za5 hm,Za5 hm];by_cases ci:sa+k<=i/\i<sa+k+m.length
   ·rw [if_pos ci];by_cases cj:sa+k<=j/\j<sa+k+m.length
    ·rw [if_pos cj];exact sm.get (by omega) (by omega)
    ·rw [if_neg cj];rcases mem i ci.1 ci.2 with ⟨y,y1,y2,e⟩|⟨y,y1,y2,e⟩
     ·rw [e];exact Qy (S1 y (sa+na-1) (by omega) (by omega) (by omega)) (v3' j (by omega) h3)
     ·rw [e];exact S2 y j y1 (by omega) h3
   ·rw [if_neg ci];by_cases cj:sa+k<=j/\j<sa+k+m.length
    ·rw [if_pos cj];rcases mem j cj.1 cj.2 with ⟨y,y1,y2,e⟩|⟨y,y1,y2,e⟩
     ·rw [e];exact S1 i y h1 (by omega) y2
     ·rw [e];exact Qy (k2' i h1 (by omega)) (S2 _ y (Qf _) y1 (by omega))
    ·rw [if_neg cj];by_cases c':j<sa+k
     ·exact S1 i j h1 h2 (by omega)
     ·by_cases c'':i<sa+k
      ·exact Qy (k2' i h1 c'') (S2 _ j (Qf _) (by omega) h3)
      ·exact S2 i j (by omega) h2 h3
  ·rw [Za5 hm];by_cases ci:sa+k<=i/\i<sa+k+m.length
   ·rw [if_pos ci];rcases mem i ci.1 ci.2 with ⟨y,y1,y2,e⟩|⟨y,y1,y2,e⟩
    ·rw [e];exact W0 y (by omega) (by omega)
    ·rw [e];exact W0 y (by omega) (by omega)
   ·rw [if_neg ci];exact W0 i h1 h2
 have hd:∀x∈(l.drop (sa+k)).take (na-k),∀y∈(l.drop (sa+na)).take v,x<y:=fun x hx y hy=>by obtain ⟨i,i1,i2,i3,rfl⟩:=ZbR hx;obtain ⟨j,j1,j2,j3,rfl⟩:=ZbR hy;exact Ql (W1 i (by omega) (by omega)).2 (W2 j j1 (by omega)).1
 refine qG (fun _=>?_) fun _=>?_
 all_goals
  first
   |refine jp (Zw8 hC hx hy sx sy (fun z=>by rw [z] at lx;simp at lx;omega) (fun z=>by rw [z] at ly;simp at ly;omega) hd p0 p1 G1.kind fun m st2 ks pm sm=>?_)
   |refine jp (Zw7 hC hx hy sx sy (fun z=>by rw [z] at lx;simp at lx;omega) (fun z=>by rw [z] at ly;simp at ly;omega) hd p0 p1 G1.kind fun m st2 ks pm sm=>?_)
  obtain ⟨g1,g3,g2⟩:=last m st2 ks pm sm;refine jp (Zw9 (κ:=κ) (it:=it) (n:=n) g1 fun st3 G3=>jp (vo ?_));have ef:=G3.fail;unfold vy at ef;rw [ef];exact jv (q st3 _ G3 g3 g2)
end
end LB
namespace LB
open PySem PySem.W PyProof.Rows
section
variable {prog:jw} {w:jB} {A:Around} {E:Value->jj->Prop} {s:jj} {κ:uz} {it:Array uA} {O:u9} {key:Nat->O.α} {n:Nat}
theorem Zd3 (hC:Cmp prog w A s κ it key n) {st:jD} {l:List Nat} {ps:List (Nat×Nat×Nat)} (hG:Gd κ it n st l ps) {i j:Nat} (hi:i<n) (hj:j<n) {Q:Option Bool->jD->Prop} (h:Q (some (O.blt (key (l.getD i 0)) (key (l.getD j 0)))) st):wpS (jr prog w) A E s (ltAt' i j) Q st:=by rw [ltAt'_eq];have ln:=hG.len;refine jp (vo ?_);dsimp only;rw [hG.arr];exact jp (zb (by omega) (jp (zb (by omega) (ZCd hC hG.kind (hG.lt _ (Z2 (by omega))) (hG.lt _ (Z2 (by omega))) h))))
def Zem (l:List Nat) (i j:Nat):List Nat:=Zfm l ((l.drop i).take (j-i)).reverse i
theorem ZiM {l:List Nat} {i j:Nat} (h1:i<=j) (h2:j<=l.length):((l.drop i).take (j-i)).reverse.length=j-i:=by rw [vx,jz,jJ];omega
theorem Jr {l:List Nat} {i j k:Nat} (h1:i<=j) (h2:j<=l.length):(Zem l i j).getD k 0=if i<=k/\k<j then l.getD (i+j-1-k) 0 else l.getD k 0:=by
 unfold Zem;have rl:=ZiM h1 h2;rw [Za5 (by omega),rl];by_cases h:i<=k/\k<j
 ·rw [if_pos (by omega),if_pos h,Qb,Vk (by rw [jz,jJ];omega),jz,jJ,UG,if_pos (by omega),Ub,Qb,show i+(min (j-i) (l.length-i)-1-(k-i))=i+j-1-k by omega]
 ·rw [if_neg (by omega),if_neg h]
theorem ZgM {l:List Nat} {i j:Nat} (h1:i<=j) (h2:j<=l.length):(Zem l i j).Perm l:=by refine ZdX ?_;rw [ZiM h1 h2];exact List.reverse_perm _
theorem ZsC {l:List Nat} {a:Array uA} (f:Nat->Nat) (hl:a.size=l.length) (h:∀k,k<l.length->a[k]?=some (um it (f k))/\l.getD k 0=f k):a=AL it l:=by
 apply WB;intro k;by_cases hk:k<l.length
 ·rw [(h k hk).1,ZcU hk,(h k hk).2]
 ·rw [Q8 (by omega),Q8 (by rw [ZaJ];omega)]
theorem Zqz {l:List Nat} {i j:Nat} (h1:i<=j) (h2:j<=l.length):mirror (AL it l) i j ((j-i)/2)=AL it (Zem l i j):=by
 have el:(Zem l i j).length=l.length:=(ZgM h1 h2).length_eq;refine ZsC (fun k=>(Zem l i j).getD k 0) (by rw [mirror_size,ZaJ,el]) fun k hk=>⟨?_,rfl⟩;rw [getElem?_mirror_all (by rw [ZaJ];exact h2),Jr h1 h2];split
 ·rw [ZcU (by omega)]
 ·rw [ZcU (by omega)]
theorem Zhy {M:uL} {st:jD} {l:List Nat} {ps:List (Nat×Nat×Nat)} (hG:Gd κ it n st l ps) {i j:Nat} (h1:i<=j) (h2:j<=n) {Q:Unit->jD->Prop} (h:∀st',Gd κ it n st' (Zem l i j) ps->Q () st'):wpS M A E s (reverseSlice' i j) Q st:=by rw [reverseSlice'_eq];have ln:=hG.len;refine va (h _ ⟨hG.kind,hG.fail,?_,hG.pend,(ZgM h1 (by omega)).trans hG.perm⟩);show mirror (vL st) i j ((j-i)/2)=_;rw [hG.arr];exact Zqz h1 (by omega)
def ZeI (O:u9):u9 where
 α:=O.α×Nat
 blt a b:=O.blt a.1 b.1 || (!O.blt b.1 a.1 && decide (a.2<b.2))
 irrefl a:=by simp [O.irrefl]
 trans a b c h1 h2:=by
  simp only [QS,QM,QR,decide_eq_true_eq] at h1 h2 ⊢
  rcases h1 with h1|⟨h1,k1⟩
  ·rcases h2 with h2|⟨h2,k2⟩
   ·exact .inl (O.trans _ _ _ h1 h2)
   ·refine .inl ((O.negTrans _ c.1 _ h1).resolve_right fun z=>?_);rw [h2] at z;cases z
  ·rcases h2 with h2|⟨h2,k2⟩
   ·refine .inl ((O.negTrans _ a.1 _ h2).resolve_left fun z=>?_);rw [h1] at z;cases z
   ·exact .inr ⟨Qy h1 h2,by omega⟩
 negTrans a b c h:=by
  simp only [QS,QM,QR,decide_eq_true_eq] at h ⊢
  rcases h with h|⟨h,k⟩
  ·rcases O.negTrans _ b.1 _ h with z|z
   ·exact .inl (.inl z)
   ·exact .inr (.inl z)
  ·cases e1:O.blt a.1 b.1 with
   |true=>exact .inl (.inl rfl)
   |false=>
    cases e2:O.blt b.1 c.1 with
    |true=>exact .inr (.inl rfl)
    |false=>
     have e3:O.blt b.1 a.1=false:=by
      cases z:O.blt b.1 a.1 with
      |false=>rfl
      |true=>
       rcases O.negTrans _ c.1 _ z with y|y
       ·rw [e2] at y;cases y
       ·rw [h] at y;cases y
     have e4:O.blt c.1 b.1=false:=by
      cases z:O.blt c.1 b.1 with
      |false=>rfl
      |true=>
       rcases O.negTrans _ a.1 _ z with y|y
       ·rw [h] at y;cases y
       ·rw [e1] at y;cases y
     rcases Wm a.2 b.2 with z|z
     ·exact .inl (.inr ⟨e3,z⟩)
     ·exact .inr (.inr ⟨e4,by omega⟩)
 total a b h1 h2:=by rw [Ww] at h1 h2;have e:=O.total _ _ h1.1 h2.1;have g1:=h1.2;have g2:=h2.2;rw [h2.1] at g1;rw [h1.1] at g2;simp only [VZ,W3,decide_eq_false_iff_not] at g1 g2;exact Prod.ext e (by omega)
def lx (key:Nat->O.α) (i:Nat):(ZeI O).α:=(key i,i)
theorem Ztu {i j:Nat} (h:O.klt (key i) (key j)):(ZeI O).kle (lx key i) (lx key j):=by have g:O.blt (key i) (key j)=true:=h;have g2:O.blt (key j) (key i)=false:=Uf h;show (O.blt (key j) (key i) || (!O.blt (key i) (key j) && decide (j<i)))=false;rw [g,g2];rfl
theorem Ztt {i j:Nat} (h:O.kle (key i) (key j)) (hij:i<=j):(ZeI O).kle (lx key i) (lx key j):=by have g:O.blt (key j) (key i)=false:=h;show (O.blt (key j) (key i) || (!O.blt (key i) (key j) && decide (j<i)))=false;rw [g,decide_eq_false (by omega),Vs];rfl
theorem Zp2 {i j:Nat} (h:(ZeI O).kle (lx key i) (lx key j)):O.kle (key i) (key j):=by have h:(O.blt (key j) (key i) || (!O.blt (key i) (key j) && decide (j<i)))=false:=h;exact (Ww.mp h).1
theorem Zp1 {i j:Nat} (h:j<i):(ZeI O).blt (lx key i) (lx key j)=O.blt (key i) (key j):=by show (O.blt (key i) (key j) || (!O.blt (key j) (key i) && decide (i<j)))=_;rw [decide_eq_false (by omega),Vs,Wb]
theorem Cmp.lx (hC:Cmp prog w A s κ it key n):ZhO prog w A s κ it (lx key) n:=fun i j hj hi Q q=>by rw [Zp1 hj] at q;exact hC i j hi (by omega) Q q
theorem Zm4 {M:uL} {st:jD} {l:List Nat} {lo a nrem:Nat} {f:Nat->Option (Option Nat)×Nat->StateT jD Sem (ForInStep (Option (Option Nat)×Nat))} (h1:1<=a) (h2:a<=nrem) (hS:Sg (lx key) l lo (lo+a)) (hW:Own l lo (lo+a)) (hU:∀i,lo+a<=i->i<lo+nrem->l.getD i 0=i)
 (hf:∀i x,1<=x->x<nrem->wpS M A E s (f i (none,x)) (fun r st'=>st'=st/\r=if O.blt (key (l.getD (lo+x) 0)) (key (l.getD (lo+x-1) 0))=true then .done (none,x) else .yield (none,x+1)) st):
 wpS M A E s (forIn [a:nrem] ((none,a):Option (Option Nat)×Nat) f) (fun c st'=>st'=st/\∃m,c=(none,m)/\a<=m/\m<=nrem/\(Sg (lx key) l lo (lo+m)/\Own l lo (lo+m))/\(m=nrem\/m<nrem/\O.klt (key (l.getD (lo+m) 0)) (key (l.getD (lo+m-1) 0)))) st:=by
 refine j6 (I:=fun x c st'=>st'=st/\c=(none,x)/\Sg (lx key) l lo (lo+x)/\Own l lo (lo+x)) ?_ ?_ ⟨rfl,rfl,hS,hW⟩
 ·rintro x c st' hx1 hx2 ⟨rfl,rfl,S,W⟩;refine ug (hf x x (by omega) hx2) ?_;rintro r st' ⟨rfl,rfl⟩
  cases e:O.blt (key (l.getD (lo+x) 0)) (key (l.getD (lo+x-1) 0)) with
  |true=>exact ⟨rfl,x,rfl,hx1,by omega,⟨S,W⟩,.inr ⟨hx2,e⟩⟩
  |false=>
   have u:=hU (lo+x) (by omega) (by omega);refine ⟨rfl,rfl,fun i j hi hij hj=>?_,fun i hi hj=>?_⟩
   ·by_cases c:j<lo+x
    ·exact S i j hi hij c
    ·have:j=lo+x:=by omega
     subst this;by_cases c':i=lo+x
     ·subst c';exact Q7 _
     ·exact Qy (S i (lo+x-1) hi (by omega) (by omega)) (Ztt e (by have:=W (lo+x-1) (by omega) (by omega);omega))
   ·by_cases c:i=lo+x
    ·rw [c,u];omega
    ·have:=W i hi (by omega);omega
 ·rintro c st' ⟨rfl,rfl,S,W⟩
  rw [show max a nrem=nrem by omega] at S W ⊢
  exact ⟨rfl,nrem,rfl,h2,Qf _,⟨S,W⟩,.inl rfl⟩
def Fl (key:Nat->O.α) (l:List Nat) (a b:Nat):Prop:=∀i j,a<=i->i<j->j<b->(ZeI O).kle (lx key (l.getD j 0)) (lx key (l.getD i 0))
structure Dn (key:Nat->O.α) (n:Nat) (l:List Nat) (lo c x:Nat):Prop where
 own:Own l lo c
 un:∀i,c<=i->i<n->l.getD i 0=i
 fall:Fl key l lo c
 less:∀i j,lo<=i->i<c->c<=j->j<x->O.klt (key (l.getD j 0)) (key (l.getD i 0))
 eq:∀i,c<=i->i<x->key (l.getD i 0)=key (l.getD (x-1) 0)
structure Dn1 (key:Nat->O.α) (n:Nat) (l:List Nat) (lo x:Nat):Prop where
 own:Own l lo x
 un:∀i,x<=i->i<n->l.getD i 0=i
 fall:Fl key l lo x
theorem Dn.close {l:List Nat} {lo c x:Nat} (h:Dn key n l lo c x) (ln:l.length=n) (h1:lo<=c) (h2:c<x) (h3:x<=n):Dn1 key n (Zem l c x) lo x:=by
 have g:∀k,(Zem l c x).getD k 0=if c<=k/\k<x then c+x-1-k else l.getD k 0:=fun k=>by
  rw [Jr (by omega) (by omega)];split
  ·exact h.un _ (by omega) (by omega)
  ·rfl
 have e:∀i,c<=i->i<x->key i=key (x-1):=fun i a b=>by have:=h.eq i a b;rwa [h.un i a (by omega),h.un (x-1) (by omega) (by omega)] at this
 refine ⟨fun i hi hx=>?_,fun i hi hn=>?_,fun i j hi hij hj=>?_⟩
 ·rw [g];split
  ·omega
  ·have:=h.own i hi (by omega);omega
 ·rw [g,if_neg (by omega)];exact h.un i (by omega) hn
 ·rw [g,g];by_cases cj:c<=j
  ·rw [if_pos ⟨cj,hj⟩];by_cases ci:c<=i
   ·rw [if_pos ⟨ci,by omega⟩];refine Ztt ?_ (by omega);rw [e _ (by omega) (by omega),e (c+x-1-i) (by omega) (by omega)];exact Q7 _
   ·rw [if_neg (by omega)];have:=h.less i (c+x-1-j) hi (by omega) (by omega) (by omega);rw [h.un (c+x-1-j) (by omega) (by omega)] at this;exact Ztu this
  ·rw [if_neg (by omega),if_neg (by omega)];exact h.fall i j hi hij (by omega)
theorem Dn.one {l:List Nat} {lo c x:Nat} (h:Dn key n l lo c x) (h1:lo<=c) (h2:c+1=x) (h3:x<=n):Dn1 key n l lo x:=by
 refine ⟨fun i hi hx=>?_,fun i hi hn=>h.un i (by omega) hn,fun i j hi hij hj=>?_⟩
 ·by_cases e:i=c
  ·rw [h.un i (by omega) (by omega)];omega
  ·have:=h.own i hi (by omega);omega
 ·by_cases e:j=c
  ·exact Ztu (h.less i j hi (by omega) (by omega) hj)
  ·exact h.fall i j hi hij (by omega)
theorem Dn1.open {l:List Nat} {lo x:Nat} (h:Dn1 key n l lo x) (hl:∀i,lo<=i->i<x->O.klt (key (l.getD x 0)) (key (l.getD i 0))):Dn key n l lo x (x+1):=by
 refine ⟨h.own,h.un,h.fall,fun i j hi hi2 hj hj2=>?_,fun i h1 h2=>?_⟩
 ·have:j=x:=by omega
  subst this;exact hl i hi hi2
 ·rw [show i=x+1-1 by omega]
theorem Dn.more {l:List Nat} {lo c x:Nat} (h:Dn key n l lo c x) (h2:c<x) (e:key (l.getD x 0)=key (l.getD (x-1) 0)):Dn key n l lo c (x+1):=by
 refine ⟨h.own,h.un,h.fall,fun i j hi hi2 hj hj2=>?_,fun i h3 h4=>?_⟩
 ·by_cases z:j=x
  ·rw [z,e];exact h.less i (x-1) hi hi2 (by omega) (by omega)
  ·exact h.less i j hi hi2 hj (by omega)
 ·rw [Nat.add_sub_cancel,e];by_cases z:i=x
  ·rw [z,e]
  ·exact h.eq i h3 (by omega)
theorem ZwT {a b c:O.α} (h1:O.klt a b) (h2:O.kle b c):O.klt a c:=(O.negTrans _ c _ h1).resolve_right fun z=>by have h2:O.blt c b=false:=h2;rw [h2] at z;cases z
theorem Dn.low {l:List Nat} {lo c x:Nat} (h:Dn key n l lo c x) (h2:c<x) (i:Nat) (h3:lo<=i) (h4:i<x):O.kle (key (l.getD (x-1) 0)) (key (l.getD i 0)):=by
 by_cases z:c<=i
 ·rw [h.eq i z h4];exact Q7 _
 ·exact Uf (h.less i (x-1) h3 (by omega) (by omega) (by omega))
theorem Zm6 {M:uL} {α:Type} {c:Prop} [Decidable c] {x y:StateT jD Sem α} {Q:α->jD->Prop} {st:jD} (R:jD->Prop) (h1:c->(∀st',R st'->wpS M A E s y Q st')->wpS M A E s x Q st) (h2:¬c->R st) (h3:∀st',R st'->wpS M A E s y Q st'):wpS M A E s (if c then x else y) Q st:=qG (fun z=>h1 z h3) fun z=>h3 st (h2 z)
theorem Zol (hC:Cmp prog w A s κ it key n) {st:jD} {l:List Nat} {ps:List (Nat×Nat×Nat)} (hG:Gd κ it n st l ps) {lo nrem:Nat} (h1:1<=nrem) (h2:lo+nrem<=n) (hU:∀i,lo<=i->i<n->l.getD i 0=i) {Q:Option Nat->jD->Prop}
 (q:∀m st' l',Gd κ it n st' l' ps->(∀i,i<lo->l'.getD i 0=l.getD i 0)->1<=m->m<=nrem->Sg (lx key) l' lo (lo+m)/\Own l' lo (lo+m)->(∀i,lo+m<=i->i<n->l'.getD i 0=i)->Q (some m) st'):wpS (jr prog w) A E s (countRun' lo nrem) Q st:=by
 have ln:=hG.len
 have s1:Sg (lx key) l lo (lo+1):=fun i j h1 h2 h3=>by
  have:i=j:=by omega
  subst this;exact Q7 _
 have w1:Own l lo (lo+1):=fun i a b=>by rw [hU i a (by omega)];omega
 unfold countRun';refine jp (ug (Zm4 (key:=key) (Qf 1) h1 s1 w1 (fun i a b=>hU i (by omega) (by omega)) fun i x hx1 hx2=>?_) ?_)
 ·dsimp only;refine jp (Zd3 hC hG (by omega) (by omega) ?_);dsimp only;split<;>exact jv ⟨rfl,rfl⟩
 rintro _ _ ⟨rfl,m,rfl,m1,m2,⟨S,W⟩,hm⟩;rename_i st;dsimp only;refine zB (fun c=>jv (q m st l hG (fun _ _=>rfl) m1 m2 ⟨S,W⟩ fun i a b=>hU i (by omega) b)) fun c=>?_;have hm:=hm.resolve_left c;have fin1:(∀k,lo<=k->k<lo+m->key (l.getD k 0)=key (l.getD (lo+m-1) 0))->Dn key n l lo lo (lo+m):=fun same=>⟨fun i a b=>by omega,fun i a b=>hU i a b,fun i j a b c=>by omega,fun i j a b=>by omega,same⟩;refine Zm6 (fun st'=>∃l',Gd κ it n st' l' ps/\(∀i,i<lo->l'.getD i 0=l.getD i 0)/\Dn key n l' lo (lo+m) (lo+(m+1))) (fun c desc=>?_) (fun c=>⟨l,hG,fun _ _=>rfl,?_⟩) ?_
 ·refine jp (Zd3 hC hG (by omega) (by omega) ?_);dsimp only
  cases rose:O.blt (key (l.getD lo 0)) (key (l.getD (lo+m-1) 0)) with
  |true=>
   rw [if_pos rfl];exact jv (q m st l hG (fun _ _=>rfl) m1 m2 ⟨S,W⟩ fun i a b=>hU i (by omega) b)
  |false=>
   rw [if_neg Qg];have same:∀k,lo<=k->k<lo+m->key (l.getD k 0)=key (l.getD (lo+m-1) 0):=fun k h1 h2=>O.total _ _ (Qy rose (Zp2 (S lo k (Qf _) h1 h2))) (Zp2 (S k (lo+m-1) h1 (by omega) (by omega)));have D:=(fin1 same).close ln (Qf _) (by omega) (by omega);refine jp (Zhy hG (by omega) (by omega) fun st' G'=>desc st' ⟨_,G',fun i hi=>?_,D.open fun i hi hj=>?_⟩)
   ·rw [Jr (by omega) (by omega),if_neg (by omega)]
   ·rw [Jr (by omega) (by omega),Jr (by omega) (by omega),if_neg (by omega),if_pos ⟨hi,hj⟩,same (lo+(lo+m)-1-i) (by omega) (by omega)];exact hm.2
 ·have:m=1:=by omega
  subst this;refine Dn1.open ⟨w1,fun i a b=>hU i (by omega) b,fun i j a b c=>by omega⟩ fun i hi hj=>?_;have:i=lo:=by omega
  subst this;exact hm.2
 ·rintro st' ⟨l',G',fr,D⟩;have ln':=G'.len;refine jp (vC (uC ⟨rfl,?_⟩))
  refine jp (ug (j6 (I:=fun x c st2=>∃l2 z,c=(none,x,z)/\Gd κ it n st2 l2 ps/\(∀i,i<lo->l2.getD i 0=l.getD i 0)/\Dn key n l2 lo (lo+x-(z+1)) (lo+x)/\z+1<=x)
   (Q:=fun c st2=>∃x l2 z,c=(none,x,z)/\m+1<=x/\x<=nrem/\Gd κ it n st2 l2 ps/\(∀i,i<lo->l2.getD i 0=l.getD i 0)/\Dn key n l2 lo (lo+x-(z+1)) (lo+x)/\z+1<=x) ?_ ?_ ⟨l',0,rfl,G',fr,by rw [show lo+(m+1)-(0+1)=lo+m by omega];exact D,by omega⟩) ?_)
  ·rintro x c st2 hx1 hx2 ⟨l2,z,rfl,G2,fr2,D2,hz⟩;have ln2:=G2.len;dsimp only;refine jp (Zd3 hC G2 (by omega) (by omega) ?_);dsimp only
   cases e:O.blt (key (l2.getD (lo+x) 0)) (key (l2.getD (lo+x-1) 0)) with
   |true=>
    rw [if_pos rfl];have low:∀i,lo<=i->i<lo+x->O.klt (key (l2.getD (lo+x) 0)) (key (l2.getD i 0)):=fun i a b=>ZwT e (D2.low (by omega) i a b);refine qG (fun cz=>jp (Zhy G2 (by omega) (by omega) fun st3 G3=>jv ⟨_,0,rfl,G3,fun i hi=>?_,?_,by omega⟩)) fun cz=>jv ⟨l2,0,rfl,G2,fr2,?_,by omega⟩
    ·rw [Jr (by omega) (by omega),if_neg (by omega)];exact fr2 i hi
    ·have:=(D2.close ln2 (by omega) (by omega) (by omega)).open fun i hi hj=>by
      rw [Jr (by omega) (by omega),if_neg (by omega)];rw [Jr (by omega) (by omega)];split
      ·exact low _ (by omega) (by omega)
      ·exact low i hi hj
     rw [show lo+(x+1)-(0+1)=lo+x by omega];exact this
    ·have:=(D2.one (by omega) (by omega) (by omega)).open low;rw [show lo+(x+1)-(0+1)=lo+x by omega];exact this
   |false=>
    rw [if_neg Qg];refine jp (Zd3 hC G2 (by omega) (by omega) ?_);dsimp only
    cases e':O.blt (key (l2.getD (lo+x-1) 0)) (key (l2.getD (lo+x) 0)) with
    |true=>
     rw [if_pos rfl];exact jv ⟨x,l2,z,rfl,hx1,by omega,G2,fr2,D2,hz⟩
    |false=>
     rw [if_neg Qg];have ee:key (l2.getD (lo+x) 0)=key (l2.getD (lo+x-1) 0):=O.total _ _ e e';refine jv ⟨l2,z+1,rfl,G2,fr2,?_,by omega⟩;rw [show lo+(x+1)-(z+1+1)=lo+x-(z+1) by omega];exact D2.more (by omega) ee
  ·rintro c st2 ⟨l2,z,rfl,G2,fr2,D2,hz⟩
   rw [show max (m+1) nrem=nrem by omega] at D2 hz ⊢
   exact ⟨nrem,l2,z,rfl,by omega,Qf _,G2,fr2,D2,hz⟩
  ·rintro c st2 ⟨x,l2,z,rfl,hx1,hx2,G2,fr2,D2,hz⟩;have ln2:=G2.len;dsimp only;refine Zm6 (fun st3=>∃l3,Gd κ it n st3 l3 ps/\(∀i,i<lo->l3.getD i 0=l.getD i 0)/\Dn1 key n l3 lo (lo+x)) (fun cz up=>jp (Zhy G2 (by omega) (by omega) fun st3 G3=>up st3 ⟨_,G3,fun i hi=>?_,D2.close ln2 (by omega) (by omega) (by omega)⟩)) (fun cz=>⟨l2,G2,fr2,D2.one (by omega) (by omega) (by omega)⟩) ?_
   ·rw [Jr (by omega) (by omega),if_neg (by omega)];exact fr2 i hi
   ·rintro st3 ⟨l3,G3,fr3,D3⟩;have ln3:=G3.len;refine jp (Zhy G3 (by omega) (by omega) fun st4 G4=>?_);have g4:∀i,(Zem l3 lo (lo+x)).getD i 0=if lo<=i/\i<lo+x then l3.getD (lo+(lo+x)-1-i) 0 else l3.getD i 0:=fun i=>Jr (by omega) (by omega)
    have fr4:∀i,i<lo->(Zem l3 lo (lo+x)).getD i 0=l.getD i 0:=fun i hi=>by rw [g4,if_neg (by omega)];exact fr3 i hi
    have u4:∀i,lo+x<=i->i<n->(Zem l3 lo (lo+x)).getD i 0=i:=fun i hi hn=>by rw [g4,if_neg (by omega)];exact D3.un i hi hn
    refine jp (ug (Zm4 (l:=Zem l3 lo (lo+x)) (key:=key) (lo:=lo) (by omega) hx2 (fun i j hi hij hj=>?_) (fun i hi hj=>?_) (fun i hi hj=>u4 i hi (by omega)) fun i y hy1 hy2=>?_) ?_)
    ·rw [g4,g4,if_pos (by omega),if_pos (by omega)];by_cases cij:i=j
     ·rw [cij];exact Q7 _
     ·exact D3.fall _ _ (by omega) (by omega) (by omega)
    ·rw [g4,if_pos ⟨hi,hj⟩];exact D3.own _ (by omega) (by omega)
    ·dsimp only;refine jp (Zd3 hC G4 (by omega) (by omega) ?_);dsimp only;split<;>exact jv ⟨rfl,rfl⟩
    ·rintro _ _ ⟨rfl,y,rfl,y1,y2,S4,_⟩;exact jv (q y _ _ G4 fr4 (by omega) y2 S4 fun i hi hn=>u4 i (by omega) hn)
end
end LB
namespace LB
open PySem PySem.W PyProof.Rows
section
variable {prog:jw} {w:jB} {A:Around} {E:Value->jj->Prop} {s:jj} {κ:uz} {it:Array uA} {O:u9} {key:Nat->O.α} {n:Nat}
def Zi8 (l:List Nat) (a d:Nat):List Nat:=Zfm l (l.getD a 0::(l.drop (a-d)).take d) (a-d)
theorem ZhX {l:List Nat} {a d:Nat} (h1:a<l.length) (h2:d<=a):(l.getD a 0::(l.drop (a-d)).take d).length=d+1:=by rw [jy,jz,jJ];omega
theorem Zbz {l:List Nat} {a d k:Nat} (h1:a<l.length) (h2:d<=a):(Zi8 l a d).getD k 0=if k=a-d then l.getD a 0 else if a-d<k/\k<=a then l.getD (k-1) 0 else l.getD k 0:=by
 unfold Zi8;have bl:=ZhX h1 h2;rw [Za5 (by omega),bl];by_cases c1:k=a-d
 ·rw [if_pos (by omega),if_pos c1,show k-(a-d)=0 by omega];rfl
 ·rw [if_neg c1];by_cases c2:a-d<k/\k<=a
  ·rw [if_pos (by omega),if_pos c2,show k-(a-d)=(k-1-(a-d))+1 by omega,List.getD_cons_succ,Zhc (by omega),show a-d+(k-1-(a-d))=k-1 by omega]
  ·rw [if_neg (by omega),if_neg c2]
theorem Zgx {l:List Nat} {a d:Nat} (h1:a<l.length) (h2:d<=a):(Zi8 l a d).Perm l:=by
 refine ZdX ?_;have e:(l.drop (a-d)).take (d+1)=(l.drop (a-d)).take d++[l.getD a 0]:=by rw [WX,UO,show a-d+d=a by omega,ZeC h1]
 rw [ZhX h1 h2,e];exact (List.perm_append_singleton _ _).symm
theorem Zm7 {l:List Nat} {a d:Nat} (h1:a<l.length) (h2:d<=a):bubble (AL it l) a d=AL it (Zi8 l a d):=by
 have el:(Zi8 l a d).length=l.length:=(Zgx h1 h2).length_eq;refine ZsC (fun k=>(Zi8 l a d).getD k 0) (by rw [bubble_size,ZaJ,el]) fun k hk=>⟨?_,rfl⟩;rw [getElem?_bubble (by rw [ZaJ];exact h1) d h2,Zbz h1 h2];split
 ·rw [ZcU h1]
 ·split
  ·rw [ZcU (by omega)]
  ·rw [ZcU (by omega)]
theorem ZrP {M:uL} {st:jD} {l:List Nat} {ps:List (Nat×Nat×Nat)} (hG:Gd κ it n st l ps) {a b:Nat} (h1:a<n) (h2:b<=a) {Q:Unit->jD->Prop} (h:∀st',Gd κ it n st' (Zi8 l a (a-b)) ps->Q () st'):wpS M A E s (moveDown' a b) Q st:=by rw [moveDown'_eq];have ln:=hG.len;refine va (h _ ⟨hG.kind,hG.fail,?_,hG.pend,(Zgx (by omega) (by omega)).trans hG.perm⟩);show bubble (vL st) a (a-b)=_;rw [hG.arr];exact Zm7 (by omega) (by omega)
theorem ZuA (hC:Cmp prog w A s κ it key n) {st:jD} {l:List Nat} {ps:List (Nat×Nat×Nat)} (hG:Gd κ it n st l ps) {lo f ok:Nat} (h1:1<=ok) (h2:ok<=f) (h3:lo+f<=n) (hS:Sg (lx key) l lo (lo+ok)/\Own l lo (lo+ok)) (hU:∀i,lo+ok<=i->i<n->l.getD i 0=i) {Q:Bool->jD->Prop}
 (q:∀st' l',Gd κ it n st' l' ps->(∀i,i<lo->l'.getD i 0=l.getD i 0)->Sg (lx key) l' lo (lo+f)/\Own l' lo (lo+f)->(∀i,lo+f<=i->i<n->l'.getD i 0=i)->Q true st'):wpS (jr prog w) A E s (binarySort' lo f ok) Q st:=by
 unfold binarySort'
 refine jp (ug (j6 (I:=fun k c st'=>c=(none,())/\∃l',Gd κ it n st' l' ps/\(∀i,i<lo->l'.getD i 0=l.getD i 0)/\(Sg (lx key) l' lo (lo+k)/\Own l' lo (lo+k))/\∀i,lo+k<=i->i<n->l'.getD i 0=i)
  (Q:=fun c st'=>c=(none,())/\∃l',Gd κ it n st' l' ps/\(∀i,i<lo->l'.getD i 0=l.getD i 0)/\(Sg (lx key) l' lo (lo+f)/\Own l' lo (lo+f))/\∀i,lo+f<=i->i<n->l'.getD i 0=i) ?_ ?_ ⟨rfl,l,hG,fun _ _=>rfl,by rw [show max ok 1=ok by omega];exact ⟨hS,hU⟩⟩) ?_)
 ·rintro k c st' hk1 hk2 ⟨rfl,l',G',fr,⟨S,W⟩,U⟩;have ln':=G'.len;dsimp only
  refine jp (ug (j6 (I:=fun x c st''=>st''=st'/\∃a b,c=(none,a,b)/\a<=b/\b<=k/\b-a<=k-x/\(∀i,lo<=i->i<lo+a->(ZeI O).kle (lx key (l'.getD i 0)) (lx key (l'.getD (lo+k) 0)))/\∀i,lo+b<=i->i<lo+k->(ZeI O).kle (lx key (l'.getD (lo+k) 0)) (lx key (l'.getD i 0)))
   (Q:=fun c st''=>st''=st'/\∃a b,c=(none,a,b)/\a<=k/\(∀i,lo<=i->i<lo+a->(ZeI O).kle (lx key (l'.getD i 0)) (lx key (l'.getD (lo+k) 0)))/\∀i,lo+a<=i->i<lo+k->(ZeI O).kle (lx key (l'.getD (lo+k) 0)) (lx key (l'.getD i 0))) ?_ ?_ ⟨rfl,0,k,rfl,by omega,by omega,by omega,fun i h1 h2=>by omega,fun i h1 h2=>by omega⟩) ?_)
  ·rintro x c st'' _ hx ⟨rfl,a,b,rfl,ab,bk,bx,ha,hb⟩;dsimp only;refine qG (fun c=>?_) fun c=>jp (Zd3 hC G' (by omega) (by omega) ?_)
   ·have:a=b:=by omega
    subst this;exact jv ⟨rfl,a,a,rfl,by omega,ha,hb⟩
   ·dsimp only;rw [<-Zp1 (key:=key) (i:=l'.getD (lo+k) 0) (j:=l'.getD (lo+(a+b)/2) 0) (by rw [U (lo+k) (by omega) (by omega)];exact (W _ (by omega) (by omega)).2)]
    cases e:(ZeI O).blt (lx key (l'.getD (lo+k) 0)) (lx key (l'.getD (lo+(a+b)/2) 0)) with
    |true=>
     rw [if_pos rfl];exact jv ⟨rfl,a,(a+b)/2,rfl,by omega,by omega,by omega,ha,fun i h1 h2=>Qy (Uf e) (S _ i (by omega) h1 h2)⟩
    |false=>
     rw [if_neg Qg];exact jv ⟨rfl,(a+b)/2+1,b,rfl,by omega,by omega,by omega,fun i h1 h2=>Qy (S i _ h1 (by omega) (by omega)) e,hb⟩
  ·rintro c st'' ⟨rfl,a,b,rfl,ab,bk,bx,ha,hb⟩;have:a=b:=by omega
   subst this;exact ⟨rfl,a,a,rfl,by omega,ha,hb⟩
  ·rintro c st'' ⟨rfl,a,b,rfl,ak,ha,hb⟩;dsimp only;refine jp (ZrP G' (by omega) (by omega) fun st3 G3=>jv ⟨rfl,_,G3,fun i hi=>?_,⟨fun i j hi hij hj=>?_,fun i hi hj=>?_⟩,fun i hi hj=>?_⟩)
   ·rw [Zbz (by omega) (by omega),if_neg (by omega),if_neg (by omega)];exact fr i hi
   ·rw [Zbz (by omega) (by omega),Zbz (by omega) (by omega),show lo+k-(lo+k-(lo+a))=lo+a by omega]
    repeat' split
    all_goals first
     |(exfalso;omega)
     |exact Q7 _
     |exact ha _ (by omega) (by omega)
     |exact hb _ (by omega) (by omega)
     |exact S _ _ (by omega) (by omega) (by omega)
   ·rw [Zbz (by omega) (by omega),U (lo+k) (by omega) (by omega)];have u:=W (i-1);have v:=W i
    repeat' split
    all_goals omega
   ·rw [Zbz (by omega) (by omega),if_neg (by omega),if_neg (by omega)];exact U i (by omega) hj
 ·rintro c st' ⟨rfl,l',G',fr,S,U⟩;rw [show max (max ok 1) f=f by omega] at S U;exact ⟨rfl,l',G',fr,S,U⟩
 ·rintro c st' ⟨rfl,l',G',fr,S,U⟩;exact jv (q st' l' G' fr S U)
theorem qi.pos {l:List Nat}:∀{x:List (Nat×Nat×Nat)} {a b:Nat},qi key l x a b->x.length+a<=b
 |[],a,b,h=>by have:a=b:=h;simp only [j8];omega
 |p::x,a,b,⟨_,h1,_,h⟩=>by have:=h.pos;rw [jy];omega
theorem ZCc {ps:List (Nat×Nat×Nat)} {i:Nat} (h:i+2<=ps.length):∃pre a b post,ps=pre++a::b::post/\pre.length=i/\post.length+i+2=ps.length:=by refine ⟨ps.take i,ps[i],ps[i+1],ps.drop (i+2),?_,by rw [jz];omega,by rw [jJ];omega⟩;rw [<-Q1,<-Q1,QP]
theorem qi.pow {l:List Nat} {pre:List (Nat×Nat×Nat)} {x y z z' a b:Nat} (h:qi key l (pre++[(x,y,z)]) a b):qi key l (pre++[(x,y,z')]) a b:=by obtain ⟨m,h1,h2,h3,h4,h5⟩:=qi.app.mp h;exact qi.app.mpr ⟨m,h1,h2,h3,h4,h5⟩
theorem Zwc {c:Prop} [Decidable c] {a b k:Nat} (h1:a<=k) (h2:b<=k):(if c then a else b)<=k:=by split<;>assumption
theorem ZgJ (hC:ZhO prog w A s κ it key n) {st:jD} {l:List Nat} {ps:List (Nat×Nat×Nat)} {e i:Nat} (hG:Gd κ it n st l ps) (he:e<=n) (hR:qi key l ps 0 e) (hi:i+2<=ps.length) {Q:Bool->jD->Prop}
 (q:∀st' l' ps',Gd κ it n st' l' ps'->(∀i,e<=i->l'.getD i 0=l.getD i 0)->qi key l' ps' 0 e->ps'.length+1=ps.length->Q true st'):wpS (jr prog w) A E s (mergeAt' i) Q st:=by
 obtain ⟨pre,⟨sa,na,pa⟩,⟨sb,nb,pb⟩,post,rfl,rfl,hp⟩:=ZCc hi;refine Zjt hC hG he hR fun st2 l2 G2 f2 R2=>q st2 l2 _ G2 f2 R2 ?_;simp only [jq,jy];omega
theorem Zix {α:Type} (f:α->α) (x:α):∀pre:List α,(pre++[x]).modify pre.length f=pre++[f x]
 |[]=>rfl
 |a::r=>by rw [uM,jy,List.modify_succ_cons,Zix f x r];rfl
theorem Zhu {M:uL} {st:jD} {l:List Nat} {ps:List (Nat×Nat×Nat)} {z:Nat×Nat×Nat} (hG:Gd κ it n st l ps) {Q:PUnit->jD->Prop} (h:∀st',Gd κ it n st' l (ps++[z])->Q ⟨⟩ st'):wpS M A E s (modify fun s=>setPending s ((uB s).push z):StateT jD Sem PUnit) Q st:=by refine va (h _ ⟨hG.kind,hG.fail,hG.arr,?_,hG.perm⟩);show (uB st).push z=_;rw [hG.pend];simp
theorem Zzl {M:uL} {st:jD} {l:List Nat} {pre:List (Nat×Nat×Nat)} {a b c g:Nat} (hG:Gd κ it n st l (pre++[(a,b,c)])) {Q:PUnit->jD->Prop} (h:∀st',Gd κ it n st' l (pre++[(a,b,g)])->Q ⟨⟩ st'):wpS M A E s (modify fun s=>setPending s ((uB s).modify ((uB s).size-1) fun x=>(x.1,x.2.1,g)):StateT jD Sem PUnit) Q st:=by refine va (h _ ⟨hG.kind,hG.fail,hG.arr,?_,hG.perm⟩);show (uB st).modify ((uB st).size-1) (fun x=>(x.1,x.2.1,g))=_;rw [hG.pend];simp;exact Zix _ _ pre
theorem Zuy (hC:Cmp prog w A s κ it key n) {st:jD} (hG:Gd κ it n st (Qk n) []) {Q:Unit->jD->Prop} (q:∀st' l' ps,Gd κ it n st' l' ps->Sg (lx key) l' 0 n->Q () st'):wpS (jr prog w) A E s sortRuns' Q st:=by
 unfold sortRuns';refine jp (vo ?_);have ea:=hG.arr;unfold vL at ea;rw [ea];dsimp only;simp only [ZaJ,uO]
 refine jp (ug (j6 (I:=fun x c st'=>∃l ps lo,c=(none,lo)/\Gd κ it n st' l ps/\qi (lx key) l ps 0 lo/\lo<=n/\x<=lo/\∀i,lo<=i->i<n->l.getD i 0=i)
  (Q:=fun c st'=>∃l ps,c=(none,n)/\Gd κ it n st' l ps/\qi (lx key) l ps 0 n) ?_ ?_ ⟨_,[],0,rfl,hG,rfl,by omega,by omega,fun i _ hi=>by rw [Qb,Ul hi];rfl⟩) ?_)
 ·rintro x c st1 _ hx ⟨l1,ps,lo,rfl,G1,R1,lon,xlo,U1⟩;dsimp only;refine qG (fun c=>?_) fun c=>jp (Zol hC G1 (by omega) (by omega) U1 fun m st2 l2 G2 fr2 m1 m2 S2 U2=>?_)
  ·have:lo=n:=by omega
   subst this;exact jv ⟨l1,ps,rfl,G1,R1⟩
  have R2:=R1.congr (l':=l2) fun i _ hi=>fr2 i hi;dsimp only;refine qG (fun c2=>jp (vC (uC ⟨rfl,jp (ZuA hC G2 m1 (by omega) (by omega) S2 U2 fun st3 l3 G3 fr3 S3 U3=>?_)⟩))) fun c2=>?_
  case' refine_1=>
   rw [if_neg (by decide)];have R3:=R2.congr (l':=l3) fun i _ hi=>fr3 i hi
  case' refine_2=>
   have G3:=G2;have R3:=R2;have S3:=S2;have U3:=U2;generalize l2=l3 at G3 R3 S3 U3
   generalize st2=st3 at G3 ⊢
  all_goals
   refine jp (vo ?_);have ep:=G3.pend;unfold uB at ep;rw [ep,List.back?_toArray];rcases Vn ps with rfl|⟨pre,⟨z1,z2,z3⟩,rfl⟩
  case refine_1.inl=>
   refine jp (Zhu G3 fun st4 G4=>jv ⟨_,_,_,rfl,G4,qi.app.mpr ⟨lo,R3,rfl,by dsimp only;omega,S3,rfl⟩,by omega,by omega,U3⟩)
  case refine_2.inl=>
   refine jp (Zhu G3 fun st4 G4=>jv ⟨_,_,_,rfl,G4,qi.app.mpr ⟨lo,R3,rfl,by dsimp only;omega,S3,rfl⟩,by omega,by omega,U3⟩)
  all_goals
   rw [Vo] at G3 R3 ⊢
   rw [List.getLast?_concat];dsimp only;refine jp (ug (j6 (I:=fun x c st'=>c=(none,())/\∃l' ps',Gd κ it n st' l' ps'/\(∀i,lo<=i->l'.getD i 0=l3.getD i 0)/\qi (lx key) l' ps' 0 lo/\ps'≠[]) (Q:=fun c st'=>c=(none,())/\∃l' ps',Gd κ it n st' l' ps'/\(∀i,lo<=i->l'.getD i 0=l3.getD i 0)/\qi (lx key) l' ps' 0 lo/\ps'≠[]) ?_ (fun _ _ z=>z) ⟨rfl,_,_,G3,fun _ _=>rfl,R3,by simp⟩) ?_)
   ·rintro x c st4 _ _ ⟨rfl,l4,ps4,G4,f4,R4,ne4⟩;refine jp (vo ?_);have ep:=G4.pend;unfold uB at ep;rw [ep,jC];by_cases c3:ps4.length>1
    ·rw [if_pos c3,UT,Qd (by omega)];dsimp only;refine qG (fun _=>jv ⟨rfl,l4,ps4,G4,f4,R4,ne4⟩) fun _=>jp (ZgJ hC.lx G4 (by omega) R4 (by omega) fun st5 l5 ps5 G5 f5 R5 h5=>?_);rw [if_neg (by decide)];exact jv ⟨rfl,l5,ps5,G5,fun i hi=>(f5 i hi).trans (f4 i hi),R5,fun z=>by rw [z] at h5;simp at h5;omega⟩
    ·rw [if_neg c3];exact jv ⟨rfl,l4,ps4,G4,f4,R4,ne4⟩
   ·rintro c st4 ⟨rfl,l4,ps4,G4,f4,R4,ne4⟩;dsimp only;rcases Vn ps4 with rfl|⟨pre4,⟨y1,y2,y3⟩,rfl⟩
    ·exact absurd rfl ne4
    rw [Vo] at G4 R4;refine jp (Zzl G4 fun st5 G5=>jp (Zhu G5 fun st6 G6=>jv ⟨_,_,_,rfl,G6,qi.app.mpr ⟨lo,R4.pow,rfl,?_,⟨fun i j hi hij hj=>?_,fun i hi hj=>?_⟩,rfl⟩,?_,?_,fun i hi hn=>?_⟩))
    ·dsimp only;omega
    ·rw [f4 i hi,f4 j (by omega)];exact S3.1 i j hi hij hj
    ·rw [f4 i hi];exact S3.2 i hi hj
    ·omega
    ·omega
    ·rw [f4 i (by omega)];exact U3 i hi hn
 ·rintro c st' ⟨l,ps,lo,rfl,G,R,lon,xlo,_⟩;have:lo=n:=by omega
  subst this;exact ⟨l,ps,rfl,G,R⟩
 ·rintro c st' ⟨l,ps,rfl,G,R⟩;dsimp only;have lp:=R.pos
  refine jp (ug (j6 (I:=fun x c st'=>c=(none,())/\∃l ps,Gd κ it n st' l ps/\qi (lx key) l ps 0 n/\ps.length+x<=n)
   (Q:=fun c st'=>c=(none,())/\∃l ps,Gd κ it n st' l ps/\qi (lx key) l ps 0 n/\ps.length<=1) ?_ ?_ ⟨rfl,l,ps,G,R,by omega⟩) ?_)
  ·rintro x c st1 _ hx ⟨rfl,l1,ps1,G1,R1,h1⟩;refine jp (vo ?_);have ep:=G1.pend;unfold uB at ep;rw [ep,jC];refine qG (fun c=>jv ⟨rfl,l1,ps1,G1,R1,c⟩) fun c=>?_;refine jp (ZgJ hC.lx G1 (Qf n) R1 (Nat.add_le_of_le_sub (by omega) (Zwc (by omega) (by omega))) fun st2 l2 ps2 G2 _ R2 h2=>?_);rw [if_neg (by decide)];exact jv ⟨rfl,l2,ps2,G2,R2,by omega⟩
  ·rintro c st1 ⟨rfl,l1,ps1,G1,R1,h1⟩;exact ⟨rfl,l1,ps1,G1,R1,by omega⟩
  ·rintro c st1 ⟨rfl,l1,ps1,G1,R1,h1⟩;refine jv (q st1 l1 ps1 G1 ?_)
   match ps1,h1,R1 with
   |[],_,R=>exact fun i j _ _ hj=>by have:0=n:=R;omega
   |[p],_,⟨_,_,⟨S,_⟩,e⟩=>
    have e:0+p.2.1=n:=e;rwa [e] at S
end
end LB
namespace LB
open PySem PySem.W PyProof.Rows
theorem Zdp (l:List Nat) (i:Nat):LS.gt l.toArray i=l.getD i 0:=by unfold LS.gt;rw [QK,UT,Qb]
theorem ZjM {prog:jw} {w:jB} {O:u9} {key:Nat->O.α} {n:Nat}:L2.ZhQ prog w key n:=by
 intro A E κ s ks vs hl hn h2 hask;subst hn;have hC:Cmp prog w A s κ (ks.toArray.zip vs.toArray) key vs.length:=fun i j hi hj Q q=>by have:=hask.ask i j Q s hi hj rfl fun s' e=>e▸q;rw [kat_ask_eq hl] at this;exact this
 have sz:(ks.toArray.zip vs.toArray).size=vs.length:=by simp [hl]
 have hG:Gd κ (ks.toArray.zip vs.toArray) vs.length (SortSt.mk' κ (ks.toArray.zip vs.toArray) #[] 7 none) (Qk vs.length) []:=by refine ⟨rfl,rfl,?_,rfl,List.Perm.refl _⟩;show ks.toArray.zip vs.toArray=AL (ks.toArray.zip vs.toArray) (Qk vs.length);have e:=kas_range (ks.toArray.zip vs.toArray);rw [sz] at e;rw [List.map_toArray] at e;unfold AL;exact e.symm
 have:=Zuy (E:=E) hC hG (Q:=fun _ st'=>∃p:Array Nat,LS.Pm vs.length p/\LS.Ust key p vs.length/\vL st'=p.map (um (ks.toArray.zip vs.toArray))/\vy st'=none) fun st' l' ps G S=>by
  have ln:=G.len;have S':∀i j,i<j->j<vs.length->(ZeI O).kle (lx key (l'.getD i 0)) (lx key (l'.getD j 0)):=fun i j h1 h2=>S i j (Qu _) (QQ h1) h2;refine ⟨l'.toArray,G.perm,⟨fun i j hij hj=>?_,fun i j hij hj e=>?_⟩,?_,G.fail⟩
  ·rw [Zdp,Zdp];exact Zp2 (S i j (Qu _) hij hj)
  ·rw [Zdp,Zdp] at e ⊢
   have h:=S' i j hij hj;have h:(O.blt (key (l'.getD j 0)) (key (l'.getD i 0)) || (!O.blt (key (l'.getD i 0)) (key (l'.getD j 0)) && decide (l'.getD j 0<l'.getD i 0)))=false:=h;rw [e,O.irrefl] at h;have h:¬l'.getD j 0<l'.getD i 0:=by simpa using h
   have nd:l'.Nodup:=G.perm.nodup_iff.mpr List.nodup_range;have ne:l'.getD i 0≠l'.getD j 0:=fun z=>by rw [Qb,Qb,Qd (show i<l'.length by omega),Qd (show j<l'.length by omega)] at z;have:=(WN nd).mp (Option.some.inj (by simpa using z));omega
   omega
  ·rw [G.arr];simp [AL]
 exact this
end LB
namespace L2
open PySem PySem.Spec PyProof.Rows
section
variable {X:Cx} {c P:jk} {params:Arguments} {body:jF} {scope:Scope} {cl:List (Str×jk)} {cp:List (Str×Nat)} {x:Str} {q:Str} {e:jF} {ta:TA} {te:TE} {np lp kp pos:Pos}
def Ze2 (K:Qa) (P:jk) (lp:Pos) (q:Str) (cp:List (Str×Nat)) (ta:TA) (te:TE):TE:=fun σ H Q=>ta σ H fun vs H1=>match vs with
 |[.ref a]=>∃(xs:List V) (kL:List (List Nat)),Src K H1 a xs/\xs.length<=100000/\kL.length=xs.length/\Bk P lp q H1/\(∀H2 i y,zQ H1 H2->xs[i]?=some y->te (Zgb y cp σ) H2 fun k H'=>H'=H2/\k=.str (T (kL.getD i [])))/\
    ∀H2 l (p:List Nat),zQ H1 H2->Zat P H1 H2->Bk P lp q H2->H2 l=none->p.Perm (Qk xs.length)->p.Pairwise (fun i j=>kL.getD i []<=kL.getD j []/\(kL.getD i []=kL.getD j []->i<j))->Q (.ref l) (upd H2 l (.lst (p.map fun i=>xs.getD i .non)))
 |_=>False
theorem ZgL {K:Qa} (hK:X.K=K) (hc:X.calm=true) (hr:Ye 2 X.A) (L:Zj0 X c P) (hgl:Gl X "sorted") (hm:X.mg "sorted"=none) (hcl:qj scope.names X.env.cells []=some cl) (hdef:defaultsOf params X.env=([],[])) (hq:X.env.qual++"<lambda>"=q)
 (hk:scope.kind=.function) (hnc:∀y∈scope.names,y.2≠ .cell) (hcp:JE X scope cp) (hx:scope.names.lookup x=some .local) (hnx:x∉cp.map (·.1)) (hco:scope.isCoroutine=false) (hgen:scope.isGenerator=false)
 (hb:∀(pm:Value) (c':Value) (ctv u:Value),QaG (kla_fn "<lambda>" q params body scope cl pm c' ctv) ⟨[u],[]⟩=pure [(x,u)]) (ha:PA X [e] ta)
 (he:∀A L f c' s H,PE (cxL X A (newEnv scope L jm cl (q++".<locals>.") (some f) (.ref c') none j4) (x::cp.map (·.1)) s H) body te)
 (hs:jx [e] X.env=[(false,eval e X.env)]:=by rfl):PE X (.Call (.Name "sorted" np) [e] [⟨some "key",.Lambda params body scope lp,kp⟩] pos) (Ze2 K P lp q cp ta te):=by
 subst hK;intro Zb s σ H Q I h;refine j0 (Zbr I hgl hm ZdW (callWith_kw ?_ (by rw [hs];rfl) (by rw [hs];rfl)));have hp:=ha pos Zb s σ H _ I h;refine thn hp fun us s1 ⟨vs,H1,I1,rv,h1⟩=>?_;dsimp only at h1;split at h1
 ·rename_i a;obtain ⟨xs,kL,hsrc,h64,hlen,bk,hkey,hfin⟩:=h1;obtain ⟨u,rfl,ru⟩:=rv.one;cases ru;refine kws_cons (ZpU (body:=body) I1 L hcl hdef bk hq fun f c' pm ctv H2 s2 I2 hc' bk2 sm se=>kws_nil ?_);show jo _ X.A (call (.builtin "sorted") [.ref a] [(Qc "key",.ref f)]) _ _ s2;refine thn (Zmk (Q:=fun v H'=>Q v H') hc (hr.mono (by decide)) I2 (sm.src hsrc) h64 (LB.ZjM (O:=PyProof.Rows.strKind.toKeyOrd)) hlen (fun ps s3 i y k w' I3 hy hk3 rw'=>?_) fun l p hl pm' pw=>hfin H2 l p sm se bk2 hl pm' pw) fun v s3 z=>?_
  ·have hd:X.A.in1.in1.depth<recursionLimit:=by have:=hr.dp;show X.A.depth<_;omega
   have ho:s3.heap.get? f=some (Qai "<lambda>" q params body scope cl pm c' ctv):=(I3.pin (f,_) (js _ (uk _ (js _ (ju.mpr rfl))))).1;have hrec:s3.heap.CodeRec (.ref c') q:=(I3.hok c' _ hc').1;refine ZpT (X:=X) (x:=x) (cp:=cp) I3 (show X.A.frames=some X.stack from I3.ok.frames) (show X.A.handled=none from I3.ok.hd hc) hd hcl hk hnc hcp hx hnx hco hgen ho hrec (fun u=>hb pm (.ref c') ctv u) rw' he ?_;have hi:i<kL.length:=by have:=(Qo.mp hy).1;omega
   have ek:k=.str (T (kL.getD i [])):=by rw [Qi,Qd hi] at hk3;rw [Qb,Qd hi];exact (Option.some.inj hk3).symm
   rw [ek];exact hkey H2 i y sm hy
  ·obtain ⟨v',H3,I3,r3,q3⟩:=z;exact ⟨v',H3,I3.unpinned,r3,q3⟩
 ·exact h1.elim
end
section
variable {X:Cx}
def ZfS (K:Qa):List V->Hp->VK->Prop:=fun vs H Q=>match vs with
 |[.ref a]=>∃ns:List Int,Src K H a (ns.map V.int)/\ns.length<=100000/\∀l (ms:List Int),H l=none->ms.Perm ns->ms.Pairwise (· <=·)->Q (.ref l) (upd H l (.lst (ms.map V.int)))
 |_=>False
theorem ZnI {K:Qa} (hK:X.K=K) (hc:X.calm=true):JM X (.builtin "sorted") (ZfS K):=by
 subst hK;intro Zb s σ H vs us Q I r h;unfold ZfS at h;split at h
 ·rename_i a;obtain ⟨ns,hx,h64,q⟩:=h;obtain ⟨u,rfl,ru⟩:=Zab r;cases ru
  have hl:(ns.map V.int).length=ns.length:=jn ..
  refine Zml (κ:=vS) (O:=Zhe) (key:=fun i=>ns.getD i (0:Int)) hc I hx (by omega) (LB.ZjM (O:=Zhe)) (fun s' vs E Q' I' rv h2 q'=>Zpe rv (by omega) q') (fun s' vs I' rv=>?_) fun l p hl' pm pu=>?_
  ·have:=Zq6 (prog:=X.prog) (w:=X.w) (A:=X.A.in1.in1) (s:=s') rv;rw [hl];exact this
  ·rw [hl] at pm pu;have pm':p.toList.Perm (Qk ns.length):=pm;have pn:(p.toList.map fun i=>ns.getD i 0).Perm ns:=by have:=pm'.map fun i=>ns.getD i 0;rw [Zfy] at this;exact this
   have:=q l (p.toList.map fun i=>ns.getD i 0) hl' pn (U4.mpr (Zsw pm pu));have e:(p.toList.map fun i=>ns.getD i 0).map V.int=p.toList.map fun i=>(ns.map V.int).getD i .non:=by rw [uJ];refine uE fun i hi=>?_;have hi:i<ns.length:=QB.mp (pm'.mem_iff.mp hi);rw [Qb,Qi,Qd hi];show V.int (ns.getD i 0)=_;rw [Qb,Qd hi];rfl
   rw [e] at this;exact this
 ·exact h.elim
def ZfT (w:jB):List V->Hp->VK->Prop:=fun vs H Q=>match vs with
 |[.ref a]=>∃cs:List Nat,H a=some (Ze7 w a cs)/\cs.length<=100000/\∀l (qs:List Nat),H l=none->qs.Perm cs->qs.Pairwise (fun i j=>i<=j)->Q (.ref l) (upd H l (.lst (qs.map fun c=>V.str (T [c]))))
 |_=>False
theorem ZnJ {w:jB} (hw:X.w=w) (hc:X.calm=true):JM X (.builtin "sorted") (ZfT w):=by
 subst hw;intro Zb s σ H vs us Q I r h;unfold ZfT at h;split at h
 ·rename_i a;obtain ⟨cs,hx,h64,q⟩:=h;obtain ⟨u,rfl,ru⟩:=Zab r;cases ru;have st:ZgZ X.w s.heap a cs:=(I.hok a _ hx).1;refine ZfU (H:=H) (κ:=vS) (O:=PyProof.Rows.strKind.toKeyOrd) hc (I.ok.hd hc) fun A E hA=>Zh2 hA st fun vs s' ds pm rv g1 g2 g3=>?_;have I':Inv X Zb σ H s':=by obtain ⟨h',g',d',t',o'⟩:=s';have e1:g'=s.gens:=g1;have e2:o'=s.os:=g2;subst e1 e2;refine I.call' (ch:=[]) rfl ⟨fun b o q n hb hx=>g3 b o q,fun b o q n hb hx=>⟨o.slots,g3 b o q⟩,fun b o q n hx=>n,fun b o q hx=>⟨o,g3 b o q⟩,fun b ys q=>q,fun b o y q=>q,fun b ps q=>⟨#[],by rw [q];simp⟩⟩ (fun b o q=>(I.hok b o q).stay (fun c y hc z=>g3 c y z) (fun c z=>z) fun c ys z=>z) I.bare fun b hb=>(QG hb).elim
  have hl:(ds.map fun c=>V.str (T [c])).length=ds.length:=jn ..
  have em:(ds.map fun c=>V.str (T [c]))=(ds.map fun c=>[c]).map fun k=>V.str (T k):=by rw [uJ];rfl
  refine ⟨ds.map fun c=>V.str (T [c]),fun i=>(ds.map fun c=>[c]).getD i [],I',rv,by rw [hl,pm.length_eq];omega,LB.ZjM (O:=PyProof.Rows.strKind.toKeyOrd),fun s2 vs2 E2 Q2 I2 rv2 h2 q2=>?_,fun s2 vs2 I2 rv2=>?_,fun l p hl' pp pu=>?_⟩
  ·rw [em] at rv2;exact Zij rv2 (by rw [hl] at h2;simpa using h2) q2
  ·rw [em] at rv2;have:=Zkb (prog:=X.prog) (w:=X.w) (A:=X.A.in1.in1) (s:=s2) rv2;rw [hl];rw [jn] at this;exact this
  ·rw [hl] at pp pu;have pl:∀i∈p.toList,i<ds.length:=fun i hi=>QB.mp (pp.mem_iff.mp hi);have up:=ZqX pp pu;have e:(p.toList.map fun i=>(ds.map fun c=>V.str (T [c])).getD i .non)=(p.toList.map fun i=>ds.getD i 0).map fun c=>V.str (T [c]):=by rw [uJ];refine uE fun i hi=>?_;have hi:=pl i hi;show _=V.str (T [ds.getD i 0]);rw [Qb,Qb,Qi,Qd hi];rfl
   rw [e];refine q l _ hl' ?_ ?_
   ·have h1:(p.toList.map fun i=>ds.getD i 0).Perm ((Qk ds.length).map fun i=>ds.getD i 0):=pp.map _;have h2:((Qk ds.length).map fun i=>ds.getD i 0)=ds:=by refine VM (by simp) fun i hi1 hi2=>?_;rw [VL,WG,Qb,Qd hi2];rfl
    rw [h2] at h1;exact h1.trans pm
   ·rw [U4];refine up.imp_of_mem fun {i j} hi hj hij=>?_;have hi:=pl i hi;have hj:=pl j hj;rw [Qb,Qb,Qi,Qi,Qd hi,Qd hj] at hij;rw [Qb,Qb,Qd hi,Qd hj];rcases LO.Zrh hij with z|⟨z,_⟩
    ·exact QQ z
    ·exact VI z
 ·exact h.elim
end
section
variable {X:Cx}
def Zin:List V->Hp->VK->Prop:=fun xs H Q=>match xs with
 |[.ref d]=>∃kvs,H d=some (.dK kvs)/\∀l,H l=none->Q (.ref l) (upd H l (.lst (kvs.map fun p=>kV p.1)))
 |_=>False
theorem Zre (hc:X.calm=true):JM X (.type "list") Zin:=by
 intro Zb s σ H xs us Q I r h;unfold Zin at h;split at h
 ·rename_i d;obtain ⟨kvs,hd,q⟩:=h;obtain ⟨u,rfl,ru⟩:=Zab r;cases ru;have hn:=I.hok.fresh (Qf s.heap.objs.size);obtain ⟨hl,hs,vs,rr,hdd⟩:=(show zy X.prog X.w H s.heap d (.dK kvs) from I.hok d _ hd);obtain ⟨ep,hat⟩:=hdd.dictAt;have lv:=rr.length;refine PySem.W.kdl_call (PySem.W.kdl_dict hs) (I.ok.hd hc) hat (by omega) fun h' tk acc c' k hS hi=>?_
  have vv:ZE (kvs.map fun p=>kV p.1) acc.toList:=by
   obtain ⟨h1,h2⟩:=hi;refine Zi1 (by rw [jn,lv,<-h1];simp) fun i x u ex eu=>?_;rw [Qi] at ex;obtain ⟨p,ep,rfl⟩:=Qz.mp ex;obtain ⟨k',x',e1,e2⟩:=h2 i u (by simpa using eu);have ek:p.1=k':=by have e:=congrArg (fun l=>l[i]?) rr.keys;simp only [Qi,ep,e1,UF] at e;exact Option.some.inj e
   rw [ek];exact ZlO e2
  refine ⟨.ref s.heap.objs.size,_,I.laid (o:=.lst (kvs.map fun p=>kV p.1)) (t':=tk) k (Qf _) ⟨by rw [jn];omega,acc.toList,c',vv,?_⟩,rfl,q _ hn⟩;simpa using hS
 ·exact h.elim
end
end L2
namespace LD
open PySem L2 LP NumText
theorem Zfk (n:List Nat):∀kept:zI,Zfj (txK kept) (.inr (T n))=txK (Zcf kept n)
 |[]=>rfl
 |p::r=>by
  have ih:=Zfk n r
  unfold Zfj txK Zcf at ih ⊢
  rw [jT,UE,UE,ih];have e:decide ((Sum.inr (T p.1):Key)≠ .inr (T n))=decide (p.1≠n):=decide_eq_decide.mpr (not_congr ⟨fun h=>ZcL.mp (Sum.inr.inj h),fun h=>by rw [h]⟩);rw [e];split<;>rfl
theorem ZgH (n m:List Nat):∀kept:zI,ZU (Zcf kept n) m=if m=n then none else ZU kept m
 |[]=>by unfold ZU Zcf;simp
 |p::r=>by
  have ih:=ZgH n m r
  unfold ZU Zcf at ih ⊢
  rw [UE];by_cases h:p.1=n
  ·rw [if_neg (by simp [h]),ih,QN];by_cases hm:m=n
   ·rw [if_pos hm,if_pos hm]
   ·rw [if_neg hm,if_neg hm,decide_eq_false (fun z=>hm (z.symm.trans h))]
  ·rw [if_pos (by simp [h]),QN,QN];by_cases hp:p.1=m
   ·rw [decide_eq_true hp,if_neg (fun z=>h (hp.trans z))]
   ·rw [decide_eq_false hp];exact ih
theorem ZlT (kept:zI) (n:List Nat):(Zcf kept n).length<=kept.length:=Wn ..
theorem Zsx (ws:List (List Nat)):zk (Y7 2 ws) (ky "number")=some (V.int (digitsVal (ws.getD 2 []):Nat)):=by have e:Y7 2 ws=[(ky "word",V.str (T (ws.getD 0 []))),(ky "name",V.str (T (ws.getD 1 []))),(ky "number",V.int (digitsVal (ws.getD 2 []):Nat))]:=rfl;have h1:=Zdu "word" (by decide) "number" (by decide) (by decide);have h2:=Zdu "name" (by decide) "number" (by decide) (by decide);rw [e,zM (by rw [ZbQ h1];exact id),zM (by rw [ZbQ h2];exact id),zN rfl]
theorem JF {w n x:List Nat} (hf:ZcM w=some 0) (hk:32∉w) (hn:32∉n):qH (w++32::(n++32::x)) 0 [w,n,x]:=by refine ⟨by rw [Zdo _ hk];exact hf,?_,rfl,fun h=>absurd h (by decide)⟩;show _=spl 32 2 _;rw [J7 1 _ hk,J7 0 _ hn,ZfX]
theorem ZaU {w n:List Nat} (hf:ZcM w=some 1) (hk:32∉w) (hn:32∉n):qH (w++32::n) 1 [w,n]:=by refine ⟨by rw [Zdo _ hk];exact hf,?_,rfl,fun h=>absurd h (by decide)⟩;show _=spl 32 ((w++32::n).length+1) (w++32::n);rw [J7 _ _ hk,ZfW _ hn]
theorem JA {w n m:List Nat} {i:Nat} (hi:i=2\/i=4) (hf:ZcM w=some i) (hk:32∉w) (hn:32∉n) (hm:32∉m) (hg:i=2->J8 m):qH (w++32::(n++32::m)) i [w,n,m]:=by
 refine ⟨by rw [Zdo _ hk];exact hf,?_,?_,fun h=>?_⟩
 ·have:¬(i=0\/i=3):=by omega
  unfold Zav;rw [if_neg this];have e:(w++32::(n++32::m)).length+1=(w++(n++32::m)).length+1+1:=by simp;omega
  rw [e,J7 _ _ hk];have e:(w++(n++32::m)).length+1=(w++(n++m)).length+1+1:=by simp;omega
  rw [e,J7 _ _ hn,ZfW _ hm]
 ·rcases hi with rfl|rfl<;>rfl
 ·exact hg (by omega)
theorem ZlH {w n m x:List Nat} (hf:ZcM w=some 3) (hk:32∉w) (hn:32∉n) (hm:32∉m) (hg:J8 m):qH (w++32::(n++32::(m++32::x))) 3 [w,n,m,x]:=by refine ⟨by rw [Zdo _ hk];exact hf,?_,rfl,fun _=>hg⟩;show _=spl 32 3 _;rw [J7 2 _ hk,J7 1 _ hn,J7 0 _ hm,ZfX]
theorem Zly:∀(r:List Nat),(∀c∈r,48<=c/\c<=57)->digitsVal r<10 ^ r.length:=by
 intro r;generalize hr:r.length=k
 induction k generalizing r with
 |zero=>
  intro _;rw [uP.mp hr]
  decide
 |succ k ih=>
 intro h;rcases Vn r with rfl|⟨l,c,rfl⟩
 ·cases hr
 rw [Vo] at h hr ⊢
 rw [jq,jE] at hr;have hr:l.length=k:=by omega
 rw [digitsVal_snoc,Nat.pow_succ];have:=ih l hr fun d hd=>h d (uk _ hd);have:=h c (by simp);omega
theorem ZgK {n:Nat} (h:n<10 ^ 9):J8 (JL (n:Int)):=by
 refine ⟨Zp9 n,(ZcA n (by decide)).mpr h,Ziy n,fun h0=>?_⟩;have dg:=Ziy n;have vl:=Zdz n;have le:∀k,0<k->((JL (n:Int)).length<=k↔n<10 ^ k):=fun k hk=>ZcA n hk;generalize JL (n:Int)=l at h0 dg vl le
 match l,h0 with
 |[],h0=>cases h0
 |[c],h0=>rw [show c=48 from h0]
 |c::d::r,h0=>
  exfalso;have h0:c=48:=h0;subst h0;rw [digitsVal_zero] at vl;have:=Zly (d::r) fun c hc=>dg c (jH _ hc);rw [vl] at this;have:=(le (d::r).length (by simp)).mpr this;simp at this;omega
theorem J8.noB {m:List Nat} (g:J8 m):32∉m:=fun h=>by have:=g.2.2.1 32 h;omega
end LD
namespace My
open PySem L2 LW LP LD NumText
local macro_rules| `(tactic|simp! [$xs,*])=> `(tactic|simp only [L2.Zaa,jT,map_nil,jy,j8,uD,Wy,uM,uH,Nat.reduceAdd,Nat.reduceSub,Int.reduceLT,Int.reduceLE,true_and,and_true,decide_eq_true_eq,if_true,if_false,String.reduceEq,W4,VZ,Q4,decide_true,decide_false,WE,WF,gS,Zsb,tC,ZAi,ZqS,ZhI,Y6,ZAh,ZqT,ZqN,ZAe,tOp,tUn,tCB,ZqL,Zmp,ZAj,ZAf,tFn,tB2,ZAd,tOr,ZAg,trV,tSl,ZhL,pT,ZAp,vOr,ZDi,ZtX,Zxa,ZlL,ZgD,ltV,eqR,neR,sc,isV,Zts,Zxc,ixV,slV,Zjn,Zo5,isS,Zii,tBM,ZDa,tyV,tFE,L_T,Zlm,ZhM,Zst,Zss,unb,Zsr,Zrx,ZlM,Zqw,Zqx,ZeY,tCR,tCL,Zgj,ZaK,Ze2,ZfS,ZfT,ZhK,Zin,Zgb,ZlG,ZgC,ZoM,Zig,Zll,Zsq,Ze1,Zlh,ZhJ,Wi,ZqA,Zm2,ZqK,tCP,tB,Zz9,ZqY,Zhv,Zel,ZC9,ZqM,ZjI,ZDd,ZDb,rIn,inT,ZjN,Zv9,Zzm,ZAb,ZDc,ZtE,ZCW,ZDj,Zzx,ZuS,ZqQ,ZiW,ZqR,ZqO,vf,$xs,*])| `(tactic|dsimp! [$xs,*])=> `(tactic|simp only [L2.Zaa,jT,map_nil,jy,j8,uD,Wy,uM,uH,Nat.reduceAdd,Nat.reduceSub,Int.reduceLT,Int.reduceLE,true_and,and_true,decide_eq_true_eq,if_true,if_false,String.reduceEq,W4,VZ,Q4,decide_true,decide_false,WE,WF,gS,Zsb,tC,ZAi,ZqS,ZhI,Y6,ZAh,ZqT,ZqN,ZAe,tOp,tUn,tCB,ZqL,Zmp,ZAj,ZAf,tFn,tB2,ZAd,tOr,ZAg,trV,tSl,ZhL,pT,ZAp,vOr,ZDi,ZtX,Zxa,ZlL,ZgD,ltV,eqR,neR,sc,isV,Zts,Zxc,ixV,slV,Zjn,Zo5,isS,Zii,tBM,ZDa,tyV,tFE,L_T,$xs,*])| `(tactic|walk_at "s")=> `(tactic|(exact ⟨rfl,rfl,rfl,by rfl',rfl,by rfl',by rfl'⟩))| `(tactic|and_intros)=> `(tactic|(simp only [jq,jE,jy,j8];omega))
def top (i:Nat):Stmt:=PySem.Challenge.pw_backindex_k90_texts_kept.main.body.getD i (.Pass ⟨0,0,0,0⟩)
abbrev Yw:Stmt:=top 14
abbrev zh:List Str:=["place","last"]
theorem Zer:Zw ["place","last"] zh (Zf Yw):=by walk_at "s"
abbrev qC:Stmt:=top 15
abbrev Jk:List Str:=["gap"]
theorem ZfO:Zw ["gap"] Jk (Zf qC):=by walk_at "s"
abbrev qE:Stmt:=top 16
abbrev Jl:List Str:=["word"]
theorem ZfQ:Zw ["word"] Jl (Zf qE):=by walk_at "s"
abbrev Jc:Stmt:=top 18
abbrev qV:List Str:=["text"]
theorem Zgm:Zw ["text"] qV (Zf Jc):=by walk_at "s"
abbrev zX:Stmt:=top 21
abbrev YS:List Str:=["one","other"]
theorem ZdQ:Zw ["one","other"] YS (Zf zX):=by walk_at "s"
abbrev zY:Stmt:=top 24
abbrev YT:List Str:=["text"]
theorem J3:Zw ["text","order","letters"] YT (Zf zY):=by walk_at "s"
abbrev Y1:Stmt:=top 26
abbrev qM:List Str:=["text"]
theorem Zb0:Zw ["text","pair"] qM (Zf Y1):=by walk_at "s"
abbrev Jd:Stmt:=top 54
abbrev JS:List Str:=["row"]
theorem qF:Zw ["row","word","parts","words","told"] JS (Zf Jd):=by walk_at "s"
abbrev JH:Stmt:=top 55
abbrev Zar:List Str:=["word"]
theorem ZhC:Zw ["word"] Zar (Zf JH):=by walk_at "s"
abbrev Yv:Stmt:=top 56
abbrev qh:List Str:=["texts","told"]
theorem ZbH:Zw ["texts","told","part"] qh (Zf Yv):=by walk_at "s"
abbrev qD:Stmt:=top 57
abbrev qz:List Str:=["texts","name","text"]
theorem ZfP:Zw ["texts","name","text"] qz (Zf qD):=by walk_at "s"
abbrev Zah:Stmt:=top 58
abbrev Za2:List Str:=["things"]
theorem ZiQ:Zw ["things"] Za2 (Zf Zah):=by walk_at "s"
abbrev Yt:Stmt:=top 59
abbrev qf:List Str:=["texts","told"]
theorem Zep:Zw ["texts","told"] qf (Zf Yt):=by walk_at "s"
abbrev zW:Stmt:=top 61
abbrev YR:List Str:=["texts","told"]
theorem ZdP:Zw ["texts","told"] YR (Zf zW):=by walk_at "s"
abbrev Yr:Stmt:=top 62
abbrev qd:List Str:=["texts","told"]
theorem Zen:Zw ["texts","told"] qd (Zf Yr):=by walk_at "s"
abbrev Y0:Stmt:=top 63
abbrev qL:List Str:=["texts","told"]
theorem ZaH:Zw ["texts","told","text","many"] qL (Zf Y0):=by walk_at "s"
abbrev Yu:Stmt:=top 64
abbrev qg:List Str:=["texts","told"]
theorem Zeq:Zw ["texts","told"] qg (Zf Yu):=by walk_at "s"
abbrev Ys:Stmt:=top 67
abbrev qe:List Str:=["texts","told"]
theorem Zeo:Zw ["texts","told"] qe (Zf Ys):=by walk_at "s"
abbrev JI:Stmt:=top 77
abbrev Zas:List Str:=["_law_script","_law_k"]
theorem ZhD:Zw ["_law_script","_law_k"] Zas (Zf JI):=by walk_at "s"
abbrev ZaW:Stmt:=top 78
abbrev qA:List Str:=["_law_cell","_law_turn","_law_many"]
theorem Zc9:Zw ["_law_cell","_law_turn","_law_many","_law_by","_law_prime"] qA (Zf ZaW):=by walk_at "s"
abbrev ZaX:Stmt:=top 79
abbrev Zbw:List Str:=[]
theorem ZfR:Zw ["_law_some"] Zbw (Zf ZaX):=by walk_at "s"
abbrev Je:Stmt:=top 80
abbrev JT:List Str:=["_law_cell"]
theorem zT:Zw ["_law_cell","_law_some","_law_size","_law_spot","_law_base","_law_names","_law_k","_law_sign"] JT (Zf Je):=by walk_at "s"
abbrev ZaY:Stmt:=top 81
abbrev Zbx:List Str:=["_law_e"]
theorem JD:Zw ["_law_e","_law_kinds","_law_met_here"] Zbx (Zf ZaY):=by walk_at "s"
abbrev ZbG:Stmt:=top 82
abbrev Za3:List Str:=["_law_desk","_law_row"]
theorem ZgP:Zw ["_law_desk","_law_row","_law_e"] Za3 (Zf ZbG):=by walk_at "s"
abbrev JJ:Stmt:=top 83
abbrev qN:List Str:=["_law_told","_law_text"]
theorem ZhE:Zw ["_law_told","_law_text"] qN (Zf JJ):=by walk_at "s"
abbrev Jg:Stmt:=top 84
abbrev JU:List Str:=["_law_cell","_law_many"]
theorem ZcT:Zw ["_law_cell","_law_many","_law_some"] JU (Zf Jg):=by walk_at "s"
abbrev ZbF:Stmt:=top 85
abbrev Zca:List Str:=["_law_kept_here","_law_name","_law_text"]
theorem Zmh:Zw ["_law_kept_here","_law_name","_law_text"] Zca (Zf ZbF):=by walk_at "s"
abbrev Jf:Stmt:=top 86
abbrev qW:List Str:=["_law_name","_law_cell"]
theorem Zgn:Zw ["_law_name","_law_cell"] qW (Zf Jf):=by walk_at "s"
abbrev ZbE:Stmt:=top 87
abbrev Zb9:List Str:=["_law_kept_here","_law_name","_law_cell","_law_early"]
theorem Y2:Zw ["_law_kept_here","_law_name","_law_cell","_law_early","_law_kind","_law_far","_law_text","_law_words","_law_many"] Zb9 (Zf ZbE):=by walk_at "s"
abbrev ZcC:Stmt:=top 88
abbrev Zdf:List Str:=["_law_told","_law_due"]
theorem ZqG:Zw ["_law_told","_law_due"] Zdf (Zf ZcC):=by walk_at "s"
abbrev Yx:Stmt:=top 89
abbrev Yk:List Str:=["_law_desk","_law_name","_law_text"]
theorem Zaj:Zw ["_law_desk","_law_name","_law_text","_law_sign","_law_places"] Yk (Zf Yx):=by walk_at "s"
abbrev ZaV:Stmt:=top 90
abbrev Zbv:List Str:=["_law_desk","_law_kept_here","_law_name","_law_cell"]
theorem JC:Zw ["_law_desk","_law_kept_here","_law_name","_law_cell","_law_near","_law_rows","_law_other","_law_row"] Zbv (Zf ZaV):=by walk_at "s"
abbrev ZdO:Stmt:=top 91
abbrev Zj1:List Str:=["_law_script"]
theorem ZbV:Zw ["_law_script","_law_names","_law_desk","_law_kept_here","_law_k","_law_cell","_law_row","_law_due","_law_name"] Zj1 (Zf ZdO):=by walk_at "s"
abbrev zV:Stmt:=(qX (top 25)).getD 0 (.Pass ⟨0,0,0,0⟩)
abbrev YQ:List Str:=["self","letters","home"]
theorem Zbn:Zw ["self","letters","home","column"] YQ (Zf zV):=by walk_at "s"
abbrev zm:Stmt:=(qX (top 25)).getD 1 (.Pass ⟨0,0,0,0⟩)
abbrev z0:List Str:=["self","row"]
theorem ZcJ:Zw ["self","row"] z0 (Zf zm):=by walk_at "s"
abbrev zF:Stmt:=(qX (top 25)).getD 2 (.Pass ⟨0,0,0,0⟩)
abbrev YB:List Str:=["self","sign"]
theorem Zc8:Zw ["self","sign"] YB (Zf zF):=by walk_at "s"
abbrev zl:Stmt:=(qX (top 25)).getD 3 (.Pass ⟨0,0,0,0⟩)
abbrev zZ:List Str:=["self","sign","row"]
theorem ZcI:Zw ["self","sign","row"] zZ (Zf zl):=by walk_at "s"
abbrev za:Stmt:=(qX (top 25)).getD 4 (.Pass ⟨0,0,0,0⟩)
abbrev Z9:List Str:=["self","sign","row"]
theorem Zb4:Zw ["self","sign","row"] Z9 (Zf za):=by walk_at "s"
abbrev Z5:Stmt:=(qX (top 25)).getD 5 (.Pass ⟨0,0,0,0⟩)
abbrev zi:List Str:=["self","sign","rows"]
theorem ZbW:Zw ["self","sign","rows"] zi (Zf Z5):=by walk_at "s"
abbrev zU:Stmt:=(qX (top 25)).getD 6 (.Pass ⟨0,0,0,0⟩)
abbrev YO:List Str:=["self","row"]
theorem Zbm:Zw ["self","row","sign"] YO (Zf zU):=by walk_at "s"
abbrev Yo:Stmt:=(qX (top 33)).getD 0 (.Pass ⟨0,0,0,0⟩)
abbrev zg:List Str:=["self","text","gap"]
theorem Zai:Zw ["self","text","gap","row","place"] zg (Zf Yo):=by walk_at "s"
abbrev Yp:Stmt:=(qX (top 33)).getD 1 (.Pass ⟨0,0,0,0⟩)
abbrev qa:List Str:=["self","piece"]
theorem Jh:Zw ["self","piece","found","sign"] qa (Zf Yp):=by walk_at "s"
abbrev Yq:Stmt:=(qX (top 33)).getD 2 (.Pass ⟨0,0,0,0⟩)
abbrev qb:List Str:=["self","row"]
theorem Ji:Zw ["self","row","steps"] qb (Zf Yq):=by walk_at "s"
abbrev zE:Stmt:=(qX (top 33)).getD 4 (.Pass ⟨0,0,0,0⟩)
abbrev YA:List Str:=["self","piece"]
theorem Za9:Zw ["self","piece","found"] YA (Zf zE):=by walk_at "s"
abbrev qB:Stmt:=(qX (top 75)).getD 0 (.Pass ⟨0,0,0,0⟩)
abbrev Jj:List Str:=["self"]
theorem ZfN:Zw ["self"] Jj (Zf qB):=by walk_at "s"
abbrev Jb:Stmt:=(qX (top 75)).getD 1 (.Pass ⟨0,0,0,0⟩)
abbrev JR:List Str:=["self","row"]
theorem ZcS:Zw ["self","row","told"] JR (Zf Jb):=by walk_at "s"
abbrev Zgc:Pos:=⟨41,44,41,70⟩
abbrev ZcQ:Str:="order_of.<locals>.<lambda>"
abbrev Zu (tb:jk) (H:Hp):Prop:=Bk tb Zgc ZcQ H
abbrev Zdw:Pos:=⟨66,53,66,76⟩
abbrev Zbl:Str:="Letters.__init__.<locals>.<lambda>"
abbrev Zp (tb:jk) (H:Hp):Prop:=Bk tb Zdw Zbl H
structure Cs where
 BackError:jk
 NoOrder:jk
 NoPlace:jk
 NoGap:jk
 NoText:jk
 NoTimes:jk
 Empty:jk
 TooLong:jk
 NoName:jk
 NoRow:jk
structure Er (K:Qa) (mg:Str->Option Value) (c:Cs):Prop where
 qa7:mg "BackError"=some (.ref c.BackError)
 qa8:ExC K c.BackError
 qbk:mg "NoOrder"=some (.ref c.NoOrder)
 qbb:mg "NoPlace"=some (.ref c.NoPlace)
 qbl:ExC K c.NoPlace
 qby:mg "NoGap"=some (.ref c.NoGap)
 qbN:ExC K c.NoGap
 qbt:mg "NoText"=some (.ref c.NoText)
 qbm:mg "NoTimes"=some (.ref c.NoTimes)
 qbz:mg "Empty"=some (.ref c.Empty)
 qbA:ExC K c.Empty
 qcn:Zb1 K c.Empty
 qbO:jA K (.ref c.Empty) (.type "ValueError")=some true
 qaj:(ZaC K c.Empty).contains (.ref c.BackError)=true
 qaz:jA K (.ref c.Empty) (.ref c.NoOrder)=some false
 qaA:jA K (.ref c.Empty) (.ref c.NoPlace)=some false
 qaU:jA K (.ref c.Empty) (.ref c.NoGap)=some false
 qaN:jA K (.ref c.Empty) (.ref c.NoText)=some false
 qaB:jA K (.ref c.Empty) (.ref c.NoTimes)=some false
 qaV:jA K (.ref c.Empty) (.ref c.Empty)=some true
 qaC:jA K (.ref c.Empty) (.ref c.TooLong)=some false
 qaO:jA K (.ref c.Empty) (.ref c.NoName)=some false
 qaW:jA K (.ref c.Empty) (.ref c.NoRow)=some false
 qbc:mg "TooLong"=some (.ref c.TooLong)
 qbd:ExC K c.TooLong
 qci:Zb1 K c.TooLong
 qbn:jA K (.ref c.TooLong) (.type "ValueError")=some true
 qah:(ZaC K c.TooLong).contains (.ref c.BackError)=true
 qak:jA K (.ref c.TooLong) (.ref c.NoOrder)=some false
 qal:jA K (.ref c.TooLong) (.ref c.NoPlace)=some false
 qaD:jA K (.ref c.TooLong) (.ref c.NoGap)=some false
 qat:jA K (.ref c.TooLong) (.ref c.NoText)=some false
 qam:jA K (.ref c.TooLong) (.ref c.NoTimes)=some false
 qaE:jA K (.ref c.TooLong) (.ref c.Empty)=some false
 qan:jA K (.ref c.TooLong) (.ref c.TooLong)=some true
 qau:jA K (.ref c.TooLong) (.ref c.NoName)=some false
 qaF:jA K (.ref c.TooLong) (.ref c.NoRow)=some false
 qbe:mg "NoName"=some (.ref c.NoName)
 qbf:ExC K c.NoName
 qcm:Zb1 K c.NoName
 qbu:jA K (.ref c.NoName) (.type "ValueError")=some true
 qai:(ZaC K c.NoName).contains (.ref c.BackError)=true
 qav:jA K (.ref c.NoName) (.ref c.NoOrder)=some false
 qaw:jA K (.ref c.NoName) (.ref c.NoPlace)=some false
 qaP:jA K (.ref c.NoName) (.ref c.NoGap)=some false
 qaG:jA K (.ref c.NoName) (.ref c.NoText)=some false
 qax:jA K (.ref c.NoName) (.ref c.NoTimes)=some false
 qaQ:jA K (.ref c.NoName) (.ref c.Empty)=some false
 qay:jA K (.ref c.NoName) (.ref c.TooLong)=some false
 qaH:jA K (.ref c.NoName) (.ref c.NoName)=some true
 qaR:jA K (.ref c.NoName) (.ref c.NoRow)=some false
 qbg:mg "NoRow"=some (.ref c.NoRow)
 qbh:ExC K c.NoRow
 qco:Zb1 K c.NoRow
 qbP:jA K (.ref c.NoRow) (.type "ValueError")=some true
 qao:(ZaC K c.NoRow).contains (.ref c.BackError)=true
 qaI:jA K (.ref c.NoRow) (.ref c.NoOrder)=some false
 qaJ:jA K (.ref c.NoRow) (.ref c.NoPlace)=some false
 qaX:jA K (.ref c.NoRow) (.ref c.NoGap)=some false
 qaS:jA K (.ref c.NoRow) (.ref c.NoText)=some false
 qaK:jA K (.ref c.NoRow) (.ref c.NoTimes)=some false
 qaY:jA K (.ref c.NoRow) (.ref c.Empty)=some false
 qaL:jA K (.ref c.NoRow) (.ref c.TooLong)=some false
 qaT:jA K (.ref c.NoRow) (.ref c.NoName)=some false
 qaZ:jA K (.ref c.NoRow) (.ref c.NoRow)=some true
structure Cf (K:Qa) (Zd:jk) (Zl:jk) (ZB:jk):Prop where
 qaa:Cls K Zd
 qad:qK K Zd "column"
 qap:qK K Zd "forths"
 qaq:qK K Zd "home"
 qac:qK K Zd "last"
 qag:qK K Zd "totals"
 qar:Cls K Zl
 qa0:qK K Zl "gap"
 qae:qK K Zl "held"
 qaf:qK K Zl "known"
 qb4:Cls K ZB
 qas:qK K ZB "texts"
def Zcg:List (Str×V):=[("keep",.str "word name rest"),("load",.str "word name rest"),("ahead",.str "word name rest"),("drop",.str "word name"),("off",.str "word name number"),("text",.str "word name"),("pack",.str "word name"),("count",.str "word name rest"),("find",.str "word name rest"),("near",.str "word name number rest"),("often",.str "word name number"),("kinds",.str "word name"),("lone",.str "word name"),("cut",.str "word name rest"),("both",.str "word name other")]
def ZbX:List V:=[.str "keep",.str "load"]
def Zfu:List (Str×Str):=[("keep","answer_keep"),("ahead","answer_ahead"),("drop","answer_drop"),("off","answer_off"),("text","answer_text"),("find","answer_find")]
structure Tp (K:Qa) (P:vZ) (mg:Str->Option Value) (Yc Z4 zf:jk):Prop where
 qcj:mg "FORMS"=some (.ref Yc)
 qbB:Ze8 K P Yc Zcg
 qck:mg "KEEPING"=some (.ref Z4)
 qbo:Zq3 K Z4 ZbX
 qcl:mg "ANSWERS"=some (.ref zf)
 qbp:ZtL K P mg zf Zfu
structure Gc (mg:Str->Option Value):Prop where
 MOST_SIGNS:∃t,mg "MOST_SIGNS"=some (.int 300 t)
 NO_LETTER:∃t,mg "NO_LETTER"=some (.str "\n" t)
structure Bn (mg:Str->Option Value):Prop where
 ValueError:mg "ValueError"=none
 dict:mg "dict"=none
 enumerate:mg "enumerate"=none
 int:mg "int"=none
 isinstance:mg "isinstance"=none
 len:mg "len"=none
 list:mg "list"=none
 range:mg "range"=none
 reversed:mg "reversed"=none
 set:mg "set"=none
 sorted:mg "sorted"=none
 str:mg "str"=none
 sum:mg "sum"=none
 zip:mg "zip"=none
section
variable {P:jw} {w:jB} {K:Qa} {mg:Str->Option Value} {base:Heap}
variable {zf Yc Z4 ZB Zl Zd f Zc Zg:jk} {c:Cs} {fd:j7}
def qS (K:Qa) (c:Cs):Sp:=fun vs H Q E=>match vs with
 |[.str z]=>(L z).length<=sizeLine/\(J8 (L z)->Q (.int (digitsVal (L z):Nat)) H)/\(¬J8 (L z)->E (.ref c.NoRow) none H)
 |_=>False
theorem ZfG (F:Fun K "number_in" "number_in" qE f fd) (B:Bn mg) (ER:Er K mg c):Z0 P w K mg base (CX1 P w) 1 f fd Jl (qS K c):=by
 refine F.okX ZfQ (fun vs H Q E h=>?_) (fun cdv A outer s H vs Q E hr h=>?_)<;>unfold qS at h<;>split at h<;>first|exact h.elim|skip
 ·rfl
 ·rename_i z;obtain ⟨hl,q,e⟩:=h
  refine ⟨_,(Zi (zA (PW.pt (Zld (zS Ziz (ZG (Yi (K:=K) rfl) (by rfl) B.len Yh (Za (qv 0) Ze)) Zm) (Zld (zS Zjw (ZG (Yi (K:=K) rfl) (by rfl) B.len Yh (Za (qv 0) Ze)) Zm) (ZjH (zS ZrQ (JZ (K:=K) rfl QC V3 V1 Zk3 (qv 0) (Za Zn Ze)) Zn))))) (Zo (Jq Z8 rfl ER.qbh rfl ER.qbg (Za Zn Ze))) ZP)
   (Zi (zA (PW.pt (ZfL (zS ZcF (zw (zJ (K:=K) rfl) (qv 0) Zm (fun _ _=>rfl)) Zn) (ZeX (zS ZrQ (qv 0) Zn)))) (Zo (Jq Z8 rfl ER.qbh rfl ER.qbg (Za Zn Ze))) ZP)
   (Zo (ZA (Yn ZuP (by rfl) B.int Zg4 (Za (qv 0) Ze)))))),?_⟩
  have hsz:sizeLine=16777216:=jt;have e1:L (Qc "0123456789")=[48,49,50,51,52,53,54,55,56,57]:=by rfl'
  have e2:L (Qc "")=[]:=by rfl'
  have e3:L (Qc "0")=[48]:=by rfl'
  have dg:(∀c∈L z,c∈[48,49,50,51,52,53,54,55,56,57])↔∀c∈L z,48<=c/\c<=57:=by refine forall_congr' fun c=>forall_congr' fun _=>?_;simp only [jK,QG,or_false];omega
  simp! [gtV,e1,e2,e3];refine ⟨hl,q9 (fun w=>⟨by decide,e fun g=>by have:=g.1;omega⟩) fun w1=>⟨hl,q9 (fun w=>⟨by decide,e fun g=>by have:=g.2.1;omega⟩) fun w2=>⟨hl,fun l hll=>?_⟩⟩⟩;have h0:L z≠[]:=fun w=>by rw [w] at w1;exact w1 (by decide)
  by_cases l0:l=[]
  ·have d:=dg.mp (hll.mp l0);rw [decide_eq_true l0];refine Zdr ⟨hl,_,Jm 0 (by omega) (by omega),q9 (fun w=>?_) fun w=>⟨by omega,h0,d,q ⟨by omega,by omega,d,fun v=>absurd (by rw [show ((0:Int)).toNat=0 from rfl,v]) w⟩⟩⟩;have e0:(L z).getD 0 0=48:=Vc w;by_cases e4:L z=[48]
   ·rw [decide_eq_true e4];exact Zdr ⟨by omega,h0,d,q ⟨by omega,by omega,d,fun _=>e4⟩⟩
   ·rw [decide_eq_false e4];exact Zd0 ⟨by decide,e fun g=>e4 (g.2.2.2 e0)⟩
  ·rw [decide_eq_false l0];exact Zd0 ⟨by decide,e fun g=>l0 (hll.mpr (dg.mpr g.2.2.1))⟩
theorem Zpg:Zcg=Zkn.map fun p=>(Qc p.1,V.str (Qc (Zia p.2))):=rfl
theorem Zmq (w:List Nat):Zda Zcg (T w)=(ZcM w).map fun i=>V.str (Qc (Zia i)):=by rw [Zpg];exact Zlp w Zkn
def Jt (K:Qa) (c:Cs):Sp:=fun vs H Q E=>match vs with
 |[.str z]=>(L z).length<=5000/\(∀i ws,qH (L z) i ws->∀H' d,Zs H H'->H d=none->H' d=some (.dK (Y7 i ws))->Q (.ref d) H')/\((¬ ∃i ws,qH (L z) i ws)->∀H',Zs H H'->E (.ref c.NoRow) none H')
 |_=>False
theorem Zgf (F:Fun K "read_row" "read_row" Jd f fd) (B:Bn mg) (ER:Er K mg c) (TP:Tp K w.params mg Yc Z4 zf) (Zbp:FnX P w K mg base 1 "number_in" Jl (qS K c)):Z0 P w K mg base (CX1 P w) 2 f fd JS (Jt K c):=by
 refine F.okX qF (fun vs H Q E h=>?_) (fun cdv A outer s H vs Q E hr h=>?_)<;>unfold Jt at h<;>split at h<;>first|exact h.elim|skip
 ·rfl
 ·rename_i z;obtain ⟨hl,q,e⟩:=h
  refine ⟨_,(Zi (ZM (ZJ (i:=1) qF.nd rfl (by ac_nf) (zw (zJ (K:=K) rfl) (JZ (K:=K) rfl QC PySem.F.slot_str_partition PySem.F.type_str_partition Ziq (qv 0) (Za Zn Ze)) Zm (fun _ _=>rfl))))
   (Zi (zA (zS (Zl0 (K:=K) rfl rfl TP.qbB) (qv 1) (YN (v:=.ref Yc) rfl TP.qcj rfl)) (Zo (Jq Z8 rfl ER.qbh rfl ER.qbg (Za Zn Ze))) ZP)
   (Zi (ZM (ZJ (i:=2) qF.nd rfl (by ac_nf) (JZ (K:=K) rfl QC Vb Va Zhi (zw (Zv8 (K:=K) rfl rfl TP.qbB) (YN (v:=.ref Yc) rfl TP.qcj rfl) (qv 1) (fun _ _=>rfl)) (Za Zn Ze))))
   (Zi (ZM (ZJ (i:=3) qF.nd rfl (by ac_nf) (JZ (K:=K) rfl QC Vb Va Zhi (qv 0) (Za Zn Ze))))
   (Zi (ZM (zA (zS ZcF (zw (zJ (K:=K) rfl) (qv 2) (Zk8 Zlq Zm) (fun _ _=>rfl)) Zn) (Zo (ZJ (i:=3) qF.nd rfl (by ac_nf) (JZ (K:=K) rfl QC Vb Va Zhi (qv 0) (Za Zn (Za (Zq ZfB (ZG (Yi (K:=K) rfl) (by rfl) B.len Yh (Za (qv 2) Ze)) Zm) Ze))))) ZP))
   (Zi (zA (zS ZrQ (ZG (Yi (K:=K) rfl) (by rfl) B.len Yh (Za (qv 3) Ze)) (ZG (Yi (K:=K) rfl) (by rfl) B.len Yh (Za (qv 2) Ze))) (Zo (Jq Z8 rfl ER.qbh rfl ER.qbg (Za Zn Ze))) ZP)
   (Zi (ZM (ZJ (i:=4) qF.nd rfl (by ac_nf) (Zqi (K:=K) rfl rfl B.dict B.zip (Za (qv 2) (Za (qv 3) Ze)))))
   (Zi (ZM (zA (Zcj (Zeg (Z3 hr) Zn (qv 4))) (Zo (ZcB (Z3 hr) (qv 4) Zn (Zbs Z8.toTk Zbp (hr.mono (by decide)) (Za (Z1 (Z3 hr) (qv 4) Zn (fun _ _=>rfl)) Ze)) rfl)) ZP))
   (Zo (ZA (qv 4))))))))))),?_⟩
  have hsz:sizeLine=16777216:=jt;have e1:L (Qc " ")=[32]:=by rfl'
  refine z5 (fun σ' H'=>Zs H H'/\σ'=[some (V.str z),some (V.str (T (fw (L z)))),none,none,none]) ?_ ?_
  ·simp! [e1];refine ⟨32,rfl,by omega,fun k h1 h2 p hp=>⟨_,_,.inr (SqT.of Zh),rfl,Zs.updN hp,by rw [ZBV h1 h2]⟩,fun h1 p hp=>⟨_,_,.inr (SqT.of Zh),rfl,Zs.updN hp,by rw [ZBW h1,T_L]⟩⟩
  rintro _ H1 ⟨s1,rfl⟩;simp! [true_and];have hfm:=Zmq (fw (L z))
  cases hf:ZcM (fw (L z)) with
  |none=>
   rw [hf] at hfm;rw [hfm];exact Zd0 ⟨by decide,e (fun ⟨i,ws,g⟩=>by have:=g.1;rw [hf] at this;cases this) H1 s1⟩
  |some i=>
   have hi:=ZoK hf;replace hfm:Zda Zcg (T (fw (L z)))=some (V.str (Qc (Zia i))):=by rw [hfm,hf];rfl
   rw [hfm];refine Zdr ?_;have hL:∀s:String,L (Qc s)=cd s:=fun _=>rfl;refine z5 (fun σ' H'=>Zs H H'/\∃p,H' p=some (.lst ((YJ i).map fun w=>V.str (T w)))/\σ'=[some (V.str z),some (V.str (T (fw (L z)))),some (V.ref p),none,none]) ?_ ?_
   ·simp! [e1,hfm];have l1:∀i,i<5->(L (Qc (Zia i))).length+2<=sizeLine:=by rw [hsz];rfl'
    refine ⟨_,rfl,?_⟩;simp! [e1];refine ⟨32,rfl,by decide,l1 i hi,fun p hp=>⟨s1.upd hp,p,?_,rfl⟩⟩;rw [hL,ZqI i hi];exact Zh
   rintro _ H2 ⟨s2,p,hp,rfl⟩;refine z5 (fun σ' H'=>Zs H H'/\∃q,H' p=some (.lst ((YJ i).map fun w=>V.str (T w)))/\H' q=some (.lst ((spl 32 ((L z).length+1) (L z)).map fun w=>V.str (T w)))/\σ'=[some (V.str z),some (V.str (T (fw (L z)))),some (V.ref p),some (V.ref q),none]) ?_ ?_
   ·simp! [e1];exact ⟨32,rfl,by decide,by omega,fun q hq=>⟨s2.upd hq,q,(Zj (Zk hp hq)).trans hp,Zh,rfl⟩⟩
   rintro _ H3 ⟨s3,q0,hp3,hq3,rfl⟩;refine z5 (fun σ' H'=>Zs H H'/\∃q,H' p=some (.lst ((YJ i).map fun w=>V.str (T w)))/\H' q=some (.lst ((Zav i (L z)).map fun w=>V.str (T w)))/\σ'=[some (V.str z),some (V.str (T (fw (L z)))),some (V.ref p),some (V.ref q),none]) ?_ ?_
   ·simp! [e1];refine ⟨_,_,.inl (SqL.of hp3),ZlR hi,?_⟩;simp! [hL];have hlr:ZpV i=cd "rest"↔(i=0\/i=3):=decide_eq_decide.mp (Zjl i hi);refine q9 (fun h03=>?_) fun h03=>?_
    ·rw [hlr] at h03
     have fl:1<=(YJ i).length/\(YJ i).length<=4:=by
      rw [Zjg i hi];split
      ·omega
      ·split<;>omega
     have hn:((((YJ i).map fun w=>V.str (T w)).length:Int)-1).toNat=(YJ i).length-1:=by rw [jn];omega
     refine ⟨_,.inl (SqL.of hp3),32,rfl,by decide,by omega,by rw [jn];omega,by rw [jn];omega,fun q hq=>⟨s3.upd hq,q,(Zj (Zk hp3 hq)).trans hp3,?_,rfl⟩⟩;rw [Zh,hn];unfold Zav;rw [if_pos h03]
    ·rw [hlr] at h03;refine ⟨s3,q0,hp3,?_,rfl⟩;unfold Zav;rw [if_neg h03];exact hq3
   rintro _ H4 ⟨s4,q1,hp4,hq4,rfl⟩;simp! [true_and];refine ⟨_,.inl (SqL.of hq4),_,.inl (SqL.of hp4),q9 (fun hne=>⟨by decide,e (fun ⟨j,ws,g⟩=>?_) H4 s4⟩) fun heq=>?_⟩
   ·have ej:j=i:=Option.some.inj (g.1.symm.trans hf);subst ej;simp only [QR,decide_eq_false_iff_not,jn] at hne;exact hne (by have:=g.2.2.1;rw [g.2.1] at this;omega)
   have hwl:(Zav i (L z)).length=(YJ i).length:=by simp only [QR,decide_eq_false_iff_not,jn,Decidable.not_not] at heq;omega
   refine z5 (fun σ' H'=>Zs H H'/\∃d,H d=none/\H' d=some (.dK (JK i (Zav i (L z))))/\σ'=[some (V.str z),some (V.str (T (fw (L z)))),some (V.ref p),some (V.ref q1),some (V.ref d)]) ?_ ?_
   ·simp! [true_and];refine ⟨YJ i,(Zav i (L z)).map fun w=>V.str (T w),SqL.of hp4,SqL.of hq4,by rw [jn];exact hwl.symm,fun d hd=>⟨s4.upd hd,d,s4.free hd,?_,rfl⟩⟩;rw [Zh,ZlD hi hwl]
   rintro _ H5 ⟨s5,d,hd0,hd5,rfl⟩;refine z5 (fun σ' H'=>Zs H H'/\qH (L z) i (Zav i (L z))/\H' d=some (.dK (Y7 i (Zav i (L z))))/\σ'=[some (V.str z),some (V.str (T (fw (L z)))),some (V.ref p),some (V.ref q1),some (V.ref d)]) ?_ ?_
   ·simp! [true_and];have ek:V.str (Qc "number")=kV (ky "number"):=by show _=V.str (T (cd "number"));rw [Zcd]
    refine ⟨d,_,rfl,by rw [ek];exact DGet.k hd5,_,rfl,?_⟩;rw [Zf3 hi];by_cases h2:i=2\/i=3
    ·rw [if_pos h2];refine Zd0 ⟨d,_,rfl,by rw [ek];exact (Zf3 hi (Zav i (L z))).trans (if_pos h2)▸DGet.k hd5,?_⟩;have hw3:((Zav i (L z)).getD 2 []).length<=5000:=QI (Zlf i (L z) 2) hl;simp only [qS,L_T];refine ⟨by omega,fun g=>⟨d,_,rfl,by rw [ek];exact .inl ⟨_,ky "number",hd5,rfl,by have:=ZqV i (Zav i (L z));omega,rfl⟩,?_⟩,fun g=>e (fun ⟨j,ws,gr⟩=>?_) H5 s5⟩
     ·rw [ZjG hi h2];refine ⟨fun b o hb=>?_,⟨hf,rfl,hwl,fun _=>g⟩,Zh⟩;rw [Zj (Zk hb hd0)];exact s5 b o hb
     ·have ej:j=i:=Option.some.inj (gr.1.symm.trans hf);subst ej;exact g (gr.2.1▸gr.2.2.2 h2)
    ·rw [if_neg h2];exact Zdr ⟨s5,⟨hf,rfl,hwl,fun z=>absurd z h2⟩,Zsu h2 _▸hd5⟩
   rintro _ H6 ⟨s6,g6,hd6,rfl⟩;simp! [true_and];exact q i _ g6 H6 d s6 hd0 hd6
def J4 (K:Qa):Sp:=fun vs H Q _=>match vs with
 |[.str z]=>(L z).length<=5000/\∀b:Bool,(b=true↔YI (L z))->Q (.bl b) H
 |_=>False
theorem Zhl (F:Fun K "is_name" "is_name" JH f fd) (B:Bn mg):Z0 P w K mg base CX0 1 f fd Zar (J4 K):=by
 refine F.ok ZhC (fun vs H Q E h=>?_) (fun cdv A outer s H vs Q E hr h=>?_)<;>unfold J4 at h<;>split at h<;>first|exact h.elim|skip
 ·rfl
 ·rename_i z;obtain ⟨hl,q⟩:=h;refine ⟨_,(Zo (ZA (ZeV (Zl7 ZCh ZCh Zm (ZG (Yi (K:=K) rfl) (by rfl) B.len Yh (Za (qv 0) Ze)) Zm) (Zhp (ZcP ZcF (JZ (K:=K) rfl QC V3 V1 Zk3 (qv 0) (Za Zn Ze)) Zn))))),?_⟩;have hsz:sizeLine=16777216:=jt;have e1:L (Qc "abcdefghijklmnopqrstuvwxyz")=[97,98,99,100,101,102,103,104,105,106,107,108,109,110,111,112,113,114,115,116,117,118,119,120,121,122]:=by rfl'
  have e2:L (Qc "")=[]:=by rfl'
  have dg:(∀c∈L z,c∈[97,98,99,100,101,102,103,104,105,106,107,108,109,110,111,112,113,114,115,116,117,118,119,120,121,122])↔∀c∈L z,97<=c/\c<=122:=by refine forall_congr' fun c=>forall_congr' fun _=>?_;simp only [jK,QG,or_false];omega
  simp! [leV,e1,e2];exact ⟨by omega,q9 (fun h1=>q9 (fun h2=>⟨by omega,fun l hl'=>q _ ⟨fun z=>⟨by omega,by omega,dg.mp (hl'.mp (of_decide_eq_true z))⟩,fun n=>decide_eq_true (hl'.mpr (dg.mpr n.2.2))⟩⟩) fun h2=>q false ⟨fun z=>(by cases z),fun n=>by have:=n.2.1;omega⟩) fun h1=>q false ⟨fun z=>(by cases z),fun n=>by have:=n.1;omega⟩⟩
def Y5 (K:Qa) (c:Cs):Sp:=fun vs H Q E=>match vs with
 |[.ref t,.ref d]=>∃kept i ws,H t=some (.dK (txK kept))/\i<5/\H d=some (.dK (Y7 i ws))/\(∀k,(ws.getD k []).length<=5000)/\(ZcX kept i ws->∀H',Zs H H'->Q .non H')/\(¬ZcX kept i ws->∀H',Zs H H'->E (.ref c.NoName) none H')
 |_=>False
theorem Zeb (F:Fun K "check_names" "check_names" Yv f fd) (ER:Er K mg c) (TP:Tp K w.params mg Yc Z4 zf) (Zb6:Fn P w K mg base 1 "is_name" Zar (J4 K)):Z0 P w K mg base (CX1 P w) 2 f fd qh (Y5 K c):=by
 refine F.okX ZbH (fun vs H Q E h=>?_) (fun cdv A outer s H vs Q E hr h=>?_)<;>unfold Y5 at h<;>split at h<;>first|exact h.elim|skip
 ·rfl
 ·rename_i t d;obtain ⟨kept,i,ws,ht,hi,hd,hw,q,e⟩:=h
  refine ⟨_,(Zi (zA (zS (ZCg (K:=K) rfl) (Z1 (Z3 hr) (qv 1) Zn (fun _ _=>rfl)) (YN (v:=.ref Z4) rfl TP.qck rfl)) (Zi (zA (Zek (ZbU (K:=K) rfl (ZZ Zb6 (hr.mono (by decide)) (Za (Z1 (Z3 hr) (qv 1) Zn (fun _ _=>rfl)) Ze)))) (Zo (Jq Z8 rfl ER.qbf rfl ER.qbe (Za Zn Ze))) ZP)
   (Zo Zr7)) ZP)
   (Zo (Zsa (K:=K) rfl Z8.own rfl (ZX (Za Zn (Za Zn Ze))) (zD (i:=2) ZbH.nd rfl (by ac_nf)) (Zo (zA (PW.pt (ZfL (Zcj (Zeg (Z3 hr) (qv 2) (qv 1))) (ZeX (Zcj (Zeh (Z3 hr) (Z1 (Z3 hr) (qv 1) (qv 2) (fun _ _=>rfl)) (qv 0)))))) (Zo (Jq Z8 rfl ER.qbf rfl ER.qbe (Za Zn Ze))) ZP))))),?_⟩
  have hsz:sizeLine=16777216:=jt;have ek:∀s:String,V.str (Qc s)=kV (ky s):=fun s=>by show _=V.str (T (cd s));rw [Zcd]
  simp! [Zv6,J4]
  have hin:inV (V.str (T (ws.getD 0 []))) ZbX=true↔(ws.getD 0 []=cd "keep"\/ws.getD 0 []=cd "load"):=by
   have es:∀s:String,(Qc s==T (ws.getD 0 []))=true↔ws.getD 0 []=cd s:=fun s=>by rw [beq_iff_eq,<-Zcd,ZcL];exact eq_comm
   show ((Qc "keep"==T (ws.getD 0 [])) || ((Qc "load"==T (ws.getD 0 [])) || false))=true↔_;rw [QS,QS,es,es];simp
  refine ⟨d,_,rfl,Zi0 i ws▸DGet.kys hd "word",Z4,ZbX,rfl,.inr (TP.qbo.sq H),rfl,rfl,q9 (fun h1=>?_) fun h1=>?_⟩
  ·refine ⟨d,_,rfl,qT i ws▸DGet.kys hd "name",?_⟩;simp only [L_T];refine ⟨hw 1,fun b hb=>q9 (fun h2=>⟨by decide,e (fun n=>?_) H (Zs.refl H)⟩) fun h2=>q ⟨fun _=>hb.mp (by simpa using h2),fun n=>absurd (hin.mp h1) n⟩ H (Zs.refl H)⟩;have:=hb.mpr (n.1 (hin.mp h1));rw [this] at h2;cases h2
  ·rw [hin] at h1;simp! [ZtF,Zv6];refine ⟨by omega,?_⟩;intro p hp;have np:∀{b:jk} {o:HO},H b=some o->b≠p:=fun h=>Zk h hp;have s1:Zs H (upd H p (HO.tup [V.str (Qc "name"),V.str (Qc "other")])):=Zs.updN hp;refine ⟨_,SqT.of Zh,fun k σ' H'=>H'=upd H p (HO.tup [V.str (Qc "name"),V.str (Qc "other")])/\(∃x,σ'=[some (V.ref t),some (V.ref d),x])/\(1<=k->(ZU kept (ws.getD 1 [])).isSome=true)/\(2<=k->i=4->(ZU kept (ws.getD 2 [])).isSome=true),⟨rfl,⟨_,rfl⟩,fun z=>absurd z (by decide),fun z=>absurd z (by decide)⟩,?_,?_,?_⟩
   ·rintro k σ' H' _ ⟨rfl,_⟩;exact SqT.of Zh
   ·rintro k x σ' H' hx ⟨rfl,⟨y,rfl⟩,g1,g2⟩;simp! [true_and];have hd':=s1 d _ hd;have ht':=s1 t _ ht
    match k,hx,g1,g2 with
    |0,hx,_,_=>
     cases Option.some.inj hx;refine ⟨d,_,rfl,DGet.kys hd' "name",_,rfl,?_⟩;rw [qT];refine Zd0 ⟨d,_,rfl,qT i ws▸DGet.kys hd' "name",t,_,rfl,DGet.k (k:=.inr (T (ws.getD 1 []))) ht',_,rfl,?_⟩;rw [qJ,Ux];refine q9 (fun h2=>⟨by decide,e (fun n=>?_) _ s1⟩) fun h2=>⟨⟨_,rfl⟩,fun _=>by rw [QR,WK] at h2;exact h2,fun z=>absurd z (by decide)⟩;have:=(n.2 h1).1;rw [this] at h2;cases h2
    |1,hx,g1,_=>
     cases Option.some.inj hx;refine ⟨d,_,rfl,DGet.kys hd' "other",_,rfl,?_⟩;rw [ZgT hi];by_cases h4:i=4
     ·rw [if_pos h4];refine Zd0 ⟨d,_,rfl,(ZgT hi ws).trans (if_pos h4)▸DGet.kys hd' "other",t,_,rfl,DGet.k (k:=.inr (T (ws.getD 2 []))) ht',_,rfl,?_⟩;rw [qJ,Ux];refine q9 (fun h2=>⟨by decide,e (fun n=>?_) _ s1⟩) fun h2=>⟨⟨_,rfl⟩,fun _=>g1 (by decide),fun _ _=>by rw [QR,WK] at h2;exact h2⟩;have:=(n.2 h1).2 h4;rw [this] at h2;cases h2
     ·rw [if_neg h4];exact Zdr ⟨⟨_,rfl⟩,fun _=>g1 (by decide),fun _ z=>absurd z h4⟩
    |k+2,hx,_,_=>cases hx
   ·rintro σ' H' ⟨rfl,_,g1,g2⟩;exact q ⟨fun z=>absurd z h1,fun _=>⟨g1 (by decide),g2 (by decide)⟩⟩ _ s1
def Yb (K:Qa) (c:Cs):Sp:=fun vs H Q E=>match vs with
 |[.ref t,.str n,.str x]=>∃kept,H t=some (.dK (txK kept))/\kept.length<=1000/\(L x).length<=5000/\((L x).length<=300->Q (.str (Qc "ok")) (upd H t (.dK (txK (Za6 kept (L n) (L x))))))/\(300<(L x).length->E (.ref c.TooLong) none H)
 |_=>False
theorem ZfF (F:Fun K "keep_text" "keep_text" qD f fd) (B:Bn mg) (ER:Er K mg c) (GC:Gc mg):Z0 P w K mg base (CX1 P w) 1 f fd qz (Yb K c):=by
 refine F.okX ZfP (fun vs H Q E h=>?_) (fun cdv A outer s H vs Q E hr h=>?_)<;>unfold Yb at h<;>split at h<;>first|exact h.elim|skip
 ·rfl
 ·rename_i t n x;obtain ⟨kept,ht,hk,hxl,q,e⟩:=h
  refine ⟨_,(Zi (zA (zS Zjw (ZG (Yi (K:=K) rfl) (by rfl) B.len Yh (Za (qv 2) Ze)) (Zqj rfl GC.MOST_SIGNS)) (Zo (Jq Z8 rfl ER.qbd rfl ER.qbc (Za Zn Ze))) ZP)
   (Zi (ZcB (Z3 hr) (qv 0) (qv 1) (qv 2) rfl)
   (Zo (ZA Zn)))),?_⟩
  have hsz:sizeLine=16777216:=jt;simp! [gtV];refine ⟨by omega,q9 (fun h1=>⟨by decide,e (by omega)⟩) fun h1=>⟨t,_,rfl,.inl ⟨_,.inr (T (L n)),ht,by rw [T_L];rfl,by unfold txK;rw [jn];omega,rfl⟩,?_⟩⟩;have:=ZdJ kept (L n) (L x);rw [T_L,T_L] at this;rw [T_L,this];exact q (by omega)
def zq (K:Qa) (c:Cs):Sp:=fun vs H Q E=>match vs with
 |[.ref t,.ref d]=>∃kept ws,H t=some (.dK (txK kept))/\kept.length<=1000/\H d=some (.dK (Y7 0 ws))/\(ws.getD 2 []).length<=5000/\((ws.getD 2 []).length<=300->Q (.str (Qc "ok")) (upd H t (.dK (txK (Za6 kept (ws.getD 1 []) (ws.getD 2 []))))))/\(300<(ws.getD 2 []).length->E (.ref c.TooLong) none H)
 |_=>False
theorem Zd9 (F:Fun K "answer_keep" "answer_keep" Yt f fd) (qy:FnX P w K mg base 1 "keep_text" qz (Yb K c)):Z0 P w K mg base (CX1 P w) 2 f fd qf (zq K c):=by
 refine F.okX Zep (fun vs H Q E h=>?_) (fun cdv A outer s H vs Q E hr h=>?_)<;>unfold zq at h<;>split at h<;>first|exact h.elim|skip
 ·rfl
 ·rename_i t d;obtain ⟨kept,ws,ht,hk,hd,hxl,q,e⟩:=h;refine ⟨_,(Zo (ZA (Zbs Z8.toTk qy (hr.mono (by decide)) (Za (qv 0) (Za (Z1 (Z3 hr) (qv 1) Zn (fun _ _=>rfl)) (Za (Z1 (Z3 hr) (qv 1) Zn (fun _ _=>rfl)) Ze)))))),?_⟩;have ek:∀s:String,V.str (Qc s)=kV (ky s):=fun s=>by show _=V.str (T (cd s));rw [Zcd]
  simp! [true_and];refine ⟨d,_,rfl,qT 0 ws▸DGet.kys hd "name",d,_,rfl,Zf4 ws▸DGet.kys hd "rest",?_⟩;simp only [Yb,L_T];exact ⟨kept,ht,hk,hxl,q,e⟩
def zr (K:Qa) (c:Cs):Sp:=fun vs H Q E=>match vs with
 |[.ref t,.ref d]=>∃kept i ws x,H t=some (.dK (txK kept))/\H d=some (.dK (Y7 i ws))/\ZU kept (ws.getD 1 [])=some x/\Q (.str (T x)) H
 |_=>False
theorem Zea (F:Fun K "answer_text" "answer_text" Yu f fd):Z0 P w K mg base (CX1 P w) 1 f fd qg (zr K c):=by
 refine F.okX Zeq (fun vs H Q E h=>?_) (fun cdv A outer s H vs Q E hr h=>?_)<;>unfold zr at h<;>split at h<;>first|exact h.elim|skip
 ·rfl
 ·rename_i t d;obtain ⟨kept,i,ws,x,ht,hd,hx,q⟩:=h;refine ⟨_,(Zo (ZA (Z1 (Z3 hr) (qv 0) (Z1 (Z3 hr) (qv 1) Zn (fun _ _=>rfl)) (fun _ _=>rfl)))),?_⟩;have ek:∀s:String,V.str (Qc s)=kV (ky s):=fun s=>by show _=V.str (T (cd s));rw [Zcd]
  simp! [true_and];have hv:zk (txK kept) (.inr (T (ws.getD 1 [])))=some (V.str (T x)):=by rw [qJ,hx];rfl
  exact ⟨d,_,rfl,qT i ws▸DGet.kys hd "name",t,_,rfl,hv▸DGet.k (k:=.inr (T (ws.getD 1 []))) ht,q⟩
def ZR (K:Qa) (c:Cs):Sp:=fun vs H Q E=>match vs with
 |[.int p,.int l]=>((0<=p/\p<=l)->Q .non H)/\(¬(0<=p/\p<=l)->E (.ref c.NoPlace) none H)
 |_=>False
theorem Zec (F:Fun K "check_place" "check_place" Yw f fd) (ER:Er K mg c):Z0 P w K mg base (CX1 P w) 1 f fd zh (ZR K c):=by
 refine F.okX Zer (fun vs H Q E h=>?_) (fun cdv A outer s H vs Q E hr h=>?_)<;>unfold ZR at h<;>split at h<;>first|exact h.elim|skip
 ·rfl
 ·rename_i p l;obtain ⟨q,e⟩:=h;refine ⟨_,(Zo (zA (PW.pt (Zld (zS Ziz (qv 0) Zm) (ZjH (zS Zjw (qv 0) (qv 1))))) (Zo (Jq Z8 rfl ER.qbl rfl ER.qbb (Za Zn Ze))) ZP)),?_⟩;dsimp! [Zlm,ZhM,Zst,Zss,unb,Zsr,Zrx,ZlM,Zqw,Zqx,ZeY,tCR,tCL,Zgj,ZaK,Ze2,ZfS,ZfT,ZhK,Zin,Zgb,ZlG,ZgC,ZoM,Zig,Zll,Zsq,Ze1,Zlh,ZhJ,Wi,ZqA,Zm2,ZqK,tCP,tB];refine q9 (fun h0=>⟨by decide,e (by omega)⟩) fun h0=>q9 (fun h1=>⟨by decide,e (by omega)⟩) fun h1=>q ⟨by omega,by omega⟩
def qR (K:Qa) (c:Cs):Sp:=fun vs H Q E=>match vs with
 |[.int g]=>(g<1->E (.ref c.NoGap) none H)/\(¬g<1->Q .non H)
 |_=>False
theorem ZfE (F:Fun K "check_gap" "check_gap" qC f fd) (ER:Er K mg c):Z0 P w K mg base (CX1 P w) 1 f fd Jk (qR K c):=by
 refine F.okX ZfO (fun vs H Q E h=>?_) (fun cdv A outer s H vs Q E hr h=>?_)<;>unfold qR at h<;>split at h<;>first|exact h.elim|skip
 ·rfl
 ·refine ⟨_,(Zo (zA (zS Ziz (qv 0) Zm) (Zo (Jq Z8 rfl ER.qbN rfl ER.qby (Za Zn Ze))) ZP)),?_⟩;simp! [true_and];exact q9 (fun z=>⟨by decide,h.1 z⟩) fun z=>h.2 z
def zG (K:Qa):Sp:=fun vs H Q _=>match vs with
 |[.str a,.str b]=>Q (.bl (decide (L a<L b))) H
 |_=>False
theorem ZdE (F:Fun K "comes_before" "comes_before" zX f fd):Z0 P w K mg base CX0 1 f fd YS (zG K):=by
 refine F.pure ZdQ (fun vs H Q E h=>?_) (fun cdv A outer s H vs Q E hr h=>?_)<;>unfold zG at h<;>split at h<;>first|exact h.elim|skip
 ·rfl
 ·refine ⟨_,(Zo (ZA (ZcP Ziz (qv 0) (qv 1)))),?_⟩;dsimp! [true_and];exact ⟨Zs.refl _,h⟩
def YG (K:Qa) (c:Cs) (C:jk) (tb:jk):Sp:=fun vs H Q E=>match vs with
 |[.ref x,.str z,.int h]=>(L z).length<=300/\Zp tb H/\(∃dx,H x=some (.ins C dx []))/\(¬(0<=h/\h<=(L z).length)->E (.ref c.NoPlace) none H)/\((0<=h/\h<=(L z).length)->∀H',(∀b o,b≠x->H b=some o->(∀ps,o≠ .tbl ps)->H' b=some o)->(∀b,H b≠none->H' b≠none)->(∀b o,b≠x->b≠tb->H b=some o->H' b=some o)->Zp tb H'->JQ C H' x (L z) h.toNat->Q .non H')
 |_=>False
theorem ZdC {f:jk} {fd:j7} (F:Fun K "__init__" "Letters.__init__" zV f fd) (B:Bn mg) {Zc:jk} {cd:jk} (LM_m_Letters_init:Lm mg base cd Zc) (hcd:fd.code=.ref cd) {c:Cs} (ER:Er K mg c) {Yc Z4 zf:jk} (TP:Tp K w.params mg Yc Z4 zf) {Zd Zl ZB:jk} (CF:Cf K Zd Zl ZB) (GC:Gc mg) (ZT:FnX P w K mg base 1 "check_place" zh (ZR K c)):Z0 P w K mg base (CX1 P w) 3 f fd YQ (YG K c Zd Zc):=by
 refine F.okLX hcd Zbn (fun vs H Q E h=>?_) (fun A outer s H vs Q E hr h=>?_)<;>unfold YG at h<;>split at h<;>first|exact h.elim|skip
 ·rfl
 ·rename_i x z h;obtain ⟨hl,bk,⟨dx,hx⟩,e,q⟩:=h
  refine ⟨_,(Zi (ZaS (Zbs Z8.toTk ZT (hr.mono (by decide)) (Za (qv 2) (Za (ZG (Yi (K:=K) rfl) (by rfl) B.len Yh (Za (qv 1) Ze)) Ze))))
   (Zi (ZJ (i:=3) Zbn.nd rfl (by ac_nf) (Zq Zz (Zq Zz (z8 (Za8 (K:=K) rfl) (qv 1) Ja (Zci (qv 2))) (Zqk rfl GC.NO_LETTER)) (z8 (Za8 (K:=K) rfl) (qv 1) (Zci (qv 2)) Ja)))
   (Zi (ZaT (K:=K) rfl CF.qaa CF.qad (qv 0) (qv 3) rfl)
   (Zi (ZaT (K:=K) rfl CF.qaa CF.qaq (qv 0) (qv 2) rfl)
   (Zi (ZM (ZaT (K:=K) rfl CF.qaa CF.qac (qv 0) (ZG (Yi (K:=K) rfl) (by rfl) B.len Yh (Za (qv 1) Ze)) rfl))
   (Zi (ZaT (K:=K) rfl CF.qaa CF.qag (qv 0) (ZiF (K:=K) rfl (own:=["sign"]) (cp:=[(("letters":Str),1)]) rfl rfl rfl (by rfl') (by rfl') ⟨⟨rfl,rfl,rfl⟩,trivial⟩ (ZG (ZnJ (w:=w) rfl rfl) (by rfl) B.sorted ZdW (Za (Yn (ZuR (w:=w) rfl rfl) (by rfl) B.set ZuC (Za (qv 1) Ze)) Ze)) (by decide) (fun _ _ _ _=>zD (i:=0) (show UI (["sign","letters"]:List Str) by rfl') rfl (Or.inl rfl) (Or.inr rfl)) (fun _ _ _ _=>Zhq) (fun _ _ _ _=>(ZX (Za (qv 0) (Za (JZ (K:=K) rfl QC V4 V2 Zip (qv 1) (Za (qv 0) Ze)) Ze))))) rfl)
   (Zo (ZaT (K:=K) rfl CF.qaa CF.qap (qv 0) (ZgL (K:=K) (x:="row") (cp:=[(("column":Str),3)]) (q:=Zbl) rfl rfl (hr.mono (by decide)) (LM_m_Letters_init.at rfl) rfl B.sorted rfl rfl rfl rfl (by rfl') ⟨⟨rfl,rfl,rfl⟩,trivial⟩ rfl (by rfl') rfl rfl (fun _ _ _ _=>rfl) (Za (Yn Zkf (by rfl) B.range ZhV (Za (ZG (Yi (K:=K) rfl) (by rfl) B.len Yh (Za (qv 3) Ze)) Ze)) Ze) (fun _ _ _ _ _ _=>(zw (zJ (K:=K) rfl) (qv 1) (qv 0) (fun _ _=>rfl)))) rfl)))))))),?_⟩
  simp! [ZR];have hsz:sizeLine=16777216:=jt;refine ⟨by omega,fun hh=>?_,fun hh=>e hh⟩;obtain ⟨m,rfl⟩:∃m:Nat,h=(m:Int):=⟨h.toNat,by omega⟩;have hm:m<=(L z).length:=by omega
  have q:=q hh;rw [Qn] at q;have c1:=Zcr (L z) none (some (m:Int));have c2:=Zcr (L z) (some (m:Int)) none;have c3:(L (Qc "\n")).length=1:=by rfl'
  have cl:=Zh1 hm;refine ⟨by omega,by omega,by omega,by rw [jq];omega,?_⟩;rw [Zok];refine ⟨_,_,hx,by decide,_,_,Zh,by show 1<1000;decide,?_⟩;rw [ZhN];refine z5 (fun σ' H'=>H'=upd H x (HO.ins Zd dx (YZ (Qc "last") (V.int ((L z).length:Nat)) (YZ (Qc "home") (V.int (m:Int)) (YZ (Qc "column") (V.str (T (YV (L z) m))) []))))/\σ'=[some (V.ref x),some (V.str z),some (V.int (m:Int)),some (V.str (T (YV (L z) m)))]) ?_ ?_
  ·simp! [true_and];refine ⟨by omega,_,_,Zh,by show 2<1000;decide,?_⟩;rw [ZhN]
  rintro _ _ ⟨rfl,rfl⟩;generalize hF:YZ (Qc "last") (V.int ((L z).length:Nat)) (YZ (Qc "home") (V.int (m:Int)) (YZ (Qc "column") (V.str (T (YV (L z) m))) []))=F3;simp! [true_and];have lF:F3.length=3:=by rw [<-hF];rfl
  have bk0:Zp Zc (upd H x (HO.ins Zd dx F3)):=Zce bk hx;refine ⟨by omega,fun p cs hp nd mem=>⟨cs,Zh,?_,fun l qs hl2 pm pw=>?_⟩⟩
  ·have:=LO.ZeT nd fun c hc=>(mem c).mp hc;omega
  have lq:qs.length<=(L z).length:=by rw [pm.length_eq];exact LO.ZeT nd fun c hc=>(mem c).mp hc
  have x1:upd (upd H x (HO.ins Zd dx F3)) p (Ze7 w p cs) x=some (HO.ins Zd dx F3):=Zlr hp;have x2:upd (upd (upd H x (HO.ins Zd dx F3)) p (Ze7 w p cs)) l (HO.lst (qs.map fun c=>V.str (T [c]))) x=some (HO.ins Zd dx F3):=(Zj (Zk x1 hl2)).trans x1;have l2:upd (upd (upd H x (HO.ins Zd dx F3)) p (Ze7 w p cs)) l (HO.lst (qs.map fun c=>V.str (T [c]))) l=some (HO.lst (qs.map fun c=>V.str (T [c]))):=Zh;have kp2:∀b o,b≠x->H b=some o->upd (upd (upd H x (HO.ins Zd dx F3)) p (Ze7 w p cs)) l (HO.lst (qs.map fun c=>V.str (T [c]))) b=some o:=fun b o hb e=>by have e1:upd H x (HO.ins Zd dx F3) b=some o:=(Zj hb).trans e;have e2:upd (upd H x (HO.ins Zd dx F3)) p (Ze7 w p cs) b=some o:=(Zj (Zk e1 hp)).trans e1;exact (Zj (Zk e2 hl2)).trans e2
  have bk2:Zp Zc (upd (upd (upd H x (HO.ins Zd dx F3)) p (Ze7 w p cs)) l (HO.lst (qs.map fun c=>V.str (T [c])))):=(bk0.put hp).put hl2;have nn2:∀b,H b≠none->upd (upd (upd H x (HO.ins Zd dx F3)) p (Ze7 w p cs)) l (HO.lst (qs.map fun c=>V.str (T [c]))) b≠none:=fun b hb=>Zbu (Zbu (Zbu hb))
  generalize upd (upd (upd H x (HO.ins Zd dx F3)) p (Ze7 w p cs)) l (HO.lst (qs.map fun c=>V.str (T [c])))=HZ at x2 l2 kp2 bk2 nn2 ⊢
  refine ⟨_,SqL.of l2,by rw [jn];omega,fun i H2 acc=>Zs HZ H2/\∃ts:List jk,acc=ts.map V.ref/\Prs H2 ts (qs.take i) (L z),⟨Zs.refl _,[],rfl,rfl,fun j d e=>by simp at e⟩,?_,?_,?_⟩
  ·rintro i H2 acc _ ⟨sm,_⟩;exact sm.seq (SqL.of l2)
  ·rintro i y H2 acc hy ⟨sm,ts,rfl,pr⟩;rw [Qi] at hy;obtain ⟨d,ed,rfl⟩:=Qz.mp hy;simp! [true_and];refine ⟨d,rfl,by omega,fun t ht=>⟨Zs.upd sm ht,ts++[t],by rw [uw];rfl,?_⟩⟩;rw [Ua,ed];exact (pr.same (ZiP (Zs.updN ht))).snoc Zh
  ·rintro H2 acc ⟨sm,ts,rfl,pr⟩ l3 hl3;rw [jn,QF] at pr;have x3:upd H2 l3 (HO.lst (ts.map V.ref)) x=some (HO.ins Zd dx F3):=(Zj (Zk (sm _ _ x2) hl3)).trans (sm _ _ x2);have t3:upd H2 l3 (HO.lst (ts.map V.ref)) l3=some (HO.lst (ts.map V.ref)):=Zh;have kp3:∀b o,b≠x->H b=some o->upd H2 l3 (HO.lst (ts.map V.ref)) b=some o:=fun b o hb e=>by have e1:=sm _ _ (kp2 b o hb e);exact (Zj (Zk e1 hl3)).trans e1
   have bk3:Zp Zc (upd H2 l3 (HO.lst (ts.map V.ref))):=(JV bk2 sm).put hl3;have pr3:=pr.same (ZiP (Zs.updN (o:=HO.lst (ts.map V.ref)) hl3));have nn3:∀b,H b≠none->upd H2 l3 (HO.lst (ts.map V.ref)) b≠none:=fun b hb=>Zbu (sm.nn (nn2 b hb))
   generalize upd H2 l3 (HO.lst (ts.map V.ref))=H3 at x3 t3 kp3 bk3 pr3 nn3 ⊢
   have n3:l3≠x:=by rintro rfl;rw [t3] at x3;cases x3
   have lF4:(YZ (Qc "totals") (V.ref l3) F3).length=4:=by rw [<-hF];rfl
   refine ⟨_,_,x3,by omega,by omega,fun r hr0=>?_⟩;have bk4:Zp Zc (upd H3 x (HO.ins Zd dx (YZ (Qc "totals") (V.ref l3) F3))):=Zce bk3 x3;have x4:upd (upd H3 x (HO.ins Zd dx (YZ (Qc "totals") (V.ref l3) F3))) r (HO.rng 0 ((YV (L z) m).length:Int)) x=some (HO.ins Zd dx (YZ (Qc "totals") (V.ref l3) F3)):=Zlr hr0;have kp4:∀b o,b≠x->H3 b=some o->upd (upd H3 x (HO.ins Zd dx (YZ (Qc "totals") (V.ref l3) F3))) r (HO.rng 0 ((YV (L z) m).length:Int)) b=some o:=fun b o hb e=>by have e1:upd H3 x (HO.ins Zd dx (YZ (Qc "totals") (V.ref l3) F3)) b=some o:=(Zj hb).trans e;exact (Zj (Zk e1 hr0)).trans e1
   have er:=ZqB (YV (L z) m).length;have el:(ZdK 0 ((YV (L z) m).length:Int)).length=(YV (L z) m).length:=by rw [er];simp
   refine ⟨_,(YV (L z) m).map fun c=>[c],.inr (.inr ⟨0,_,Zh,rfl,by omega,by omega,by omega,by omega⟩),by omega,by rw [jn,el],bk4.put hr0,fun H5 i y sm5 hy=>?_,fun H5 l4 p4 sm5 se5 bk5 hl4 pm4 pw4=>?_⟩
   ·have hi:=(Qo.mp hy).1;rw [el] at hi;rw [er,Qi,Ul hi] at hy;cases Option.some.inj hy;simp! [true_and];refine ⟨by omega,_,Jm 0 (by omega) (by omega),?_⟩;rw [Qn,Qb,Qb,Qi,Qd hi];rfl
   ·have x5:=sm5.at x4 (by nofun);have x6:upd H5 l4 (HO.lst (p4.map fun i=>(ZdK 0 ((YV (L z) m).length:Int)).getD i V.non)) x=some (HO.ins Zd dx (YZ (Qc "totals") (V.ref l3) F3)):=(Zj (Zk x5 hl4)).trans x5;refine ⟨_,_,x6,by omega,?_⟩;have kp6:∀b o,b≠x->H3 b=some o->(∀ps,o≠ .tbl ps)->upd (upd H5 l4 (HO.lst (p4.map fun i=>(ZdK 0 ((YV (L z) m).length:Int)).getD i V.non))) x (HO.ins Zd dx (YZ (Qc "forths") (V.ref l4) (YZ (Qc "totals") (V.ref l3) F3))) b=some o:=fun b o hb e n=>by have e1:=sm5.at (kp4 b o hb e) n;exact (Zj hb).trans ((Zj (Zk e1 hl4)).trans e1)
    refine q _ (fun b o hb e n=>kp6 b o hb (kp3 b o hb e) n) (fun b hb=>Zbu (Zbu (sm5.nn (Zbu (Zbu (nn3 b hb)))))) (fun b o hb ht e=>?_) (Zce (bk5.put hl4) x6) ⟨dx,l3,l4,?_,⟨⟨ts,qs,kp6 _ _ n3 t3 (by nofun),pr3.1,fun j d e=>?_,pm.nodup_iff.mpr nd,fun c=>pm.mem_iff.trans (mem c)⟩,p4,?_,?_,?_⟩,hm⟩
    ·have e1:=se5 _ _ ht (kp4 b o hb (kp3 b o hb e));exact (Zj hb).trans ((Zj (Zk e1 hl4)).trans e1)
    ·rw [Zh,<-hF];exact congrArg (fun f=>some (HO.ins Zd dx f)) (ZoL (L z) m l3 l4)
    ·obtain ⟨t,e1,e2⟩:=pr3.2 j d e;have:t≠x:=by rintro rfl;rw [x3] at e2;cases e2
     exact ⟨t,e1,kp6 _ _ this e2 (by nofun)⟩
    ·have n4:l4≠x:=Ne.symm (Zk x5 hl4);rw [Zj n4,Zh]
     congr 2
     refine uE fun j hj=>?_;have hj2:j<(YV (L z) m).length:=by rw [<-el];exact QB.mp (pm4.mem_iff.mp hj)
     rw [er,Qb,Qi,Ul hj2];rfl
    ·rw [el,cl] at pm4;exact pm4
    ·refine pw4.imp_of_mem fun {i j} hi hj h=>?_
     have g:∀i∈p4,((YV (L z) m).map fun c=>[c]).getD i []=[(YV (L z) m).getD i 0]:=fun i hi=>by
      have hi2:i<(YV (L z) m).length:=by rw [<-el];exact QB.mp (pm4.mem_iff.mp hi)
      rw [Qb,Qb,Qi,Qd hi2];rfl
     rw [g i hi,g j hj] at h;exact h
def zL (K:Qa) (c:Cs) (C:jk):Sp:=fun vs H Q E=>match vs with
 |[.ref a,.int r]=>∃cs h,JQ C H a cs h/\cs.length<=1000/\(¬(0<=r/\r<=cs.length)->E (.ref c.NoPlace) none H)/\((0<=r/\r<=cs.length)->Q (if r=(h:Int) then .non else .str (T [(YV cs h).getD r.toNat 0])) H)
 |_=>False
theorem ZcH (F:Fun K "letter" "Letters.letter" zm f fd) (CF:Cf K Zd Zl ZB) (ZT:FnX P w K mg base 1 "check_place" zh (ZR K c)):Z0 P w K mg base (CX1 P w) 2 f fd z0 (zL K c Zd):=by
 refine F.okX ZcJ (fun vs H Q E h=>?_) (fun cdv A outer s H vs Q E hr h=>?_)<;>unfold zL at h<;>split at h<;>first|exact h.elim|skip
 ·rfl
 ·rename_i a r;obtain ⟨cs,h,⟨dx,tot,fo,hx,_,hm⟩,hl,e,q⟩:=h
  refine ⟨_,(Zi (ZaS (Zbs Z8.toTk ZT (hr.mono (by decide)) (Za (qv 1) (Za (YE (K:=K) rfl CF.qaa CF.qac (qv 0)) Ze))))
   (Zi (zA (zS ZcF (qv 1) (YE (K:=K) rfl CF.qaa CF.qaq (qv 0))) (Zo (ZA ZjD)) ZP)
   (Zo (ZA (zw (zJ (K:=K) rfl) (YE (K:=K) rfl CF.qaa CF.qad (qv 0)) (qv 1) (fun _ _=>rfl)))))),?_⟩
  simp! [ZR];have hsz:sizeLine=16777216:=jt;have cl:=Zh1 hm;refine ⟨_,_,_,hx,rfl,?_⟩;simp! [true_and];refine ⟨fun hh=>⟨_,_,_,hx,rfl,?_⟩,fun hh=>e hh⟩;have q:=q hh;simp! [true_and];refine q9 (fun e0=>?_) fun e0=>⟨_,_,_,hx,rfl,?_⟩
  ·rw [if_pos e0] at q;exact q
  ·rw [if_neg e0] at q;simp! [true_and];exact ⟨by omega,_,Jm 0 (by omega) (by omega),q⟩
def Ya (K:Qa) (C:jk):Sp:=fun vs H Q _=>match vs with
 |[.ref a,.str y]=>∃cs h d,JQ C H a cs h/\cs.length<=1000/\L y=[d]/\Q (.int (1+(cs.countP fun x=>decide (x<d):Nat))) H
 |_=>False
theorem Zc5 (F:Fun K "first" "Letters.first" zF f fd) (B:Bn mg) (CF:Cf K Zd Zl ZB) (Zad:Fn P w K mg base 1 "comes_before" YS (zG K)):Z0 P w K mg base CX0 2 f fd YB (Ya K Zd):=by
 refine F.pure Zc8 (fun vs H Q E h=>?_) (fun cdv A outer s H vs Q E hr h=>?_)<;>unfold Ya at h<;>split at h<;>first|exact h.elim|skip
 ·rfl
 ·rename_i a y;obtain ⟨cs,h,d,⟨dx,tot,fo,hx,⟨⟨ts,ds,t1,t2,t3,nd,mem⟩,_⟩,hm⟩,hl,hy,q⟩:=h;refine ⟨_,(Zo (ZA (Zq Zz Zm (ZG (ZBy (K:=K) rfl rfl) (by rfl) B.sum ZuD (Za (Zqg (K:=K) rfl (own:=["letter","many"]) (cp:=[(("sign":Str),1)]) rfl rfl rfl (by rfl') (by rfl') ⟨⟨rfl,rfl,rfl⟩,trivial⟩ (YE (K:=K) rfl CF.qaa CF.qag (qv 0)) (by decide) (fun _ _ _ _=>zD (i:=0) (show UI (["letter","many","sign"]:List Str) by rfl') rfl (Or.inl rfl) (Or.inr rfl)) (fun _ _ _ _=>zD (i:=1) (show UI (["letter","many","sign"]:List Str) by rfl') rfl (Or.inl rfl) (Or.inr rfl)) (fun _ _ _ _=>Zhr (ZbU (K:=K) rfl (ZZ Zad (hr.mono (by decide)) (Za (qv 0) (Za (qv 2) Ze))))) (fun _ _ _ _=>(qv 1))) Ze))))),?_⟩;simp! [zG];have hsz:sizeLine=16777216:=jt;have ld:ds.length<=cs.length:=LO.ZeT nd fun c hc=>(mem c).mp hc;refine ⟨_,_,_,hx,rfl,?_⟩;simp! [true_and];refine ⟨_,SqL.of t1,by rw [jn];omega,fun i H2 acc=>H2=H/\acc=(((ds.take i).filter fun x=>decide (x<d)).map fun x=>(cs.count x:Int)).map V.int,⟨rfl,rfl⟩,?_,?_,?_⟩
  ·rintro i H2 acc _ ⟨rfl,_⟩;exact SqL.of t1
  ·rintro i r H2 acc hr2 ⟨rfl,rfl⟩;rw [Qi] at hr2;obtain ⟨t,et,rfl⟩:=Qz.mp hr2;have hi:i<ds.length:=by rw [<-t2];exact (Qo.mp et).1
   have ei:ds[i]?=some ds[i]:=Qd hi;obtain ⟨t',et',ht⟩:=t3 i ds[i] ei;rw [et] at et';cases Option.some.inj et';refine ⟨t,_,_,rfl,SqT.of ht,?_⟩;simp! [zG];rw [hy,Ua,ei];have lt1:([ds[i]]<[d])↔ds[i]<d:=by rw [QL];simp
   refine q9 (fun z=>?_) fun z=>?_
   ·have hlt:=lt1.mp z;have fe:jd (fun x=>decide (x<d)) (some ds[i]).toList=[ds[i]]:=by simp [WO,hlt]
    rw [UH,fe,uw,uw];rfl
   ·have hlt:¬ds[i]<d:=fun y=>z (lt1.mpr y);have fe:jd (fun x=>decide (x<d)) (some ds[i]).toList=[]:=by simp [WO,hlt]
    rw [UH,fe,vf]
  ·rintro H2 acc ⟨rfl,rfl⟩ l hl2;rw [jn,t2,QF];refine ⟨_,SqL.of Zh,Zs.updN hl2,?_⟩;rw [ZiV d cs ds nd fun x hx=>(mem x).mpr hx];exact q
def zK (K:Qa) (c:Cs) (C:jk):Sp:=fun vs H Q E=>match vs with
 |[.ref a,.str y,.int r]=>∃cs h d,JQ C H a cs h/\cs.length<=1000/\L y=[d]/\(¬(0<=r/\r<=cs.length+1)->E (.ref c.NoPlace) none H)/\((0<=r/\r<=cs.length+1)->Q (.int (((YV cs h).take r.toNat).count d:Nat)) H)
 |_=>False
theorem ZcG (F:Fun K "before" "Letters.before" zl f fd) (CF:Cf K Zd Zl ZB) (ZT:FnX P w K mg base 1 "check_place" zh (ZR K c)):Z0 P w K mg base (CX1 P w) 2 f fd zZ (zK K c Zd):=by
 refine F.okX ZcI (fun vs H Q E h=>?_) (fun cdv A outer s H vs Q E hr h=>?_)<;>unfold zK at h<;>split at h<;>first|exact h.elim|skip
 ·rfl
 ·rename_i a y r;obtain ⟨cs,h,d,⟨dx,tot,fo,hx,_,hm⟩,hl,hy,e,q⟩:=h
  refine ⟨_,(Zi (ZaS (Zbs Z8.toTk ZT (hr.mono (by decide)) (Za (qv 2) (Za (Zq Zz (YE (K:=K) rfl CF.qaa CF.qac (qv 0)) Zm) Ze))))
   (Zo (ZA (JZ (K:=K) rfl QC V4 V2 Zip (YE (K:=K) rfl CF.qaa CF.qad (qv 0)) (Za (qv 1) (Za Zm (Za (qv 2) Ze))))))),?_⟩
  simp! [ZR];have hsz:sizeLine=16777216:=jt;refine ⟨_,_,_,hx,rfl,?_⟩;simp! [true_and];refine ⟨fun hh=>⟨_,_,_,hx,rfl,?_⟩,fun hh=>e hh⟩;have q:=q hh;simp! [true_and];exact ⟨d,hy,hh.1,q⟩
def ZO (K:Qa) (c:Cs) (C:jk):Sp:=fun vs H Q E=>match vs with
 |[.ref a,.str y,.int r]=>∃cs h d,JQ C H a cs h/\cs.length<=1000/\L y=[d]/\(¬(0<=r/\r<=cs.length+1)->E (.ref c.NoPlace) none H)/\((0<=r/\r<=cs.length+1)->Q (.int (1+(cs.countP fun x=>decide (x<d):Nat)+(((YV cs h).take r.toNat).count d:Nat))) H)
 |_=>False
theorem Zb3 (F:Fun K "row_with" "Letters.row_with" za f fd) (qa4:Md P w K mg base CX0 2 Zd "first" YB [] (Ya K Zd)) (qa1:Md P w K mg base (CX1 P w) 2 Zd "before" zZ [] (zK K c Zd)):Z0 P w K mg base (CX1 P w) 3 f fd Z9 (ZO K c Zd):=by
 refine F.okX Zb4 (fun vs H Q E h=>?_) (fun cdv A outer s H vs Q E hr h=>?_)<;>unfold ZO at h<;>split at h<;>first|exact h.elim|skip
 ·rfl
 ·rename_i a y r;obtain ⟨cs,h,d,il,hl,hy,e,q⟩:=h;refine ⟨_,(Zo (ZA (Zq Zz (ZiH qa4 (hr.mono (by decide)) (qv 0) (Za (qv 1) Ze)) (Zc6 Z8.toTk qa1 (hr.mono (by decide)) (qv 0) (Za (qv 1) (Za (qv 2) Ze)))))),?_⟩;simp! [Ya,zK];have il':=il;obtain ⟨dx,tot,fo,hx,_,hm⟩:=il';exact ⟨a,_,_,rfl,hx,rfl,cs,h,d,il,hl,hy,a,_,_,rfl,hx,rfl,cs,h,d,il,hl,hy,e,q⟩
def YF (K:Qa) (c:Cs) (C:jk):Sp:=fun vs H Q E=>match vs with
 |[.ref a,.int r]=>∃cs h,JQ C H a cs h/\cs.length<=1000/\(∀c∈cs,c≠10)/\(¬(0<=r/\r<=cs.length)->E (.ref c.NoPlace) none H)/\((0<=r/\r<=cs.length)->Q (ZDU (LO.bk (LO.rsL cs h) r.toNat)) H)
 |_=>False
theorem ZdB (F:Fun K "back" "Letters.back" zU f fd) (qa2:Md P w K mg base (CX1 P w) 2 Zd "letter" z0 [] (zL K c Zd)) (qab:Md P w K mg base (CX1 P w) 3 Zd "row_with" Z9 [] (ZO K c Zd)):Z0 P w K mg base (CX1 P w) 4 f fd YO (YF K c Zd):=by
 refine F.okX Zbm (fun vs H Q E h=>?_) (fun cdv A outer s H vs Q E hr h=>?_)<;>unfold YF at h<;>split at h<;>first|exact h.elim|skip
 ·rfl
 ·rename_i a r;obtain ⟨cs,h,il,hl,h10,e,q⟩:=h
  refine ⟨_,(Zi (ZJ (i:=2) Zbm.nd rfl (by ac_nf) (Zc6 Z8.toTk qa2 (hr.mono (by decide)) (qv 0) (Za (qv 1) Ze)))
   (Zi (zA (zS ZDF (qv 2) ZjD) (Zo (ZA ZjD)) ZP)
   (Zo (ZA (Zc6 Z8.toTk qab (hr.mono (by decide)) (qv 0) (Za (qv 2) (Za (qv 1) Ze))))))),?_⟩
  simp! [zL,ZO];have il':=il;obtain ⟨dx,tot,fo,hx,_,hm⟩:=il';refine ⟨a,_,_,rfl,hx,rfl,cs,h,il,hl,e,fun hh=>?_⟩;have q:=q hh;by_cases e0:r=(h:Int)
  ·subst e0;rw [Qn,LO.Zra hm] at q;simp! [if_pos];exact q
  ·have n0:r.toNat≠h:=by omega
   rw [LO.ZuB hm h10 (by omega) n0] at q;simp! [if_neg e0];refine ⟨a,_,_,rfl,hx,rfl,cs,h,_,il,hl,L_T _,fun z=>absurd ⟨hh.1,by omega⟩ z,fun _=>?_⟩;exact q
def zd (K:Qa) (c:Cs) (C:jk):Sp:=fun vs H Q E=>match vs with
 |[.ref a,.str y,.ref p]=>∃cs h d,∃lo hi:Int,JQ C H a cs h/\cs.length<=1000/\L y=[d]/\H p=some (.tup [.int lo,.int hi])/\(0<=lo/\lo<=cs.length+1)/\(0<=hi/\hi<=cs.length+1)/\
  ∀t,H t=none->Q (.ref t) (upd H t (.tup [.int (1+(cs.countP fun x=>decide (x<d):Nat)+(((YV cs h).take lo.toNat).count d:Nat)),.int (1+(cs.countP fun x=>decide (x<d):Nat)+(((YV cs h).take hi.toNat).count d:Nat))]))
 |_=>False
theorem ZbS (F:Fun K "rows_with" "Letters.rows_with" Z5 f fd) (qab:Md P w K mg base (CX1 P w) 3 Zd "row_with" Z9 [] (ZO K c Zd)):Z0 P w K mg base (CX1 P w) 4 f fd zi (zd K c Zd):=by
 refine F.okX ZbW (fun vs H Q E h=>?_) (fun cdv A outer s H vs Q E hr h=>?_)<;>unfold zd at h<;>split at h<;>first|exact h.elim|skip
 ·rfl
 ·rename_i a y p;obtain ⟨cs,h,d,lo,hi,il,hl,hy,hp,h1,h2,q⟩:=h;refine ⟨_,(Zo (ZA (ZX (Za (Zc6 Z8.toTk qab (hr.mono (by decide)) (qv 0) (Za (qv 1) (Za (zw (zJ (K:=K) rfl) (qv 2) Zm (fun _ _=>rfl)) Ze))) (Za (Zc6 Z8.toTk qab (hr.mono (by decide)) (qv 0) (Za (qv 1) (Za (zw (zJ (K:=K) rfl) (qv 2) Zm (fun _ _=>rfl)) Ze))) Ze))))),?_⟩;simp! [ZO];have hsz:sizeLine=16777216:=jt;have il':=il;obtain ⟨dx,tot,fo,hx,_,hm⟩:=il';refine ⟨a,_,_,rfl,hx,rfl,_,_,.inr (SqT.of hp),rfl,?_⟩;simp! [ZO];refine ⟨cs,h,d,il,hl,hy,fun z=>absurd h1 z,fun _=>⟨a,_,_,rfl,hx,rfl,_,_,.inr (SqT.of hp),rfl,?_⟩⟩;simp! [ZO];exact ⟨cs,h,d,il,hl,hy,fun z=>absurd h2 z,fun _=>⟨by omega,fun t ht=>q t ht⟩⟩
def YK (K:Qa) (tb:jk):Sp:=fun vs H Q _=>match vs with
 |[.str z]=>(L z).length<=300/\Zu tb H/\∀p H',zQ H H'->Zat tb H H'->Zu tb H'->H p=none->H' p=some (.lst ((LO.ord (L z)).map fun i:Nat=>V.int i))->Q (.ref p) H'
 |_=>False
theorem Zge {f:jk} {fd:j7} (F:Fun K "order_of" "order_of" Jc f fd) (B:Bn mg) {Zg:jk} {cd:jk} (LM_p_order_of:Lm mg base cd Zg) (hcd:fd.code=.ref cd) {c:Cs} (ER:Er K mg c) {Yc Z4 zf:jk} (TP:Tp K w.params mg Yc Z4 zf) {Zd Zl ZB:jk} (CF:Cf K Zd Zl ZB) (GC:Gc mg):Z0 P w K mg base CX0 3 f fd qV (YK K Zg):=by
 refine F.okL hcd Zgm (fun vs H Q E h=>?_) (fun A outer s H vs Q E hr h=>?_)<;>unfold YK at h<;>split at h<;>first|exact h.elim|skip
 ·rfl
 ·rename_i z;obtain ⟨hl,bk,q⟩:=h;refine ⟨_,(Zo (ZA (ZgL (K:=K) (x:="place") (cp:=[(("text":Str),0)]) (q:=ZcQ) rfl rfl (hr.mono (by decide)) (LM_p_order_of.at rfl) rfl B.sorted rfl rfl rfl rfl (by rfl') ⟨⟨rfl,rfl,rfl⟩,trivial⟩ rfl (by rfl') rfl rfl (fun _ _ _ _=>rfl) (Za (Yn Zkf (by rfl) B.range ZhV (Za (Zq Zz (ZG (Yi (K:=K) rfl) (by rfl) B.len Yh (Za (qv 0) Ze)) Zm) Ze)) Ze) (fun _ _ _ _ _ _=>(z8 (Za8 (K:=K) rfl) (qv 1) (Zci (qv 0)) Ja))))),?_⟩;dsimp! [Zlm,ZhM,Zst,Zss,unb,Zsr,Zrx,ZlM,Zqw,Zqx,ZeY,tCR,tCL,Zgj,ZaK,Ze2,ZfS,ZfT,ZhK,Zin,Zgb,ZlG,ZgC,ZoM,Zig,Zll,Zsq,Ze1,Zlh,ZhJ,Wi,ZqA,Zm2,ZqK,tCP,tB];have hsz:sizeLine=16777216:=jt;have er:ZdK 0 (((L z).length:Int)+1)=(Qk ((L z).length+1)).map fun j:Nat=>V.int j:=Zse _;have el:(ZdK 0 (((L z).length:Int)+1)).length=(L z).length+1:=by rw [er];simp
  refine ⟨by omega,fun r hr0=>⟨_,(Qk ((L z).length+1)).map (fun j=>(L z).drop j),.inr (.inr ⟨0,_,Zh,rfl,by omega,by omega,by omega,by omega⟩),by omega,by rw [el];simp,bk.put hr0,fun H2 i y sm hy=>?_,fun H2 l1 p sm se bk2 hl2 pm pw=>?_⟩⟩
  ·have hi:=(Qo.mp hy).1;rw [el] at hi;rw [er,Qi,Ul hi] at hy;cases Option.some.inj hy;refine ⟨by omega,?_⟩;rw [ZbP _ _ hi,Zdj]
  ·rw [el] at pm;have plt:∀j∈p,j<(L z).length+1:=fun j hj=>QB.mp (pm.mem_iff.mp hj);have ep:p=LO.ord (L z):=by refine LO.Zqd pm (pw.imp_of_mem fun {i j} hi hj h=>?_);have h:=h.1;rw [ZbP _ _ (plt i hi),ZbP _ _ (plt j hj)] at h;exact h
   have sm0:Zs H (upd H r (HO.rng 0 (((L z).length:Int)+1))):=Zs.updN hr0;have sm1:=(Zs.toN sm0).trans sm;refine q l1 _ (sm1.upd hl2) (((Zs.toE sm0).trans se).upd hl2) (bk2.put hl2) (sm1.free hl2) ?_;rw [Zh]
   congr 2
   rw [<-ep];refine uE fun j hj=>?_;rw [er,ZbP _ _ (plt j hj)]
def YH (K:Qa) (tb:jk):Sp:=fun vs H Q _=>match vs with
 |[.str z]=>(L z).length<=300/\Zu tb H/\∀p H',zQ H H'->Zat tb H H'->Zu tb H'->H p=none->H' p=some (.tup [.str (T (LO.zC (L z))),.int (LO.ZdZ (L z))])->Q (.ref p) H'
 |_=>False
theorem ZdF (F:Fun K "last_letters" "last_letters" zY f fd) (Y8:Fn P w K mg base 3 "order_of" qV (YK K Zg)):Z0 P w K mg base CX0 4 f fd YT (YH K Zg):=by
 refine F.ok J3 (fun vs H Q E h=>?_) (fun cdv A outer s H vs Q E hr h=>?_)<;>unfold YH at h<;>split at h<;>first|exact h.elim|skip
 ·rfl
 ·rename_i z;obtain ⟨hl,bk,q⟩:=h
  refine ⟨_,(Zi (ZJ (i:=1) J3.nd rfl (by ac_nf) (ZZ Y8 (hr.mono (by decide)) (Za (qv 0) Ze)))
   (Zi (ZJ (i:=2) J3.nd rfl (by ac_nf) (JZ (K:=K) rfl QC UM UL (ZeU (K:=K) rfl) Zn (Za (ZiF (K:=K) rfl (own:=["place"]) (cp:=[(("text":Str),0)]) rfl rfl rfl (by rfl') (by rfl') ⟨⟨rfl,rfl,rfl⟩,trivial⟩ (qv 1) (by decide) (fun _ _ _ _=>zD (i:=0) (show UI (["place","text"]:List Str) by rfl') rfl (Or.inl rfl) (Or.inr rfl)) (fun _ _ _ _=>Zhr (zS Zjw (qv 0) Zm)) (fun _ _ _ _=>(zw (zJ (K:=K) rfl) (qv 1) (Zq ZfB (qv 0) Zm) (fun _ _=>rfl)))) Ze)))
   (Zo (ZA (ZX (Za (qv 2) (Za (JZ (K:=K) rfl VU PySem.F.slot_list_index PySem.F.type_list_index (ZrO (K:=K) rfl) (qv 1) (Za Zm Ze)) Ze))))))),?_⟩
  simp! [gtV,ZjP,YK];have hsz:sizeLine=16777216:=jt;refine ⟨hl,bk,fun p H1 sm1 se1 bk1 hp h1=>?_⟩;rw [LO.ZrU] at h1;have ol:=LO.qP (L z);refine ⟨_,SqL.of h1,by rw [jn,jn];omega,fun i H2 acc=>H2=H1/\acc=(LO.ltk (L z) i).map fun c=>V.str (T [c]),⟨rfl,rfl⟩,?_,?_,?_⟩
  ·rintro i H2 acc _ ⟨rfl,_⟩;exact SqL.of h1
  ·rintro i y H2 acc hy ⟨rfl,rfl⟩;rw [<-LO.ZrU,Qi] at hy;obtain ⟨j,ej,rfl⟩:=Qz.mp hy;have hj:j<=(L z).length:=LO.ZaR.mp (QE ej);simp! [gtV,ZjP];refine q9 (fun h0=>⟨by omega,_,Jm 0 (by omega) (by omega),?_⟩) fun h0=>?_
   ·rw [LO.Zp0 ej (by omega),uw,show ((j:Int)-1).toNat=j-1 by omega];rfl
   ·have:j=0:=by omega
    subst this;rw [LO.ZpZ ej]
  ·rintro H2 acc ⟨rfl,rfl⟩ l hl2;rw [jn,jn,LO.Zk2 (L z) (by omega),Zrn];have ll:(LO.zC (L z)).length<=301:=by have:=LO.ZrN (L z) ((L z).length+1);rw [LO.Zk2 (L z) (Qf _)] at this;omega
   refine ⟨(LO.zC (L z)).map fun c=>[c],SqL.of (by rw [Zh,uJ];rfl),?_,?_⟩
   ·rw [ZAc (fun c:Nat=>c),jn,j8];omega
   ·rw [Zd1,ZoI (fun c:Nat=>c),W8];have h2:upd H2 l (HO.lst ((LO.zC (L z)).map fun c=>V.str (T [c]))) p=some (HO.lst (((LO.ord (L z)).map fun i:Nat=>(i:Int)).map V.int)):=by rw [Zj (Zk h1 hl2)];exact h1
    refine ⟨.inl ⟨_,SqL.of h2⟩,p,_,rfl,SqL.of h2,LO.Zif _,by omega,fun p1 hp1=>?_⟩;rw [LO.Zo4];exact q p1 _ ((sm1.upd hl2).upd hp1) ((se1.upd hl2).upd hp1) ((bk1.put hl2).put hp1) ((sm1.upd hl2).free hp1) Zh
def qx (K:Qa) (C:jk) (tb2 tb:jk):Sp:=fun vs H Q _=>match vs with
 |[.str z]=>(L z).length<=300/\Zu tb2 H/\Zp tb H/\tb2≠tb/\∀x H',zQ H H'->Zu tb2 H'->Zp tb H'->H x=none->JQ C H' x (LO.zC (L z)) (LO.ZdZ (L z))->Q (.ref x) H'
 |_=>False
theorem ZeL (F:Fun K "letters_of" "letters_of" Y1 f fd) (Zae:Fn P w K mg base 4 "last_letters" YT (YH K Zg)) (qbC:Mkr P w K mg base (CX1 P w) 3 "Letters" Zd YQ [] (YG K c Zd Zc)):Z0 P w K mg base CX0 5 f fd qM (qx K Zd Zg Zc):=by
 refine F.ok Zb0 (fun vs H Q E h=>?_) (fun cdv A outer s H vs Q E hr h=>?_)<;>unfold qx at h<;>split at h<;>first|exact h.elim|skip
 ·rfl
 ·rename_i z;obtain ⟨hl,bo,bk,hne,q⟩:=h
  refine ⟨_,(Zi (ZJ (i:=1) Zb0.nd rfl (by ac_nf) (ZZ Zae (hr.mono (by decide)) (Za (qv 0) Ze)))
   (Zo (ZA (ZCI qbC.quiet (hr.mono (by decide)) (Za (zw (zJ (K:=K) rfl) (qv 1) Zm (fun _ _=>rfl)) (Za (zw (zJ (K:=K) rfl) (qv 1) Zm (fun _ _=>rfl)) Ze)))))),?_⟩
  simp! [YH];have hsz:sizeLine=16777216:=jt;have ll:=LO.Zch (L z);have hh:=LO.Zkr (L z);refine ⟨hl,bo,fun p H1 sm1 se1 bo1 hp h1=>⟨_,_,.inr (SqT.of h1),rfl,_,_,.inr (SqT.of h1),rfl,?_⟩⟩;have bk1:=bk.keep bo (Ne.symm hne) se1;simp! [YG];intro x dx hx hdx hnx;have hdx2:upd H1 dx (HO.own x) x=none:=(Zj (Ne.symm hnx)).trans hx;refine ⟨by omega,(bk1.put hdx).put hdx2,⟨dx,Zh⟩,fun z=>absurd ⟨by omega,by omega⟩ z,fun _ H2 kp2 nn2 se2 bk2 il2=>?_⟩;rw [Qn] at il2;have sm2:=ZgI hx hdx kp2 nn2;exact q x H2 (sm1.trans sm2) (bo1.keep bk1 hne (Zjp hx hdx se2)) bk2 (sm1.free hx) il2
def zn (K:Qa) (c:Cs) (CL C:jk) (tb2 tb:jk):Sp:=fun vs H Q E=>match vs with
 |[.ref x,.str z,.int g]=>(L z).length<=300/\Zu tb2 H/\Zp tb H/\tb2≠tb/\(∃dx,H x=some (.ins C dx []))/\(g<1->E (.ref c.NoGap) none H)/\
  (¬g<1->∀H',(∀b o,b≠x->H b=some o->(∀ps,o≠ .tbl ps)->H' b=some o)->(∀b,H b≠none->H' b≠none)->Zu tb2 H'->Zp tb H'->Ze6 C CL H' x (L z) g->Q .non H')
 |_=>False
theorem ZbA {f:jk} {fd:j7} {T:jk} (F:Zlt K "__init__" "Finder.__init__" Yo f T fd) (B:Bn mg) {Zg Zc:jk} {c:Cs} (ER:Er K mg c) {Yc Z4 zf:jk} (TP:Tp K w.params mg Yc Z4 zf) {Zd Zl ZB:jk} (CF:Cf K Zd Zl ZB) (GC:Gc mg) (Zal:FnX P w K mg base 1 "check_gap" Jk (qR K c)) (Y8:Fn P w K mg base 3 "order_of" qV (YK K Zg)) (JO:Fn P w K mg base 5 "letters_of" qM (qx K Zd Zg Zc)):Z0 P w K mg base (CX1 P w) 6 f fd zg (zn K c Zd Zl Zg Zc):=by
 refine F.okX Zai (fun vs H Q E h=>?_) (fun cdv A outer s H vs Q E hr h=>?_)<;>unfold zn at h<;>split at h<;>first|exact h.elim|skip
 ·rfl
 ·rename_i x z g;obtain ⟨hl,bo,bk,hne,⟨dx,hx⟩,e,q⟩:=h
  refine ⟨_,(Zi (ZaS (Zbs Z8.toTk Zal (hr.mono (by decide)) (Za (qv 2) Ze)))
   (Zi (ZaT (K:=K) rfl CF.qar CF.qae (qv 0) (ZZ JO (hr.mono (by decide)) (Za (qv 1) Ze)) rfl)
   (Zi (ZaT (K:=K) rfl CF.qar CF.qa0 (qv 0) (qv 2) rfl)
   (Zi (ZM (ZaT (K:=K) rfl CF.qar CF.qaf (qv 0) ZfJ rfl))
   (Zo (Zlb (K:=K) rfl Z8.own rfl B.enumerate (Za (ZZ Y8 (hr.mono (by decide)) (Za (qv 1) Ze)) Ze) (zD (i:=3) Zai.nd rfl (by ac_nf)) (zD (i:=4) Zai.nd rfl (by ac_nf)) (Zo (zA (zS ZcF (Zq ZcO (qv 4) (qv 2)) Zm) (Zo (ZcB (Z3 hr) (YE (K:=K) rfl CF.qar CF.qaf (qv 0)) (qv 3) (qv 4) rfl)) ZP)))))))),?_⟩
  simp! [qR,qx];have hsz:sizeLine=16777216:=jt;refine ⟨e,fun hg=>⟨hl,bo,bk,hne,fun h H1 sm1 bo1 bk1 hh il1=>?_⟩⟩;have q:=q hg;have hx1:=sm1.at hx (by nofun);refine ⟨_,_,hx1,by decide,_,_,Zh,(show 1<1000 by decide),?_⟩;rw [ZhN];generalize hF:YZ (Qc "gap") (V.int g) (YZ (Qc "held") (V.ref h) [])=F2;have lF:F2.length=2:=by rw [<-hF];rfl
  refine z5 (fun σ' H'=>∃d,upd H1 x (HO.ins Zl dx F2) d=none/\H'=upd (upd (upd H1 x (HO.ins Zl dx F2)) d (HO.dK [])) x (HO.ins Zl dx (YZ (Qc "known") (V.ref d) F2))/\σ'=[some (V.ref x),some (V.str z),some (V.int g),none,none]) ?_ ?_
  ·simp! [true_and];intro d hd;exact ⟨_,_,(Zj (Ne.symm (Zco hd).2)).trans Zh,by omega,d,hd,rfl⟩
  rintro _ _ ⟨d,hd,rfl,rfl⟩;simp! [Zv4,YK];have eF:YZ (Qc "known") (V.ref d) F2=fsF h d g:=by rw [<-hF];rfl
  obtain ⟨hd1,dx1⟩:=Zco hd;have x2:upd (upd H1 x (HO.ins Zl dx F2)) d (HO.dK []) x=some (HO.ins Zl dx F2):=(Zj (Ne.symm dx1)).trans Zh;have bo2:Zu Zg (upd (upd H1 x (HO.ins Zl dx F2)) d (HO.dK [])):=Bk.put (Zce bo1 hx1) hd;have bk2:Zp Zc (upd (upd H1 x (HO.ins Zl dx F2)) d (HO.dK [])):=Bk.put (Zce bk1 hx1) hd;refine ⟨hl,Zce bo2 x2,fun p H6 sm6 se6 bo6 hp6 h6=>?_⟩;rw [eF] at sm6 se6 hp6;have bk6:=Bk.keep (Zce bk2 x2 (o:=HO.ins Zl dx (fsF h d g))) (Zce bo2 x2) (Ne.symm hne) se6;have kx:J9 x d H H6:=(((J9.ofN sm1).updX).updD.updX).trans (J9.ofN sm6);have x6:=sm6.at Zh (by nofun);have d6:=sm6.at ((Zj dx1).trans Zh) (by nofun)
  have il6:JQ Zd H6 h (LO.zC (L z)) (LO.ZdZ (L z)):=by
   refine JQ.same (il1.same2 fun b o e n1 n2 n3=>?_) fun b o e n=>sm6.at e n;have bx:b≠x:=fun w=>by subst w;rw [hx1] at e;cases e;exact absurd (n3 _ _ _ rfl) (by decide)
   have bd:b≠d:=fun w=>by subst w;rw [hd1] at e;cases e
   exact (Zj bx).trans ((Zj bd).trans ((Zj bx).trans e))
  rw [LO.ZrU] at h6;have ol:=LO.qP (L z);refine ⟨_,SqL.of h6,fun k σ H'=>∃v v' ps,σ=[some (V.ref x),some (V.str z),some (V.int g),v,v']/\H' p=some (HO.lst (((LO.ord (L z)).map fun i:Nat=>(i:Int)).map V.int))/\H' x=some (HO.ins Zl dx (fsF h d g))/\H' d=some (.dK (ZeE ps))/\Zbd ps (L z) g k/\ps.length<=k/\Zu Zg H'/\Zp Zc H'/\JQ Zd H' h (LO.zC (L z)) (LO.ZdZ (L z))/\J9 x d H H',⟨_,_,[],rfl,h6,x6,d6,fun r=>by rw [if_neg fun w=>by omega];rfl,Qf _,bo6,bk6,il6,kx⟩,?_,?_,?_⟩
  ·rintro k σ H' _ ⟨v,v',ps,_,h',_⟩;exact SqL.of h'
  ·rintro k y σ H' t hy ⟨v,v',ps,rfl,h',x',d',kn,hps,bo',bk',il',kx'⟩ ht;rw [<-LO.ZrU,Qi] at hy;obtain ⟨j,ej,rfl⟩:=Qz.mp hy;have hk:k<(LO.ord (L z)).length:=(Qo.mp ej).1;obtain ⟨st1,st2⟩:=kn.step ej;have kt:∀o,Zs H' (upd H' t o):=fun o=>Zs.updN ht;have le:(ZeE ps).length=ps.length:=by unfold ZeE;rw [jn]
   simp! [ZlX];have h4:=kt (HO.tup [V.int (k:Int),V.int (j:Int)]) _ _ h';have x4:=kt (HO.tup [V.int (k:Int),V.int (j:Int)]) _ _ x';have d4:=kt (HO.tup [V.int (k:Int),V.int (j:Int)]) _ _ d';have bo4:Zu Zg (upd H' t (HO.tup [V.int (k:Int),V.int (j:Int)])):=bo'.put ht;have bk4:Zp Zc (upd H' t (HO.tup [V.int (k:Int),V.int (j:Int)])):=bk'.put ht;have il4:JQ Zd (upd H' t (HO.tup [V.int (k:Int),V.int (j:Int)])) h (LO.zC (L z)) (LO.ZdZ (L z)):=il'.same fun b o e _=>kt _ _ _ e;have kx4:J9 x d H (upd H' t (HO.tup [V.int (k:Int),V.int (j:Int)])):=kx'.trans (J9.ofN (kt _).toN)
   generalize upd H' t (HO.tup [V.int (k:Int),V.int (j:Int)])=H4 at h4 x4 d4 bo4 bk4 il4 kx4 ⊢
   have pd:p≠d:=fun w=>by subst w;rw [h4] at d4;cases d4
   refine ⟨by omega,q9 (fun hz=>?_) fun hz=>⟨_,_,ps,rfl,h4,x4,d4,st2 hz,by omega,bo4,bk4,il4,kx4⟩⟩;obtain ⟨nl,kn2⟩:=st1 hz;refine ⟨_,_,_,x4,rfl,d,_,rfl,Zmy.k (k:=.inl (k:Int)) d4 (by omega),?_⟩;rw [Zqu _ nl];refine ⟨_,_,ps++[((k:Int),V.int (j:Int))],rfl,(Zj pd).trans h4,(Zj (Ne.symm dx1)).trans x4,Zh,kn2,by rw [jq,jE];omega,Zgw bo4 d4,Zgw bk4 d4,il4.same2 fun b o e n1 n2 n3=>(Zj fun w=>?_).trans e,kx4.updD⟩;subst w;rw [d4] at e;cases e;exact n2 _ rfl
  ·rintro σ H' ⟨v,v',ps,rfl,h',x',d',kn,hps,bo',bk',il',kx'⟩;rw [jn,jn,ol] at kn;refine q H' (fun b o n e n1=>kx'.1 b o n (fun w=>?_) e n1) kx'.2 bo' bk' ⟨dx,h,d,ps,x',il',d',kn,by omega⟩;subst w;rw [sm1.free hd1] at e;cases e
def Y3 (K:Qa) (CL C:jk):Sp:=fun vs H Q _=>match vs with
 |[.ref x,.str y]=>∃l g,Ze6 C CL H x l g/\l.length<=300/\(∀c∈L y,c≠10)/\(L y).length<=1000/\∀p H',Zs H H'->H p=none->H' p=some (.tup [.int (LO.low l (L y):Nat),.int (LO.Zb2 l (L y):Nat)])->Q (.ref p) H'
 |_=>False
theorem Zd5 (F:Fun K "rows" "Finder.rows" Yp f fd) (B:Bn mg) (CF:Cf K Zd Zl ZB) (qaM:Md P w K mg base (CX1 P w) 4 Zd "rows_with" zi [] (zd K c Zd)):Z0 P w K mg base CX0 5 f fd qa (Y3 K Zd Zl):=by
 refine F.ok Jh (fun vs H Q E h=>?_) (fun cdv A outer s H vs Q E hr h=>?_)<;>unfold Y3 at h<;>split at h<;>first|exact h.elim|skip
 ·rfl
 ·rename_i x y;obtain ⟨l,g,fi,hl,y10,hy,q⟩:=h
  refine ⟨_,(Zi (ZJ (i:=2) Jh.nd rfl (by ac_nf) (ZX (Za Zm (Za (Zq Zz (YE (K:=K) rfl CF.qaa CF.qac (YE (K:=K) rfl CF.qar CF.qae (qv 0))) Zm) Ze))))
   (Zi (Zr8 PassesOwn.never rfl B.reversed (Za (qv 1) Ze) (zD (i:=3) Jh.nd rfl (by ac_nf)) (Zo (ZJ (i:=2) Jh.nd rfl (by ac_nf) (ZiH qaM.quiet (hr.mono (by decide)) (YE (K:=K) rfl CF.qar CF.qae (qv 0)) (Za (qv 3) (Za (qv 2) Ze))))))
   (Zo (ZA (qv 2))))),?_⟩
  simp! [Zrq];have hsz:sizeLine=16777216:=jt;obtain ⟨dx,h,d,ps,h1,il,_⟩:=fi;have ll:=LO.Zch l;have il':=il;obtain ⟨dx2,tot,fo,hx,_,hm⟩:=il';refine ⟨_,_,_,h1,rfl,?_⟩;simp! [Zrq];refine ⟨_,_,_,hx,rfl,?_⟩;simp! [Zrq];refine ⟨by omega,fun p0 hp0=>⟨by omega,fun i σ H'=>∃p v,σ=[some (V.ref x),some (V.str y),some (V.ref p),v]/\Zs H H'/\H p=none/\H' p=some (.tup [.int (LO.low l ((L y).drop ((L y).length-i)):Nat),.int (LO.Zb2 l ((L y).drop ((L y).length-i)):Nat)]),⟨p0,_,rfl,Zs.updN hp0,hp0,?_⟩,?_,?_⟩⟩
  ·rw [Zh,VF,Q9 (Qf _),LO.Zk1,LO.ZoQ,ll];rfl
  ·rintro i σ H' hi ⟨p,v,rfl,sm,hp,h2⟩;rw [vx] at hi;simp! [zd];have ei:(L y)[(L y).length-(i+1)]?=some (L y)[(L y).length-(i+1)]:=Qd (by omega);have ed:=LO.Zcs ei;rw [show (L y).length-(i+1)+1=(L y).length-i by omega] at ed;have eg:(L y).reverse.getD i 0=(L y)[(L y).length-(i+1)]:=by rw [Qb,Vk hi,show (L y).length-1-i=(L y).length-(i+1) by omega,ei];rfl
   have c10:=y10 _ (QT (show (L y).length-(i+1)<(L y).length by omega));rw [eg];have b1:=LO.Zw5 l ((L y).drop ((L y).length-i));have b2:=LO.Zdq l ((L y).drop ((L y).length-i));refine ⟨_,_,_,sm _ _ h1,rfl,h,_,_,rfl,sm _ _ hx,rfl,_,_,_,_,_,il.same fun b o e _=>sm _ _ e,by omega,rfl,h2,⟨by omega,by omega⟩,⟨by omega,by omega⟩,fun t ht=>?_⟩;refine ⟨t,_,rfl,sm.upd ht,sm.free ht,?_⟩;rw [Zh,Qn,Qn,LO.Zsf _ c10,LO.ZqD _ c10,<-ed]
  ·rintro σ H' ⟨p,v,rfl,sm,hp,h2⟩;rw [vx,UP,Uc] at h2;simp! [true_and];exact q p H' sm hp h2
def Y4 (K:Qa) (c:Cs) (CL C:jk):Sp:=fun vs H Q E=>match vs with
 |[.ref x,.int r]=>∃l g,Ze6 C CL H x l g/\l.length<=300/\(∀c∈l,c≠10)/\(¬(0<=r/\r<=l.length)->E (.ref c.NoPlace) none H)/\
  ((0<=r/\r<=l.length)->∀t,H t=none->Q (.ref t) (upd H t (.tup [.int (JG l r.toNat:Nat),.int ((JG l r.toNat:Nat)%g)])))
 |_=>False
theorem Zd6 (F:Fun K "walk" "Finder.walk" Yq f fd) (CF:Cf K Zd Zl ZB) (ZT:FnX P w K mg base 1 "check_place" zh (ZR K c)) (qa6:Md P w K mg base (CX1 P w) 4 Zd "back" YO [] (YF K c Zd)):Z0 P w K mg base (CX1 P w) 5 f fd qb (Y4 K c Zd Zl):=by
 refine F.okX Ji (fun vs H Q E h=>?_) (fun cdv A outer s H vs Q E hr h=>?_)<;>unfold Y4 at h<;>split at h<;>first|exact h.elim|skip
 ·rfl
 ·rename_i x r;obtain ⟨l,g,fi,hl,l10,e,q⟩:=h
  refine ⟨_,(Zi (ZaS (Zbs Z8.toTk ZT (hr.mono (by decide)) (Za (qv 1) (Za (YE (K:=K) rfl CF.qaa CF.qac (YE (K:=K) rfl CF.qar CF.qae (qv 0))) Ze))))
   (Zi (ZJ (i:=2) Ji.nd rfl (by ac_nf) Zm)
   (Zi (ZCU Z8.own (Zcj (Zeh (Z3 hr) (qv 1) (YE (K:=K) rfl CF.qar CF.qaf (qv 0)))) (Zi (ZJ (i:=1) Ji.nd rfl (by ac_nf) (Zc6 Z8.toTk qa6 (hr.mono (by decide)) (YE (K:=K) rfl CF.qar CF.qae (qv 0)) (Za (qv 1) Ze)))
   (Zo (Zr5 (i:=2) Zxe Ji.nd rfl (by ac_nf) Zm))))
   (Zo (ZA (ZX (Za (Zq Zz (Z1 (Z3 hr) (YE (K:=K) rfl CF.qar CF.qaf (qv 0)) (qv 1) (fun _ _=>rfl)) (qv 2)) (Za (qv 2) Ze)))))))),?_⟩
  simp! [tWh,ZR];have hsz:sizeLine=16777216:=jt;obtain ⟨dx,h,d,ps,h1,il,hd,kn,g1⟩:=fi;have ll:=LO.Zch l;have il':=il;obtain ⟨dx2,tot,fo,hx,_,hm⟩:=il';refine ⟨_,_,_,h1,rfl,?_⟩;simp! [true_and];refine ⟨_,_,_,hx,rfl,?_⟩;simp! [ZR];refine ⟨fun hh=>?_,fun hh=>e (by omega)⟩;obtain ⟨r,rfl⟩:∃k:Nat,r=(k:Int):=⟨r.toNat,by omega⟩;replace q:=q ⟨by omega,by omega⟩;rw [Qn] at q;obtain ⟨o1,o2⟩:=ZdG (l:=l) (r:=r) (by omega);generalize JG l r=p at q o1 o2;subst o2;have m0:=UJ (p:Int) (show g≠0 by omega);have m1:=Ud (p:Int) (show 0<g by omega);refine ⟨fun k σ H2=>∃s:Nat,k=((p:Int)%g).toNat-s/\(s:Int)<=(p:Int)%g/\s<=p/\σ=[some (V.ref x),some (V.int (LO.ZaF l (p-s):Nat)),some (V.int (s:Int))]/\H2=H,⟨_,0,rfl,by omega,Qu _,rfl,rfl⟩,?_⟩;rintro k σ H2 ⟨s,rfl,hs,hsp,rfl,rfl⟩;have sm:=ZqJ g1 (show (0:Int)<=(s:Int) by omega) hs;have kl:=kn.at (j:=p-s) (by omega);rw [show ((p-s:Nat):Int)=(p:Int)-(s:Int) by omega,sm] at kl;have dg:=DGet.k (k:=.inl ((LO.ZaF l (p-s):Nat):Int)) hd;rw [Zf2,kl] at dg;simp! [Zzs];refine ⟨_,_,_,h1,rfl,d,_,rfl,dg,?_⟩;by_cases hz:(p:Int)%g-(s:Int)=0
  ·rw [if_pos hz] at dg ⊢
   refine ⟨false,rfl,Zdr ⟨_,_,_,h1,rfl,d,_,rfl,dg,?_⟩⟩;simp! [true_and];refine ⟨by omega,fun t ht=>?_⟩;rw [show (p:Int)-(s:Int)+(s:Int)=(p:Int) by omega,show (s:Int)=(p:Int)%g by omega];exact q t ht
  ·rw [if_neg hz];refine ⟨true,rfl,Zd0 ⟨_,_,_,h1,rfl,h,_,_,rfl,hx,rfl,?_⟩⟩
   have ps0:0<p-s:=by
    rcases Nat.eq_zero_or_pos (p-s) with w|w
    ·have:(p:Int)-(s:Int)=0:=by omega
     rw [this,Int.zero_emod] at sm;omega
    ·exact w
   have hb:=LO.Zrb (l:=l) (p:=p-s-1) (by omega);rw [show p-s-1+1=p-s by omega] at hb;have hrk:=LO.Zhw (l:=l) (j:=p-s) (by omega);simp! [YF];refine ⟨_,_,il,by omega,fun c hc=>l10 c (LO.Ziu hc),fun w=>absurd ⟨by omega,by omega⟩ w,fun _=>?_⟩;rw [Qn,<-LO.ZdL,hb];refine ⟨((p:Int)%g).toNat-(s+1),by omega,s+1,rfl,by omega,by omega,?_⟩;rw [show p-(s+1)=p-s-1 by omega];rfl
def z9 (K:Qa) (CL C:jk):Sp:=fun vs H Q _=>match vs with
 |[.ref x,.str y]=>∃l g,Ze6 C CL H x l g/\l.length<=300/\(∀c∈l,c≠10)/\(∀c∈L y,c≠10)/\(L y).length<=1000/\∀p H',Zs H H'->H p=none->H' p=some (.lst ((plc l (L y)).map fun i:Nat=>V.int i))->Q (.ref p) H'
 |_=>False
theorem Zc4 (F:Fun K "places" "Finder.places" zE f fd) (B:Bn mg) (qa9:Md P w K mg base CX0 5 Zl "rows" qa [] (Y3 K Zd Zl)) (qba:Md P w K mg base (CX1 P w) 5 Zl "walk" qb [] (Y4 K c Zd Zl)):Z0 P w K mg base CX0 6 f fd YA (z9 K Zd Zl):=by
 refine F.ok Za9 (fun vs H Q E h=>?_) (fun cdv A outer s H vs Q E hr h=>?_)<;>unfold z9 at h<;>split at h<;>first|exact h.elim|skip
 ·rfl
 ·rename_i x y;obtain ⟨l,g,fi,hl,l10,y10,hy,q⟩:=h
  refine ⟨_,(Zi (ZJ (i:=2) Za9.nd rfl (by ac_nf) (ZiH qa9 (hr.mono (by decide)) (qv 0) (Za (qv 1) Ze)))
   (Zo (ZA (ZG (ZnI (K:=K) rfl rfl) (by rfl) B.sorted ZdW (Za (Zl8 B.range (own:=["row"]) (cp:=[(("self":Str),0)]) rfl rfl rfl (by rfl') (by rfl') ⟨⟨rfl,rfl,rfl⟩,trivial⟩ (Za (zw (zJ (K:=K) rfl) (qv 2) Zm (fun _ _=>rfl)) (Za (zw (zJ (K:=K) rfl) (qv 2) Zm (fun _ _=>rfl)) Ze)) (by decide) (fun _ _ _ _=>zD (i:=0) (show UI (["row","self"]:List Str) by rfl') rfl (Or.inl rfl) (Or.inr rfl)) (fun _ _ _ _=>Zhq) (fun _ _ _ _=>(zw (zJ (K:=K) rfl) (ZiH qba.quiet (hr.mono (by decide)) (qv 1) (Za (qv 0) Ze)) Zm (fun _ _=>rfl)))) Ze))))),?_⟩
  simp! [Y3];have hsz:sizeLine=16777216:=jt;have ixF:∃dx fs,H x=some (HO.ins Zl dx fs)/\fs.lookup (Qc "rows")=none/\fs.lookup (Qc "walk")=none:=by obtain ⟨dx1,h1,d1,ps1,ex,_⟩:=fi;exact ⟨dx1,_,ex,rfl,rfl⟩
  obtain ⟨dx1,fs1,ex,ef,ew⟩:=ixF;refine ⟨x,_,_,rfl,ex,ef,l,g,fi,hl,y10,hy,fun p H1 sm1 hp h1=>⟨_,_,.inr (SqT.of h1),rfl,_,_,.inr (SqT.of h1),rfl,?_⟩⟩;have hh:=LO.Zdq l (L y)
  have hlo:LO.low l (L y)<=LO.Zb2 l (L y):=WP ..
  simp! [true_and];refine ⟨⟨by omega,by omega,by omega,by omega,by omega⟩,fun i H2 acc=>Zs H1 H2/\acc=((Qk i).map fun k=>((JG l (LO.low l (L y)+k):Nat):Int)).map V.int,⟨Zs.refl _,rfl⟩,?_,?_⟩
  ·rintro i H2 acc hi ⟨sm,rfl⟩;simp! [Y4];have s2:=sm1.trans sm;refine ⟨x,_,_,rfl,s2 _ _ ex,ew,l,g,fi.same fun b o e _=>s2 _ _ e,hl,l10,fun z=>absurd ⟨by omega,by omega⟩ z,fun _ t ht=>⟨_,_,.inr (SqT.of Zh),rfl,?_⟩⟩;refine ⟨sm.upd ht,?_⟩;rw [Ut,uw,uw,show (((LO.low l (L y):Nat):Int)+(i:Int)).toNat=LO.low l (L y)+i by omega];rfl
  ·rintro H2 acc ⟨sm,rfl⟩ p2 hp2;rw [show (((LO.Zb2 l (L y):Nat):Int)-((LO.low l (L y):Nat):Int)).toNat=LO.Zb2 l (L y)-LO.low l (L y) by omega];refine ⟨_,.inl (SqL.of Zh),by rw [jn,uO];omega,fun p3 ms hp3 pm pw=>?_⟩;have em:=LO.ZjF pm pw;subst em;refine q p3 _ ((sm1.trans (sm.upd hp2)).upd hp3) ((sm1.trans (sm.upd hp2)).free hp3) ?_;rw [Zh,uJ];rfl
theorem ZbK {H:Hp} {t:jk} {o:HO} (h:H t=some o):upd H t o=H:=by
 funext b
 by_cases e:b=t
 ·subst e;rw [Zh,h]
 ·exact Zj e
structure SD (tb1 tb2:jk) (H H':Hp):Prop where
 same:zQ H H'
 b1:Zp tb1 H'
 b2:Zu tb2 H'
section
variable {tb1 tb2:jk} {H H1 H2:Hp}
theorem SD.of (s:Zs H H1) (b1:Zp tb1 H) (b2:Zu tb2 H):SD tb1 tb2 H H1:=⟨s.toN,JV b1 s,JV b2 s⟩
theorem SD.trans (a:SD tb1 tb2 H H1) (b:SD tb1 tb2 H1 H2):SD tb1 tb2 H H2:=⟨a.same.trans b.same,b.b1,b.b2⟩
theorem SD.dk {t:jk} {kvs kvs':List (Key×V)} (a:SD tb1 tb2 H H1) (ht:H t=some (.dK kvs)):SD tb1 tb2 (upd H t (.dK kvs')) (upd H1 t (.dK kvs')):=by
 have h1:=a.same.at ht (by nofun);refine ⟨fun b u h=>?_,Zgw a.b1 h1,Zgw a.b2 h1⟩;by_cases e:b=t
 ·subst e
  rw [Zh] at h ⊢
  exact ⟨by simp,fun _=>h⟩
 ·rw [Zj e] at h ⊢
  exact a.same b u h
end
def spn (ns:List Nat):List Nat:=Zds [32] (ns.map fun n:Nat=>JL (n:Int))
theorem ZjQ {k:Nat}:∀zs:List (List Nat),(∀z∈zs,z.length<=k)->(zs.map Ur).sum<=k * zs.length
 |[],_=>Qu _
 |z::r,h=>by have h1:=h z (jW ..);have h2:=ZjQ r fun y hy=>h y (jH _ hy);rw [jT,Vw,jy,Nat.mul_succ];omega
def Zaw (K:Qa):Sp:=fun vs H Q _=>match vs with
 |[.ref p]=>∃ns:List Nat,SqL K H p (ns.map fun n:Nat=>V.int n)/\ns.length<=1000/\(∀n∈ns,n<1000)/\∀H',Zs H H'->Q (.str (T (spn ns))) H'
 |_=>False
theorem ZiB (F:Fun K "spaced" "spaced" Zah f fd) (B:Bn mg):Z0 P w K mg base CX0 1 f fd Za2 (Zaw K):=by
 refine F.ok ZiQ (fun vs H Q E h=>?_) (fun cdv A outer s H vs Q E hr h=>?_)<;>unfold Zaw at h<;>split at h<;>first|exact h.elim|skip
 ·rfl
 ·rename_i p;obtain ⟨ns,hS,hl,hn,q⟩:=h;refine ⟨_,(Zo (ZA (JZ (K:=K) rfl QC UM UL (ZeU (K:=K) rfl) Zn (Za (Zqm (K:=K) rfl (own:=["thing"]) (cp:=[]) rfl rfl rfl (by rfl') (by rfl') trivial (qv 0) (by decide) (fun _ _ _ _=>zD (i:=0) (show UI (["thing"]:List Str) by rfl') rfl (Or.inl rfl) (Or.inr rfl)) (fun _ _ _ _=>(Yn Zkg (by rfl) B.str Zfe (Za (qv 0) Ze)))) Ze)))),?_⟩;have hsz:sizeLine=16777216:=jt;have e1:L (Qc " ")=[32]:=by rfl'
  simp! [ZqP,ZaK,ZjN,e1];refine ⟨ns.map fun n:Nat=>V.int n,fun v=>match v with| .int i=>.str (T (JL i))|v=>v,hS,by rw [jn];omega,fun x hx=>?_,fun l hl2=>⟨ns.map fun n:Nat=>JL (n:Int),SqL.of ?_,?_,q _ (Zs.updN hl2)⟩⟩
  ·obtain ⟨n,hn2,rfl⟩:=UD.mp hx;have:=hn n hn2;exact ⟨Zcz (by show n<_;omega),rfl⟩
  ·rw [Zh,uJ,uJ];rfl
  ·have:=ZjQ (k:=3) (ns.map fun n:Nat=>JL (n:Int)) fun z hz=>by obtain ⟨n,hn2,rfl⟩:=UD.mp hz;exact (ZcA n (by decide)).mpr (hn n hn2)
   rw [jn] at this ⊢
   show _+_ * 1<=_;omega
def ze (K:Qa) (c:Cs):Sp:=fun vs H Q E=>match vs with
 |[.ref t,.ref d]=>∃kept ws x,H t=some (.dK (txK kept))/\kept.length<=1000/\H d=some (.dK (Y7 0 ws))/\ZU kept (ws.getD 1 [])=some x/\(ws.getD 2 []).length+x.length<=5000/\((ws.getD 2 []).length+x.length<=300->Q (.str (Qc "ok")) (upd H t (.dK (txK (Za6 kept (ws.getD 1 []) (ws.getD 2 []++x))))))/\(300<(ws.getD 2 []).length+x.length->E (.ref c.TooLong) none H)
 |_=>False
theorem ZdD (F:Fun K "answer_ahead" "answer_ahead" zW f fd) (qy:FnX P w K mg base 1 "keep_text" qz (Yb K c)):Z0 P w K mg base (CX1 P w) 2 f fd YR (ze K c):=by
 refine F.okX ZdP (fun vs H Q E h=>?_) (fun cdv A outer s H vs Q E hr h=>?_)<;>unfold ze at h<;>split at h<;>first|exact h.elim|skip
 ·rfl
 ·rename_i t d;obtain ⟨kept,ws,x,ht,hk,hd,hx,hxl,q,e⟩:=h;refine ⟨_,(Zo (ZA (Zbs Z8.toTk qy (hr.mono (by decide)) (Za (qv 0) (Za (Z1 (Z3 hr) (qv 1) Zn (fun _ _=>rfl)) (Za (Zq Zz (Z1 (Z3 hr) (qv 1) Zn (fun _ _=>rfl)) (Z1 (Z3 hr) (qv 0) (Z1 (Z3 hr) (qv 1) Zn (fun _ _=>rfl)) (fun _ _=>rfl))) Ze)))))),?_⟩;have hsz:sizeLine=16777216:=jt;simp! [true_and];have hv:zk (txK kept) (.inr (T (ws.getD 1 [])))=some (V.str (T x)):=by rw [qJ,hx];rfl
  refine ⟨d,_,rfl,qT 0 ws▸DGet.kys hd "name",d,_,rfl,Zf4 ws▸DGet.kys hd "rest",d,_,rfl,qT 0 ws▸DGet.kys hd "name",t,_,rfl,hv▸DGet.k (k:=.inr (T (ws.getD 1 []))) ht,?_⟩;simp! [Yb];exact ⟨by omega,kept,ht,hk,by rw [jq];omega,fun h=>q (by rw [jq] at h;omega),fun h=>e (by rw [jq] at h;omega)⟩
def zo (K:Qa) (c:Cs):Sp:=fun vs H Q E=>match vs with
 |[.ref t,.ref d]=>∃kept i ws x,H t=some (.dK (txK kept))/\H d=some (.dK (Y7 i ws))/\ZU kept (ws.getD 1 [])=some x/\Q (.str (Qc "ok")) (upd H t (.dK (txK (Zcf kept (ws.getD 1 [])))))
 |_=>False
theorem Zd7 (F:Fun K "answer_drop" "answer_drop" Yr f fd):Z0 P w K mg base (CX1 P w) 1 f fd qd (zo K c):=by
 refine F.okX Zen (fun vs H Q E h=>?_) (fun cdv A outer s H vs Q E hr h=>?_)<;>unfold zo at h<;>split at h<;>first|exact h.elim|skip
 ·rfl
 ·rename_i t d;obtain ⟨kept,i,ws,x,ht,hd,hx,q⟩:=h
  refine ⟨_,(Zi (ZaS (ZiG (qv 0) (Z1 (Z3 hr) (qv 1) Zn (fun _ _=>rfl)) ⟨rfl,rfl,rfl,rfl⟩))
   (Zo (ZA Zn))),?_⟩
  simp! [true_and];have hv:zk (txK kept) (.inr (T (ws.getD 1 [])))=some (V.str (T x)):=by rw [qJ,hx];rfl
  refine ⟨t,rfl,.inl ⟨_,.inl ht⟩,d,_,rfl,qT i ws▸DGet.kys hd "name",_,.inr (T (ws.getD 1 [])),_,ht,rfl,hv,?_⟩;rw [Zfk];exact q
def zH (K:Qa) (c:Cs):Sp:=fun vs H Q E=>match vs with
 |[.ref t,.ref d]=>∃kept ws x,H t=some (.dK (txK kept))/\kept.length<=1000/\H d=some (.dK (Y7 2 ws))/\ZU kept (ws.getD 1 [])=some x/\x.length<=5000/\(x.length<digitsVal (ws.getD 2 [])->E (.ref c.Empty) none H)/\(digitsVal (ws.getD 2 [])<=x.length->Q (.str (T (x.take (digitsVal (ws.getD 2 []))))) (upd H t (.dK (txK (Za6 kept (ws.getD 1 []) (x.drop (digitsVal (ws.getD 2 []))))))))
 |_=>False
theorem ZeK (F:Fun K "answer_off" "answer_off" Y0 f fd) (B:Bn mg) (ER:Er K mg c):Z0 P w K mg base (CX1 P w) 1 f fd qL (zH K c):=by
 refine F.okX ZaH (fun vs H Q E h=>?_) (fun cdv A outer s H vs Q E hr h=>?_)<;>unfold zH at h<;>split at h<;>first|exact h.elim|skip
 ·rfl
 ·rename_i t d;obtain ⟨kept,ws,x,ht,hk,hd,hx,hxl,e,q⟩:=h
  refine ⟨_,(Zi (ZJ (i:=2) ZaH.nd rfl (by ac_nf) (Z1 (Z3 hr) (qv 0) (Z1 (Z3 hr) (qv 1) Zn (fun _ _=>rfl)) (fun _ _=>rfl)))
   (Zi (ZJ (i:=3) ZaH.nd rfl (by ac_nf) (Z1 (Z3 hr) (qv 1) Zn (fun _ _=>rfl)))
   (Zi (zA (zS Zjw (qv 3) (ZG (Yi (K:=K) rfl) (by rfl) B.len Yh (Za (qv 2) Ze))) (Zo (Jq Z8 rfl ER.qbA rfl ER.qbz (Za Zn Ze))) ZP)
   (Zi (ZcB (Z3 hr) (qv 0) (Z1 (Z3 hr) (qv 1) Zn (fun _ _=>rfl)) (z8 (Za8 (K:=K) rfl) (qv 2) (Zci (qv 3)) Ja) rfl)
   (Zo (ZA (z8 (Za8 (K:=K) rfl) (qv 2) Ja (Zci (qv 3))))))))),?_⟩
  have hsz:sizeLine=16777216:=jt;simp! [gtV];have hv:zk (txK kept) (.inr (T (ws.getD 1 [])))=some (V.str (T x)):=by rw [qJ,hx];rfl
  refine ⟨d,_,rfl,qT 2 ws▸DGet.kys hd "name",t,_,rfl,hv▸DGet.k (k:=.inr (T (ws.getD 1 []))) ht,d,_,rfl,Zsx ws▸DGet.kys hd "number",?_⟩;simp! [gtV];refine ⟨by omega,q9 (fun h=>⟨by decide,e (by omega)⟩) fun h=>⟨by omega,d,_,rfl,qT 2 ws▸DGet.kys hd "name",t,_,rfl,.inl ⟨_,.inr (T (ws.getD 1 [])),ht,rfl,by unfold txK;rw [jn];omega,rfl⟩,by omega,?_⟩⟩;rw [ZdJ,Zdj,Zha];exact q (by omega)
def zp (K:Qa) (c:Cs) (CL C:jk) (tb2 tb:jk):Sp:=fun vs H Q E=>match vs with
 |[.ref t,.ref d]=>∃kept ws x,H t=some (.dK (txK kept))/\H d=some (.dK (Y7 0 ws))/\ZU kept (ws.getD 1 [])=some x/\x.length<=300/\(∀c∈x,c≠10)/\(∀c∈ws.getD 2 [],c≠10)/\(ws.getD 2 []).length<=1000/\Zu tb2 H/\Zp tb H/\tb2≠tb/\∀H',SD tb tb2 H H'->Q (.str (T (spn (plc x (ws.getD 2 []))))) H'
 |_=>False
theorem Zd8 (F:Fun K "answer_find" "answer_find" Ys f fd) (ZcV:Fn P w K mg base 1 "spaced" Za2 (Zaw K)) (qb7:Mkr P w K mg base (CX1 P w) 6 "Finder" Zl zg [] (zn K c Zd Zl Zg Zc)) (qbD:Mkr P w K mg base (CX1 P w) 6 "Finder" Zl zg [.int 4] (zn K c Zd Zl Zg Zc)) (qa5:Md P w K mg base CX0 6 Zl "places" YA [] (z9 K Zd Zl)):Z0 P w K mg base (CX1 P w) 8 f fd qe (zp K c Zd Zl Zg Zc):=by
 refine F.okX Zeo (fun vs H Q E h=>?_) (fun cdv A outer s H vs Q E hr h=>?_)<;>unfold zp at h<;>split at h<;>first|exact h.elim|skip
 ·rfl
 ·rename_i t d;obtain ⟨kept,ws,x,ht,hd,hx,hxl,x10,w10,wl,b2,b1,ne,q⟩:=h;refine ⟨_,(Zo (ZA (ZZ ZcV (hr.mono (by decide)) (Za (ZiH qa5 (hr.mono (by decide)) (ZyG Z8.toTk qbD (hr.mono (by decide)) (Za (Z1 (Z3 hr) (qv 0) (Z1 (Z3 hr) (qv 1) Zn (fun _ _=>rfl)) (fun _ _=>rfl)) Ze)) (Za (Z1 (Z3 hr) (qv 1) Zn (fun _ _=>rfl)) Ze)) Ze)))),?_⟩;have hsz:sizeLine=16777216:=jt;simp! [true_and];have hv:zk (txK kept) (.inr (T (ws.getD 1 [])))=some (V.str (T x)):=by rw [qJ,hx];rfl
  refine ⟨d,_,rfl,qT 0 ws▸DGet.kys hd "name",t,_,rfl,hv▸DGet.k (k:=.inr (T (ws.getD 1 []))) ht,?_⟩;simp! [zn];intro y dx hy hdx hne;have hdx2:upd H dx (HO.own y) y=none:=(Zj (Ne.symm hne)).trans hy;refine ⟨hxl,(b2.put hdx).put hdx2,(b1.put hdx).put hdx2,ne,⟨dx,Zh⟩,fun w=>w.elim,fun _ H1 kp nn b21 b11 fi=>?_⟩;have s1:=ZgI hy hdx kp nn;have hd1:=s1.at hd (by nofun);obtain ⟨dx1,fs1,ex,ef⟩:∃dx fs,H1 y=some (HO.ins Zl dx fs)/\fs.lookup (Qc "places")=none:=by obtain ⟨dx1,h1,d1,ps1,ex,_⟩:=id fi;exact ⟨dx1,_,ex,rfl⟩
  refine ⟨y,_,_,rfl,ex,ef,d,_,rfl,Zf4 ws▸DGet.kys hd1 "rest",?_⟩;simp only [z9,L_T];refine ⟨x,4,fi,hxl,x10,w10,wl,fun p H2 s2 hp h2=>?_⟩;simp only [Zaw];have pl:∀n∈plc x (ws.getD 2 []),n<301:=fun n hn=>by have:=LO.Zla hn;omega
  have ll:(plc x (ws.getD 2 [])).length<=301:=by rw [LO.Zfx];have:=LO.Zdq x (ws.getD 2 []);omega
  exact ⟨_,SqL.of h2,by omega,fun n hn=>Ql (pl n hn) (by decide),fun H3 s3=>q H3 ⟨s1.trans (s2.trans s3).toN,JV b11 (s2.trans s3),JV b21 (s2.trans s3)⟩⟩
abbrev Ga (K:Qa) (c:Cs) (Zd Zl:jk) (Zg Zc:jk):Str->Sp->Prop:=fun nm sp=>(nm="answer_keep"/\sp=(zq K c))\/(nm="answer_ahead"/\sp=(ze K c))\/(nm="answer_drop"/\sp=(zo K c))\/(nm="answer_off"/\sp=(zH K c))\/(nm="answer_text"/\sp=(zr K c))\/(nm="answer_find"/\sp=(zp K c Zd Zl Zg Zc))
def Zmx (kept:zI) (i:Nat) (ws:List (List Nat)) (Qs:zI->List Nat->Prop) (Qr:Nat->Prop):Prop:=
 (ws.getD 0 []=cd "keep"/\i=0/\((ws.getD 2 []).length<=300->Qs (Za6 kept (ws.getD 1 []) (ws.getD 2 [])) (cd "ok"))/\(300<(ws.getD 2 []).length->Qr 6))\/
 (ws.getD 0 []=cd "text"/\∃x,ZU kept (ws.getD 1 [])=some x/\Qs kept x)\/
 (ws.getD 0 []=cd "ahead"/\i=0/\∃x,ZU kept (ws.getD 1 [])=some x/\(ws.getD 2 []).length+x.length<=5000/\((ws.getD 2 []).length+x.length<=300->Qs (Za6 kept (ws.getD 1 []) (ws.getD 2 []++x)) (cd "ok"))/\(300<(ws.getD 2 []).length+x.length->Qr 6))\/
 (ws.getD 0 []=cd "drop"/\∃x,ZU kept (ws.getD 1 [])=some x/\Qs (Zcf kept (ws.getD 1 [])) (cd "ok"))\/
 (ws.getD 0 []=cd "off"/\i=2/\∃x,ZU kept (ws.getD 1 [])=some x/\x.length<=5000/\(x.length<digitsVal (ws.getD 2 [])->Qr 5)/\(digitsVal (ws.getD 2 [])<=x.length->Qs (Za6 kept (ws.getD 1 []) (x.drop (digitsVal (ws.getD 2 [])))) (x.take (digitsVal (ws.getD 2 [])))))\/
 (ws.getD 0 []=cd "find"/\i=0/\∃x,ZU kept (ws.getD 1 [])=some x/\x.length<=300/\(∀c∈x,c≠10)/\(∀c∈ws.getD 2 [],c≠10)/\(ws.getD 2 []).length<=1000/\Qs kept (spn (plc x (ws.getD 2 []))))
def JN (kept:zI) (r:List Nat) (Qs:zI->List Nat->Prop) (Qr:Nat->Prop):Prop:=
 ((¬ ∃i ws,qH r i ws)->Qr 8)/\∀i ws,qH r i ws->(¬ZcX kept i ws->Qr 7)/\(ZcX kept i ws->Zmx kept i ws Qs Qr)
theorem JN.mono {kept:zI} {r:List Nat} {Qs Qs':zI->List Nat->Prop} {Qr Qr':Nat->Prop} (a:∀k x,Qs k x->Qs' k x) (b:∀k,Qr k->5<=k->k<9->Qr' k) (h:JN kept r Qs Qr):JN kept r Qs' Qr':=by
 refine ⟨fun n=>b _ (h.1 n) (by decide) (by decide),fun i ws g=>⟨fun n=>b _ ((h.2 i ws g).1 n) (by decide) (by decide),fun n=>?_⟩⟩;rcases (h.2 i ws g).2 n with ⟨e0,e1,e2,e3⟩|⟨e0,x,e1,e2⟩|⟨e0,e1,x,e2,e3,e4,e5⟩|⟨e0,x,e1,e2⟩|⟨e0,e1,x,e2,e3,e4,e5⟩|⟨e0,e1,x,e2,e3,e4,e5,e6,e7⟩
 ·exact .inl ⟨e0,e1,fun l=>a _ _ (e2 l),fun l=>b _ (e3 l) (by decide) (by decide)⟩
 ·exact .inr (.inl ⟨e0,x,e1,a _ _ e2⟩)
 ·exact .inr (.inr (.inl ⟨e0,e1,x,e2,e3,fun l=>a _ _ (e4 l),fun l=>b _ (e5 l) (by decide) (by decide)⟩))
 ·exact .inr (.inr (.inr (.inl ⟨e0,x,e1,a _ _ e2⟩)))
 ·exact .inr (.inr (.inr (.inr (.inl ⟨e0,e1,x,e2,e3,fun l=>b _ (e4 l) (by decide) (by decide),fun l=>a _ _ (e5 l)⟩))))
 ·exact .inr (.inr (.inr (.inr (.inr ⟨e0,e1,x,e2,e3,e4,e5,e6,a _ _ e7⟩))))
def qQ (K:Qa) (C:jk):Sp:=fun vs H Q _=>match vs with
 |[.ref o]=>(∃dx,H o=some (.ins C dx []))/\∀H' t,(∀b u,b≠o->H b=some u->H' b=some u)->H t=none->Yg C H' o t []->Q .non H'
 |_=>False
theorem ZfD (F:Fun K "__init__" "Desk.__init__" qB f fd) (CF:Cf K Zd Zl ZB):Z0 P w K mg base CX0 1 f fd Jj (qQ K ZB):=by
 refine F.ok ZfN (fun vs H Q E h=>?_) (fun cdv A outer s H vs Q E hr h=>?_)<;>unfold qQ at h<;>split at h<;>first|exact h.elim|skip
 ·rfl
 ·rename_i o;obtain ⟨⟨dx,ho⟩,q⟩:=h;refine ⟨_,(Zo (ZaT (K:=K) rfl CF.qb4 CF.qas (qv 0) ZfJ rfl)),?_⟩;simp! [true_and];refine fun p hp=>⟨dx,_,(Zj (Zk ho hp)).trans ho,by decide,q _ p (fun b u hb h=>?_) hp ⟨⟨dx,Zh⟩,(Zj fun z=>?_).trans Zh⟩⟩
  ·rw [Zj hb,Zj (Zk h hp)];exact h
  ·rw [z,ho] at hp;cases hp
def Zjc (c:Cs):Nat->jk
 |5=>c.Empty
 |6=>c.TooLong
 |7=>c.NoName
 |_=>c.NoRow
def Js (K:Qa) (c:Cs) (CL CF C:jk) (tb2 tb1:jk):Sp:=fun vs H Q E=>match vs with
 |[.ref o,.str z]=>∃t kept,Yg C H o t kept/\kept.length<=1000/\(L z).length<=5000/\Zp tb1 H/\Zu tb2 H/\tb2≠tb1/\JN kept (L z) (fun kept' x=>∀H',SD tb1 tb2 (upd H t (.dK (txK kept'))) H'->Q (.str (T x)) H') (fun k=>∀H',SD tb1 tb2 H H'->E (.ref (Zjc c k)) none H')
 |_=>False
theorem Zgd (F:Fun K "say" "Desk.say" Jb f fd) (TP:Tp K w.params mg Yc Z4 zf) (CF:Cf K Zd Zl ZB) (ZbM:FnX P w K mg base 2 "read_row" JS (Jt K c)) (ZaB:FnX P w K mg base 2 "check_names" qh (Y5 K c)) (Zaz:FnX P w K mg base 2 "answer_keep" qf (zq K c)) (Zac:FnX P w K mg base 2 "answer_ahead" YR (ze K c)) (Zax:FnX P w K mg base 1 "answer_drop" qd (zo K c)) (Za1:FnX P w K mg base 1 "answer_off" qL (zH K c)) (ZaA:FnX P w K mg base 1 "answer_text" qg (zr K c)) (Zay:FnX P w K mg base 8 "answer_find" qe (zp K c Zd Zl Zg Zc)):Z0 P w K mg base (CX1 P w) 9 f fd JR (Js K c Zd Zl ZB Zg Zc):=by
 refine F.okX ZcS (fun vs H Q E h=>?_) (fun cdv A outer s H vs Q E hr h=>?_)<;>unfold Js at h<;>split at h<;>first|exact h.elim|skip
 ·rfl
 ·rename_i o z;obtain ⟨t,kept,⟨⟨dx,ho⟩,ht⟩,hk,hz,b1,b2,ne,q0,q⟩:=h
  refine ⟨_,(Zi (ZJ (i:=2) ZcS.nd rfl (by ac_nf) (Zbs Z8.toTk ZbM (hr.mono (by decide)) (Za (qv 1) Ze)))
   (Zi (ZaS (Zbs Z8.toTk ZaB (hr.mono (by decide)) (Za (YE (K:=K) rfl CF.qb4 CF.qas (qv 0)) (Za (qv 2) Ze))))
   (Zo (ZA (ZrV (k:=8) (G:=Ga K c Zd Zl Zg Zc) Z8.toTk TP.qbp TP.qcl (fun nm sp h=>by rcases h with ⟨rfl,rfl⟩|⟨rfl,rfl⟩|⟨rfl,rfl⟩|⟨rfl,rfl⟩|⟨rfl,rfl⟩|⟨rfl,rfl⟩<;>first|exact ⟨_,_,by decide,Zaz⟩|exact ⟨_,_,by decide,Zac⟩|exact ⟨_,_,by decide,Zax⟩|exact ⟨_,_,by decide,Za1⟩|exact ⟨_,_,by decide,ZaA⟩|exact ⟨_,_,by decide,Zay⟩) (hr.mono (by decide)) (Z1 (Z3 hr) (qv 2) Zn (fun _ _=>rfl)) (Za (YE (K:=K) rfl CF.qb4 CF.qas (qv 0)) (Za (qv 2) Ze)) (fun _ _=>rfl)))))),?_⟩
  simp! [Jt];refine ⟨hz,fun i ws g H1 d s1 hd0 hd=>?_,fun n H' s'=>q0 n H' (SD.of s' b1 b2)⟩;have hi:=ZoK g.1;have hw:∀k,(ws.getD k []).length<=5000:=fun k=>by rw [g.2.1];exact QI (Zlf i (L z) k) hz
  refine ⟨dx,_,.ref t,s1 o _ ho,rfl,?_⟩;simp only [Y5];refine ⟨kept,i,ws,s1 t _ ht,hi,hd,hw,fun n H2 s2=>?_,fun n H2 s2=>(q i ws g).1 n H2 (SD.of (s1.trans s2) b1 b2)⟩;have s3:=s1.trans s2;have hd2:=s2 d _ hd;have sd:=SD.of s3 b1 b2;have ht3:=s3 t _ ht;refine ⟨d,_,rfl,Zi0 i ws▸DGet.kys hd2 "word",?_⟩;rcases (q i ws g).2 n with ⟨e0,rfl,a1,a2⟩|⟨e0,x,hx,a⟩|⟨e0,rfl,x,hx,xl,a1,a2⟩|⟨e0,x,hx,a⟩|⟨e0,rfl,x,hx,xl,a1,a2⟩|⟨e0,rfl,x,hx,xl,x10,w10,wl,a⟩
  ·rw [e0];refine ⟨"answer_keep",zq K c,by rw [Zcd];rfl,.inl ⟨rfl,rfl⟩,dx,_,.ref t,s3 o _ ho,rfl,?_⟩;simp only [zq];exact ⟨kept,ws,ht3,hk,hd2,hw 2,fun l=>a1 l _ (sd.dk ht),fun l=>a2 l H2 sd⟩
  ·rw [e0];refine ⟨"answer_text",zr K c,by rw [Zcd];rfl,.inr (.inr (.inr (.inr (.inl ⟨rfl,rfl⟩)))),dx,_,.ref t,s3 o _ ho,rfl,?_⟩;simp only [zr];refine ⟨kept,i,ws,x,ht3,hd2,hx,a H2 ?_⟩;rw [ZbK ht];exact sd
  ·rw [e0];refine ⟨"answer_ahead",ze K c,by rw [Zcd];rfl,.inr (.inl ⟨rfl,rfl⟩),dx,_,.ref t,s3 o _ ho,rfl,?_⟩;simp only [ze];exact ⟨kept,ws,x,ht3,hk,hd2,hx,xl,fun l=>a1 l _ (sd.dk ht),fun l=>a2 l H2 sd⟩
  ·rw [e0];refine ⟨"answer_drop",zo K c,by rw [Zcd];rfl,.inr (.inr (.inl ⟨rfl,rfl⟩)),dx,_,.ref t,s3 o _ ho,rfl,?_⟩;simp only [zo];exact ⟨kept,i,ws,x,ht3,hd2,hx,a _ (sd.dk ht)⟩
  ·rw [e0];refine ⟨"answer_off",zH K c,by rw [Zcd];rfl,.inr (.inr (.inr (.inl ⟨rfl,rfl⟩))),dx,_,.ref t,s3 o _ ho,rfl,?_⟩;simp only [zH];exact ⟨kept,ws,x,ht3,hk,hd2,hx,xl,fun l=>a1 l H2 sd,fun l=>a2 l _ (sd.dk ht)⟩
  ·rw [e0];refine ⟨"answer_find",zp K c Zd Zl Zg Zc,by rw [Zcd];rfl,.inr (.inr (.inr (.inr (.inr ⟨rfl,rfl⟩)))),dx,_,.ref t,s3 o _ ho,rfl,?_⟩;simp only [zp];refine ⟨kept,ws,x,ht3,hd2,hx,xl,x10,w10,wl,sd.b2,sd.b1,ne,fun H4 s4=>a H4 ?_⟩;rw [ZbK ht];exact sd.trans s4
def nm9:Nat->Str
 |0=>Qc "NoOrder"
 |1=>Qc "NoPlace"
 |2=>Qc "NoGap"
 |3=>Qc "NoText"
 |4=>Qc "NoTimes"
 |5=>Qc "Empty"
 |6=>Qc "TooLong"
 |7=>Qc "NoName"
 |_=>Qc "NoRow"
def cl9 (c:Cs):Nat->jk
 |0=>c.NoOrder
 |1=>c.NoPlace
 |2=>c.NoGap
 |3=>c.NoText
 |4=>c.NoTimes
 |5=>c.Empty
 |6=>c.TooLong
 |7=>c.NoName
 |_=>c.NoRow
def Zb8 (H:Hp) (p:jk) (k n:Nat):Prop:=∃ts:List jk,ts.length=n/\H p=some (.lst (ts.map V.ref))/\∀(j:Nat) t,ts[j]?=some t->H t=some (.tup [.str (nm9 j),.bl (decide (j=k))])
theorem Zb8.add {H H':Hp} {r:jk} {k n:Nat} {ts us:List jk} (hl:ts.length=n) (ht:∀(j:Nat) t,ts[j]?=some t->H t=some (.tup [.str (nm9 j),.bl (decide (j=k))])) (s:Zs H H') (hr:H' r=some (.lst (ts.map V.ref++us.map V.ref)))
 (hu:∀(j:Nat) t,us[j]?=some t->H' t=some (.tup [.str (nm9 (n+j)),.bl (decide (n+j=k))])):Zb8 H' r k (n+us.length):=by
 refine ⟨ts++us,by rw [jq,hl],by rw [uw];exact hr,fun j t e=>?_⟩;by_cases h:j<n
 ·rw [Qx (by omega)] at e;exact s t _ (ht j t e)
 ·rw [Qt (by omega),hl] at e;have:=hu (j-n) t e;rw [show n+(j-n)=j by omega] at this;exact this
theorem ZDT {H:Hp} {p p1 p2 p3:jk} {o0 o1 o2 o3:HO} (h0:H p=none) (h1:upd H p o0 p1=none) (h2:upd (upd H p o0) p1 o1 p2=none) (h3:upd (upd (upd H p o0) p1 o1) p2 o2 p3=none):
 Zs H (upd (upd (upd (upd H p o0) p1 o1) p2 o2) p3 o3)/\upd (upd (upd (upd H p o0) p1 o1) p2 o2) p3 o3 p=some o0/\upd (upd (upd (upd H p o0) p1 o1) p2 o2) p3 o3 p1=some o1:=by
 have s1:Zs (upd H p o0) (upd (upd H p o0) p1 o1):=Zs.updN h1;have s2:Zs (upd (upd H p o0) p1 o1) (upd (upd (upd H p o0) p1 o1) p2 o2):=Zs.updN h2;have s3:Zs (upd (upd (upd H p o0) p1 o1) p2 o2) (upd (upd (upd (upd H p o0) p1 o1) p2 o2) p3 o3):=Zs.updN h3;exact ⟨(Zs.updN h0).trans (s1.trans (s2.trans s3)),(s1.trans (s2.trans s3)) p _ Zh,(s2.trans s3) p1 _ Zh⟩
theorem ZAo {H:Hp} {p p1 p2:jk} {o0 o1 o2:HO} (h0:H p=none) (h1:upd H p o0 p1=none) (h2:upd (upd H p o0) p1 o1 p2=none):
 Zs H (upd (upd (upd H p o0) p1 o1) p2 o2)/\upd (upd (upd H p o0) p1 o1) p2 o2 p=some o0/\upd (upd (upd H p o0) p1 o1) p2 o2 p1=some o1:=by
 have s1:Zs (upd H p o0) (upd (upd H p o0) p1 o1):=Zs.updN h1;have s2:Zs (upd (upd H p o0) p1 o1) (upd (upd (upd H p o0) p1 o1) p2 o2):=Zs.updN h2;exact ⟨(Zs.updN h0).trans (s1.trans s2),(s1.trans s2) p _ Zh,s2 p1 _ Zh⟩
theorem Zc2 {H1:Hp} {p p1 p2 l:jk} {k n:Nat} (hk:Zb8 H1 l k n) (h0:H1 p=none) (h1:upd H1 p (.tup [.str (nm9 n),.bl (decide (n=k))]) p1=none) (h2:upd (upd H1 p (.tup [.str (nm9 n),.bl (decide (n=k))])) p1 (.tup [.str (nm9 (n+1)),.bl (decide (n+1=k))]) p2=none):
 ∃xs,xs.length=n/\upd (upd (upd H1 p (.tup [.str (nm9 n),.bl (decide (n=k))])) p1 (.tup [.str (nm9 (n+1)),.bl (decide (n+1=k))])) p2 (.lst [.ref p,.ref p1]) l=some (.lst xs)/\∀p3,upd (upd (upd H1 p (.tup [.str (nm9 n),.bl (decide (n=k))])) p1 (.tup [.str (nm9 (n+1)),.bl (decide (n+1=k))])) p2 (.lst [.ref p,.ref p1]) p3=none->
  Zs H1 (upd (upd (upd (upd H1 p (.tup [.str (nm9 n),.bl (decide (n=k))])) p1 (.tup [.str (nm9 (n+1)),.bl (decide (n+1=k))])) p2 (.lst [.ref p,.ref p1])) p3 (.lst (xs++[.ref p,.ref p1])))/\
  Zb8 (upd (upd (upd (upd H1 p (.tup [.str (nm9 n),.bl (decide (n=k))])) p1 (.tup [.str (nm9 (n+1)),.bl (decide (n+1=k))])) p2 (.lst [.ref p,.ref p1])) p3 (.lst (xs++[.ref p,.ref p1]))) p3 k (n+2):=by
 obtain ⟨ts,tl,hp,ht⟩:=hk;refine ⟨ts.map V.ref,by rw [jn,tl],(ZAo h0 h1 h2).1 l _ hp,fun p3 h3=>?_⟩;obtain ⟨s4,a0,a1⟩:=ZDT (o3:=HO.lst (ts.map V.ref++[.ref p,.ref p1])) h0 h1 h2 h3;refine ⟨s4,Zb8.add (us:=[p,p1]) tl ht s4 Zh fun j t e=>?_⟩
 match j,e with
 |0,e=>cases e;exact a0
 |1,e=>cases e;exact a1
 |j+2,e=>cases e
def Zbb (K:Qa) (c:Cs) (xa:jk):Sp:=fun vs H Q _=>match vs with
 |[.ref e]=>e=xa/\∃C k,H e=some (ZgX e C)/\Zb1 K C/\jA K (.ref C) (.type "ValueError")=some true/\k<9/\(∀j,j<9->jA K (.ref C) (.ref (cl9 c j))=some (decide (j=k)))/\∀H',Zs H H'->Q (.str (nm9 k)) H'
 |_=>False
theorem ZjB (F:Fun K "_law_which" "_law_which" ZaY f fd) (B:Bn mg) (ER:Er K mg c):ZtI P w K mg base 1 f fd Zbx (Zbb K c):=by
 refine F.okZ JD (fun xa vs H Q E h=>?_) (fun xa cdv A outer s H vs Q hh hr h=>?_)<;>unfold Zbb at h<;>split at h<;>first|exact h.elim|skip
 ·rfl
 ·rename_i e;obtain ⟨rfl,C,k,he,hg,hv,hk,hj,q⟩:=h
  refine ⟨_,(Zi (ZM (ZJ (i:=1) JD.nd rfl (by ac_nf) (ZaD (Za (ZX (Za Zn (Za (ZG (Zbq (K:=K) rfl) (by rfl) B.isinstance Z6 (Za (qv 0) (Za (YN (v:=.ref c.NoOrder) rfl ER.qbk rfl) Ze))) Ze))) (Za (ZX (Za Zn (Za (ZG (Zbq (K:=K) rfl) (by rfl) B.isinstance Z6 (Za (qv 0) (Za (YN (v:=.ref c.NoPlace) rfl ER.qbb rfl) Ze))) Ze))) Ze)))))
   (Zi (ZM (ZJ (i:=1) JD.nd rfl (by ac_nf) (Zq Zz (qv 1) (ZaD (Za (ZX (Za Zn (Za (ZG (Zbq (K:=K) rfl) (by rfl) B.isinstance Z6 (Za (qv 0) (Za (YN (v:=.ref c.NoGap) rfl ER.qby rfl) Ze))) Ze))) (Za (ZX (Za Zn (Za (ZG (Zbq (K:=K) rfl) (by rfl) B.isinstance Z6 (Za (qv 0) (Za (YN (v:=.ref c.NoText) rfl ER.qbt rfl) Ze))) Ze))) Ze))))))
   (Zi (ZM (ZJ (i:=1) JD.nd rfl (by ac_nf) (Zq Zz (qv 1) (ZaD (Za (ZX (Za Zn (Za (ZG (Zbq (K:=K) rfl) (by rfl) B.isinstance Z6 (Za (qv 0) (Za (YN (v:=.ref c.NoTimes) rfl ER.qbm rfl) Ze))) Ze))) (Za (ZX (Za Zn (Za (ZG (Zbq (K:=K) rfl) (by rfl) B.isinstance Z6 (Za (qv 0) (Za (YN (v:=.ref c.Empty) rfl ER.qbz rfl) Ze))) Ze))) Ze))))))
   (Zi (ZM (ZJ (i:=1) JD.nd rfl (by ac_nf) (Zq Zz (qv 1) (ZaD (Za (ZX (Za Zn (Za (ZG (Zbq (K:=K) rfl) (by rfl) B.isinstance Z6 (Za (qv 0) (Za (YN (v:=.ref c.TooLong) rfl ER.qbc rfl) Ze))) Ze))) (Za (ZX (Za Zn (Za (ZG (Zbq (K:=K) rfl) (by rfl) B.isinstance Z6 (Za (qv 0) (Za (YN (v:=.ref c.NoName) rfl ER.qbe rfl) Ze))) Ze))) Ze))))))
   (Zi (ZM (ZJ (i:=1) JD.nd rfl (by ac_nf) (Zq Zz (qv 1) (ZaD (Za (ZX (Za Zn (Za (ZG (Zbq (K:=K) rfl) (by rfl) B.isinstance Z6 (Za (qv 0) (Za (YN (v:=.ref c.NoRow) rfl ER.qbg rfl) Ze))) Ze))) Ze)))))
   (Zi (ZM (Zmd (i₀:=2) (K:=K) rfl (own:=["_law_pair"]) (cp:=[]) hh rfl rfl (by rfl') (by rfl') trivial (qv 1) (by decide) (fun _ _ _ _=>zD (i:=0) (show UI (["_law_pair"]:List Str) by rfl') rfl (Or.inl rfl) (Or.inr rfl)) (fun _ _ _ _=>Zhr (ZbU (K:=K) rfl (zw (zJ (K:=K) rfl) (qv 0) Zm (fun _ _=>rfl)))) (fun _ _ _ _=>(zw (zJ (K:=K) rfl) (qv 0) Zm (fun _ _=>rfl))) JD.nd rfl rfl))
   (Zi (zA (PW.pt (Zld (zS ZrQ (ZG (Yi (K:=K) rfl) (by rfl) B.len Yh (Za (qv 2) Ze)) Zm) (ZjH (Zek (ZbU (K:=K) rfl (ZG (Zbq (K:=K) rfl) (by rfl) B.isinstance Z6 (Za (qv 0) (Za (Zk7 (v:=.ty "ValueError") rfl B.ValueError Zf7 rfl) Ze)))))))) (Zo (ZA Zn)) ZP)
   (Zo (ZA (zw (zJ (K:=K) rfl) (qv 2) Zm (fun _ _=>rfl))))))))))),?_⟩
  have hsz:sizeLine=16777216:=jt;refine z5 (fun σ' H'=>Zs H H'/\∃p,Zb8 H' p k 2/\σ'=[some (V.ref e),some (V.ref p),none]) ?_ ?_
  ·simp! [true_and];refine ⟨C,_,he,hg,⟨by omega,fun p hp=>⟨C,_,(Zj (Zk he hp)).trans he,hg,⟨by omega,fun p1 hp1=>⟨by omega,fun p2 hp2=>?_⟩⟩,.inl (hj 1 (by decide))⟩⟩,.inl (hj 0 (by decide))⟩;obtain ⟨s3,a0,a1⟩:=ZAo (o2:=HO.lst [V.ref p,V.ref p1]) hp hp1 hp2;refine ⟨s3,p2,⟨[p,p1],rfl,Zh,fun j t e=>?_⟩,rfl⟩
   match j,e with
   |0,e=>cases e;exact a0
   |1,e=>cases e;exact a1
   |j+2,e=>cases e
  rintro _ H1 ⟨s1,p1,k1,rfl⟩;refine z5 (fun σ' H'=>Zs H H'/\∃p,Zb8 H' p k 4/\σ'=[some (V.ref e),some (V.ref p),none]) ?_ ?_
  ·simp! [true_and];have he':=s1 e _ he;refine ⟨C,_,he',hg,⟨by omega,fun p hp=>⟨C,_,(Zj (Zk he' hp)).trans he',hg,⟨by omega,fun p' hp'=>⟨by omega,fun p'' hp''=>?_⟩⟩,.inl (hj 3 (by decide))⟩⟩,.inl (hj 2 (by decide))⟩;obtain ⟨xs,xl,hx,hq⟩:=Zc2 (n:=2) k1 hp hp' hp'';refine ⟨p1,p'',xs,_,rfl,rfl,hx,Zh,by rw [xl];show _+2<=_;omega,fun p3 hp3=>?_⟩;obtain ⟨a,b⟩:=hq p3 hp3;exact ⟨s1.trans a,p3,b,rfl⟩
  rintro _ H2 ⟨s2,p2,k2,rfl⟩;refine z5 (fun σ' H'=>Zs H H'/\∃p,Zb8 H' p k 6/\σ'=[some (V.ref e),some (V.ref p),none]) ?_ ?_
  ·simp! [true_and];have he':=s2 e _ he;refine ⟨C,_,he',hg,⟨by omega,fun p hp=>⟨C,_,(Zj (Zk he' hp)).trans he',hg,⟨by omega,fun p' hp'=>⟨by omega,fun p'' hp''=>?_⟩⟩,.inl (hj 5 (by decide))⟩⟩,.inl (hj 4 (by decide))⟩;obtain ⟨xs,xl,hx,hq⟩:=Zc2 (n:=4) k2 hp hp' hp'';refine ⟨p2,p'',xs,_,rfl,rfl,hx,Zh,by rw [xl];show _+2<=_;omega,fun p3 hp3=>?_⟩;obtain ⟨a,b⟩:=hq p3 hp3;exact ⟨s2.trans a,p3,b,rfl⟩
  rintro _ H3 ⟨s3,p3,k3,rfl⟩;refine z5 (fun σ' H'=>Zs H H'/\∃p,Zb8 H' p k 8/\σ'=[some (V.ref e),some (V.ref p),none]) ?_ ?_
  ·simp! [true_and];have he':=s3 e _ he;refine ⟨C,_,he',hg,⟨by omega,fun p hp=>⟨C,_,(Zj (Zk he' hp)).trans he',hg,⟨by omega,fun p' hp'=>⟨by omega,fun p'' hp''=>?_⟩⟩,.inl (hj 7 (by decide))⟩⟩,.inl (hj 6 (by decide))⟩;obtain ⟨xs,xl,hx,hq⟩:=Zc2 (n:=6) k3 hp hp' hp'';refine ⟨p3,p'',xs,_,rfl,rfl,hx,Zh,by rw [xl];show _+2<=_;omega,fun p3 hp3=>?_⟩;obtain ⟨a,b⟩:=hq p3 hp3;exact ⟨s3.trans a,p3,b,rfl⟩
  rintro _ H4 ⟨s4,p4,k4,rfl⟩;refine z5 (fun σ' H'=>Zs H H'/\∃p,Zb8 H' p k 9/\σ'=[some (V.ref e),some (V.ref p),none]) ?_ ?_
  ·simp! [true_and];have he':=s4 e _ he;refine ⟨C,_,he',hg,⟨by omega,fun p hp=>⟨by omega,fun p' hp'=>?_⟩⟩,.inl (hj 8 (by decide))⟩;obtain ⟨ts,tl,hts,htt⟩:=k4;have s6:Zs H4 (upd (upd H4 p (HO.tup [V.str (nm9 8),V.bl (decide (8=k))])) p' (HO.lst [V.ref p])):=(Zs.updN hp).trans (Zs.updN hp');refine ⟨p4,p',ts.map V.ref,_,rfl,rfl,s6 _ _ hts,Zh,by rw [jn,tl];show _+1<=_;omega,fun p'' hp''=>?_⟩;obtain ⟨u3,a0,a1⟩:=ZAo (o2:=HO.lst (ts.map V.ref++[V.ref p])) hp hp' hp'';refine ⟨s4.trans u3,p'',Zb8.add (us:=[p]) tl htt u3 Zh fun j t e=>?_,rfl⟩
   match j,e with
   |0,e=>cases e;exact a0
   |j+1,e=>cases e
  rintro _ H5 ⟨s5,p5,k5,rfl⟩;refine z5 (fun σ' H'=>Zs H H'/\∃m,H' m=some (.lst [.str (nm9 k)])/\σ'=[some (V.ref e),some (V.ref p5),some (V.ref m)]) ?_ ?_
  ·simp! [true_and];obtain ⟨ts,tl,hts,htt⟩:=k5;refine ⟨_,SqL.of hts,by rw [jn];omega,fun i H' acc=>H'=H5/\acc=if k<i then [.str (nm9 k)] else [],⟨rfl,by rw [if_neg (by omega)]⟩,?_,?_,?_⟩
   ·rintro i H' acc _ ⟨rfl,_⟩;exact ⟨SqL.of hts,C,s5 e _ he⟩
   ·rintro i y H' acc hy ⟨rfl,rfl⟩;rw [Qi] at hy;obtain ⟨t,et,rfl⟩:=Qz.mp hy;have h1:=htt i t et;simp! [true_and];refine ⟨_,_,.inr (SqT.of h1),rfl,?_⟩;by_cases e:i=k
    ·subst e;rw [decide_eq_true rfl];refine Zd0 ⟨_,_,.inr (SqT.of h1),rfl,?_⟩;rw [if_neg (by omega),if_pos (by omega)];rfl
    ·rw [decide_eq_false e];refine Zdr ?_;by_cases h2:k<i
     ·rw [if_pos h2,if_pos (by omega)]
     ·rw [if_neg h2,if_neg (by omega)]
   ·rintro H' acc ⟨rfl,rfl⟩ m hm;rw [jn,tl,if_pos hk];exact ⟨s5.upd hm,m,Zh,rfl⟩
  rintro _ H6 ⟨s6,m,hm,rfl⟩;simp! [true_and];refine ⟨_,.inl (SqL.of hm),Zdr ⟨C,true,s6 e _ he,hg,hv,Zdr ⟨_,_,.inl (SqL.of hm),rfl,q H6 s6⟩⟩⟩
theorem ZDo {c:Cs} (ER:Er K mg c):∀k,5<=k->k<9->ExC K (Zjc c k)/\(ZaC K (Zjc c k)).contains (.ref c.BackError)=true/\Zb1 K (Zjc c k)/\jA K (.ref (Zjc c k)) (.type "ValueError")=some true/\∀j,j<9->jA K (.ref (Zjc c k)) (.ref (cl9 c j))=some (decide (j=k)):=by
 intro k h5 h9
 match k,h5,h9 with
 |5,_,_=>exact ⟨ER.qbA,ER.qaj,ER.qcn,ER.qbO,fun j hj=>match j,hj with
  |0,_=>ER.qaz
  |1,_=>ER.qaA
  |2,_=>ER.qaU
  |3,_=>ER.qaN
  |4,_=>ER.qaB
  |5,_=>ER.qaV
  |6,_=>ER.qaC
  |7,_=>ER.qaO
  |8,_=>ER.qaW⟩
 |6,_,_=>exact ⟨ER.qbd,ER.qah,ER.qci,ER.qbn,fun j hj=>match j,hj with
  |0,_=>ER.qak
  |1,_=>ER.qal
  |2,_=>ER.qaD
  |3,_=>ER.qat
  |4,_=>ER.qam
  |5,_=>ER.qaE
  |6,_=>ER.qan
  |7,_=>ER.qau
  |8,_=>ER.qaF⟩
 |7,_,_=>exact ⟨ER.qbf,ER.qai,ER.qcm,ER.qbu,fun j hj=>match j,hj with
  |0,_=>ER.qav
  |1,_=>ER.qaw
  |2,_=>ER.qaP
  |3,_=>ER.qaG
  |4,_=>ER.qax
  |5,_=>ER.qaQ
  |6,_=>ER.qay
  |7,_=>ER.qaH
  |8,_=>ER.qaR⟩
 |8,_,_=>exact ⟨ER.qbh,ER.qao,ER.qco,ER.qbP,fun j hj=>match j,hj with
  |0,_=>ER.qaI
  |1,_=>ER.qaJ
  |2,_=>ER.qaX
  |3,_=>ER.qaS
  |4,_=>ER.qaK
  |5,_=>ER.qaY
  |6,_=>ER.qaL
  |7,_=>ER.qaT
  |8,_=>ER.qaZ⟩
def J2 (b:Bool):Str:=if b then Qc "said" else Qc "refused"
def Yy (K:Qa) (CL CF C:jk) (tb2 tb1:jk):Sp:=fun vs H Q _=>match vs with
 |[.ref o,.str z]=>∃t kept,Yg C H o t kept/\kept.length<=1000/\(L z).length<=5000/\Zp tb1 H/\Zu tb2 H/\tb2≠tb1/\JN kept (L z) (fun kept' x=>∀H' p,SD tb1 tb2 (upd H t (.dK (txK kept'))) H'->H p=none->H' p=some (.tup [.str (J2 true),.str (T x)])->Q (.ref p) H')
    (fun k=>∀H' p,SD tb1 tb2 H H'->H p=none->H' p=some (.tup [.str (J2 false),.str (nm9 k)])->Q (.ref p) H')
 |_=>False
theorem Zl3 (F:Fun K "_law_said" "_law_said" ZbG f fd) (ER:Er K mg c) (ZdV:FnZ P w K mg base 1 "_law_which" Zbx (Zbb K c)) (qbq:Md P w K mg base (CX1 P w) 9 ZB "say" JR [] (Js K c Zd Zl ZB Zg Zc)):Z0 P w K mg base CX0 10 f fd Za3 (Yy K Zd Zl ZB Zg Zc):=by
 refine F.ok ZgP (fun vs H Q E h=>?_) (fun cdv A outer s H vs Q E hr h=>?_)<;>unfold Yy at h<;>split at h<;>first|exact h.elim|skip
 ·rfl
 ·rename_i o z;obtain ⟨t,kept,hD,hk,hz,b1,b2,ne,q⟩:=h;refine ⟨_,(Zo (Zzr rfl rfl (fun pn E F T=>(Zo (ZA (ZX (Za Zn (Za (Zc6 T qbq (hr.mono (by decide)) (qv 0) (Za (qv 1) Ze)) Ze)))))) (Zl9 (i:=2) rfl ER.qa8 rfl ER.qa7 ZgP.nd rfl rfl (fun a=>(Zo (ZA (ZX (Za Zn (Za (ZyE (xa:=a) (by rfl) ZdV ((hr.toW.mono (by decide)).mark _) (Za (qv 2) Ze)) Ze)))))) ZyJ) ZP)),?_⟩;have hsz:sizeLine=16777216:=jt;simp! [Js,Zbb];obtain ⟨⟨dx,ho⟩,ht⟩:=id hD;refine ⟨o,dx,_,rfl,ho,rfl,t,kept,hD,hk,hz,b1,b2,ne,JN.mono ?_ ?_ q⟩
  ·exact fun kept' x qq H' s'=>⟨by omega,fun p hp=>qq _ p (s'.trans (SD.of (Zs.updN hp) s'.b1 s'.b2)) (Zco (s'.same.free hp)).1 Zh⟩
  rintro k qq k5 k9 H' s';obtain ⟨g1,g2,g3,g4,g5⟩:=ZDo ER k k5 k9;refine ⟨g1,(if_pos g2).symm▸fun a ha=>⟨Zjc c k,k,Zh,g3,g4,k9,g5,fun H2 s2=>⟨by omega,fun p hp=>?_⟩⟩⟩;have s3:Zs H' (upd H2 p (HO.tup [V.str (Qc "refused"),V.str (nm9 k)])):=((Zs.updN ha).trans s2).upd hp;exact qq _ p (s'.trans (SD.of s3 s'.b1 s'.b2)) (s'.same.free (((Zs.updN ha).trans s2).free hp)) Zh
def zx (K:Qa):Sp:=fun vs H Q _=>match vs with
 |[.ref p,.str x]=>∃y,H p=some (.tup [.str (J2 true),.str y])/\Q (.bl (decide (L y=L x))) H
 |_=>False
theorem Zhn (F:Fun K "_law_is_said" "_law_is_said" JJ f fd) (B:Bn mg):Z0 P w K mg base CX0 1 f fd qN (zx K):=by
 refine F.ok ZhE (fun vs H Q E h=>?_) (fun cdv A outer s H vs Q E hr h=>?_)<;>unfold zx at h<;>split at h<;>first|exact h.elim|skip
 ·rfl
 ·rename_i p x;obtain ⟨y,hp,q⟩:=h;refine ⟨_,(Zo (ZA (ZeV (ZcP ZcF (zw (zJ (K:=K) rfl) (qv 0) Zm (fun _ _=>rfl)) Zn) (ZeV (ZG (ZuQ (K:=K) rfl) (by rfl) B.isinstance Z6 (Za (zw (zJ (K:=K) rfl) (qv 0) Zm (fun _ _=>rfl)) (Za (Zk7 (v:=.ty "str") rfl B.str Zfe rfl) Ze))) (Zhp (ZcP ZcF (zw (zJ (K:=K) rfl) (qv 0) Zm (fun _ _=>rfl)) (qv 1))))))),?_⟩;have es:J2 true=Qc "said":=rfl;rw [es] at hp;simp! [true_and];refine ⟨_,_,.inr (SqT.of hp),rfl,?_⟩;simp! [true_and];refine ⟨_,_,.inr (SqT.of hp),rfl,?_⟩;simp! [true_and];refine ⟨_,_,.inr (SqT.of hp),rfl,?_⟩;simp! [true_and];exact q
def Zcl (K:Qa):Sp:=fun vs H Q _=>match vs with
 |[.ref p,.ref p2]=>∃b y,H p=some (.tup [.str (J2 b),.str y])/\H p2=some (.tup [.str (J2 b),.str y])/\Q (.bl true) H
 |_=>False
theorem Zqb (F:Fun K "_law_met" "_law_met" ZcC f fd) (Yz:Fn P w K mg base 1 "_law_is_said" qN (zx K)):Z0 P w K mg base CX0 2 f fd Zdf (Zcl K):=by
 refine F.ok ZqG (fun vs H Q E h=>?_) (fun cdv A outer s H vs Q E hr h=>?_)<;>unfold Zcl at h<;>split at h<;>first|exact h.elim|skip
 ·rfl
 ·rename_i p p2;obtain ⟨b,y,hp,hp2,q⟩:=h
  refine ⟨_,(Zi (zA (zS ZcF (zw (zJ (K:=K) rfl) (qv 1) Zm (fun _ _=>rfl)) Zn) (Zo (ZA (ZcP (Zk5 (K:=K) rfl hr) (qv 0) (qv 1)))) ZP)
   (Zo (ZA (ZZ Yz (hr.mono (by decide)) (Za (qv 0) (Za (zw (zJ (K:=K) rfl) (qv 1) Zm (fun _ _=>rfl)) Ze)))))),?_⟩
  simp! [zx];refine ⟨_,_,.inr (SqT.of hp2),rfl,?_⟩;have ne:decide (L (Qc "said")=L (Qc "refused"))=false:=by rfl'
  cases b with
  |true=>
   rw [show J2 true=Qc "said" from rfl] at hp hp2 ⊢
   simp! [zx,ne];refine ⟨_,_,.inr (SqT.of hp2),rfl,y,hp,?_⟩;rw [decide_eq_true rfl];exact q
  |false=>
   rw [show J2 false=Qc "refused" from rfl] at hp hp2 ⊢
   simp! [true_and];exact ⟨Ze9 (Ztr rfl rfl) hp hp2,q⟩
def J6 (K:Qa):Sp:=fun vs H Q _=>match vs with
 |[.ref a,.int k]=>∃ns:List Int,SqL K H a (ns.map V.int)/\0<=k/\Q (.int (Zoi ns k)) H
 |_=>False
theorem Zhm (F:Fun K "_law_cell_at" "_law_cell_at" JI f fd) (B:Bn mg):Z0 P w K mg base CX0 1 f fd Zas (J6 K):=by
 refine F.pure ZhD (fun vs H Q E h=>?_) (fun cdv A outer s H vs Q E hr h=>?_)<;>unfold J6 at h<;>split at h<;>first|exact h.elim|skip
 ·rfl
 ·rename_i a k;obtain ⟨ns,hS,hk,q⟩:=h
  refine ⟨_,(Zi (zA (zS Ziz (qv 1) (ZG (Yi (K:=K) rfl) (by rfl) B.len Yh (Za (qv 0) Ze))) (Zo (ZA (zw (zJ (K:=K) rfl) (qv 0) (qv 1) (fun _ _=>rfl)))) ZP)
   (Zo (ZA Zm))),?_⟩
  dsimp! [true_and];refine ⟨_,.inl hS,?_⟩;unfold Zoi at q;rw [jn];refine q9 (fun h1=>?_) (fun h1=>?_)
  ·rw [if_pos h1] at q;exact ⟨_,_,.inl hS,Jm (.int 0) hk (by simpa using h1),Zs.refl _,by rw [Zib];exact q⟩
  ·rw [if_neg h1] at q;exact ⟨Zs.refl _,q⟩
def ZI (K:Qa):Sp:=fun vs H Q _=>match vs with
 |[.int _,.int _,.int m]=>0<m/\∀r:Int,0<=r->r<m->Q (.int r) H
 |_=>False
theorem Zjz (F:Fun K "_law_mixed" "_law_mixed" ZaW f fd):Z0 P w K mg base CX0 1 f fd qA (ZI K):=by
 refine F.pure Zc9 (fun vs H Q E h=>?_) (fun cdv A outer s H vs Q E hr h=>?_)<;>unfold ZI at h<;>split at h<;>first|exact h.elim|skip
 ·rfl
 ·rename_i c t m;obtain ⟨hm,q⟩:=h
  refine ⟨_,(Zi (ZM (ZJ (i:=3) Zc9.nd rfl (by ac_nf) (ZX (Za Zm (Za Zm (Za Zm (Za Zm (Za Zm (Za Zm (Za Zm (Za Zm Ze)))))))))))
   (Zi (ZM (ZJ (i:=4) Zc9.nd rfl (by ac_nf) (ZX (Za Zm (Za Zm (Za Zm (Za Zm (Za Zm (Za Zm (Za Zm (Za Zm Ze)))))))))))
   (Zo (ZA (Zq ZcO (Zq ZcO (Zq ZeA (Zq Zz (Zq ZcO (qv 0) (Zq Ztz Zm Zm)) Zm) (zw (zJ (K:=K) rfl) (qv 3) (Zq ZcO (qv 1) Zm) (fun _ _=>rfl))) (zw (zJ (K:=K) rfl) (qv 4) (Zq ZcO (qv 1) Zm) (fun _ _=>rfl))) (qv 2)))))),?_⟩
  refine z5 (fun σ' H'=>∃p,Zs H H'/\H' p=some (.tup (byL.map V.int))/\σ'=[some (V.int c),some (V.int t),some (V.int m),some (V.ref p),none]) ?_ ?_
  ·dsimp! [true_and];exact ⟨by decide,fun p hp=>⟨p,Zs.updN hp,Zh,rfl⟩⟩
  rintro _ H1 ⟨p,sm1,h1,rfl⟩;refine z5 (fun σ' H'=>∃p',Zs H H'/\H' p=some (.tup (byL.map V.int))/\H' p'=some (.tup (Zht.map V.int))/\σ'=[some (V.int c),some (V.int t),some (V.int m),some (V.ref p),some (V.ref p')]) ?_ ?_
  ·dsimp! [true_and];exact ⟨by decide,fun p' hp'=>⟨p',sm1.upd hp',(Zj (Zk h1 hp')).trans h1,Zh,rfl⟩⟩
  rintro _ H2 ⟨p',sm2,h1,h2,rfl⟩;dsimp! [true_and];have t0:0<=t%8:=UJ _ (by decide);have t1:t%8<8:=Ud _ (by decide);have c0:0<=c%1000000000000000000:=UJ _ (by decide);have c1:c%1000000000000000000<1000000000000000000:=Ud _ (by decide);have e18:(10:Int) ^ (18:Int).toNat=1000000000000000000:=by decide
  rw [e18];exact ⟨⟨by decide,by decide,by decide⟩,by decide,_,_,.inr (SqT.of h1),Zkc (l:=byL) t0 t1,.inl ⟨by omega,by omega⟩,_,_,.inr (SqT.of h2),Zkc (l:=Zht) t0 t1,Zmc t0 t1,hm,sm2,q _ (UJ _ (by omega)) (Ud _ hm)⟩
def Zba (K:Qa):Sp:=fun vs H Q _=>match vs with
 |[]=>Q (.str (T Zbo)) H
 |_=>False
theorem ZjA (F:Fun K "_law_signs" "_law_signs" ZaX f fd):Z0 P w K mg base CX0 1 f fd Zbw (Zba K):=by
 refine F.pure ZfR (fun vs H Q E h=>?_) (fun cdv A outer s H vs Q E hr h=>?_)<;>unfold Zba at h<;>split at h<;>first|exact h.elim|skip
 ·rfl
 ·refine ⟨_,(Zi (ZJ (i:=0) ZfR.nd rfl (by ac_nf) Zn)
   (Zo (ZA (Zq Zz (qv 0) Zn)))),?_⟩
  dsimp! [true_and];refine ⟨by rfl',Zs.refl _,?_⟩;have e:L (Qc " !\"#$&'()*+,-./0123456789:;<=>?@ABCDEFGHIJKLMNOPQRSTUVWXYZ[\\]^_`")++L (Qc "abcdefghijklmnopqrstuvwxyz{|}~")=Zbo:=by rfl'
  rw [e];exact h
def abc:List Nat:=(Qk 26).map (97+·)
def Ju (K:Qa):Sp:=fun vs H Q _=>match vs with
 |[.int _]=>∀p H' (ns:List (List Nat)),Zs H H'->H p=none->H' p=some (.lst (ns.map fun n=>V.str (T n)))->ns.length=4->(∀n∈ns,Zgr n)->Q (.ref p) H'
 |_=>False
theorem Zgg (F:Fun K "_law_names_by" "_law_names_by" Je f fd) (B:Bn mg) (ZF:Fn P w K mg base 1 "_law_mixed" qA (ZI K)):Z0 P w K mg base CX0 2 f fd JT (Ju K):=by
 refine F.ok zT (fun vs H Q E h=>?_) (fun cdv A outer s H vs Q E hr h=>?_)<;>unfold Ju at h<;>split at h<;>first|exact h.elim|skip
 ·rfl
 ·rename_i cl
  refine ⟨_,(Zi (ZJ (i:=1) zT.nd rfl (by ac_nf) Zn)
   (Zi (ZJ (i:=2) zT.nd rfl (by ac_nf) (Zq Zz Zm (ZZ ZF (hr.mono (by decide)) (Za (qv 0) (Za Zm (Za Zm Ze))))))
   (Zi (ZJ (i:=3) zT.nd rfl (by ac_nf) (ZZ ZF (hr.mono (by decide)) (Za (qv 0) (Za Zm (Za (qv 2) Ze)))))
   (Zi (ZJ (i:=4) zT.nd rfl (by ac_nf) (zw (zJ (K:=K) rfl) (qv 1) (ZZ ZF (hr.mono (by decide)) (Za (qv 0) (Za Zm (Za Zm Ze)))) (fun _ _=>rfl)))
   (Zi (ZM (ZJ (i:=5) zT.nd rfl (by ac_nf) (ZaD Ze)))
   (Zi (Zr9 PassesOwn.never rfl B.range (Za Zm Ze) (zD (i:=6) zT.nd rfl (by ac_nf)) (Zi (ZM (ZJ (i:=7) zT.nd rfl (by ac_nf) (zw (zJ (K:=K) rfl) (qv 1) (Zq ZcO (Zq Zz (ZZ ZF (hr.mono (by decide)) (Za (qv 0) (Za Zm (Za Zm Ze)))) (qv 6)) Zm) (fun _ _=>rfl))))
   (Zo (ZaS (JZ (K:=K) rfl VU PySem.F.slot_list_append PySem.F.type_list_append ZlY (qv 5) (Za (Zq Zz (Zq Zz (Zq ZeA (qv 4) (qv 3)) (qv 7)) (Zq ZeA (qv 4) (Zq ZfB (Zq ZfB (qv 2) Zm) (qv 3)))) Ze))))))
   (Zo (ZA (qv 5))))))))),?_⟩
  have hsz:sizeLine=16777216:=jt;have e1:L (Qc "abcdefghijklmnopqrstuvwxyz")=abc:=by rfl'
  have el:abc.length=26:=rfl;have ea:∀j:Nat,j<26->abc.getD j 0=97+j:=by decide
  simp! [ZI,e1];refine fun r0 a0 b0=>⟨by omega,fun r1 a1 b1 r2 a2 b2=>⟨by rw [el];omega,_,Jm 0 a2 (by rw [el];omega),?_⟩⟩;obtain ⟨p1,rfl⟩:∃k:Nat,r1=(k:Int):=⟨r1.toNat,by omega⟩;obtain ⟨j2,rfl⟩:∃k:Nat,r2=(k:Int):=⟨r2.toNat,by omega⟩;rw [Qn,ea j2 (by omega)];refine z5 (fun σ' H'=>Zs H H'/\∃p,H p=none/\H' p=some (.lst [])/\σ'=[some (V.int cl),some (V.str (Qc "abcdefghijklmnopqrstuvwxyz")),some (V.int (1+r0)),some (V.int (p1:Int)),some (V.str (T [97+j2])),some (V.ref p),none,none]) ?_ ?_
  ·simp! [true_and];exact ⟨by omega,fun p hp=>⟨Zs.updN hp,p,hp,Zh,rfl⟩⟩
  rintro _ H1 ⟨s1,p,hp0,hp,rfl⟩;simp! [ZDf,ZBU];refine ⟨by decide,fun i σ' H'=>Zs H H'/\(∃x y,σ'=[some (V.int cl),some (V.str (Qc "abcdefghijklmnopqrstuvwxyz")),some (V.int (1+r0)),some (V.int (p1:Int)),some (V.str (T [97+j2])),some (V.ref p),x,y])/\∃ns:List (List Nat),ns.length=i/\(∀n∈ns,Zgr n)/\H' p=some (.lst (ns.map fun n=>V.str (T n))),⟨s1,⟨_,_,rfl⟩,[],rfl,by simp,hp⟩,?_,?_⟩
  ·rintro i σ' H2 hi ⟨s2,⟨x,y,rfl⟩,ns,nl,nf,h2⟩;refine z5 (fun σ' H'=>H'=H2/\∃j3:Nat,j3<26/\σ'=[some (V.int cl),some (V.str (Qc "abcdefghijklmnopqrstuvwxyz")),some (V.int (1+r0)),some (V.int (p1:Int)),some (V.str (T [97+j2])),some (V.ref p),some (V.int (0+(i:Int))),some (V.str (T [97+j3]))]) ?_ ?_
   ·simp! [ZI,ZlX,e1];intro r3 a3 b3;have m0:0<=(r3+(0+(i:Int)))%26:=UJ _ (by decide);have m1:(r3+(0+(i:Int)))%26<26:=Ud _ (by decide);refine ⟨by rw [el];omega,_,Jm 0 m0 (by rw [el];omega),((r3+(0+(i:Int)))%26).toNat,by omega,?_⟩;rw [ea _ (by omega)]
   rintro _ _ ⟨rfl,j3,hj3,rfl⟩;simp! [ZjP]
   have r1:∀(m b:Nat),rep m [b]=Qv m b:=fun m b=>by
    unfold rep
    induction m with
    |zero=>rfl
    |succ m ih=>rw [uD,Uj,ih];rfl
   rw [r1,r1];have q1:((p1:Int)).toNat=p1:=Qn _;rw [q1];have q2:p1+(1+r0-1-(p1:Int)).toNat<8:=by omega
   refine ⟨.inl ⟨_,SqL.of h2⟩,⟨by omega,by omega,by omega⟩,by rw [uK];omega,⟨by omega,by omega,by omega⟩,by rw [jq,uK,uK];simp only [jE];omega,p,_,_,rfl,rfl,h2,by rw [jn,nl];omega,fun b o hb=>?_,⟨_,_,rfl⟩,ns++[Qv p1 (97+j2)++[97+j3]++Qv (1+r0-1-(p1:Int)).toNat (97+j2)],by rw [jq,nl];rfl,fun n hn=>?_,by rw [Zh,uw];rfl⟩
   ·rw [Zj (Zk hb hp0)];exact s2 b o hb
   ·rcases jL.mp hn with hn|hn
    ·exact nf n hn
    ·rw [ju.mp hn];exact ⟨p1,_,97+j2,97+j3,by simp,q2,by omega,by omega,by omega,by omega⟩
  ·rintro σ' H2 ⟨s2,⟨x,y,rfl⟩,ns,nl,nf,h2⟩;simp! [true_and];exact h p H2 ns s2 hp0 h2 nl nf
def YM (K:Qa):Sp:=fun vs H Q _=>match vs with
 |[.int _,.int m]=>0<=m/\m<=1000/\∀l:List Nat,l.length=m.toNat->(∀c∈l,c∈Zbo)->∀H',Zs H H'->Q (.str (T l)) H'
 |_=>False
theorem Zgi (F:Fun K "_law_signs_by" "_law_signs_by" Jg f fd) (B:Bn mg) (ZF:Fn P w K mg base 1 "_law_mixed" qA (ZI K)) (ZdU:Fn P w K mg base 1 "_law_signs" Zbw (Zba K)):Z0 P w K mg base CX0 2 f fd JU (YM K):=by
 refine F.ok ZcT (fun vs H Q E h=>?_) (fun cdv A outer s H vs Q E hr h=>?_)<;>unfold YM at h<;>split at h<;>first|exact h.elim|skip
 ·rfl
 ·rename_i cell m;obtain ⟨m0,m1,q⟩:=h
  refine ⟨_,(Zi (ZJ (i:=2) ZcT.nd rfl (by ac_nf) (ZyD ZdU (hr.mono (by decide))))
   (Zo (ZA (JZ (K:=K) rfl QC UM UL (ZeU (K:=K) rfl) Zn (Za (Zqh B.range (own:=["_law_k"]) (cp:=[(("_law_cell":Str),0),(("_law_some":Str),2)]) rfl rfl rfl (by rfl') (by rfl') ⟨⟨rfl,rfl,rfl⟩,⟨rfl,rfl,rfl⟩,trivial⟩ (Za (qv 1) Ze) (by decide) (fun _ _ _ _=>zD (i:=0) (show UI (["_law_k","_law_cell","_law_some"]:List Str) by rfl') rfl (Or.inl rfl) (Or.inr rfl)) (fun _ _ _ _=>Zhq) (fun _ _ _ _=>(zw (zJ (K:=K) rfl) (qv 2) (ZZ ZF (hr.mono (by decide)) (Za (Zq Zz (qv 1) (Zq ZeA (qv 0) (qv 0))) (Za (Zq Zz Zm (Zq ZcO (qv 0) Zm)) (Za Zm Ze)))) (fun _ _=>rfl)))) Ze))))),?_⟩
  have hsz:sizeLine=16777216:=jt;have e0:L (Qc "")=[]:=by rfl'
  simp! [ZlX,ZI,Zba,e0];refine ⟨⟨by omega,by omega⟩,fun j H' acc=>H'=H/\∃cs:List Nat,cs.length=j/\(∀c∈cs,c∈Zbo)/\acc=cs.map fun c=>V.str (T [c]),⟨rfl,[],rfl,(fun c hc=>by cases hc),rfl⟩,?_,?_⟩
  ·rintro j H' acc hj ⟨rfl,cs,cl,cm,rfl⟩;refine ⟨.inl ⟨by omega,by omega⟩,fun y y0 y1=>⟨by rw [hsz];decide,_,Jm 0 y0 y1,rfl,cs++[Zbo.getD y.toNat 0],by rw [jq,cl];rfl,fun c hc=>?_,?_⟩⟩
   ·rcases jL.mp hc with hc|hc
    ·exact cm c hc
    ·rw [ju.mp hc];have:y.toNat<Zbo.length:=by rw [Zmj];omega
     rw [Qb,Qd this];exact QT this
   ·rw [uw];rfl
  ·rintro H' acc ⟨rfl,cs,cl,cm,rfl⟩ l hl';refine ⟨cs.map fun c=>[c],by rw [uJ];exact SqL.of Zh,?_,?_⟩
   ·rw [ZAc (fun c:Nat=>c),jn];omega
   ·rw [Zd1,ZoI (fun c:Nat=>c),W8];exact q cs cl cm _ (Zs.updN hl')
def ZaZ (K:Qa):Sp:=fun vs H Q _=>match vs with
 |[.ref d,.str n,.str x]=>∃kept,H d=some (.dK (txK kept))/\kept.length<=1000/\(L x).length<=5000/\((L x).length<=300->∀H' p,Zs (upd H d (.dK (txK (Za6 kept (L n) (L x))))) H'->H p=none->H' p=some (.tup [.str (J2 true),.str (Qc "ok")])->Q (.ref p) H')/\(300<(L x).length->∀H' p,Zs H H'->H p=none->H' p=some (.tup [.str (J2 false),.str (nm9 6)])->Q (.ref p) H')
 |_=>False
theorem Zl2 (F:Fun K "_law_kept" "_law_kept" ZbF f fd) (B:Bn mg):Z0 P w K mg base CX0 1 f fd Zca (ZaZ K):=by
 refine F.ok Zmh (fun vs H Q E h=>?_) (fun cdv A outer s H vs Q E hr h=>?_)<;>unfold ZaZ at h<;>split at h<;>first|exact h.elim|skip
 ·rfl
 ·rename_i d n x;obtain ⟨kept,ht,hk,hxl,q,e⟩:=h
  refine ⟨_,(Zi (zA (zS Zjw (ZG (Yi (K:=K) rfl) (by rfl) B.len Yh (Za (qv 2) Ze)) Zm) (Zo (ZA (ZX (Za Zn (Za Zn Ze))))) ZP)
   (Zi (ZcB (Z3 hr) (qv 0) (qv 1) (qv 2) rfl)
   (Zo (ZA (ZX (Za Zn (Za Zn Ze))))))),?_⟩
  have hsz:sizeLine=16777216:=jt;simp! [gtV];refine ⟨by omega,q9 (fun h1=>⟨by omega,fun p hp=>e (by omega) _ p (Zs.updN hp) hp Zh⟩) fun h1=>⟨d,_,rfl,.inl ⟨_,.inr (T (L n)),ht,by rw [T_L];rfl,by unfold txK;rw [jn];omega,rfl⟩,by omega,fun p hp=>?_⟩⟩;have:=ZdJ kept (L n) (L x);rw [T_L,T_L] at this
  rw [T_L,this] at hp ⊢
  exact q (by omega) _ p (Zs.updN hp) (Zco hp).1 Zh
def Odd (l:List Nat):Prop:=¬YI l/\32∉l/\l.length<=20
def YL (K:Qa):Sp:=fun vs H Q _=>match vs with
 |[.str n,.int _]=>YI (L n)/\∀l H',Odd l->Zs H H'->Q (.str (T l)) H'
 |_=>False
theorem Zgh (F:Fun K "_law_odd_name" "_law_odd_name" Jf f fd) (B:Bn mg) (ZF:Fn P w K mg base 1 "_law_mixed" qA (ZI K)):Z0 P w K mg base CX0 2 f fd qW (YL K):=by
 refine F.ok Zgn (fun vs H Q E h=>?_) (fun cdv A outer s H vs Q E hr h=>?_)<;>unfold YL at h<;>split at h<;>first|exact h.elim|skip
 ·rfl
 ·rename_i n cell;obtain ⟨hn,q⟩:=h;refine ⟨_,(Zo (ZA (zw (zJ (K:=K) rfl) (ZX (Za Zn (Za Zn (Za (Zq Zz (qv 0) (Zq ZeA Zn (Zq ZfB Zm (ZG (Yi (K:=K) rfl) (by rfl) B.len Yh (Za (qv 0) Ze))))) (Za Zn (Za Zn (Za (Zq Zz (z8 (Za8 (K:=K) rfl) (qv 0) Ja (Zci (Zk8 Zlq Zm))) Zn) Ze))))))) (ZZ ZF (hr.mono (by decide)) (Za (qv 1) (Za Zm (Za Zm Ze)))) (fun _ _=>rfl)))),?_⟩;have hsz:sizeLine=16777216:=jt;simp! [ZjP,ZI];obtain ⟨n1,n2,n3⟩:=id hn;have ea:L (Qc "a")=[97]:=by rfl'
  have eu:L (Qc "_")=[95]:=by rfl'
  have c1:=Zcr (L n) none (some (-1));rw [ea,eu];have rl:(rep (9-((L n).length:Int)).toNat [97]).length=9-(L n).length:=by rw [Zsc];simp only [jE];omega
  have r1:∀(m b:Nat),rep m [b]=Qv m b:=fun m b=>by
   unfold rep
   induction m with
   |zero=>rfl
   |succ m ih=>rw [uD,Uj,ih];rfl
  have nb:=hn.noB;refine ⟨by omega,⟨by omega,by omega,by simp only [jE];omega⟩,by omega,by omega,by simp only [jE];omega,by omega,fun p hp r r0 r6=>?_⟩;have od:∀l,Odd l->Q (V.str (T l)) (upd H p (HO.tup [V.str (Qc ""),V.str (Qc "A"),V.str (T (L n++rep (9-((L n).length:Int)).toNat [97])),V.str (Qc "a1"),V.str (Qc "a-b"),V.str (T (cut (L n) none (some (-1))++[95]))])):=fun l ho=>q l _ ho (Zs.updN hp);obtain ⟨r,rfl⟩:∃k:Nat,r=(k:Int):=⟨r.toNat,by omega⟩;have r6:r<6:=by omega
  have oc:∀s:String,Odd (cd s)->Q (V.str (Qc s)) (upd H p (HO.tup [V.str (Qc ""),V.str (Qc "A"),V.str (T (L n++rep (9-((L n).length:Int)).toNat [97])),V.str (Qc "a1"),V.str (Qc "a-b"),V.str (T (cut (L n) none (some (-1))++[95]))])):=fun s ho=>by have:=od _ ho;rwa [Zcd] at this
  have ds:∀s:String,decide (1<=(cd s).length/\(cd s).length<=8/\∀c∈cd s,97<=c/\c<=122)=false->decide (32∉cd s/\(cd s).length<=20)=true->Odd (cd s):=fun s h1 h2=>⟨fun z=>(of_decide_eq_false h1) z,of_decide_eq_true h2⟩
  match r,r6 with
  |0,_=>exact ⟨_,_,.inr (SqT.of Zh),rfl,oc "" (ds _ (by rfl') (by rfl'))⟩
  |1,_=>exact ⟨_,_,.inr (SqT.of Zh),rfl,oc "A" (ds _ (by rfl') (by rfl'))⟩
  |2,_=>
   refine ⟨_,_,.inr (SqT.of Zh),rfl,od _ ⟨fun z=>?_,fun z=>?_,?_⟩⟩
   ·have:=z.2.1;rw [jq,rl] at this;omega
   ·rcases jL.mp z with z|z
    ·exact nb z
    ·rw [r1] at z;have:=(Vz.mp z).2;omega
   ·rw [jq,rl];omega
  |3,_=>exact ⟨_,_,.inr (SqT.of Zh),rfl,oc "a1" (ds _ (by rfl') (by rfl'))⟩
  |4,_=>exact ⟨_,_,.inr (SqT.of Zh),rfl,oc "a-b" (ds _ (by rfl') (by rfl'))⟩
  |5,_=>
   refine ⟨_,_,.inr (SqT.of Zh),rfl,od _ ⟨fun z=>?_,fun z=>?_,?_⟩⟩
   ·have:=z.2.2 95 (by simp);omega
   ·rcases jL.mp z with z|z
    ·exact nb (LW.Zdx z)
    ·have:=ju.mp z;omega
   ·rw [jq];simp only [jE];omega
def Jy (kept:zI):Prop:=∀n x,ZU kept n=some x->YI n/\x.length<=300/\∀c∈x,c∈Zbo
theorem Jy.put {kept:zI} {n x:List Nat} (h:Jy kept) (hn:YI n) (hx:x.length<=300) (hs:∀c∈x,c∈Zbo):Jy (Za6 kept n x):=fun m y e=>by
 rw [ZpW] at e;split at e
 ·rename_i hm;cases e;exact ⟨hm▸hn,hx,hs⟩
 ·exact h m y e
theorem Jy.drop {kept:zI} {n:List Nat} (h:Jy kept):Jy (Zcf kept n):=fun m y e=>by
 rw [ZgH] at e;split at e
 ·cases e
 ·exact h m y e
def Due (kept:zI) (r:List Nat) (kept':zI) (b:Bool) (y:Str):Prop:=JN kept r (fun k x=>k=kept'/\b=true/\y=T x) (fun k=>kept'=kept/\b=false/\y=nm9 k)
theorem Za7 {kept:zI} {r:List Nat} {i:Nat} {ws:List (List Nat)} {Qs:zI->List Nat->Prop} {Qr:Nat->Prop} (g:qH r i ws) (h1:¬ZcX kept i ws->Qr 7) (h2:ZcX kept i ws->Zmx kept i ws Qs Qr):JN kept r Qs Qr:=
 ⟨fun n=>absurd ⟨_,_,g⟩ n,fun i' ws' g'=>by
  obtain ⟨rfl,rfl⟩:=g'.uniq g;exact ⟨h1,h2⟩⟩
section
variable {kept:zI} {n x y:List Nat}
theorem Zrl (ho:Odd n):Due kept (cd "keep"++32::(n++32::x)) kept false (nm9 7):=
 Za7 (JF (by rfl') (by rfl') ho.2.1) (fun _=>⟨rfl,rfl,rfl⟩) fun nk=>absurd (nk.1 (.inl rfl)) ho.1
theorem Zoy (hn:YI n) (hx:x.length<=300):Due kept (cd "keep"++32::(n++32::x)) (Za6 kept n x) true (Qc "ok"):=
 Za7 (JF (by rfl') (by rfl') hn.noB) (fun nk=>absurd ⟨fun _=>hn,fun z=>absurd (.inl rfl) z⟩ nk) fun _=>.inl ⟨rfl,rfl,fun _=>⟨rfl,rfl,(Zcd _).symm⟩,fun l=>absurd hx (jg.mpr l)⟩
theorem ZlA (hn:YI n) (hx:300<x.length):Due kept (cd "keep"++32::(n++32::x)) kept false (nm9 6):=
 Za7 (JF (by rfl') (by rfl') hn.noB) (fun nk=>absurd ⟨fun _=>hn,fun z=>absurd (.inl rfl) z⟩ nk) fun _=>.inl ⟨rfl,rfl,fun l=>absurd hx (jf.mpr l),fun _=>⟨rfl,rfl,rfl⟩⟩
theorem qk {r:List Nat} {i:Nat} {ws:List (List Nat)} (g:qH r i ws) (hw:ws.getD 0 []≠cd "keep"/\ws.getD 0 []≠cd "load") (hl:ZU kept (ws.getD 1 [])=none\/(i=4/\ZU kept (ws.getD 2 [])=none)):Due kept r kept false (nm9 7):=
 Za7 g (fun _=>⟨rfl,rfl,rfl⟩) fun nk=>by
  have h:=nk.2 fun z=>z.elim hw.1 hw.2;rcases hl with hl|⟨h4,hl⟩
  ·rw [hl] at h;cases h.1
  ·have:=h.2 h4;rw [hl] at this;cases this
theorem ZbT {i:Nat} {ws:List (List Nat)} (hw:ws.getD 0 []≠cd "keep"/\ws.getD 0 []≠cd "load") (hl:ZU kept (ws.getD 1 [])=some y) (h4:i≠4):ZcX kept i ws:=
 ⟨fun z=>absurd z fun z=>z.elim hw.1 hw.2,fun _=>⟨by rw [hl];rfl,fun z=>absurd z h4⟩⟩
theorem Zlz (hn:YI n) (hl:ZU kept n=some y) (hx:x.length+y.length<=300):Due kept (cd "ahead"++32::(n++32::x)) (Za6 kept n (x++y)) true (Qc "ok"):=
 Za7 (JF (by rfl') (by rfl') hn.noB) (fun nk=>absurd (ZbT (ws:=[cd "ahead",n,x]) (show cd "ahead"≠cd "keep"/\cd "ahead"≠cd "load" by rfl') hl (by decide)) nk) fun _=>.inr (.inr (.inl ⟨rfl,rfl,y,hl,QI hx (by decide),fun _=>⟨rfl,rfl,(Zcd _).symm⟩,fun l=>absurd hx (jg.mpr l)⟩))
theorem Zje (hn:YI n) (hl:ZU kept n=some y) (hx:300<x.length+y.length) (h5:x.length+y.length<=5000):Due kept (cd "ahead"++32::(n++32::x)) kept false (nm9 6):=
 Za7 (JF (by rfl') (by rfl') hn.noB) (fun nk=>absurd (ZbT (ws:=[cd "ahead",n,x]) (show cd "ahead"≠cd "keep"/\cd "ahead"≠cd "load" by rfl') hl (by decide)) nk) fun _=>.inr (.inr (.inl ⟨rfl,rfl,y,hl,h5,fun l=>absurd hx (jf.mpr l),fun _=>⟨rfl,rfl,rfl⟩⟩))
theorem Zow (hn:YI n) (hl:ZU kept n=some y):Due kept (cd "drop"++32::n) (Zcf kept n) true (Qc "ok"):=
 Za7 (ZaU (by rfl') (by rfl') hn.noB) (fun nk=>absurd (ZbT (ws:=[cd "drop",n]) (show cd "drop"≠cd "keep"/\cd "drop"≠cd "load" by rfl') hl (by decide)) nk) fun _=>.inr (.inr (.inr (.inl ⟨rfl,y,hl,rfl,rfl,(Zcd _).symm⟩)))
theorem Zoz {m:Nat} (hn:YI n) (hl:ZU kept n=some y) (hm:m<10 ^ 9) (h5:y.length<=5000) (hx:y.length<m):Due kept (cd "off"++32::(n++32::JL (m:Int))) kept false (nm9 5):=by have g:=ZgK hm;refine Za7 (JA (.inl rfl) (by rfl') (by rfl') hn.noB (LD.J8.noB g) fun _=>g) (fun nk=>absurd (ZbT (ws:=[cd "off",n,_]) (show cd "off"≠cd "keep"/\cd "off"≠cd "load" by rfl') hl (by decide)) nk) fun _=>.inr (.inr (.inr (.inr (.inl ⟨rfl,rfl,y,hl,h5,fun _=>⟨rfl,rfl,rfl⟩,fun l=>?_⟩))));have l:digitsVal (JL (m:Int))<=y.length:=l;rw [Zdz] at l;omega
theorem Zrm {m:Nat} (hn:YI n) (hl:ZU kept n=some y) (hm:m<10 ^ 9) (h5:y.length<=5000) (hx:m<=y.length):Due kept (cd "off"++32::(n++32::JL (m:Int))) (Za6 kept n (y.drop m)) true (T (y.take m)):=by
 have g:=ZgK hm;refine Za7 (JA (.inl rfl) (by rfl') (by rfl') hn.noB (LD.J8.noB g) fun _=>g) (fun nk=>absurd (ZbT (ws:=[cd "off",n,_]) (show cd "off"≠cd "keep"/\cd "off"≠cd "load" by rfl') hl (by decide)) nk) fun _=>.inr (.inr (.inr (.inr (.inl ⟨rfl,rfl,y,hl,h5,fun l=>?_,fun _=>?_⟩))))
 ·have l:y.length<digitsVal (JL (m:Int)):=l;rw [Zdz] at l;omega
 ·show Za6 kept n (y.drop (digitsVal (JL (m:Int))))=_/\_/\T (y.take m)=T (y.take (digitsVal (JL (m:Int))));rw [Zdz];exact ⟨rfl,rfl,rfl⟩
theorem ZoA (hn:YI n) (hl:ZU kept n=some y):Due kept (cd "text"++32::n) kept true (T y):=
 Za7 (ZaU (by rfl') (by rfl') hn.noB) (fun nk=>absurd (ZbT (ws:=[cd "text",n]) (show cd "text"≠cd "keep"/\cd "text"≠cd "load" by rfl') hl (by decide)) nk) fun _=>.inr (.inl ⟨rfl,y,hl,rfl,rfl,rfl⟩)
theorem ZqH:∀c∈Zbo,c≠10:=by decide
theorem Zox (hn:YI n) (hl:ZU kept n=some y) (ok:Jy kept) (hx:x.length<=1000) (hs:∀c∈x,c∈Zbo):Due kept (cd "find"++32::(n++32::x)) kept true (T (spn (plc y x))):=
 Za7 (JF (by rfl') (by rfl') hn.noB) (fun nk=>absurd (ZbT (ws:=[cd "find",n,x]) (show cd "find"≠cd "keep"/\cd "find"≠cd "load" by rfl') hl (by decide)) nk) fun _=>.inr (.inr (.inr (.inr (.inr ⟨rfl,rfl,y,hl,(ok n y hl).2.1,fun c hc=>ZqH c ((ok n y hl).2.2 c hc),fun c hc=>ZqH c (hs c hc),hx,rfl,rfl,rfl⟩))))
end
def ZbI (K:Qa):Sp:=fun vs H Q _=>match vs with
 |[.ref d,.str n,.int _,.bl _]=>∃kept,H d=some (.dK (txK kept))/\kept.length<=900/\Jy kept/\YI (L n)/\∀r kept' b y H' p p2,Due kept r kept' b y->Jy kept'->kept'.length<=kept.length+1->r.length<=1000->Zs (upd H d (.dK (txK kept'))) H'->H p=none->H' p=some (.tup [.str (T r),.ref p2])->H' p2=some (.tup [.str (J2 b),.str y])->Q (.ref p) H'
 |_=>False
theorem Zl1 (F:Fun K "_law_deed" "_law_deed" ZbE f fd) (B:Bn mg) (ZF:Fn P w K mg base 1 "_law_mixed" qA (ZI K)) (JP:Fn P w K mg base 2 "_law_signs_by" JU (YM K)) (Zde:Fn P w K mg base 1 "_law_kept" Zca (ZaZ K)) (qU:Fn P w K mg base 2 "_law_odd_name" qW (YL K)):Z0 P w K mg base CX0 3 f fd Zb9 (ZbI K):=by
 refine F.ok Y2 (fun vs H Q E h=>?_) (fun cdv A outer s H vs Q E hr h=>?_)<;>unfold ZbI at h<;>split at h<;>first|exact h.elim|skip
 ·rfl
 ·rename_i d n cell early;obtain ⟨kept,hd,hk,ok,hn,q⟩:=h
  refine ⟨_,(Zi (ZJ (i:=4) Y2.nd rfl (by ac_nf) (ZZ ZF (hr.mono (by decide)) (Za (qv 2) (Za Zm (Za Zm Ze)))))
   (Zi (ZM (ZJ (i:=5) Y2.nd rfl (by ac_nf) (ZeV (qv 3) (Zhp (ZcP ZcF (ZZ ZF (hr.mono (by decide)) (Za (qv 2) (Za Zm (Za Zm Ze)))) Zm)))))
   (Zi (ZM (zA (zS Ziz (qv 4) Zm) (Zi (ZM (ZJ (i:=6) Y2.nd rfl (by ac_nf) (z8 (Za8 (K:=K) rfl) (ZZ JP (hr.mono (by decide)) (Za (qv 2) (Za (Zq Zz (ZZ ZF (hr.mono (by decide)) (Za (qv 2) (Za Zm (Za Zm Ze)))) (Zq ZeA Zm (Yn ZhZ (by rfl) B.int Zg4 (Za (qv 5) Ze)))) Ze))) Ja (Zci Zm))))
   (Zi (ZM (zA (zS ZcF (ZZ ZF (hr.mono (by decide)) (Za (qv 2) (Za Zm (Za Zm Ze)))) Zm) (Zo (ZA (ZX (Za (Zq Zz (Zq Zz (Zq Zz Zn (ZZ qU (hr.mono (by decide)) (Za (qv 1) (Za (qv 2) Ze)))) Zn) (qv 6)) (Za (ZX (Za Zn (Za Zn Ze))) Ze))))) ZP))
   (Zo (ZA (ZX (Za (Zq Zz (Zq Zz (Zq Zz Zn (qv 1)) Zn) (qv 6)) (Za (ZZ Zde (hr.mono (by decide)) (Za (qv 0) (Za (qv 1) (Za (qv 6) Ze)))) Ze))))))) ZP))
   (Zi (ZM (zA (Zcj (Zeh (Z3 hr) (qv 1) (qv 0))) (Zi (ZM (ZJ (i:=6) Y2.nd rfl (by ac_nf) (ZZ JP (hr.mono (by decide)) (Za (qv 2) (Za (Zq Zz Zm (Zq ZeA Zm (Yn ZhZ (by rfl) B.int Zg4 (Za (qv 5) Ze)))) Ze)))))
   (Zi (ZM (ZJ (i:=7) Y2.nd rfl (by ac_nf) (ZaD (Za (Zq Zz (Zq Zz (Zq Zz Zn (qv 1)) Zn) (qv 6)) (Za (Zq Zz (Zq Zz Zn (qv 1)) Zn) Ze)))))
   (Zi (ZM (ZJ (i:=7) Y2.nd rfl (by ac_nf) (Zq Zz (qv 7) (ZaD (Za (Zq Zz Zn (qv 1)) (Za (Zq Zz (Zq Zz Zn (qv 1)) Zn) (Za (Zq Zz Zn (qv 1)) Ze)))))))
   (Zo (ZA (ZX (Za (zw (zJ (K:=K) rfl) (qv 7) (Zq ZfB (qv 4) Zm) (fun _ _=>rfl)) (Za (ZX (Za Zn (Za Zn Ze))) Ze)))))))) ZP))
   (Zi (ZM (zA (zS Ziz (qv 4) Zm) (Zi (ZM (ZJ (i:=6) Y2.nd rfl (by ac_nf) (ZZ JP (hr.mono (by decide)) (Za (qv 2) (Za (Zq Zz (ZZ ZF (hr.mono (by decide)) (Za (qv 2) (Za Zm (Za Zm Ze)))) (Zq ZeA Zm (Yn ZhZ (by rfl) B.int Zg4 (Za (qv 5) Ze)))) Ze)))))
   (Zo (ZA (ZX (Za (Zq Zz (Zq Zz (Zq Zz Zn (qv 1)) Zn) (qv 6)) (Za (ZZ Zde (hr.mono (by decide)) (Za (qv 0) (Za (qv 1) (Za (Zq Zz (qv 6) (Z1 (Z3 hr) (qv 0) (qv 1) (fun _ _=>rfl))) Ze)))) Ze)))))) ZP))
   (Zi (ZM (zA (zS ZcF (qv 4) Zm) (Zi (ZaS (ZiG (qv 0) (qv 1) ⟨rfl,rfl,rfl,rfl⟩))
   (Zo (ZA (ZX (Za (Zq Zz Zn (qv 1)) (Za (ZX (Za Zn (Za Zn Ze))) Ze)))))) ZP))
   (Zi (ZJ (i:=8) Y2.nd rfl (by ac_nf) (ZZ ZF (hr.mono (by decide)) (Za (qv 2) (Za Zm (Za Zm Ze)))))
   (Zi (ZM (zA (ZbU (K:=K) rfl (qv 5)) (Zo (ZJ (i:=8) Y2.nd rfl (by ac_nf) (Zq ZcO (Zq Zxd (qv 2) Zm) (Zq Ztz Zm Zm)))) ZP))
   (Zi (ZM (zA (zS Zjw (qv 8) (ZG (Yi (K:=K) rfl) (by rfl) B.len Yh (Za (Z1 (Z3 hr) (qv 0) (qv 1) (fun _ _=>rfl)) Ze))) (Zo (ZA (ZX (Za (Zq Zz (Zq Zz (Zq Zz Zn (qv 1)) Zn) (Yn Zkg (by rfl) B.str Zfe (Za (qv 8) Ze))) (Za (ZX (Za Zn (Za Zn Ze))) Ze))))) ZP))
   (Zi (ZJ (i:=6) Y2.nd rfl (by ac_nf) (Z1 (Z3 hr) (qv 0) (qv 1) (fun _ _=>rfl)))
   (Zi (ZcB (Z3 hr) (qv 0) (qv 1) (z8 (Za8 (K:=K) rfl) (qv 6) (Zci (qv 8)) Ja) rfl)
   (Zo (ZA (ZX (Za (Zq Zz (Zq Zz (Zq Zz Zn (qv 1)) Zn) (Yn Zkg (by rfl) B.str Zfe (Za (qv 8) Ze))) (Za (ZX (Za Zn (Za (z8 (Za8 (K:=K) rfl) (qv 6) Ja (Zci (qv 8))) Ze))) Ze)))))))))))))))),?_⟩
  have hsz:sizeLine=16777216:=jt;have e1:L (Qc " ")=[32]:=by rfl'
  have ns:=hn.2.1;have fin:∀r kept' b y H' p2,Due kept r kept' b y->Jy kept'->kept'.length<=kept.length+1->r.length<=1000->Zs (upd H d (.dK (txK kept'))) H'->H' p2=some (.tup [.str (J2 b),.str y])->∀p,H' p=none->Q (.ref p) (upd H' p (.tup [.str (T r),.ref p2])):=fun r kept' b y H' p2 h1 h2 h3 h4 h5 h6 p hp=>q r kept' b y _ p p2 h1 h2 h3 h4 (h5.upd hp) (Zco (h5.free hp)).1 Zh ((Zj (Zk h6 hp)).trans h6);have s0:∀{H'},Zs H H'->Zs (upd H d (.dK (txK kept))) H':=fun s=>Zmg hd s;clear q;simp! [ZI];intro kind k0 k8;refine z5 (fun σ' H'=>H'=H/\∃far:Bool,σ'=[some (V.ref d),some (V.str n),some (V.int cell),some (V.bl early),some (V.int kind),some (V.bl far),none,none,none]) ?_ ?_
  ·simp! [ZI];exact q9 (fun _ r _ _=>⟨_,rfl⟩) fun _=>⟨_,rfl⟩
  rintro _ _ ⟨rfl,far,rfl⟩;rename_i H;have hb:b2i far=0\/b2i far=1:=by cases far<;>simp [b2i]
  refine z5 (fun σ' H'=>H'=H/\3<=kind/\σ'=[some (V.ref d),some (V.str n),some (V.int cell),some (V.bl early),some (V.int kind),some (V.bl far),none,none,none]) ?_ ?_
  ·simp! [true_and];refine q9 (fun h3=>?_) fun _=>by omega
   refine z5 (fun σ' H'=>Zs H H'/\∃x:List Nat,x.length<=303/\(∀c∈x,c∈Zbo)/\σ'=[some (V.ref d),some (V.str n),some (V.int cell),some (V.bl early),some (V.int kind),some (V.bl far),some (V.str (T x)),none,none]) ?_ ?_
   ·simp! [ZI,YM,Zig];refine fun r r0 r1=>⟨.inl ⟨by omega,by omega⟩,by omega,by omega,fun l ll lm H' s'=>⟨by omega,s',cut l none (some 303),?_,fun c hc=>lm c (LW.Zdx hc),rfl⟩⟩;have:=Zon l 303 (by decide);omega
   rintro _ H1 ⟨s1,x,xl,xs,rfl⟩;have ek:L (Qc "keep ")=cd "keep"++[32]:=by rfl'
   have el:(cd "keep").length=4:=by rfl'
   refine z5 (fun σ' H'=>H'=H1/\σ'=[some (V.ref d),some (V.str n),some (V.int cell),some (V.bl early),some (V.int kind),some (V.bl far),some (V.str (T x)),none,none]) ?_ ?_
   ·simp! [ZI,YL,ek,e1];refine fun r r0 r1=>q9 (fun _=>⟨hn,fun l H2 ho s2=>?_⟩) fun _=>trivial;have ol:=ho.2.2;refine ⟨by simp only [jq,jE];omega,by simp only [jq,jE];omega,by simp only [jq,jE];omega,by omega,fun p hp=>⟨by omega,fun p1 hp1=>?_⟩⟩;rw [show cd "keep"++[32]++l++[32]++x=cd "keep"++32::(l++32::x) by simp];exact fin _ kept false (nm9 7) _ p (Zrl ho) ok (by omega) (by simp only [jq,jy];omega) (s0 ((s1.trans s2).upd hp)) Zh p1 hp1
   rintro _ H2 ⟨rfl,rfl⟩;simp! [ZaZ,ek,e1];refine ⟨by simp only [jq,jE];omega,by simp only [jq,jE];omega,by simp only [jq,jE];omega,kept,s1 _ _ hd,by omega,by omega,fun h3 H3 p s3 hp h3p=>⟨by omega,fun p1 hp1=>?_⟩,fun h3 H3 p s3 hp h3p=>⟨by omega,fun p1 hp1=>?_⟩⟩
   ·rw [show cd "keep"++[32]++L n++[32]++x=cd "keep"++32::(L n++32::x) by simp];exact fin _ (Za6 kept (L n) x) true _ _ p (Zoy hn h3) (ok.put hn h3 xs) (Zfv ..) (by simp only [jq,jy];omega) ((ZgO s1).trans s3) h3p p1 hp1
   ·rw [show cd "keep"++[32]++L n++[32]++x=cd "keep"++32::(L n++32::x) by simp];exact fin _ kept false _ _ p (ZlA hn h3) ok (by omega) (by simp only [jq,jy];omega) (s0 (s1.trans s3)) h3p p1 hp1
  rintro _ _ ⟨rfl,k3,rfl⟩;rename_i H;have dg:=DGet.k (k:=.inr n) hd;have vn:zk (txK kept) (.inr n)=(ZU kept (L n)).map fun x=>V.str (T x):=by have:=qJ (L n) kept;rwa [T_L] at this
  rw [vn] at dg;refine z5 (fun σ' H'=>H'=H/\∃y,ZU kept (L n)=some y/\σ'=[some (V.ref d),some (V.str n),some (V.int cell),some (V.bl early),some (V.int kind),some (V.bl far),none,none,none]) ?_ ?_
  ·simp! [true_and];refine ⟨d,_,rfl,dg,_,rfl,?_⟩
   cases hl:ZU kept (L n) with
   |some y=>exact Zdr ⟨y,rfl⟩
   |none=>
    refine Zd0 ?_;refine z5 (fun σ' H'=>Zs H H'/\∃x:List Nat,x.length<=302/\σ'=[some (V.ref d),some (V.str n),some (V.int cell),some (V.bl early),some (V.int kind),some (V.bl far),some (V.str (T x)),none,none]) ?_ ?_
    ·simp! [YM,Zig];exact ⟨.inl ⟨by omega,by omega⟩,by omega,by omega,fun l ll lm H' s'=>⟨s',l,by omega,rfl⟩⟩
    rintro _ H1 ⟨s1,x,xl,rfl⟩;refine z5 (fun σ' H'=>Zs H H'/\∃p,H' p=some (.lst ([cd "ahead"++32::(L n++32::x),cd "off"++32::(L n++32::[49])].map fun r=>V.str (T r)))/\σ'=[some (V.ref d),some (V.str n),some (V.int cell),some (V.bl early),some (V.int kind),some (V.bl far),some (V.str (T x)),some (V.ref p),none]) ?_ ?_
    ·simp! [e1];have ea:L (Qc "ahead ")=cd "ahead"++[32]:=by rfl'
     have eo:L (Qc "off ")=cd "off"++[32]:=by rfl'
     have e2:L (Qc " 1")=[32,49]:=by rfl'
     have la:(cd "ahead").length=5:=by rfl'
     have lo:(cd "off").length=3:=by rfl'
     rw [ea,eo,e2];refine ⟨by and_intros,by and_intros,by and_intros,by and_intros,by and_intros,by omega,fun p hp=>⟨s1.upd hp,p,?_,rfl⟩⟩;rw [Zh];simp
    rintro _ H2 ⟨s2,p2,h2,rfl⟩;refine z5 (fun σ' H'=>Zs H H'/\∃p,H' p=some (.lst ([cd "ahead"++32::(L n++32::x),cd "off"++32::(L n++32::[49]),cd "drop"++32::L n,cd "off"++32::(L n++32::[48]),cd "text"++32::L n].map fun r=>V.str (T r)))/\σ'=[some (V.ref d),some (V.str n),some (V.int cell),some (V.bl early),some (V.int kind),some (V.bl far),some (V.str (T x)),some (V.ref p),none]) ?_ ?_
    ·simp! [e1];have ea:L (Qc "drop ")=cd "drop"++[32]:=by rfl'
     have eo:L (Qc "off ")=cd "off"++[32]:=by rfl'
     have et:L (Qc "text ")=cd "text"++[32]:=by rfl'
     have e2:L (Qc " 0")=[32,48]:=by rfl'
     have la:(cd "drop").length=4:=by rfl'
     have lo:(cd "off").length=3:=by rfl'
     have lt:(cd "text").length=4:=by rfl'
     rw [ea,eo,et,e2];refine ⟨by and_intros,by and_intros,by and_intros,by and_intros,by omega,fun p hp=>⟨p2,p,_,_,rfl,rfl,(Zj (Zk h2 hp)).trans h2,Zh,by simp only [jn,jy,j8];omega,fun p1 hp1=>⟨(s2.upd hp).upd hp1,p1,?_,rfl⟩⟩⟩;rw [Zh];simp
    rintro _ H3 ⟨s3,p3,h3,rfl⟩;simp! [ZjP]
    have ZaG:∀r∈[cd "ahead"++32::(L n++32::x),cd "off"++32::(L n++32::[49]),cd "drop"++32::L n,cd "off"++32::(L n++32::[48]),cd "text"++32::L n],Due kept r kept false (nm9 7)/\r.length<=1000:=by
     have la:(cd "ahead").length=5:=by rfl'
     have lo:(cd "off").length=3:=by rfl'
     have ld:(cd "drop").length=4:=by rfl'
     have lt:(cd "text").length=4:=by rfl'
     have g1:J8 [49]:=by refine ⟨by decide,by decide,fun c hc=>?_,fun z=>by cases z⟩;rw [ju.mp hc];decide
     have g0:J8 [48]:=by refine ⟨by decide,by decide,fun c hc=>?_,fun _=>rfl⟩;rw [ju.mp hc];decide
     intro r hr;simp only [jK,QG,or_false] at hr;rcases hr with rfl|rfl|rfl|rfl|rfl
     ·exact ⟨qk (JF (by rfl') (by rfl') hn.noB) (show cd "ahead"≠cd "keep"/\cd "ahead"≠cd "load" by rfl') (.inl hl),by and_intros⟩
     ·exact ⟨qk (JA (.inl rfl) (by rfl') (by rfl') hn.noB (LD.J8.noB g1) fun _=>g1) (show cd "off"≠cd "keep"/\cd "off"≠cd "load" by rfl') (.inl hl),by and_intros⟩
     ·exact ⟨qk (ZaU (by rfl') (by rfl') hn.noB) (show cd "drop"≠cd "keep"/\cd "drop"≠cd "load" by rfl') (.inl hl),by and_intros⟩
     ·exact ⟨qk (JA (.inl rfl) (by rfl') (by rfl') hn.noB (LD.J8.noB g0) fun _=>g0) (show cd "off"≠cd "keep"/\cd "off"≠cd "load" by rfl') (.inl hl),by and_intros⟩
     ·exact ⟨qk (ZaU (by rfl') (by rfl') hn.noB) (show cd "text"≠cd "keep"/\cd "text"≠cd "load" by rfl') (.inl hl),by and_intros⟩
    obtain ⟨r,hr,er⟩:=Zbe (fun r=>V.str (T r)) [cd "ahead"++32::(L n++32::x),cd "off"++32::(L n++32::[49]),cd "drop"++32::L n,cd "off"++32::(L n++32::[48]),cd "text"++32::L n] (r:=kind-3) (by omega) (by show kind-3<5;omega);refine ⟨_,_,.inl (SqL.of h3),er,by omega,fun p hp=>⟨by omega,fun p1 hp1=>?_⟩⟩;exact fin r kept false (nm9 7) _ p (ZaG r hr).1 ok (by omega) (ZaG r hr).2 (s0 (s3.upd hp)) Zh p1 hp1
  rintro _ _ ⟨rfl,y,hl,rfl⟩;rename_i H;obtain ⟨_,yl,ys⟩:=ok _ _ hl;rw [hl] at dg;refine z5 (fun σ' H'=>H'=H/\5<=kind/\σ'=[some (V.ref d),some (V.str n),some (V.int cell),some (V.bl early),some (V.int kind),some (V.bl far),none,none,none]) ?_ ?_
  ·simp! [true_and];refine q9 (fun h3=>?_) fun _=>by omega
   refine z5 (fun σ' H'=>Zs H H'/\∃x:List Nat,x.length<=300/\(∀c∈x,c∈Zbo)/\σ'=[some (V.ref d),some (V.str n),some (V.int cell),some (V.bl early),some (V.int kind),some (V.bl far),some (V.str (T x)),none,none]) ?_ ?_
   ·simp! [ZI,YM,Zig];exact fun r r0 r1=>⟨.inl ⟨by omega,by omega⟩,by omega,by omega,fun l ll lm H' s'=>⟨s',l,by omega,lm,rfl⟩⟩
   rintro _ H1 ⟨s1,x,xl,xs,rfl⟩;simp! [ZaZ,e1];have ea:L (Qc "ahead ")=cd "ahead"++[32]:=by rfl'
   have la:(cd "ahead").length=5:=by rfl'
   rw [ea];have dg1:=DGet.k (k:=.inr n) (s1 _ _ hd);rw [vn,hl] at dg1;refine ⟨by and_intros,by and_intros,by and_intros,d,_,rfl,dg1,?_⟩;simp only [L_T];refine ⟨by omega,kept,s1 _ _ hd,by omega,by rw [jq];omega,fun h3 H3 p s3 hp h3p=>⟨by omega,fun p1 hp1=>?_⟩,fun h3 H3 p s3 hp h3p=>⟨by omega,fun p1 hp1=>?_⟩⟩
   ·rw [show cd "ahead"++[32]++L n++[32]++x=cd "ahead"++32::(L n++32::x) by simp];refine fin _ (Za6 kept (L n) (x++y)) true _ _ p (Zlz hn hl (by rw [jq] at h3;exact h3)) (ok.put hn h3 fun c hc=>(jL.mp hc).elim (xs c) (ys c)) (Zfv ..) (by simp only [jq,jy];omega) ((ZgO s1).trans s3) h3p p1 hp1
   ·rw [show cd "ahead"++[32]++L n++[32]++x=cd "ahead"++32::(L n++32::x) by simp];exact fin _ kept false _ _ p (Zje hn hl (by rw [jq] at h3;exact h3) (by omega)) ok (by omega) (by simp only [jq,jy];omega) (s0 (s1.trans s3)) h3p p1 hp1
  rintro _ _ ⟨rfl,k5,rfl⟩;rename_i H;refine z5 (fun σ' H'=>H'=H/\σ'=[some (V.ref d),some (V.str n),some (V.int cell),some (V.bl early),some (V.int kind),some (V.bl far),none,none,none]) ?_ ?_
  ·simp! [true_and];refine q9 (fun h3=>?_) fun _=>trivial;have ea:L (Qc "drop ")=cd "drop"++[32]:=by rfl'
   have la:(cd "drop").length=4:=by rfl'
   rw [ea];have dd:=Zfk (L n) kept;rw [T_L] at dd;refine ⟨d,rfl,.inl ⟨_,.inl hd⟩,_,.inr n,_,hd,rfl,by rw [vn,hl];rfl,by and_intros,by omega,fun p hp=>⟨by omega,fun p1 hp1=>?_⟩⟩
   rw [dd] at hp hp1 ⊢
   rw [show cd "drop"++[32]++L n=cd "drop"++32::L n by simp];exact fin _ (Zcf kept (L n)) true _ _ p (Zow hn hl) ok.drop (VH (ZlT ..)) (by simp only [jq,jy];omega) (Zs.updN hp) Zh p1 hp1
  rintro _ _ ⟨rfl,rfl⟩;rename_i H;simp! [ZI];intro m m0 m5;refine z5 (fun σ' H'=>H'=H/\∃m:Nat,m<10 ^ 9/\σ'=[some (V.ref d),some (V.str n),some (V.int cell),some (V.bl early),some (V.int kind),some (V.bl far),none,none,some (V.int (m:Int))]) ?_ ?_
  ·simp! [ZlX,Ztq];have t0:(0:Int)<10 ^ VQ 9:=by decide
   have t1:=UJ (cell/3) (b:=10 ^ VQ 9) (by omega);have t2:=Ud (cell/3) (b:=10 ^ VQ 9) t0;have t3:(10:Int) ^ VQ 9=1000000000:=by decide
   refine q9 (fun _=>⟨⟨by decide,by decide⟩,⟨by decide,by decide,by decide⟩,t0,(cell/3%10 ^ VQ 9).toNat,by omega,?_⟩) fun _=>⟨m.toNat,by omega,?_⟩
   ·rw [Vx t1]
   ·rw [Vx m0]
  rintro _ _ ⟨rfl,m,hm,rfl⟩;rename_i H;refine z5 (fun σ' H'=>H'=H/\m<=y.length/\σ'=[some (V.ref d),some (V.str n),some (V.int cell),some (V.bl early),some (V.int kind),some (V.bl far),none,none,some (V.int (m:Int))]) ?_ ?_
  ·simp! [gtV,ZjN,e1];have eo:L (Qc "off ")=cd "off"++[32]:=by rfl'
   have lo:(cd "off").length=3:=by rfl'
   have nl:(JL (m:Int)).length<=9:=(ZcA m (by decide)).mpr hm;rw [eo];refine ⟨d,_,rfl,dg,?_⟩;simp only [L_T];refine ⟨by omega,q9 (fun h=>⟨by and_intros,by and_intros,Zcz (by show m<_;omega),by and_intros,by omega,fun p hp=>⟨by omega,fun p1 hp1=>?_⟩⟩) fun h=>by omega⟩;rw [show cd "off"++[32]++L n++[32]++JL (m:Int)=cd "off"++32::(L n++32::JL (m:Int)) by simp];exact fin _ kept false (nm9 5) _ p (Zoz hn hl hm (by omega) (by omega)) ok (by omega) (by simp only [jq,jy];omega) (s0 (Zs.updN hp)) Zh p1 hp1
  rintro _ _ ⟨rfl,hmy,rfl⟩;rename_i H;simp! [ZjN,e1];have eo:L (Qc "off ")=cd "off"++[32]:=by rfl'
  have lo:(cd "off").length=3:=by rfl'
  have nl:(JL (m:Int)).length<=9:=(ZcA m (by decide)).mpr hm;rw [eo];refine ⟨d,_,rfl,dg,?_⟩;have pt:=ZdJ kept (L n) (y.drop m);rw [T_L] at pt;simp only [L_T];rw [Zdj,Zha];refine ⟨by omega,d,_,rfl,.inl ⟨_,.inr n,hd,rfl,by unfold txK;rw [jn];omega,rfl⟩,by and_intros,by and_intros,Zcz (by show m<_;omega),by and_intros,by omega,by omega,fun p hp=>⟨by omega,fun p1 hp1=>?_⟩⟩
  rw [pt] at hp hp1 ⊢
  rw [show cd "off"++[32]++L n++[32]++JL (m:Int)=cd "off"++32::(L n++32::JL (m:Int)) by simp];exact fin _ (Za6 kept (L n) (y.drop m)) true (T (y.take m)) _ p (Zrm hn hl hm (by omega) hmy) (ok.put hn (by rw [jJ];omega) fun c hc=>ys c (UC hc)) (Zfv ..) (by simp only [jq,jy];omega) (Zs.updN hp) Zh p1 hp1
theorem Zdk {tb1 tb2:jk} {H:Hp} {t:jk} {kept kept':zI} {r:List Nat} {b:Bool} {y:Str} {R:jk->Hp->Prop} (ht:H t=some (.dK (txK kept))) (du:Due kept r kept' b y) (q:∀H' p,SD tb1 tb2 (upd H t (.dK (txK kept'))) H'->H p=none->H' p=some (.tup [.str (J2 b),.str y])->R p H'):
 JN kept r (fun kept' x=>∀H' p,SD tb1 tb2 (upd H t (.dK (txK kept'))) H'->H p=none->H' p=some (.tup [.str (J2 true),.str (T x)])->R p H') (fun k=>∀H' p,SD tb1 tb2 H H'->H p=none->H' p=some (.tup [.str (J2 false),.str (nm9 k)])->R p H'):=by
 refine JN.mono ?_ ?_ du
 ·rintro k x ⟨rfl,rfl,rfl⟩ H' p s hp h;exact q H' p s hp h
 ·rintro k ⟨rfl,rfl,rfl⟩ _ _ H' p s hp h;exact q H' p (by rw [ZbK ht];exact s) hp h
def zu (K:Qa) (CL CF C:jk) (tb2 tb1:jk):Sp:=fun vs H Q _=>match vs with
 |[.ref o,.str n,.str x]=>∃t kept,Yg C H o t kept/\kept.length<=1000/\ZU kept (L n)=some (L x)/\Jy kept/\Zp tb1 H/\Zu tb2 H/\tb2≠tb1/\∀H',SD tb1 tb2 H H'->Q (.bl true) H'
 |_=>False
theorem Zed (F:Fun K "_law_places_told" "_law_places_told" Yx f fd) (B:Bn mg) (Y9:Fn P w K mg base 10 "_law_said" Za3 (Yy K Zd Zl ZB Zg Zc)) (Yz:Fn P w K mg base 1 "_law_is_said" qN (zx K)):Z0 P w K mg base CX0 11 f fd Yk (zu K Zd Zl ZB Zg Zc):=by
 refine F.ok Zaj (fun vs H Q E h=>?_) (fun cdv A outer s H vs Q E hr h=>?_)<;>unfold zu at h<;>split at h<;>first|exact h.elim|skip
 ·rfl
 ·rename_i o n x;obtain ⟨t,kept,hD,hk,hl,ok,b1,b2,ne,q⟩:=h
  refine ⟨_,(Zi (ZJ (i:=3) Zaj.nd rfl (by ac_nf) (z8 (Za8 (K:=K) rfl) (qv 2) (Zci (Zk8 Zlq Zm)) Ja))
   (Zi (ZM (Zqr (i₀:=4) B.range (own:=["_law_spot"]) (cp:=[(("_law_text":Str),2),(("_law_sign":Str),3)]) rfl rfl rfl (by rfl') (by rfl') ⟨⟨rfl,rfl,rfl⟩,⟨rfl,rfl,rfl⟩,trivial⟩ (Za (Zq ZfB (Zq Zz (ZG (Yi (K:=K) rfl) (by rfl) B.len Yh (Za (qv 2) Ze)) Zm) (ZG (Yi (K:=K) rfl) (by rfl) B.len Yh (Za (qv 3) Ze))) Ze) (by decide) (fun _ _ _ _=>zD (i:=0) (show UI (["_law_spot","_law_text","_law_sign"]:List Str) by rfl') rfl (Or.inl rfl) (Or.inr rfl)) (fun _ _ _ _=>Zhr (zS ZcF (z8 (Za8 (K:=K) rfl) (qv 1) (Zci (qv 0)) (Zci (Zq Zz (qv 0) (ZG (Yi (K:=K) rfl) (by rfl) B.len Yh (Za (qv 2) Ze))))) (qv 2))) (fun _ _ _ _=>(Yn Zkg (by rfl) B.str Zfe (Za (qv 0) Ze))) Zaj.nd rfl rfl))
   (Zo (ZA (ZZ Yz (hr.mono (by decide)) (Za (ZZ Y9 (hr.mono (by decide)) (Za (qv 0) (Za (Zq Zz (Zq Zz (Zq Zz Zn (qv 1)) Zn) (qv 3)) Ze))) (Za (JZ (K:=K) rfl QC UM UL (ZeU (K:=K) rfl) Zn (Za (qv 4) Ze)) Ze))))))),?_⟩
  have hsz:sizeLine=16777216:=jt;have e1:L (Qc " ")=[32]:=by rfl'
  have ef:L (Qc "find ")=cd "find"++[32]:=by rfl'
  have lf:(cd "find").length=4:=by rfl'
  obtain ⟨hn,xl,xs⟩:=ok _ _ hl
  have sl:(cut (L x) (some (-1)) none).length<=(L x).length:=Zcr ..
  have ss:∀c∈cut (L x) (some (-1)) none,c∈Zbo:=fun c hc=>xs c (LW.Zdx hc);simp! [true_and];refine ⟨by omega,?_⟩;generalize cut (L x) (some (-1)) none=sg at sl ss;refine z5 (fun σ' H'=>Zs H H'/\∃p,H' p=some (.lst (((plc (L x) sg).map fun i:Nat=>JL (i:Int)).map fun z=>V.str (T z)))/\σ'=[some (V.ref o),some (V.str n),some (V.str x),some (V.str (T sg)),some (V.ref p)]) ?_ ?_
  ·simp! [ZjP,ZjN];refine ⟨by omega,by omega,⟨by omega,by omega⟩,fun i H2 acc=>H2=H/\acc=(((Qk i).filter fun j=>decide (((L x).drop j).take sg.length=sg)).map fun j:Nat=>JL (j:Int)).map fun z=>V.str (T z),⟨rfl,rfl⟩,?_,?_⟩
   ·rintro i H2 acc hi ⟨rfl,rfl⟩;have ec:cut (L x) (some (i:Int)) (some ((i:Int)+(sg.length:Int)))=((L x).drop i).take sg.length:=Zrj (L x) i sg.length;rw [ec];refine ⟨by omega,by omega,q9 (fun h=>⟨Zcz (by show i<_;omega),rfl,?_⟩) fun h=>⟨rfl,?_⟩⟩
    ·rw [Ut,UH];simp [h]
    ·rw [Ut,UH];simp [h]
   ·rintro H2 acc ⟨rfl,rfl⟩ l hl';refine ⟨Zs.updN hl',l,?_,rfl⟩;rw [Zh,show ((L x).length:Int)+1-(sg.length:Int)=((L x).length:Int)-(sg.length:Int)+1 by omega];rfl
  rintro _ H1 ⟨s1,p,hp,rfl⟩;simp! [Yy,zx,e1,ef];rw [show cd "find"++[32]++L n++[32]++sg=cd "find"++32::(L n++32::sg) by simp];have nl:=hn.2.1;have sd:=SD.of s1 b1 b2;refine ⟨by and_intros,by and_intros,by and_intros,t,kept,hD.same s1.toN,hk,by simp only [jq,jy];omega,sd.b1,sd.b2,ne,Zdk (s1 _ _ hD.2) (Zox hn hl ok (by omega) ss) fun H' p1 s2 hp1 h1=>?_⟩;rw [ZbK (s1 _ _ hD.2)] at s2;have pl:(plc (L x) sg).length<=301:=by rw [LO.Zfx];have:=LO.Zdq (L x) sg;omega
  refine ⟨_,SqL.of (s2.same.at hp (by nofun)),?_,_,h1,?_⟩
  ·have:=ZjQ (k:=3) ((plc (L x) sg).map fun i:Nat=>JL (i:Int)) fun z hz=>by obtain ⟨i,hi,rfl⟩:=UD.mp hz;have:=LO.Zla hi;exact (ZcA i (by decide)).mpr (by omega)
   rw [jn] at this ⊢
   omega
  ·rw [L_T];unfold spn;rw [decide_eq_true rfl];exact q H' (sd.trans s2)
def Zak (K:Qa) (CL CF C:jk) (tb2 tb1:jk):Sp:=fun vs H Q _=>match vs with
 |[.ref o,.ref d,.str n,.int _]=>∃t kept,Yg C H o t kept/\H d=some (.dK (txK kept))/\kept.length<=1000/\Jy kept/\YI (L n)/\Zp tb1 H/\Zu tb2 H/\tb2≠tb1/\∀H',SD tb1 tb2 H H'->Q (.bl true) H'
 |_=>False
theorem Zjy (F:Fun K "_law_asked" "_law_asked" ZaV f fd) (B:Bn mg) (ZF:Fn P w K mg base 1 "_law_mixed" qA (ZI K)) (Y9:Fn P w K mg base 10 "_law_said" Za3 (Yy K Zd Zl ZB Zg Zc)) (Yz:Fn P w K mg base 1 "_law_is_said" qN (zx K)) (qU:Fn P w K mg base 2 "_law_odd_name" qW (YL K)) (Yj:Fn P w K mg base 11 "_law_places_told" Yk (zu K Zd Zl ZB Zg Zc)):Z0 P w K mg base CX0 12 f fd Zbv (Zak K Zd Zl ZB Zg Zc):=by
 refine F.ok JC (fun vs H Q E h=>?_) (fun cdv A outer s H vs Q E hr h=>?_)<;>unfold Zak at h<;>split at h<;>first|exact h.elim|skip
 ·rfl
 ·rename_i o d n cell;obtain ⟨t,kept,hD,hd,hk,ok,hn,b1,b2,ne,q⟩:=h
  refine ⟨_,(Zi (ZM (zA (zS ZcF (ZZ ZF (hr.mono (by decide)) (Za (qv 3) (Za Zm (Za Zm Ze)))) Zm) (Zo (ZA (ZcP (Zk5 (K:=K) rfl hr) (ZZ Y9 (hr.mono (by decide)) (Za (qv 0) (Za (Zq Zz Zn (ZZ qU (hr.mono (by decide)) (Za (qv 2) (Za (qv 3) Ze)))) Ze))) (ZX (Za Zn (Za Zn Ze)))))) ZP))
   (Zi (ZM (zA (zS ZcF (ZZ ZF (hr.mono (by decide)) (Za (qv 3) (Za Zm (Za Zm Ze)))) Zm) (Zi (ZM (ZJ (i:=4) JC.nd rfl (by ac_nf) (zw (zJ (K:=K) rfl) (ZX (Za (z8 (Za8 (K:=K) rfl) (qv 2) Ja (Zci (Zk8 Zlq Zm))) (Za (Zq Zz (qv 2) Zn) Ze))) (ZZ ZF (hr.mono (by decide)) (Za (qv 3) (Za Zm (Za Zm Ze)))) (fun _ _=>rfl))))
   (Zo (ZA (ZyH (ZyB (Zeg (Z3 hr) (qv 4) (qv 1))) (Zhp (ZcP (Zk5 (K:=K) rfl hr) (ZZ Y9 (hr.mono (by decide)) (Za (qv 0) (Za (Zq Zz Zn (qv 4)) Ze))) (ZX (Za Zn (Za Zn Ze))))))))) ZP))
   (Zi (ZM (zA (PW.pt (ZfL (Zcj (Zeg (Z3 hr) (qv 2) (qv 1))) (ZfL (zS Ziz (ZG (Yi (K:=K) rfl) (by rfl) B.len Yh (Za (Z1 (Z3 hr) (qv 1) (qv 2) (fun _ _=>rfl)) Ze)) Zm) (ZeX (zS ZcF (ZZ ZF (hr.mono (by decide)) (Za (qv 3) (Za Zm (Za Zm Ze)))) Zm))))) (Zo (ZA (ZZ Yj (hr.mono (by decide)) (Za (qv 0) (Za (qv 2) (Za (Z1 (Z3 hr) (qv 1) (qv 2) (fun _ _=>rfl)) Ze)))))) ZP))
   (Zi (ZM (zA (Zcj (Zeg (Z3 hr) (qv 2) (qv 1))) (Zo (ZA (ZZ Yz (hr.mono (by decide)) (Za (ZZ Y9 (hr.mono (by decide)) (Za (qv 0) (Za (Zq Zz Zn (qv 2)) Ze))) (Za (Z1 (Z3 hr) (qv 1) (qv 2) (fun _ _=>rfl)) Ze))))) ZP))
   (Zi (ZM (ZJ (i:=5) JC.nd rfl (by ac_nf) (ZaD (Za (Zq Zz Zn (qv 2)) (Za (Zq Zz Zn (qv 2)) (Za (Zq Zz (Zq Zz Zn (qv 2)) Zn) (Za (Zq Zz (Zq Zz Zn (qv 2)) Zn) (Za (Zq Zz (Zq Zz Zn (qv 2)) Zn) Ze))))))))
   (Zi (ZM (ZJ (i:=5) JC.nd rfl (by ac_nf) (Zq Zz (qv 5) (ZaD (Za (Zq Zz (Zq Zz Zn (qv 2)) Zn) (Za (Zq Zz Zn (qv 2)) (Za (Zq Zz Zn (qv 2)) (Za (Zq Zz (Zq Zz Zn (qv 2)) Zn) Ze))))))))
   (Zi (ZM (Zlc (K:=K) rfl PassesOwn.never rfl (Zq Zz (z8 (Za8 (K:=K) rfl) (Yn (Zre rfl) (by rfl) B.list Zrd (Za (qv 1) Ze)) Ja (Zci Zm)) (ZaD (Za (qv 2) Ze))) (zD (i:=6) JC.nd rfl (by ac_nf)) (Zo (ZJ (i:=5) JC.nd rfl (by ac_nf) (Zq Zz (qv 5) (ZaD (Za (Zq Zz (Zq Zz (Zq Zz Zn (qv 2)) Zn) (qv 6)) (Za (Zq Zz (Zq Zz (Zq Zz Zn (qv 6)) Zn) (qv 2)) Ze))))))))
   (Zi (ZM (ZJ (i:=7) JC.nd rfl (by ac_nf) (zw (zJ (K:=K) rfl) (qv 5) (ZZ ZF (hr.mono (by decide)) (Za (qv 3) (Za Zm (Za (ZG (Yi (K:=K) rfl) (by rfl) B.len Yh (Za (qv 5) Ze)) Ze)))) (fun _ _=>rfl))))
   (Zo (ZA (ZcP (Zk5 (K:=K) rfl hr) (ZZ Y9 (hr.mono (by decide)) (Za (qv 0) (Za (qv 7) Ze))) (ZX (Za Zn (Za Zn Ze)))))))))))))),?_⟩
  have hsz:sizeLine=16777216:=jt;have e1:L (Qc " ")=[32]:=by rfl'
  have et:L (Qc "text ")=cd "text"++[32]:=by rfl'
  have lt:(cd "text").length=4:=by rfl'
  have nl:=hn.2.1;have nm7:nm9 7=Qc "NoName":=rfl;have sf:J2 false=Qc "refused":=rfl;have dg:=DGet.k (k:=.inr n) hd;have vn:zk (txK kept) (.inr n)=(ZU kept (L n)).map fun x=>V.str (T x):=by have:=qJ (L n) kept;rwa [T_L] at this
  rw [vn] at dg;have ans:∀H1,Zs H H1->∀r,Due kept r kept false (nm9 7)->JN kept r (fun kept' x=>∀H' p,SD Zc Zg (upd H1 t (.dK (txK kept'))) H'->H1 p=none->H' p=some (.tup [.str (J2 true),.str (T x)])->2<=sizeLine/\∀p1,H' p1=none->ZjY K (upd H' p1 (HO.tup [V.str (Qc "refused"),V.str (Qc "NoName")])) p p1/\Q (V.bl true) (upd H' p1 (HO.tup [V.str (Qc "refused"),V.str (Qc "NoName")]))) (fun k=>∀H' p,SD Zc Zg H1 H'->H1 p=none->H' p=some (.tup [.str (J2 false),.str (nm9 k)])->2<=sizeLine/\∀p1,H' p1=none->ZjY K (upd H' p1 (HO.tup [V.str (Qc "refused"),V.str (Qc "NoName")])) p p1/\Q (V.bl true) (upd H' p1 (HO.tup [V.str (Qc "refused"),V.str (Qc "NoName")]))):=fun H1 s1 r du=>by refine Zdk (s1 _ _ hD.2) du fun H' p s hp h=>⟨by omega,fun p1 hp1=>⟨Ze9 (Ztr rfl rfl) ((Zj (Zk h hp1)).trans h) Zh,q _ ?_⟩⟩;rw [ZbK (s1 _ _ hD.2)] at s;exact (SD.of s1 b1 b2).trans (s.trans (SD.of (Zs.updN hp1) s.b1 s.b2))
  have notext:∀m,32∉m->ZU kept m=none->Due kept (cd "text"++[32]++m) kept false (nm9 7):=fun m m32 hl=>by rw [show cd "text"++[32]++m=cd "text"++32::m by simp];exact qk (ZaU (by rfl') (by rfl') m32) (show cd "text"≠cd "keep"/\cd "text"≠cd "load" by rfl') (.inl hl)
  refine z5 (fun σ' H'=>H'=H/\σ'=[some (V.ref o),some (V.ref d),some (V.str n),some (V.int cell),none,none,none,none]) ?_ ?_
  ·simp! [ZI,YL,Yy,et];refine fun r r0 r9=>q9 (fun _=>⟨hn,fun l H1 ho s1=>?_⟩) fun _=>trivial;have ol:=ho.2.2;have sd:=SD.of s1 b1 b2;refine ⟨by and_intros,t,kept,hD.same s1.toN,hk,by and_intros,sd.b1,sd.b2,ne,ans H1 s1 _ (notext l ho.2.1 ?_)⟩
   cases hl:ZU kept l with
   |none=>rfl
   |some x=>exact absurd (ok l x hl).1 ho.1
  rintro _ _ ⟨rfl,rfl⟩;rename_i H;refine z5 (fun σ' H'=>H'=H/\σ'=[some (V.ref o),some (V.ref d),some (V.str n),some (V.int cell),none,none,none,none]) ?_ ?_
  ·simp! [ZI];refine fun r r0 r9=>q9 (fun _=>?_) fun _=>trivial;refine z5 (fun σ' H'=>Zs H H'/\∃m:List Nat,32∉m/\m.length<=9/\σ'=[some (V.ref o),some (V.ref d),some (V.str n),some (V.int cell),some (V.str (T m)),none,none,none]) ?_ ?_
   ·simp! [ZI];have eq:L (Qc "q")=[113]:=by rfl'
    have c1:=Zcr (L n) none (some (-1));rw [eq];refine ⟨by omega,by and_intros,by omega,fun p hp r r0 r2=>?_⟩;obtain ⟨r,rfl⟩:∃k:Nat,r=(k:Int):=⟨r.toNat,by omega⟩;have r2:r<2:=by omega
    match r,r2 with
    |0,_=>exact ⟨_,_,.inr (SqT.of Zh),rfl,Zs.updN hp,_,fun z=>hn.noB (LW.Zdx z),by omega,rfl⟩
    |1,_=>
     refine ⟨_,_,.inr (SqT.of Zh),rfl,Zs.updN hp,_,fun z=>?_,by and_intros,rfl⟩;rcases jL.mp z with z|z
     ·exact hn.noB z
     ·have:=ju.mp z;omega
   rintro _ H1 ⟨s1,m,m32,ml,rfl⟩;simp! [Yy,et];have sd:=SD.of s1 b1 b2;have dm:=DGet.k (k:=.inr (T m)) (s1 _ _ hd);rw [qJ] at dm;refine ⟨d,_,rfl,dm,?_⟩
   cases hl:ZU kept m with
   |some x=>exact Zd0 (q _ sd)
   |none=>exact Zdr ⟨by and_intros,t,kept,hD.same s1.toN,hk,by and_intros,sd.b1,sd.b2,ne,ans H1 s1 _ (notext m m32 hl)⟩
  rintro _ _ ⟨rfl,rfl⟩;rename_i H;refine z5 (fun σ' H'=>H'=H/\σ'=[some (V.ref o),some (V.ref d),some (V.str n),some (V.int cell),none,none,none,none]) ?_ ?_
  ·simp! [ZI,zu];refine ⟨d,_,rfl,dg,_,rfl,?_⟩
   cases hl:ZU kept (L n) with
   |none=>exact Zdr trivial
   |some x=>
    rw [hl] at dg;refine Zd0 ⟨d,_,rfl,dg,?_⟩;obtain ⟨_,xl,_⟩:=ok _ _ hl;simp only [L_T];exact ⟨by omega,q9 (fun _ r r0 r9=>q9 (fun _=>⟨d,_,rfl,dg,t,kept,hD,hk,by rw [L_T];exact hl,ok,b1,b2,ne,q⟩) fun _=>trivial) fun _=>trivial⟩
  rintro _ _ ⟨rfl,rfl⟩;rename_i H;refine z5 (fun σ' H'=>H'=H/\ZU kept (L n)=none/\σ'=[some (V.ref o),some (V.ref d),some (V.str n),some (V.int cell),none,none,none,none]) ?_ ?_
  ·simp! [zx,Yy,et];refine ⟨d,_,rfl,dg,_,rfl,?_⟩
   cases hl:ZU kept (L n) with
   |none=>exact Zdr rfl
   |some x=>
    rw [hl] at dg;refine Zd0 ⟨by and_intros,t,kept,hD,hk,by and_intros,b1,b2,ne,?_⟩;rw [show cd "text"++[32]++L n=cd "text"++32::L n by simp];refine Zdk hD.2 (ZoA hn hl) fun H' p s2 hp h1=>?_;rw [ZbK hD.2] at s2;have dg2:=DGet.k (k:=.inr n) (s2.same.at hd (by nofun));rw [vn,hl] at dg2;refine ⟨d,_,rfl,dg2,_,h1,?_⟩;rw [decide_eq_true rfl];exact q H' s2
  rintro _ _ ⟨rfl,hl,rfl⟩;rename_i H;have J0:∀w:String,ZcM (cd w)=some 0->32∉cd w->cd w≠cd "keep"/\cd w≠cd "load"->∀x,Due kept (cd w++32::(L n++32::x)) kept false (nm9 7):=fun w h1 h2 h3 x=>qk (JF h1 h2 hn.noB) h3 (.inl hl);have word:∀w:String,ZcM (cd w)=some 1->32∉cd w->cd w≠cd "keep"/\cd w≠cd "load"->Due kept (cd w++32::L n) kept false (nm9 7):=fun w h1 h2 h3=>qk (ZaU h1 h2 hn.noB) h3 (.inl hl);have Zm6:∀m:List Nat,32∉m->Due kept (cd "both"++32::(L n++32::m)) kept false (nm9 7)/\Due kept (cd "both"++32::(m++32::L n)) kept false (nm9 7):=fun m m32=>⟨qk (JA (.inr rfl) (by rfl') (by rfl') hn.noB m32 (fun z=>by cases z)) (show cd "both"≠cd "keep"/\cd "both"≠cd "load" by rfl') (.inl hl),qk (JA (.inr rfl) (by rfl') (by rfl') m32 hn.noB (fun z=>by cases z)) (show cd "both"≠cd "keep"/\cd "both"≠cd "load" by rfl') (.inr ⟨rfl,hl⟩)⟩;have fl:∀w∈["text","pack","count","find","near","often","kinds","lone","cut","both"],(cd w).length<=5:=by rfl'
  refine z5 (fun σ' H'=>Zs H H'/\∃p,∃R:List (List Nat),H' p=some (.lst (R.map fun r=>V.str (T r)))/\R.length=5/\(∀r∈R,Due kept r kept false (nm9 7)/\r.length<=1000)/\σ'=[some (V.ref o),some (V.ref d),some (V.str n),some (V.int cell),none,some (V.ref p),none,none]) ?_ ?_
  ·simp! [true_and];have e_text:L (Qc "text ")=cd "text"++[32]:=by rfl'
   have l_text:=fl "text" (by decide);have e_pack:L (Qc "pack ")=cd "pack"++[32]:=by rfl'
   have l_pack:=fl "pack" (by decide);have e_count:L (Qc "count ")=cd "count"++[32]:=by rfl'
   have l_count:=fl "count" (by decide);have e_find:L (Qc "find ")=cd "find"++[32]:=by rfl'
   have l_find:=fl "find" (by decide);have e_near:L (Qc "near ")=cd "near"++[32]:=by rfl'
   have l_near:=fl "near" (by decide);have e_1:L (Qc " ")=[32]:=by rfl'
   have e_a:L (Qc " a")=[32,97]:=by rfl'
   have e_1a:L (Qc " 1 a")=[32,49,32,97]:=by rfl'
   have g1:J8 [49]:=by refine ⟨by decide,by decide,fun c hc=>?_,fun z=>by cases z⟩;rw [ju.mp hc];decide
   rw [e_text,e_pack,e_count,e_find,e_near,e_1,e_a,e_1a];refine ⟨by and_intros,by and_intros,by and_intros,by and_intros,by and_intros,by and_intros,by and_intros,by and_intros,by omega,fun p hp=>⟨Zs.updN hp,p,[cd "text"++32::L n,cd "pack"++32::L n,cd "count"++32::(L n++32::[]),cd "find"++32::(L n++32::[97]),cd "near"++32::(L n++32::([49]++32::[97]))],?_,rfl,?_,rfl⟩⟩
   ·rw [Zh];simp
   ·intro r hr;simp only [jK,QG,or_false] at hr;rcases hr with rfl|rfl|rfl|rfl|rfl
    ·exact ⟨word "text" (by rfl') (by rfl') (by rfl'),by and_intros⟩
    ·exact ⟨word "pack" (by rfl') (by rfl') (by rfl'),by and_intros⟩
    ·exact ⟨J0 "count" (by rfl') (by rfl') (by rfl') [],by and_intros⟩
    ·exact ⟨J0 "find" (by rfl') (by rfl') (by rfl') [97],by and_intros⟩
    ·exact ⟨qk (ZlH (by rfl') (by rfl') hn.noB (LD.J8.noB g1) g1) (show cd "near"≠cd "keep"/\cd "near"≠cd "load" by rfl') (.inl hl),by and_intros⟩
  rintro _ H1 ⟨s1,p1,R1,h1,l1,g1,rfl⟩;refine z5 (fun σ' H'=>Zs H H'/\∃p,∃R:List (List Nat),H' p=some (.lst (R.map fun r=>V.str (T r)))/\R.length=9/\(∀r∈R,Due kept r kept false (nm9 7)/\r.length<=1000)/\σ'=[some (V.ref o),some (V.ref d),some (V.str n),some (V.int cell),none,some (V.ref p),none,none]) ?_ ?_
  ·simp! [true_and];have e_often:L (Qc "often ")=cd "often"++[32]:=by rfl'
   have l_often:=fl "often" (by decide);have e_kinds:L (Qc "kinds ")=cd "kinds"++[32]:=by rfl'
   have l_kinds:=fl "kinds" (by decide);have e_lone:L (Qc "lone ")=cd "lone"++[32]:=by rfl'
   have l_lone:=fl "lone" (by decide);have e_cut:L (Qc "cut ")=cd "cut"++[32]:=by rfl'
   have l_cut:=fl "cut" (by decide);have e_0:L (Qc " 0")=[32,48]:=by rfl'
   have e_ab:L (Qc " ab")=[32,97,98]:=by rfl'
   have g0:J8 [48]:=by refine ⟨by decide,by decide,fun c hc=>?_,fun _=>rfl⟩;rw [ju.mp hc];decide
   rw [e_often,e_kinds,e_lone,e_cut,e_0,e_ab];refine ⟨by and_intros,by and_intros,by and_intros,by and_intros,by and_intros,by and_intros,by omega,fun p hp=>⟨p1,p,_,_,rfl,rfl,(Zj (Zk h1 hp)).trans h1,Zh,by simp only [jn,jy,j8];omega,fun p2 hp2=>⟨(s1.upd hp).upd hp2,p2,R1++[cd "often"++32::(L n++32::[48]),cd "kinds"++32::L n,cd "lone"++32::L n,cd "cut"++32::(L n++32::[97,98])],?_,by rw [jq,l1];rfl,?_,rfl⟩⟩⟩
   ·rw [Zh];simp
   ·intro r hr;rcases jL.mp hr with hr|hr
    ·exact g1 r hr
    simp only [jK,QG,or_false] at hr;rcases hr with rfl|rfl|rfl|rfl
    ·exact ⟨qk (JA (.inl rfl) (by rfl') (by rfl') hn.noB (LD.J8.noB g0) fun _=>g0) (show cd "often"≠cd "keep"/\cd "often"≠cd "load" by rfl') (.inl hl),by and_intros⟩
    ·exact ⟨word "kinds" (by rfl') (by rfl') (by rfl'),by and_intros⟩
    ·exact ⟨word "lone" (by rfl') (by rfl') (by rfl'),by and_intros⟩
    ·exact ⟨J0 "cut" (by rfl') (by rfl') (by rfl') [97,98],by and_intros⟩
  rintro _ H2 ⟨s2,p2,R2,h2,l2,g2,rfl⟩;refine z5 (fun σ' H'=>Zs H H'/\∃p u,∃R:List (List Nat),H' p=some (.lst (R.map fun r=>V.str (T r)))/\0<R.length/\R.length<=100/\(∀r∈R,Due kept r kept false (nm9 7)/\r.length<=1000)/\σ'=[some (V.ref o),some (V.ref d),some (V.str n),some (V.int cell),none,some (V.ref p),u,none]) ?_ ?_
  ·simp! [Zv5,Zln];have e_1:L (Qc " ")=[32]:=by rfl'
   have e_both:L (Qc "both ")=cd "both"++[32]:=by rfl'
   have l_both:=fl "both" (by decide)
   obtain ⟨O,eO,lO,gO⟩:∃O:List (List Nat),cut ((txK kept).map fun p=>kV p.1) none (some 1)++[V.str n]=O.map (fun r=>V.str (T r))/\O.length<=2/\∀m∈O,32∉m/\m.length<=8:=by
    refine ⟨(cut kept none (some 1)).map (·.1)++[L n],?_,?_,fun m hm=>?_⟩
    ·unfold txK;rw [uJ,Zg9,uw,uJ,List.map_singleton,T_L];rfl
    ·have:=Zon kept 1 (by decide);rw [jq,jn];simp only [jE];omega
    ·rcases jL.mp hm with hm|hm
     ·obtain ⟨p,hp,rfl⟩:=UD.mp hm;have hp:=LW.Zdx hp;have:(ZU kept p.1).isSome=true:=by unfold ZU;rw [Ux,List.find?_isSome];exact ⟨p,hp,decide_eq_true rfl⟩
      obtain ⟨x,hx⟩:=U0.mp this;have:=(ok _ _ hx).1;exact ⟨this.noB,this.2.1⟩
     ·rw [ju.mp hm];exact ⟨hn.noB,nl⟩
   refine ⟨_,s2 _ _ hd,fun l hl1=>⟨_,SqL.of Zh,fun q1 hq1=>⟨by omega,fun p hp=>⟨q1,p,_,_,rfl,rfl,(Zj (Zk Zh hp)).trans Zh,Zh,?_,fun p4 hp4=>?_⟩⟩⟩⟩
   ·have:=congrArg Ur eO;rw [jq,jn] at this;omega
   rw [eO];have s4:Zs H (upd (upd (upd (upd H2 l (HO.lst ((txK kept).map fun p=>kV p.1))) q1 (HO.lst (cut ((txK kept).map fun p=>kV p.1) none (some 1)))) p (HO.lst [V.str n])) p4 (HO.lst (O.map fun r=>V.str (T r)))):=(((s2.upd hl1).upd hq1).upd hp).upd hp4;have h4:upd (upd (upd (upd H2 l (HO.lst ((txK kept).map fun p=>kV p.1))) q1 (HO.lst (cut ((txK kept).map fun p=>kV p.1) none (some 1)))) p (HO.lst [V.str n])) p4 (HO.lst (O.map fun r=>V.str (T r))) p4=some (HO.lst (O.map fun r=>V.str (T r))):=Zh;have h2':upd (upd (upd (upd H2 l (HO.lst ((txK kept).map fun p=>kV p.1))) q1 (HO.lst (cut ((txK kept).map fun p=>kV p.1) none (some 1)))) p (HO.lst [V.str n])) p4 (HO.lst (O.map fun r=>V.str (T r))) p2=some (HO.lst (R2.map fun r=>V.str (T r))):=(((Zs.updN hl1).trans (Zs.updN hq1)).trans ((Zs.updN hp).trans (Zs.updN hp4))) _ _ h2
   generalize upd (upd (upd (upd H2 l (HO.lst ((txK kept).map fun p=>kV p.1))) q1 (HO.lst (cut ((txK kept).map fun p=>kV p.1) none (some 1)))) p (HO.lst [V.str n])) p4 (HO.lst (O.map fun r=>V.str (T r)))=H4 at s4 h4 h2' ⊢
   refine ⟨_,SqL.of h4,fun i σ' H'=>Zs H H'/\H' p4=some (HO.lst (O.map fun r=>V.str (T r)))/\∃p u,∃R:List (List Nat),H' p=some (.lst (R.map fun r=>V.str (T r)))/\R.length=9+2 * i/\(∀r∈R,Due kept r kept false (nm9 7)/\r.length<=1000)/\σ'=[some (V.ref o),some (V.ref d),some (V.str n),some (V.int cell),none,some (V.ref p),u,none],⟨s4,h4,p2,_,R2,h2',by omega,g2,rfl⟩,?_,?_,?_⟩
   ·rintro i σ' H' _ ⟨_,h,_⟩;exact SqL.of h
   ·rintro i x σ' H' hx ⟨s5,h5,p5,u,R,h6,lR,gR,rfl⟩;rw [Qi] at hx;obtain ⟨m,em,rfl⟩:=Qz.mp hx;have hi:=(Qo.mp em).1;obtain ⟨m32,ml⟩:=gO m (QE em);simp! [e_1,e_both];refine ⟨by and_intros,by and_intros,by and_intros,by and_intros,by and_intros,by and_intros,by omega,fun p6 hp6=>⟨p5,p6,_,_,rfl,rfl,(Zj (Zk h6 hp6)).trans h6,Zh,by simp only [jn,jy,j8];omega,fun p7 hp7=>⟨(s5.upd hp6).upd hp7,((Zs.updN hp6).trans (Zs.updN hp7)) _ _ h5,p7,_,R++[cd "both"++32::(L n++32::m),cd "both"++32::(m++32::L n)],?_,by rw [jq,lR];simp only [jy,j8];omega,?_,rfl⟩⟩⟩
    ·rw [Zh];simp
    ·intro r hr;rcases jL.mp hr with hr|hr
     ·exact gR r hr
     simp only [jK,QG,or_false] at hr;rcases hr with rfl|rfl
     ·exact ⟨(Zm6 m m32).1,by and_intros⟩
     ·exact ⟨(Zm6 m m32).2,by and_intros⟩
   ·rintro σ' H' ⟨s5,h5,p5,u,R,h6,lR,gR,rfl⟩;rw [jn] at lR;exact ⟨s5,p5,u,R,h6,by omega,by omega,gR,rfl⟩
  rintro _ H3 ⟨s3,p3,u,R3,h3,l0,l3,g3,rfl⟩;refine z5 (fun σ' H'=>H'=H3/\∃r:List Nat,Due kept r kept false (nm9 7)/\r.length<=1000/\σ'=[some (V.ref o),some (V.ref d),some (V.str n),some (V.int cell),none,some (V.ref p3),u,some (V.str (T r))]) ?_ ?_
  ·simp! [ZI];refine ⟨_,.inl (SqL.of h3),by rw [jn];omega,fun r r0 r1=>?_⟩;rw [jn] at r1;obtain ⟨x,hx,ex⟩:=Zbe (fun r=>V.str (T r)) R3 r0 r1;exact ⟨_,_,.inl (SqL.of h3),ex,x,(g3 x hx).1,(g3 x hx).2,rfl⟩
  rintro _ H4 ⟨rfl,r,dr,rl,rfl⟩;simp! [Yy];have sd:=SD.of s3 b1 b2;exact ⟨t,kept,hD.same s3.toN,hk,by omega,sd.b1,sd.b2,ne,ans H4 s3 r dr⟩
def ZhH (K:Qa) (tb2 tb1:jk):Sp:=fun vs H Q _=>∃(a:jk) (ns:List Int),vs=[.ref a]/\SqL K H a (ns.map V.int)/\ns.length<=63/\Zu tb2 H/\Zp tb1 H/\tb2≠tb1/\∀H',Q (.bl true) H'
theorem Zyp (F:Fun K "law" "law" ZdO f fd) (B:Bn mg) (Zb7:Fn P w K mg base 1 "_law_cell_at" Zas (J6 K)) (ZF:Fn P w K mg base 1 "_law_mixed" qA (ZI K)) (ZbN:Fn P w K mg base 2 "_law_names_by" JT (Ju K)) (Y9:Fn P w K mg base 10 "_law_said" Za3 (Yy K Zd Zl ZB Zg Zc)) (Ze5:Fn P w K mg base 3 "_law_deed" Zb9 (ZbI K)) (ZgY:Fn P w K mg base 2 "_law_met" Zdf (Zcl K)) (Yj:Fn P w K mg base 11 "_law_places_told" Yk (zu K Zd Zl ZB Zg Zc)) (Zcq:Fn P w K mg base 12 "_law_asked" Zbv (Zak K Zd Zl ZB Zg Zc)) (qb9:Mkr P w K mg base CX0 1 "Desk" ZB Jj [] (qQ K ZB)):Z0 P w K mg base CX0 13 f fd Zj1 (ZhH K Zg Zc):=by
 refine F.ok ZbV (fun vs H Q E h=>?_) (fun cdv A outer s H vs Q E hr h=>?_)
 ·obtain ⟨a,ns,rfl,_⟩:=h;rfl
 ·obtain ⟨a,ns,rfl,hS,hlen,b2,b1,ne,q⟩:=h
  refine ⟨_,(Zi (ZM (ZJ (i:=1) ZbV.nd rfl (by ac_nf) (z8 (Za8 (K:=K) rfl) (ZZ ZbN (hr.mono (by decide)) (Za (ZZ Zb7 (hr.mono (by decide)) (Za (qv 0) (Za Zm Ze))) Ze)) Ja (Zci Zm))))
   (Zi (ZM (ZJ (i:=2) ZbV.nd rfl (by ac_nf) (ZyF qb9 (hr.mono (by decide)))))
   (Zi (ZM (ZJ (i:=3) ZbV.nd rfl (by ac_nf) ZfJ))
   (Zi (ZM (Zlb (K:=K) rfl PassesOwn.never rfl B.enumerate (Za (z8 (Za8 (K:=K) rfl) (qv 0) (Zci Zm) (Zci Zm)) Ze) (zD (i:=4) ZbV.nd rfl (by ac_nf)) (zD (i:=5) ZbV.nd rfl (by ac_nf)) (Zi (ZM (Zzn (ZZ Ze5 (hr.mono (by decide)) (Za (qv 3) (Za (zw (zJ (K:=K) rfl) (qv 1) (ZZ ZF (hr.mono (by decide)) (Za (qv 5) (Za Zm (Za Zm Ze)))) (fun _ _=>rfl)) (Za (qv 5) (Za (ZcP ZcF (Zq ZcO (qv 4) Zm) Zm) Ze))))) (Zr1 (K:=K) (n:=2) rfl rfl (ZbD (zD (i:=6) ZbV.nd rfl (by ac_nf)) (ZbD (zD (i:=7) ZbV.nd rfl (by ac_nf)) Zhs)))))
   (Zi (ZM (zA (Zek (ZbU (K:=K) rfl (ZZ ZgY (hr.mono (by decide)) (Za (ZZ Y9 (hr.mono (by decide)) (Za (qv 2) (Za (qv 6) Ze))) (Za (qv 7) Ze))))) (Zo (ZA ZiE)) ZP))
   (Zo (zA (Zek (ZbU (K:=K) rfl (ZZ Zcq (hr.mono (by decide)) (Za (qv 2) (Za (qv 3) (Za (zw (zJ (K:=K) rfl) (qv 1) (ZZ ZF (hr.mono (by decide)) (Za (qv 5) (Za Zm (Za Zm Ze)))) (fun _ _=>rfl)) (Za (qv 5) Ze))))))) (Zo (ZA ZiE)) ZP))))))
   (Zi (Zlc (K:=K) rfl PassesOwn.never rfl (qv 1) (zD (i:=8) ZbV.nd rfl (by ac_nf)) (Zi (zA (Zek (ZbU (K:=K) rfl (ZZ Zcq (hr.mono (by decide)) (Za (qv 2) (Za (qv 3) (Za (qv 8) (Za Zm Ze))))))) (Zo (ZA ZiE)) ZP)
   (Zo (zA (PW.pt (ZfL (Zcj (Zeg (Z3 hr) (qv 8) (qv 3))) (ZeX (Zek (ZbU (K:=K) rfl (ZZ Yj (hr.mono (by decide)) (Za (qv 2) (Za (qv 8) (Za (Z1 (Z3 hr) (qv 3) (qv 8) (fun _ _=>rfl)) Ze))))))))) (Zo (ZA ZiE)) ZP))))
   (Zo (ZA ZiE))))))),?_⟩
  have hsz:sizeLine=16777216:=jt;refine z5 (fun σ' H'=>Zs H H'/\∃p,∃N:List (List Nat),H' p=some (.lst (N.map fun n=>V.str (T n)))/\N.length=3/\(∀n∈N,YI n)/\σ'=[some (V.ref a),some (V.ref p),none,none,none,none,none,none,none]) ?_ ?_
  ·simp! [J6,Ju];refine ⟨ns,hS,fun p H1 N s1 hp h1 lN gN=>⟨_,SqL.of h1,fun p2 hp2=>⟨s1.upd hp2,p2,N.take 3,?_,by rw [jz];omega,fun n hn=>(gN n (Q6 hn)).is,rfl⟩⟩⟩;rw [Zh,Zg9];have:cut N none (some ((3:Nat):Int))=N.take 3:=Zha N 3;rw [<-this];rfl
  rintro _ H1 ⟨s1,p,N,hp,lN,gN,rfl⟩;refine z5 (fun σ' H'=>Zs H H'/\H' p=some (.lst (N.map fun n=>V.str (T n)))/\∃o t,Yg ZB H' o t []/\σ'=[some (V.ref a),some (V.ref p),some (V.ref o),none,none,none,none,none,none]) ?_ ?_
  ·simp! [qQ];intro x dx hx hdx hne;refine ⟨⟨dx,Zh⟩,fun H2 t kp ht hD=>?_⟩;have s2:Zs H1 H2:=fun b u h=>kp b u (Zk h hx) ((Zj (Zk h hx)).trans ((Zj (Zk h hdx)).trans h));exact ⟨s1.trans s2,s2 _ _ hp,x,t,hD,rfl⟩
  rintro _ H2 ⟨s2,hp2,o,t,hD,rfl⟩;refine z5 (fun σ' H'=>Zs H H'/\H' p=some (.lst (N.map fun n=>V.str (T n)))/\Yg ZB H' o t []/\∃d,d≠t/\H' d=some (.dK (txK []))/\σ'=[some (V.ref a),some (V.ref p),some (V.ref o),some (V.ref d),none,none,none,none,none]) ?_ ?_
  ·simp! [true_and];exact fun d hd=>⟨s2.upd hd,(Zj (Zk hp2 hd)).trans hp2,hD.same (Zs.updN hd).toN,d,Ne.symm (Zk hD.2 hd),Zh,rfl⟩
  rintro _ H3 ⟨s3,hp3,hD3,d,hdt,hd3,rfl⟩;refine z5 (fun σ' H'=>∃kept u1 u2 u3 u4,Yg ZB H' o t kept/\H' d=some (.dK (txK kept))/\Jy kept/\kept.length<=100/\H' p=some (.lst (N.map fun n=>V.str (T n)))/\Zp Zc H'/\Zu Zg H'/\σ'=[some (V.ref a),some (V.ref p),some (V.ref o),some (V.ref d),u1,u2,u3,u4,none]) ?_ ?_
  ·simp! [Zv4];refine ⟨_,s3.seq hS,fun e he=>?_⟩;have cn:=Zcr ns (some 2) (some 26);have b13:Zp Zc (upd H3 e (HO.lst (cut (ns.map V.int) (some 2) (some 26)))):=(JV b1 s3).put he;have b23:Zu Zg (upd H3 e (HO.lst (cut (ns.map V.int) (some 2) (some 26)))):=(JV b2 s3).put he;have hp4:upd H3 e (HO.lst (cut (ns.map V.int) (some 2) (some 26))) p=_:=(Zj (Zk hp3 he)).trans hp3;have hd4:upd H3 e (HO.lst (cut (ns.map V.int) (some 2) (some 26))) d=_:=(Zj (Zk hd3 he)).trans hd3;have hD4:Yg ZB (upd H3 e (HO.lst (cut (ns.map V.int) (some 2) (some 26)))) o t []:=hD3.same (Zs.updN he).toN;have he4:upd H3 e (HO.lst (cut (ns.map V.int) (some 2) (some 26))) e=some (HO.lst ((cut ns (some 2) (some 26)).map V.int)):=by rw [Zh,Zg9]
   generalize upd H3 e (HO.lst (cut (ns.map V.int) (some 2) (some 26)))=H4 at b13 b23 hp4 hd4 hD4 he4 ⊢
   generalize cut ns (some 2) (some 26)=cs at he4 cn;refine ⟨_,SqL.of he4,fun k σ' H'=>H' e=some (HO.lst (cs.map V.int))/\∃kept u1 u2 u3 u4,Yg ZB H' o t kept/\H' d=some (.dK (txK kept))/\Jy kept/\kept.length<=k/\H' p=some (.lst (N.map fun n=>V.str (T n)))/\Zp Zc H'/\Zu Zg H'/\σ'=[some (V.ref a),some (V.ref p),some (V.ref o),some (V.ref d),u1,u2,u3,u4,none],⟨he4,[],_,_,_,_,hD4,hd4,(fun n x z=>by cases z),Qf _,hp4,b13,b23,rfl⟩,?_,?_,?_⟩
   ·rintro k σ' H' _ ⟨h,_⟩;exact SqL.of h
   ·rintro k x σ' H5 t1 hx ⟨he5,kept,u1,u2,u3,u4,hD5,hd5,ok,lk,hp5,b15,b25,rfl⟩ ht1;rw [Qi] at hx;obtain ⟨cell,ec,rfl⟩:=Qz.mp hx;have hk:=(Qo.mp ec).1;have s6:Zs H5 (upd H5 t1 (HO.tup [V.int (k:Int),V.int cell])):=Zs.updN ht1;have he6:=s6 _ _ he5;have hd6:=s6 _ _ hd5;have hp6:=s6 _ _ hp5;have hD6:=hD5.same s6.toN;have b16:=JV b15 s6;have b26:=JV b25 s6
    generalize upd H5 t1 (HO.tup [V.int (k:Int),V.int cell])=H6 at he6 hd6 hp6 hD6 b16 b26 ⊢
    clear s6 he5 hd5 hp5 hD5 b15 b25 ht1;refine z5 (fun σ' H'=>∃kept' r b y p2,Due kept r kept' b y/\Jy kept'/\kept'.length<=k+1/\r.length<=1000/\Yg ZB H' o t kept/\H' d=some (.dK (txK kept'))/\H' p=some (.lst (N.map fun n=>V.str (T n)))/\H' e=some (HO.lst (cs.map V.int))/\Zp Zc H'/\Zu Zg H'/\H' p2=some (.tup [.str (J2 b),.str y])/\σ'=[some (V.ref a),some (V.ref p),some (V.ref o),some (V.ref d),some (V.int (k:Int)),some (V.int cell),some (V.str (T r)),some (V.ref p2),none]) ?_ ?_
    ·simp! [ZI,ZbI,ZlX];refine fun r r0 r3=>?_;obtain ⟨n,hn,en⟩:=Zbe (fun n=>V.str (T n)) N r0 (by omega);refine ⟨_,_,.inl (SqL.of hp6),en,?_⟩;simp only [L_T];refine ⟨kept,hd6,by omega,ok,gN n hn,fun r kept' b y H7 p0 p2 du ok' lk' rl s7 hp0 h0 h2=>?_⟩;have ho6:∃dx,H6 o=some (.ins ZB dx (fsD t)):=hD6.1;obtain ⟨dx,ho6⟩:=ho6;have kp:∀b u,b≠d->H6 b=some u->H7 b=some u:=fun b u n h=>s7 b u ((Zj n).trans h);have od:o≠d:=fun z=>by rw [z,hd6] at ho6;cases ho6
     have pd:p≠d:=fun z=>by rw [z,hd6] at hp6;cases hp6
     have ed:e≠d:=fun z=>by rw [z,hd6] at he6;cases he6
     have b17:=JV (Zgw (o:=HO.dK (txK kept')) b16 hd6) s7;have b27:=JV (Zgw (o:=HO.dK (txK kept')) b26 hd6) s7;refine ⟨p0,_,rfl,SqT.of h0,rfl,_,_,rfl,_,_,rfl,rfl,kept',r,b,y,p2,du,ok',by omega,rl,⟨⟨dx,kp _ _ od ho6⟩,kp _ _ (Ne.symm hdt) hD6.2⟩,s7 _ _ Zh,kp _ _ pd hp6,kp _ _ ed he6,b17,b27,h2,rfl⟩
    rintro _ H7 ⟨kept',r,b,y,p2,du,ok',lk',rl,hD7,hd7,hp7,he7,b17,b27,h2,rfl⟩;refine z5 (fun σ' H'=>Yg ZB H' o t kept'/\H' d=some (.dK (txK kept'))/\H' p=some (.lst (N.map fun n=>V.str (T n)))/\H' e=some (HO.lst (cs.map V.int))/\Zp Zc H'/\Zu Zg H'/\σ'=[some (V.ref a),some (V.ref p),some (V.ref o),some (V.ref d),some (V.int (k:Int)),some (V.int cell),some (V.str (T r)),some (V.ref p2),none]) ?_ ?_
    ·simp! [Yy,Zcl];refine ⟨t,kept,hD7,by omega,by omega,b17,b27,ne,Zdk hD7.2 du fun H8 p8 s8 hp8 h8=>⟨b,y,h8,?_,?_⟩⟩
     ·exact s8.same.at ((Zj (hD7.ne h2 (by nofun))).trans h2) (by nofun)
     ·exact ⟨hD7.put s8.same,s8.same.at ((Zj hdt).trans hd7) (by nofun),s8.same.at ((Zj (hD7.ne hp7 (by nofun))).trans hp7) (by nofun),s8.same.at ((Zj (hD7.ne he7 (by nofun))).trans he7) (by nofun),s8.b1,s8.b2⟩
    rintro _ H8 ⟨hD8,hd8,hp8,he8,b18,b28,rfl⟩;simp! [ZI,Zak];refine fun r r0 r3=>?_;obtain ⟨n,hn,en⟩:=Zbe (fun n=>V.str (T n)) N r0 (by omega);refine ⟨_,_,.inl (SqL.of hp8),en,?_⟩;simp only [L_T];refine ⟨t,kept',hD8,hd8,by omega,ok',gN n hn,b18,b28,ne,fun H9 s9=>?_⟩;exact ⟨s9.same.at he8 (by nofun),kept',_,_,_,_,hD8.same s9.same,s9.same.at hd8 (by nofun),ok',lk',s9.same.at hp8 (by nofun),s9.b1,s9.b2,rfl⟩
   ·rintro σ' H' ⟨_,kept,u1,u2,u3,u4,hD5,hd5,ok,lk,hp5,b15,b25,rfl⟩;rw [jn] at lk;exact ⟨kept,u1,u2,u3,u4,hD5,hd5,ok,by omega,hp5,b15,b25,rfl⟩
  rintro _ H4 ⟨kept,u1,u2,u3,u4,hD4,hd4,ok,lk,hp4,b14,b24,rfl⟩;simp! [Zv5,Zln];refine ⟨_,SqL.of hp4,fun i σ' H'=>(∃u,σ'=[some (V.ref a),some (V.ref p),some (V.ref o),some (V.ref d),u1,u2,u3,u4,u])/\Yg ZB H' o t kept/\H' d=some (.dK (txK kept))/\H' p=some (.lst (N.map fun n=>V.str (T n)))/\Zp Zc H'/\Zu Zg H',⟨⟨_,rfl⟩,hD4,hd4,hp4,b14,b24⟩,?_,?_,fun σ' H' _=>q H'⟩
  ·rintro i σ' H' _ ⟨_,_,_,h,_⟩;exact SqL.of h
  ·rintro i x σ' H5 hx ⟨⟨u,rfl⟩,hD5,hd5,hp5,b15,b25⟩;rw [Qi] at hx;obtain ⟨n,en,rfl⟩:=Qz.mp hx;have hn:=gN n (QE en);simp! [Zak,zu];have st:∀H',SD Zc Zg H5 H'->Yg ZB H' o t kept/\H' d=some (.dK (txK kept))/\H' p=some (.lst (N.map fun n=>V.str (T n)))/\Zp Zc H'/\Zu Zg H':=fun H' s=>⟨hD5.same s.same,s.same.at hd5 (by nofun),s.same.at hp5 (by nofun),s.b1,s.b2⟩;refine ⟨t,kept,hD5,hd5,by omega,ok,hn,b15,b25,ne,fun H6 s6=>?_⟩;obtain ⟨hD6,hd6,hp6,b16,b26⟩:=st H6 s6;have dg:=DGet.k (k:=.inr (T n)) hd6;rw [qJ] at dg;refine ⟨d,_,rfl,dg,_,rfl,?_⟩
   cases hl:ZU kept n with
   |none=>exact Zdr ⟨⟨_,rfl⟩,hD6,hd6,hp6,b16,b26⟩
   |some x=>
    rw [hl] at dg;refine Zd0 ⟨d,_,rfl,dg,t,kept,hD6,by omega,by rw [L_T,L_T];exact hl,ok,b16,b26,ne,fun H7 s7=>⟨⟨_,rfl⟩,st H7 (s6.trans s7)⟩⟩
end
theorem us0 {us:List Value} (h:us.length=0):us=[]:=match us,h with|[],_=>rfl
theorem us1 {us:List Value} (h:us.length=1):∃x0,us=[x0]:=match us,h with|[x0],_=>⟨x0,rfl⟩
theorem us2 {us:List Value} (h:us.length=2):∃x0 x1,us=[x0,x1]:=match us,h with|[x0,x1],_=>⟨x0,x1,rfl⟩
theorem us3 {us:List Value} (h:us.length=3):∃x0 x1 x2,us=[x0,x1,x2]:=match us,h with|[x0,x1,x2],_=>⟨x0,x1,x2,rfl⟩
theorem us4 {us:List Value} (h:us.length=4):∃x0 x1 x2 x3,us=[x0,x1,x2,x3]:=match us,h with|[x0,x1,x2,x3],_=>⟨x0,x1,x2,x3,rfl⟩
local macro_rules| `(tactic|walk_at "2")=> `(tactic|(intro _ _ _ _ _ _ us hl;obtain ⟨_,_,h⟩:=us2 hl;subst h;exact rfl))| `(tactic|walk_at "3")=> `(tactic|(intro _ _ _ _ _ _ us hl;obtain ⟨_,_,_,h⟩:=us3 hl;subst h;exact rfl))| `(tactic|walk_at "1")=> `(tactic|(intro _ _ _ _ _ _ us hl;obtain ⟨_,h⟩:=us1 hl;subst h;exact rfl))| `(tactic|walk_at "0")=> `(tactic|(intro _ _ _ _ _ _ us hl;obtain h:=us0 hl;subst h;exact rfl))| `(tactic|walk_at "4")=> `(tactic|(intro _ _ _ _ _ _ us hl;obtain ⟨_,_,_,_,h⟩:=us4 hl;subst h;exact rfl))
theorem ZtY {l:VC} {w:jB} {K:Qa} {h:Heap} {mg:Str->Option Value} {fa Jw Zam Zao ZaM qY qZ JY ZaN Zbg Jv Zan ZbO qu YY qp qO qw qt Zbh Zcu Zcv ZaO Zcw Zdn Zbi ZaQ Zdm ZaP Zdl ZeP Jx Zct f_law YX z7 YD z6 zz zj YW Ym ql qm YC Jo JX Zy ZK ZH ZY ZS ZL ZC Zr Zv ZD Zd Zl ZB:jk} (X:K.In h) (G:h.Ns jm mg) (hfa:mg "law"=some (.ref fa))
 {ZCs ZAM ZCt ZAN ZCu ZAO ZCv ZAP ZCw ZAQ ZCx ZAR ZCy ZAS ZCz ZAT ZCA ZAU ZCB ZAV ZxP ZtZ ZxQ Zt0 ZxR Zt1 ZxS Zt2 ZxT Zt3 ZxU Zt4 ZxV Zt5 ZxW Zt6 ZxX Zt7 ZxY Zt8 ZxZ Zt9 Zx0 Zua Zx1 Zub Zx2 Zuc Zx3 Zud Zx4 Zue Zx5 Zuf Zx6 Zug Zx7 Zuh Zx8 Zui Zx9 Zuj Zya Zuk Zyb Zm3 Zyc Zul Zyd Zum Zye Zun Zyf Zuo Zyg Zup Zyh Zuq Zyi Zur Zyj Zus Zyk Zut Zyl Zuu Zym Zuv Zyn Zuw Zyo Zux:Option jk} {ZCX ZCY ZCZ ZC0 ZC1 ZC2 ZC3 ZC4 ZC5 ZC6 Zzz ZzA ZzB ZzC ZzD ZzE ZzF ZzG ZzH ZzI ZzJ ZzK ZzL ZzM ZzN ZzO ZzP ZzQ ZzR ZzS ZzT ZzU ZzV ZzW ZzX ZzY ZzZ Zz0 Zz1 Zz2 Zz3 Zz4 Zz5 Zz6 Zz7 Zz8:Array (Option Value)} {ZCi ZB2 ZBK ZCK ZBz Ztf ZCj ZB3 ZBL ZCL ZBA Ztg ZCk ZB4 ZBM ZCM ZBB Zth ZCl ZB5 ZBN ZCN ZBC ZCm ZB6 ZBO ZCO ZBD Zti ZCn ZB7 ZBP ZCP ZBE Ztj ZCo ZB8 ZBQ ZCQ ZBF Ztk ZCp ZB9 ZBR ZCR ZBG Ztl ZCq ZCa ZBS ZCS ZBH Ztm ZCr ZCb ZBT ZCT ZBI Ztn Zxf Zwg Zvt ZyM ZuU ZnK Zxg Zwh Zvu ZyN ZuV ZnL Zxh Zwi Zvv ZyO ZuW ZnM Zxi Zwj Zvw ZyP ZuX ZnN Zxj Zwk Zvx ZyQ ZuY ZnO Zxk Zwl Zvy ZyR ZuZ ZnP Zxl Zwm Zvz ZyS Zu0 ZnQ Zxm Zwn ZvA ZyT Zu1 ZnR Zxn Zwo ZvB ZyU Zu2 ZnS Zxo Zwp ZvC ZyV Zu3 ZnT Zxp Zwq ZvD ZyW Zu4 ZnU Zxq Zwr ZvE ZyX Zu5 ZnV Zxr Zws ZvF ZyY Zu6 ZnW Zxs Zwt ZvG ZyZ Zu7 ZnX Zxt Zwu ZvH Zy0 Zu8 ZnY Zxu Zwv ZvI Zy1 Zu9 ZnZ Zxv Zww ZvJ Zy2 Zva Zn0 Zxw Zwx ZvK Zy3 Zvb Zn1 Zxx Zwy ZvL Zy4 Zvc Zn2 Zxy Zwz ZvM Zy5 Zvd Zn3 Zxz ZwA ZvN Zy6 Zve Zn4 ZxA ZwB ZvO Zy7 Zvf Zn5 ZxB Zo9 Zoq Zqp Zom Zi9 ZxC ZwC ZvP Zy8 Zvg ZxD ZwD ZvQ Zy9 Zvh Zn6 ZxE ZwE ZvR Zza Zvi Zn7 ZxF ZwF ZvS Zzb Zvj Zn8 ZxG ZwG ZvT Zzc Zvk Zn9 ZxH ZwH ZvU Zzd Zvl Zoa ZxI ZwI ZvV Zze Zvm Zob ZxJ ZwJ ZvW Zzf Zvn Zoc ZxK ZwK ZvX Zzg Zvo Zod ZxL ZwL ZvY Zzh Zvp Zoe ZxM ZwM ZvZ Zzi Zvq Zof ZxN ZwN Zv0 Zzj Zvr Zog ZxO ZwO Zv1 Zzk Zvs Zoh:Value}
 (ZtN:ud K jm "check_place"=some (some (.ref Jw))) (ZwU:K.lookup Jw=some ⟨ZCi,ZCs,.func (ur "check_place" "check_place" (Zx Yw) (Zt Yw) (Zf Yw) .none ZB2 ZBK ZCK ZAM Ztf ZBz),ZCX⟩) (ZuF:jN K Ztf "check_place"=true) (ZrB:jI K (.ref Jw)=true)
 (ZtO:ud K jm "check_gap"=some (some (.ref Zam))) (ZwV:K.lookup Zam=some ⟨ZCj,ZCt,.func (ur "check_gap" "check_gap" (Zx qC) (Zt qC) (Zf qC) .none ZB3 ZBL ZCL ZAN Ztg ZBA),ZCY⟩) (ZuG:jN K Ztg "check_gap"=true) (ZrC:jI K (.ref Zam)=true)
 (ZtP:ud K jm "number_in"=some (some (.ref Zao))) (ZwW:K.lookup Zao=some ⟨ZCk,ZCu,.func (ur "number_in" "number_in" (Zx qE) (Zt qE) (Zf qE) .none ZB4 ZBM ZCM ZAO Zth ZBB),ZCZ⟩) (ZuH:jN K Zth "number_in"=true) (ZrD:jI K (.ref Zao)=true)
 {ZhY Zg:jk} {Zto:List Value}
 (ZtQ:ud K jm "order_of"=some (some (.ref ZaM))) (ZwX:K.lookup ZaM=some ⟨ZCl,ZCv,.func (ur "order_of" "order_of" (Zx Jc) (Zt Jc) (Zf Jc) .none ZB5 ZBN ZCN ZAP (.ref ZhY) ZBC),ZC0⟩) (ZuI:jN K (.ref ZhY) "order_of"=true) (ZrE:jI K (.ref ZaM)=true)
 (qbL:recIn K ZhY "code"=some Zto) (ZDh:Zto[11]?=some (.ref Zg)) (Zrv:QaE K ZhY Zg=true) (Zxb:K.lookup Zg=none)
 (ZtR:ud K jm "comes_before"=some (some (.ref qY))) (ZwY:K.lookup qY=some ⟨ZCm,ZCw,.func (ur "comes_before" "comes_before" (Zx zX) (Zt zX) (Zf zX) .none ZB6 ZBO ZCO ZAQ Zti ZBD),ZC1⟩) (ZuJ:jN K Zti "comes_before"=true) (ZrF:jI K (.ref qY)=true)
 (ZtS:ud K jm "last_letters"=some (some (.ref qZ))) (ZwZ:K.lookup qZ=some ⟨ZCn,ZCx,.func (ur "last_letters" "last_letters" (Zx zY) (Zt zY) (Zf zY) .none ZB7 ZBP ZCP ZAR Ztj ZBE),ZC2⟩) (ZuK:jN K Ztj "last_letters"=true) (ZrG:jI K (.ref qZ)=true)
 (ZtT:ud K jm "letters_of"=some (some (.ref JY))) (Zw0:K.lookup JY=some ⟨ZCo,ZCy,.func (ur "letters_of" "letters_of" (Zx Y1) (Zt Y1) (Zf Y1) .none ZB8 ZBQ ZCQ ZAS Ztk ZBF),ZC3⟩) (ZuL:jN K Ztk "letters_of"=true) (ZrH:jI K (.ref JY)=true)
 (ZtU:ud K jm "read_row"=some (some (.ref ZaN))) (Zw1:K.lookup ZaN=some ⟨ZCp,ZCz,.func (ur "read_row" "read_row" (Zx Jd) (Zt Jd) (Zf Jd) .none ZB9 ZBR ZCR ZAT Ztl ZBG),ZC4⟩) (ZuM:jN K Ztl "read_row"=true) (ZrI:jI K (.ref ZaN)=true)
 (ZtV:ud K jm "is_name"=some (some (.ref Zbg))) (Zw2:K.lookup Zbg=some ⟨ZCq,ZCA,.func (ur "is_name" "is_name" (Zx JH) (Zt JH) (Zf JH) .none ZCa ZBS ZCS ZAU Ztm ZBH),ZC5⟩) (ZuN:jN K Ztm "is_name"=true) (ZrJ:jI K (.ref Zbg)=true)
 (ZtW:ud K jm "check_names"=some (some (.ref Jv))) (Zw3:K.lookup Jv=some ⟨ZCr,ZCB,.func (ur "check_names" "check_names" (Zx Yv) (Zt Yv) (Zf Yv) .none ZCb ZBT ZCT ZAV Ztn ZBI),ZC6⟩) (ZuO:jN K Ztn "check_names"=true) (ZrK:jI K (.ref Jv)=true)
 (Zmz:ud K jm "keep_text"=some (some (.ref Zan))) (Zpi:K.lookup Zan=some ⟨Zxf,ZxP,.func (ur "keep_text" "keep_text" (Zx qD) (Zt qD) (Zf qD) .none Zwg Zvt ZyM ZtZ ZnK ZuU),Zzz⟩) (Zm8:jN K ZnK "keep_text"=true) (Zku:jI K (.ref Zan)=true)
 (ZmA:ud K jm "spaced"=some (some (.ref ZbO))) (Zpj:K.lookup ZbO=some ⟨Zxg,ZxQ,.func (ur "spaced" "spaced" (Zx Zah) (Zt Zah) (Zf Zah) .none Zwh Zvu ZyN Zt0 ZnL ZuV),ZzA⟩) (Zm9:jN K ZnL "spaced"=true) (Zkv:jI K (.ref ZbO)=true)
 (Zj4:ud K jm "answer_keep"=some (some (.ref qu))) (Zpk:K.lookup qu=some ⟨Zxh,ZxR,.func (ur "answer_keep" "answer_keep" (Zx Yt) (Zt Yt) (Zf Yt) .none Zwi Zvv ZyO Zt1 ZnM ZuW),ZzB⟩) (Zna:jN K ZnM "answer_keep"=true) (Zkw:jI K (.ref qu)=true)
 (Zj5:ud K jm "answer_ahead"=some (some (.ref YY))) (Zpl:K.lookup YY=some ⟨Zxi,ZxS,.func (ur "answer_ahead" "answer_ahead" (Zx zW) (Zt zW) (Zf zW) .none Zwj Zvw ZyP Zt2 ZnN ZuX),ZzC⟩) (Znb:jN K ZnN "answer_ahead"=true) (Zkx:jI K (.ref YY)=true)
 (Zj6:ud K jm "answer_drop"=some (some (.ref qp))) (Zpm:K.lookup qp=some ⟨Zxj,ZxT,.func (ur "answer_drop" "answer_drop" (Zx Yr) (Zt Yr) (Zf Yr) .none Zwk Zvx ZyQ Zt3 ZnO ZuY),ZzD⟩) (Znc:jN K ZnO "answer_drop"=true) (Zky:jI K (.ref qp)=true)
 (Zj7:ud K jm "answer_off"=some (some (.ref qO))) (Zpn:K.lookup qO=some ⟨Zxk,ZxU,.func (ur "answer_off" "answer_off" (Zx Y0) (Zt Y0) (Zf Y0) .none Zwl Zvy ZyR Zt4 ZnP ZuZ),ZzE⟩) (Znd:jN K ZnP "answer_off"=true) (Zkz:jI K (.ref qO)=true)
 (Zj8:ud K jm "answer_text"=some (some (.ref qw))) (Zpo:K.lookup qw=some ⟨Zxl,ZxV,.func (ur "answer_text" "answer_text" (Zx Yu) (Zt Yu) (Zf Yu) .none Zwm Zvz ZyS Zt5 ZnQ Zu0),ZzF⟩) (Zne:jN K ZnQ "answer_text"=true) (ZkA:jI K (.ref qw)=true)
 (Zj9:ud K jm "answer_find"=some (some (.ref qt))) (Zpp:K.lookup qt=some ⟨Zxm,ZxW,.func (ur "answer_find" "answer_find" (Zx Ys) (Zt Ys) (Zf Ys) .none Zwn ZvA ZyT Zt6 ZnR Zu1),ZzG⟩) (Znf:jN K ZnR "answer_find"=true) (ZkB:jI K (.ref qt)=true)
 (ZmB:ud K jm "_law_cell_at"=some (some (.ref Zbh))) (Zpq:K.lookup Zbh=some ⟨Zxn,ZxX,.func (ur "_law_cell_at" "_law_cell_at" (Zx JI) (Zt JI) (Zf JI) .none Zwo ZvB ZyU Zt7 ZnS Zu2),ZzH⟩) (Zng:jN K ZnS "_law_cell_at"=true) (ZkC:jI K (.ref Zbh)=true)
 (ZmC:ud K jm "_law_mixed"=some (some (.ref Zcu))) (Zpr:K.lookup Zcu=some ⟨Zxo,ZxY,.func (ur "_law_mixed" "_law_mixed" (Zx ZaW) (Zt ZaW) (Zf ZaW) .none Zwp ZvC ZyV Zt8 ZnT Zu3),ZzI⟩) (Znh:jN K ZnT "_law_mixed"=true) (ZkD:jI K (.ref Zcu)=true)
 (ZmD:ud K jm "_law_signs"=some (some (.ref Zcv))) (Zps:K.lookup Zcv=some ⟨Zxp,ZxZ,.func (ur "_law_signs" "_law_signs" (Zx ZaX) (Zt ZaX) (Zf ZaX) .none Zwq ZvD ZyW Zt9 ZnU Zu4),ZzJ⟩) (Zni:jN K ZnU "_law_signs"=true) (ZkE:jI K (.ref Zcv)=true)
 (ZmE:ud K jm "_law_names_by"=some (some (.ref ZaO))) (Zpt:K.lookup ZaO=some ⟨Zxq,Zx0,.func (ur "_law_names_by" "_law_names_by" (Zx Je) (Zt Je) (Zf Je) .none Zwr ZvE ZyX Zua ZnV Zu5),ZzK⟩) (Znj:jN K ZnV "_law_names_by"=true) (ZkF:jI K (.ref ZaO)=true)
 (ZmF:ud K jm "_law_which"=some (some (.ref Zcw))) (Zpu:K.lookup Zcw=some ⟨Zxr,Zx1,.func (ur "_law_which" "_law_which" (Zx ZaY) (Zt ZaY) (Zf ZaY) .none Zws ZvF ZyY Zub ZnW Zu6),ZzL⟩) (Znk:jN K ZnW "_law_which"=true) (ZkG:jI K (.ref Zcw)=true)
 (ZmG:ud K jm "_law_said"=some (some (.ref Zdn))) (Zpv:K.lookup Zdn=some ⟨Zxs,Zx2,.func (ur "_law_said" "_law_said" (Zx ZbG) (Zt ZbG) (Zf ZbG) .none Zwt ZvG ZyZ Zuc ZnX Zu7),ZzM⟩) (Znl:jN K ZnX "_law_said"=true) (ZkH:jI K (.ref Zdn)=true)
 (ZmH:ud K jm "_law_is_said"=some (some (.ref Zbi))) (Zpw:K.lookup Zbi=some ⟨Zxt,Zx3,.func (ur "_law_is_said" "_law_is_said" (Zx JJ) (Zt JJ) (Zf JJ) .none Zwu ZvH Zy0 Zud ZnY Zu8),ZzN⟩) (Znm:jN K ZnY "_law_is_said"=true) (ZkI:jI K (.ref Zbi)=true)
 (ZmI:ud K jm "_law_signs_by"=some (some (.ref ZaQ))) (Zpx:K.lookup ZaQ=some ⟨Zxu,Zx4,.func (ur "_law_signs_by" "_law_signs_by" (Zx Jg) (Zt Jg) (Zf Jg) .none Zwv ZvI Zy1 Zue ZnZ Zu9),ZzO⟩) (Znn:jN K ZnZ "_law_signs_by"=true) (ZkJ:jI K (.ref ZaQ)=true)
 (ZmJ:ud K jm "_law_kept"=some (some (.ref Zdm))) (Zpy:K.lookup Zdm=some ⟨Zxv,Zx5,.func (ur "_law_kept" "_law_kept" (Zx ZbF) (Zt ZbF) (Zf ZbF) .none Zww ZvJ Zy2 Zuf Zn0 Zva),ZzP⟩) (Zno:jN K Zn0 "_law_kept"=true) (ZkK:jI K (.ref Zdm)=true)
 (ZmK:ud K jm "_law_odd_name"=some (some (.ref ZaP))) (Zpz:K.lookup ZaP=some ⟨Zxw,Zx6,.func (ur "_law_odd_name" "_law_odd_name" (Zx Jf) (Zt Jf) (Zf Jf) .none Zwx ZvK Zy3 Zug Zn1 Zvb),ZzQ⟩) (Znp:jN K Zn1 "_law_odd_name"=true) (ZkL:jI K (.ref ZaP)=true)
 (ZmL:ud K jm "_law_deed"=some (some (.ref Zdl))) (ZpA:K.lookup Zdl=some ⟨Zxx,Zx7,.func (ur "_law_deed" "_law_deed" (Zx ZbE) (Zt ZbE) (Zf ZbE) .none Zwy ZvL Zy4 Zuh Zn2 Zvc),ZzR⟩) (Znq:jN K Zn2 "_law_deed"=true) (ZkM:jI K (.ref Zdl)=true)
 (ZmM:ud K jm "_law_met"=some (some (.ref ZeP))) (ZpB:K.lookup ZeP=some ⟨Zxy,Zx8,.func (ur "_law_met" "_law_met" (Zx ZcC) (Zt ZcC) (Zf ZcC) .none Zwz ZvM Zy5 Zui Zn3 Zvd),ZzS⟩) (Znr:jN K Zn3 "_law_met"=true) (ZkN:jI K (.ref ZeP)=true)
 (ZmN:ud K jm "_law_places_told"=some (some (.ref Jx))) (ZpC:K.lookup Jx=some ⟨Zxz,Zx9,.func (ur "_law_places_told" "_law_places_told" (Zx Yx) (Zt Yx) (Zf Yx) .none ZwA ZvN Zy6 Zuj Zn4 Zve),ZzT⟩) (Zns:jN K Zn4 "_law_places_told"=true) (ZkO:jI K (.ref Jx)=true)
 (ZmO:ud K jm "_law_asked"=some (some (.ref Zct))) (ZpD:K.lookup Zct=some ⟨ZxA,Zya,.func (ur "_law_asked" "_law_asked" (Zx ZaV) (Zt ZaV) (Zf ZaV) .none ZwB ZvO Zy7 Zuk Zn5 Zvf),ZzU⟩) (Znt:jN K Zn5 "_law_asked"=true) (ZkP:jI K (.ref Zct)=true)
 (ZmP:ud K jm "law"=some (some (.ref f_law))) (ZpE:K.lookup f_law=some ⟨ZxB,Zyb,.func (ur "law" "law" (Zx ZdO) (Zt ZdO) (Zf ZdO) .none Zo9 Zoq Zqp Zm3 Zi9 Zom),ZzV⟩) (Znu:jN K Zi9 "law"=true) (Zpa:jI K (.ref f_law)=true)
 {Zff Zc:jk} {Zoo:List Value}
 (ZmQ:jQ K (.ref Zd) "__init__"=some (some (.ref YX))) (ZoR:Qaj K (.ref YX)=true) (ZpF:K.lookup YX=some ⟨ZxC,Zyc,.func (ur "__init__" "Letters.__init__" (Zx zV) (Zt zV) (Zf zV) .none ZwC ZvP Zy8 Zul (.ref Zff) Zvg),ZzW⟩) (Znv:jN K (.ref Zff) "Letters.__init__"=true) (Zpb:jI K (.ref YX)=true)
 (qbj:recIn K Zff "code"=some Zoo) (ZtG:Zoo[11]?=some (.ref Zc)) (Zkp:QaE K Zff Zc=true) (Zp6:K.lookup Zc=none)
 (ZmR:jQ K (.ref Zd) "letter"=some (some (.ref z7))) (ZoS:Qaj K (.ref z7)=true) (ZpG:K.lookup z7=some ⟨ZxD,Zyd,.func (ur "letter" "Letters.letter" (Zx zm) (Zt zm) (Zf zm) .none ZwD ZvQ Zy9 Zum Zn6 Zvh),ZzX⟩) (Znw:jN K Zn6 "Letters.letter"=true) (ZkQ:jI K (.ref z7)=true)
 (ZmS:jQ K (.ref Zd) "first"=some (some (.ref YD))) (ZoT:Qaj K (.ref YD)=true) (ZpH:K.lookup YD=some ⟨ZxE,Zye,.func (ur "first" "Letters.first" (Zx zF) (Zt zF) (Zf zF) .none ZwE ZvR Zza Zun Zn7 Zvi),ZzY⟩) (Znx:jN K Zn7 "Letters.first"=true) (ZkR:jI K (.ref YD)=true)
 (ZmT:jQ K (.ref Zd) "before"=some (some (.ref z6))) (ZoU:Qaj K (.ref z6)=true) (ZpI:K.lookup z6=some ⟨ZxF,Zyf,.func (ur "before" "Letters.before" (Zx zl) (Zt zl) (Zf zl) .none ZwF ZvS Zzb Zuo Zn8 Zvj),ZzZ⟩) (Zny:jN K Zn8 "Letters.before"=true) (ZkS:jI K (.ref z6)=true)
 (ZmU:jQ K (.ref Zd) "row_with"=some (some (.ref zz))) (ZoV:Qaj K (.ref zz)=true) (ZpJ:K.lookup zz=some ⟨ZxG,Zyg,.func (ur "row_with" "Letters.row_with" (Zx za) (Zt za) (Zf za) .none ZwG ZvT Zzc Zup Zn9 Zvk),Zz0⟩) (Znz:jN K Zn9 "Letters.row_with"=true) (ZkT:jI K (.ref zz)=true)
 (ZmV:jQ K (.ref Zd) "rows_with"=some (some (.ref zj))) (ZoW:Qaj K (.ref zj)=true) (ZpK:K.lookup zj=some ⟨ZxH,Zyh,.func (ur "rows_with" "Letters.rows_with" (Zx Z5) (Zt Z5) (Zf Z5) .none ZwH ZvU Zzd Zuq Zoa Zvl),Zz1⟩) (ZnA:jN K Zoa "Letters.rows_with"=true) (ZkU:jI K (.ref zj)=true)
 (ZmW:jQ K (.ref Zd) "back"=some (some (.ref YW))) (ZoX:Qaj K (.ref YW)=true) (ZpL:K.lookup YW=some ⟨ZxI,Zyi,.func (ur "back" "Letters.back" (Zx zU) (Zt zU) (Zf zU) .none ZwI ZvV Zze Zur Zob Zvm),Zz2⟩) (ZnB:jN K Zob "Letters.back"=true) (ZkV:jI K (.ref YW)=true)
 {dT_m_Finder_init:jk} {qc_m_Finder_init:Value} {qo_m_Finder_init:Option jk} {qbM:Nat} {qs_m_Finder_init:Array (Option Value)} {qt_m_Finder_init:Tok}
 (Zka:jQ K (.ref Zl) "__init__"=some (some (.ref Ym))) (Zks:Qaj K (.ref Ym)=true) (ZpM:K.lookup Ym=some ⟨ZxJ,Zyj,.func (ur "__init__" "Finder.__init__" (Zx Yo) (Zt Yo) (Zf Yo) (.ref dT_m_Finder_init) ZwJ ZvW Zzf Zus Zoc Zvn),Zz3⟩) (ZnC:jN K Zoc "Finder.__init__"=true) (Zpc:jI K (.ref Ym)=true)
 (qa3:K.lookup dT_m_Finder_init=some ⟨qc_m_Finder_init,qo_m_Finder_init,.seq #[.int 4 qt_m_Finder_init] qbM,qs_m_Finder_init⟩)
 (ZmX:jQ K (.ref Zl) "rows"=some (some (.ref ql))) (ZoY:Qaj K (.ref ql)=true) (ZpN:K.lookup ql=some ⟨ZxK,Zyk,.func (ur "rows" "Finder.rows" (Zx Yp) (Zt Yp) (Zf Yp) .none ZwK ZvX Zzg Zut Zod Zvo),Zz4⟩) (ZnD:jN K Zod "Finder.rows"=true) (ZkW:jI K (.ref ql)=true)
 (ZmY:jQ K (.ref Zl) "walk"=some (some (.ref qm))) (ZoZ:Qaj K (.ref qm)=true) (ZpO:K.lookup qm=some ⟨ZxL,Zyl,.func (ur "walk" "Finder.walk" (Zx Yq) (Zt Yq) (Zf Yq) .none ZwL ZvY Zzh Zuu Zoe Zvp),Zz5⟩) (ZnE:jN K Zoe "Finder.walk"=true) (ZkX:jI K (.ref qm)=true)
 (ZmZ:jQ K (.ref Zl) "places"=some (some (.ref YC))) (Zo0:Qaj K (.ref YC)=true) (ZpP:K.lookup YC=some ⟨ZxM,Zym,.func (ur "places" "Finder.places" (Zx zE) (Zt zE) (Zf zE) .none ZwM ZvZ Zzi Zuv Zof Zvq),Zz6⟩) (ZnF:jN K Zof "Finder.places"=true) (ZkY:jI K (.ref YC)=true)
 (Zm0:jQ K (.ref ZB) "__init__"=some (some (.ref Jo))) (Zo1:Qaj K (.ref Jo)=true) (ZpQ:K.lookup Jo=some ⟨ZxN,Zyn,.func (ur "__init__" "Desk.__init__" (Zx qB) (Zt qB) (Zf qB) .none ZwN Zv0 Zzj Zuw Zog Zvr),Zz7⟩) (ZnG:jN K Zog "Desk.__init__"=true) (Zpd:jI K (.ref Jo)=true)
 (Zm1:jQ K (.ref ZB) "say"=some (some (.ref JX))) (Zo2:Qaj K (.ref JX)=true) (ZpR:K.lookup JX=some ⟨ZxO,Zyo,.func (ur "say" "Desk.say" (Zx Jb) (Zt Jb) (Zf Jb) .none ZwO Zv1 Zzk Zux Zoh Zvs),Zz8⟩) (ZnH:jN K Zoh "Desk.say"=true) (ZkZ:jI K (.ref JX)=true)
 (qa7:ud K jm "BackError"=some (some (.ref Zy)))
 (qa8:QaD K Zy VE "ValueError.__new__"=true)
 (qbk:ud K jm "NoOrder"=some (some (.ref ZK)))
 (qbb:ud K jm "NoPlace"=some (some (.ref ZH)))
 (qbl:QaD K ZH VE "ValueError.__new__"=true)
 (qby:ud K jm "NoGap"=some (some (.ref ZY)))
 (qbN:QaD K ZY VE "ValueError.__new__"=true)
 (qbt:ud K jm "NoText"=some (some (.ref ZS)))
 (qbm:ud K jm "NoTimes"=some (some (.ref ZL)))
 (qbz:ud K jm "Empty"=some (some (.ref ZC)))
 (qbA:QaD K ZC VE "ValueError.__new__"=true)
 (g1_Empty:jQ K (.ref ZC) "__getattribute__"=some (some (.builtin "BaseException.__getattribute__"))) (g2_Empty:jQ K (.ref ZC) "__getattr__"=some none) (g3_Empty:jQ K (.ref ZC) "__class__"=some (some (.builtin "object.__class__")))
 (g4_Empty:v5 K (.builtin "object.__class__") "__get__"=some (some (.builtin "getset_descriptor.__get__"))) (g5_Empty:Qat K (.builtin "object.__class__")=some true) (g6_Empty:vm K ZC (.type "object")=some true) (g7_Empty:vm K ZC (.type "BaseException")=some true)
 (qbO:jA K (.ref ZC) (.type "ValueError")=some true)
 (qbc:ud K jm "TooLong"=some (some (.ref Zr)))
 (qbd:QaD K Zr VE "ValueError.__new__"=true)
 (g1_TooLong:jQ K (.ref Zr) "__getattribute__"=some (some (.builtin "BaseException.__getattribute__"))) (g2_TooLong:jQ K (.ref Zr) "__getattr__"=some none) (g3_TooLong:jQ K (.ref Zr) "__class__"=some (some (.builtin "object.__class__")))
 (g4_TooLong:v5 K (.builtin "object.__class__") "__get__"=some (some (.builtin "getset_descriptor.__get__"))) (g5_TooLong:Qat K (.builtin "object.__class__")=some true) (g6_TooLong:vm K Zr (.type "object")=some true) (g7_TooLong:vm K Zr (.type "BaseException")=some true)
 (qbn:jA K (.ref Zr) (.type "ValueError")=some true)
 (qbe:ud K jm "NoName"=some (some (.ref Zv)))
 (qbf:QaD K Zv VE "ValueError.__new__"=true)
 (g1_NoName:jQ K (.ref Zv) "__getattribute__"=some (some (.builtin "BaseException.__getattribute__"))) (g2_NoName:jQ K (.ref Zv) "__getattr__"=some none) (g3_NoName:jQ K (.ref Zv) "__class__"=some (some (.builtin "object.__class__")))
 (g4_NoName:v5 K (.builtin "object.__class__") "__get__"=some (some (.builtin "getset_descriptor.__get__"))) (g5_NoName:Qat K (.builtin "object.__class__")=some true) (g6_NoName:vm K Zv (.type "object")=some true) (g7_NoName:vm K Zv (.type "BaseException")=some true)
 (qbu:jA K (.ref Zv) (.type "ValueError")=some true)
 (qbg:ud K jm "NoRow"=some (some (.ref ZD)))
 (qbh:QaD K ZD VE "ValueError.__new__"=true)
 (g1_NoRow:jQ K (.ref ZD) "__getattribute__"=some (some (.builtin "BaseException.__getattribute__"))) (g2_NoRow:jQ K (.ref ZD) "__getattr__"=some none) (g3_NoRow:jQ K (.ref ZD) "__class__"=some (some (.builtin "object.__class__")))
 (g4_NoRow:v5 K (.builtin "object.__class__") "__get__"=some (some (.builtin "getset_descriptor.__get__"))) (g5_NoRow:Qat K (.builtin "object.__class__")=some true) (g6_NoRow:vm K ZD (.type "object")=some true) (g7_NoRow:vm K ZD (.type "BaseException")=some true)
 (qbP:jA K (.ref ZD) (.type "ValueError")=some true)
 (qaj:vm K ZC (.ref Zy)=some true)
 (qaz:jA K (.ref ZC) (.ref ZK)=some false)
 (qaA:jA K (.ref ZC) (.ref ZH)=some false)
 (qaU:jA K (.ref ZC) (.ref ZY)=some false)
 (qaN:jA K (.ref ZC) (.ref ZS)=some false)
 (qaB:jA K (.ref ZC) (.ref ZL)=some false)
 (qaV:jA K (.ref ZC) (.ref ZC)=some true)
 (qaC:jA K (.ref ZC) (.ref Zr)=some false)
 (qaO:jA K (.ref ZC) (.ref Zv)=some false)
 (qaW:jA K (.ref ZC) (.ref ZD)=some false)
 (qah:vm K Zr (.ref Zy)=some true)
 (qak:jA K (.ref Zr) (.ref ZK)=some false)
 (qal:jA K (.ref Zr) (.ref ZH)=some false)
 (qaD:jA K (.ref Zr) (.ref ZY)=some false)
 (qat:jA K (.ref Zr) (.ref ZS)=some false)
 (qam:jA K (.ref Zr) (.ref ZL)=some false)
 (qaE:jA K (.ref Zr) (.ref ZC)=some false)
 (qan:jA K (.ref Zr) (.ref Zr)=some true)
 (qau:jA K (.ref Zr) (.ref Zv)=some false)
 (qaF:jA K (.ref Zr) (.ref ZD)=some false)
 (qai:vm K Zv (.ref Zy)=some true)
 (qav:jA K (.ref Zv) (.ref ZK)=some false)
 (qaw:jA K (.ref Zv) (.ref ZH)=some false)
 (qaP:jA K (.ref Zv) (.ref ZY)=some false)
 (qaG:jA K (.ref Zv) (.ref ZS)=some false)
 (qax:jA K (.ref Zv) (.ref ZL)=some false)
 (qaQ:jA K (.ref Zv) (.ref ZC)=some false)
 (qay:jA K (.ref Zv) (.ref Zr)=some false)
 (qaH:jA K (.ref Zv) (.ref Zv)=some true)
 (qaR:jA K (.ref Zv) (.ref ZD)=some false)
 (qao:vm K ZD (.ref Zy)=some true)
 (qaI:jA K (.ref ZD) (.ref ZK)=some false)
 (qaJ:jA K (.ref ZD) (.ref ZH)=some false)
 (qaX:jA K (.ref ZD) (.ref ZY)=some false)
 (qaS:jA K (.ref ZD) (.ref ZS)=some false)
 (qaK:jA K (.ref ZD) (.ref ZL)=some false)
 (qaY:jA K (.ref ZD) (.ref ZC)=some false)
 (qaL:jA K (.ref ZD) (.ref Zr)=some false)
 (qaT:jA K (.ref ZD) (.ref Zv)=some false)
 (qaZ:jA K (.ref ZD) (.ref ZD)=some true)
 (qbE:ud K jm "Letters"=some (some (.ref Zd))) (qbF:vR K Zd Vt=true) (qbG:v9 K Zd=true) (qbH:Qan K Zd=true) (qbI:jQ K (.ref Zd) "__setattr__"=some (some (.builtin "object.__setattr__"))) (qbJ:makesIn K Zd=true) (qbK:jI K (.ref Zd)=true)
 (qad:jQ K (.ref Zd) "column"=some none)
 (qap:jQ K (.ref Zd) "forths"=some none)
 (qaq:jQ K (.ref Zd) "home"=some none)
 (qac:jQ K (.ref Zd) "last"=some none)
 (qag:jQ K (.ref Zd) "totals"=some none)
 (qbv:ud K jm "Finder"=some (some (.ref Zl))) (qbQ:vR K Zl Vt=true) (qbR:v9 K Zl=true) (qbS:Qan K Zl=true) (qbT:jQ K (.ref Zl) "__setattr__"=some (some (.builtin "object.__setattr__"))) (qbw:makesIn K Zl=true) (qbx:jI K (.ref Zl)=true)
 (qa0:jQ K (.ref Zl) "gap"=some none)
 (qae:jQ K (.ref Zl) "held"=some none)
 (qaf:jQ K (.ref Zl) "known"=some none)
 (qca:ud K jm "Desk"=some (some (.ref ZB))) (qcb:vR K ZB Vt=true) (qcc:v9 K ZB=true) (qcd:Qan K ZB=true) (qce:jQ K (.ref ZB) "__setattr__"=some (some (.builtin "object.__setattr__"))) (qcf:makesIn K ZB=true) (qcg:jI K (.ref ZB)=true)
 (qas:jQ K (.ref ZB) "texts"=some none)
 {qb5:Tok} (qbi:ud K jm "MOST_SIGNS"=some (some (.int 300 qb5)))
 {qb8:Tok} (qbr:ud K jm "NO_LETTER"=some (some (.str "\n" qb8)))
 {Yc:jk} (qch:ud K jm "FORMS"=some (some (.ref Yc)))
 (qbB:Ze8 K w.params Yc Zcg)
 {Z4:jk} (qbU:ud K jm "KEEPING"=some (some (.ref Z4)))
 (qbo:Zq3 K Z4 ZbX)
 {zf:jk} (qbV:ud K jm "ANSWERS"=some (some (.ref zf)))
 {qbZ qb0 qbW qb1 qbX qbY qb2 qb6 qb3:jk}
 (qbp:Ze8 K w.params zf [("keep",.ref qu),("load",.ref qbZ),("ahead",.ref YY),("drop",.ref qp),("off",.ref qO),("text",.ref qw),("pack",.ref qb0),("count",.ref qbW),("find",.ref qt),("near",.ref qb1),("often",.ref qbX),("kinds",.ref qbY),("lone",.ref qb2),("cut",.ref qb6),("both",.ref qb3)])
 (qbs:ud K jm "ValueError"=some none)
 (z_dict:ud K jm "dict"=some none)
 (z_enumerate:ud K jm "enumerate"=some none)
 (z_int:ud K jm "int"=some none)
 (z_isinstance:ud K jm "isinstance"=some none)
 (z_len:ud K jm "len"=some none)
 (z_list:ud K jm "list"=some none)
 (z_range:ud K jm "range"=some none)
 (z_reversed:ud K jm "reversed"=some none)
 (z_set:ud K jm "set"=some none)
 (z_sorted:ud K jm "sorted"=some none)
 (z_str:ud K jm "str"=some none)
 (z_sum:ud K jm "sum"=some none)
 (z_zip:ud K jm "zip"=some none)
 {ts:List jk} (hts:∀p∈ts,p=Zg\/p=Zc)
 :(∀p∈ts,K.lookup p=none/\∃c,QaE K c p=true)/\∃fd:j7,(∀(s:jj) (v:Value),Qam s fd ⟨[v],[]⟩ [("_law_script",v)])/\∀base:Heap,K.In base->base.Ns jm mg->ZAs mg base->Z0 l.prog w K mg base CX0 13 fa fd Zj1 (ZhH K Zg Zc):=by
 have e:=hfa.symm.trans (jY X G ZmP);cases e;have B:Bn mg:=⟨uv X G qbs,uv X G z_dict,uv X G z_enumerate,uv X G z_int,uv X G z_isinstance,uv X G z_len,uv X G z_list,uv X G z_range,uv X G z_reversed,uv X G z_set,uv X G z_sorted,uv X G z_str,uv X G z_sum,uv X G z_zip⟩;have ER:Er K mg ⟨Zy,ZK,ZH,ZY,ZS,ZL,ZC,Zr,Zv,ZD⟩:=⟨jY X G qa7,qa8,jY X G qbk,jY X G qbb,qbl,jY X G qby,qbN,jY X G qbt,jY X G qbm,jY X G qbz,qbA,⟨g1_Empty,g2_Empty,g3_Empty,g4_Empty,g5_Empty,g6_Empty,g7_Empty⟩,qbO,Zhj qaj,qaz,qaA,qaU,qaN,qaB,qaV,qaC,qaO,qaW,jY X G qbc,qbd,⟨g1_TooLong,g2_TooLong,g3_TooLong,g4_TooLong,g5_TooLong,g6_TooLong,g7_TooLong⟩,qbn,Zhj qah,qak,qal,qaD,qat,qam,qaE,qan,qau,qaF,jY X G qbe,qbf,⟨g1_NoName,g2_NoName,g3_NoName,g4_NoName,g5_NoName,g6_NoName,g7_NoName⟩,qbu,Zhj qai,qav,qaw,qaP,qaG,qax,qaQ,qay,qaH,qaR,jY X G qbg,qbh,⟨g1_NoRow,g2_NoRow,g3_NoRow,g4_NoRow,g5_NoRow,g6_NoRow,g7_NoRow⟩,qbP,Zhj qao,qaI,qaJ,qaX,qaS,qaK,qaY,qaL,qaT,qaZ⟩;have CF:Cf K Zd Zl ZB:=⟨⟨qbF,qbG,qbH,qbI⟩,qad,qap,qaq,qac,qag,⟨qbQ,qbR,qbS,qbT⟩,qa0,qae,qaf,⟨qcb,qcc,qcd,qce⟩,qas⟩;have GC:Gc mg:=⟨⟨_,jY X G qbi⟩,⟨_,jY X G qbr⟩⟩;have TP:Tp K w.params mg Yc Z4 zf:=⟨jY X G qch,qbB,jY X G qbU,qbo,jY X G qbV,Zsv qbp (by intro p hp;simp only [Zfu,jK,QG,or_false] at hp;rcases hp with rfl|rfl|rfl|rfl|rfl|rfl;exact ⟨_,jY X G Zj4,by kernel_rfl⟩;exact ⟨_,jY X G Zj5,by kernel_rfl⟩;exact ⟨_,jY X G Zj6,by kernel_rfl⟩;exact ⟨_,jY X G Zj7,by kernel_rfl⟩;exact ⟨_,jY X G Zj8,by kernel_rfl⟩;exact ⟨_,jY X G Zj9,by kernel_rfl⟩)⟩;have ZAv:=ZQ (st:=Yw) ZwU ZuF ZrB;have ZAw:=ZQ (st:=qC) ZwV ZuG ZrC;have ZAx:=ZQ (st:=qE) ZwW ZuH ZrD;have ZAy:=ZQ (st:=Jc) ZwX ZuI ZrE;have ZAA:=ZQ (st:=zX) ZwY ZuJ ZrF;have ZAB:=ZQ (st:=zY) ZwZ ZuK ZrG;have ZAC:=ZQ (st:=Y1) Zw0 ZuL ZrH;have ZAD:=ZQ (st:=Jd) Zw1 ZuM ZrI;have ZAE:=ZQ (st:=JH) Zw2 ZuN ZrJ;have ZAF:=ZQ (st:=Yv) Zw3 ZuO ZrK;have ZsD:=ZQ (st:=qD) Zpi Zm8 Zku;have ZsE:=ZQ (st:=Zah) Zpj Zm9 Zkv;have ZsF:=ZQ (st:=Yt) Zpk Zna Zkw;have ZsG:=ZQ (st:=zW) Zpl Znb Zkx;have ZsH:=ZQ (st:=Yr) Zpm Znc Zky;have ZsI:=ZQ (st:=Y0) Zpn Znd Zkz;have ZsJ:=ZQ (st:=Yu) Zpo Zne ZkA;have ZsK:=ZQ (st:=Ys) Zpp Znf ZkB;have ZsL:=ZQ (st:=JI) Zpq Zng ZkC;have ZsM:=ZQ (st:=ZaW) Zpr Znh ZkD;have ZsN:=ZQ (st:=ZaX) Zps Zni ZkE;have ZsO:=ZQ (st:=Je) Zpt Znj ZkF;have ZsP:=ZQ (st:=ZaY) Zpu Znk ZkG;have ZsQ:=ZQ (st:=ZbG) Zpv Znl ZkH;have ZsR:=ZQ (st:=JJ) Zpw Znm ZkI;have ZsS:=ZQ (st:=Jg) Zpx Znn ZkJ;have ZsT:=ZQ (st:=ZbF) Zpy Zno ZkK;have ZsU:=ZQ (st:=Jf) Zpz Znp ZkL;have ZsV:=ZQ (st:=ZbE) ZpA Znq ZkM;have ZsW:=ZQ (st:=ZcC) ZpB Znr ZkN;have ZsX:=ZQ (st:=Yx) ZpC Zns ZkO;have ZsY:=ZQ (st:=ZaV) ZpD Znt ZkP;have ZAz:=ZQ (st:=ZdO) ZpE Znu Zpa;have ZsZ:=ZQ (st:=zV) ZpF Znv Zpb;have Zs0:=ZQ (st:=zm) ZpG Znw ZkQ;have Zs1:=ZQ (st:=zF) ZpH Znx ZkR;have Zs2:=ZQ (st:=zl) ZpI Zny ZkS;have Zs3:=ZQ (st:=za) ZpJ Znz ZkT;have Zs4:=ZQ (st:=Z5) ZpK ZnA ZkU;have Zs5:=ZQ (st:=zU) ZpL ZnB ZkV;have ZjZ:=Zrt (st:=Yo) ZpM ZnC Zpc;have Zs6:=ZQ (st:=Yp) ZpN ZnD ZkW;have Zs7:=ZQ (st:=Yq) ZpO ZnE ZkX;have Zs8:=ZQ (st:=zE) ZpP ZnF ZkY;have Zs9:=ZQ (st:=qB) ZpQ ZnG Zpd
 have Zta:=ZQ (st:=Jb) ZpR ZnH ZkZ;refine ⟨fun p hp=>?_,?_⟩
 ·rcases hts p hp with rfl|rfl
  ·exact ⟨Zxb,_,Zrv⟩
  ·exact ⟨Zp6,_,Zkp⟩
 refine ⟨ur "law" "law" (Zx ZdO) (Zt ZdO) (Zf ZdO) .none Zo9 Zoq Zqp Zm3 Zi9 Zom,fun s v=>.of_eq rfl,fun base kb nb bm=>?_⟩;have LM_p_order_of:Lm mg base ZhY Zg:=⟨codeHd_of_K kb Zrv,bm⟩;have LM_m_Letters_init:Lm mg base Zff Zc:=⟨codeHd_of_K kb Zkp,bm⟩;have ZA4:=ZsL.binds (ps:=Zas) (by walk_at "2");have Zb7:Fn l.prog w K mg base 1 "_law_cell_at" Zas (J6 K):=⟨⟨Zbh,_,Zhm ZsL B,jY X G ZmB,ZkC,ZA4⟩⟩;have ZA5:=ZsM.binds (ps:=qA) (by walk_at "3");have ZF:Fn l.prog w K mg base 1 "_law_mixed" qA (ZI K):=⟨⟨Zcu,_,Zjz ZsM,jY X G ZmC,ZkD,ZA5⟩⟩;have ZA7:=ZsO.binds (ps:=JT) (by walk_at "1");have ZbN:Fn l.prog w K mg base 2 "_law_names_by" JT (Ju K):=⟨⟨ZaO,_,Zgg ZsO B ZF,jY X G ZmE,ZkF,ZA7⟩⟩;have ZA8:=ZsP.binds (ps:=Zbx) (by walk_at "1");have ZdV:FnZ l.prog w K mg base 1 "_law_which" Zbx (Zbb K ⟨Zy,ZK,ZH,ZY,ZS,ZL,ZC,Zr,Zv,ZD⟩):=⟨⟨Zcw,_,ZjB ZsP B ER,jY X G ZmF,ZkG,ZA8⟩⟩;have ZDr:=ZAx.binds (ps:=Jl) (by walk_at "1");have Zbp:FnX l.prog w K mg base 1 "number_in" Jl (qS K ⟨Zy,ZK,ZH,ZY,ZS,ZL,ZC,Zr,Zv,ZD⟩):=⟨⟨Zao,_,ZfG ZAx B ER,jY X G ZtP,ZrD,ZDr⟩⟩;have ZDw:=ZAD.binds (ps:=JS) (by walk_at "1");have ZbM:FnX l.prog w K mg base 2 "read_row" JS (Jt K ⟨Zy,ZK,ZH,ZY,ZS,ZL,ZC,Zr,Zv,ZD⟩):=⟨⟨ZaN,_,Zgf ZAD B ER TP Zbp,jY X G ZtU,ZrI,ZDw⟩⟩;have ZDx:=ZAE.binds (ps:=Zar) (by walk_at "1");have Zb6:Fn l.prog w K mg base 1 "is_name" Zar (J4 K):=⟨⟨Zbg,_,Zhl ZAE B,jY X G ZtV,ZrJ,ZDx⟩⟩;have ZDy:=ZAF.binds (ps:=qh) (by walk_at "2");have ZaB:FnX l.prog w K mg base 2 "check_names" qh (Y5 K ⟨Zy,ZK,ZH,ZY,ZS,ZL,ZC,Zr,Zv,ZD⟩):=⟨⟨Jv,_,Zeb ZAF ER TP Zb6,jY X G ZtW,ZrK,ZDy⟩⟩;have ZAW:=ZsD.binds (ps:=qz) (by walk_at "3");have qy:FnX l.prog w K mg base 1 "keep_text" qz (Yb K ⟨Zy,ZK,ZH,ZY,ZS,ZL,ZC,Zr,Zv,ZD⟩):=⟨⟨Zan,_,ZfF ZsD B ER GC,jY X G Zmz,Zku,ZAW⟩⟩;have ZAY:=ZsF.binds (ps:=qf) (by walk_at "2");have Zaz:FnX l.prog w K mg base 2 "answer_keep" qf (zq K ⟨Zy,ZK,ZH,ZY,ZS,ZL,ZC,Zr,Zv,ZD⟩):=⟨⟨qu,_,Zd9 ZsF qy,jY X G Zj4,Zkw,ZAY⟩⟩;have ZAZ:=ZsG.binds (ps:=YR) (by walk_at "2");have Zac:FnX l.prog w K mg base 2 "answer_ahead" YR (ze K ⟨Zy,ZK,ZH,ZY,ZS,ZL,ZC,Zr,Zv,ZD⟩):=⟨⟨YY,_,ZdD ZsG qy,jY X G Zj5,Zkx,ZAZ⟩⟩;have ZA0:=ZsH.binds (ps:=qd) (by walk_at "2");have Zax:FnX l.prog w K mg base 1 "answer_drop" qd (zo K ⟨Zy,ZK,ZH,ZY,ZS,ZL,ZC,Zr,Zv,ZD⟩):=⟨⟨qp,_,Zd7 ZsH,jY X G Zj6,Zky,ZA0⟩⟩;have ZA1:=ZsI.binds (ps:=qL) (by walk_at "2");have Za1:FnX l.prog w K mg base 1 "answer_off" qL (zH K ⟨Zy,ZK,ZH,ZY,ZS,ZL,ZC,Zr,Zv,ZD⟩):=⟨⟨qO,_,ZeK ZsI B ER,jY X G Zj7,Zkz,ZA1⟩⟩;have ZA2:=ZsJ.binds (ps:=qg) (by walk_at "2");have ZaA:FnX l.prog w K mg base 1 "answer_text" qg (zr K ⟨Zy,ZK,ZH,ZY,ZS,ZL,ZC,Zr,Zv,ZD⟩):=⟨⟨qw,_,Zea ZsJ,jY X G Zj8,ZkA,ZA2⟩⟩;have ZAX:=ZsE.binds (ps:=Za2) (by walk_at "1");have ZcV:Fn l.prog w K mg base 1 "spaced" Za2 (Zaw K):=⟨⟨ZbO,_,ZiB ZsE B,jY X G ZmA,Zkv,ZAX⟩⟩;have ZDq:=ZAw.binds (ps:=Jk) (by walk_at "1");have Zal:FnX l.prog w K mg base 1 "check_gap" Jk (qR K ⟨Zy,ZK,ZH,ZY,ZS,ZL,ZC,Zr,Zv,ZD⟩):=⟨⟨Zam,_,ZfE ZAw ER,jY X G ZtO,ZrC,ZDq⟩⟩;have ZDs:=ZAy.binds (ps:=qV) (by walk_at "1");have Y8:Fn l.prog w K mg base 3 "order_of" qV (YK K Zg):=⟨⟨ZaM,_,Zge ZAy B LM_p_order_of rfl ER TP CF GC,jY X G ZtQ,ZrE,ZDs⟩⟩
 have ZDu:=ZAB.binds (ps:=YT) (by walk_at "1");have Zae:Fn l.prog w K mg base 4 "last_letters" YT (YH K Zg):=⟨⟨qZ,_,ZdF ZAB Y8,jY X G ZtS,ZrG,ZDu⟩⟩;have ZDp:=ZAv.binds (ps:=zh) (by walk_at "2");have ZT:FnX l.prog w K mg base 1 "check_place" zh (ZR K ⟨Zy,ZK,ZH,ZY,ZS,ZL,ZC,Zr,Zv,ZD⟩):=⟨⟨Jw,_,Zec ZAv ER,jY X G ZtN,ZrB,ZDp⟩⟩;have ZBi:=ZsZ.binds (ps:=YQ) (by walk_at "3");have qbC:Mkr l.prog w K mg base (CX1 l.prog w) 3 "Letters" Zd YQ [] (YG K ⟨Zy,ZK,ZH,ZY,ZS,ZL,ZC,Zr,Zv,ZD⟩ Zd Zc):=⟨⟨YX,_,[],ZdC ZsZ B LM_m_Letters_init rfl ER TP CF GC ZT,⟨qbJ,ZmQ,ZoR,qbK⟩,ZBi,.nil⟩,jY X G qbE⟩;have ZDv:=ZAC.binds (ps:=qM) (by walk_at "1");have JO:Fn l.prog w K mg base 5 "letters_of" qM (qx K Zd Zg Zc):=⟨⟨JY,_,ZeL ZAC Zae qbC,jY X G ZtT,ZrH,ZDv⟩⟩;have ZBp:=ZjZ.binds (ps:=zg) (ds:=[]) qa3 fun _ _ _ _ _ _ us hl=>by obtain ⟨_,_,_,rfl⟩:=us3 hl;exact ⟨_,rfl,rfl⟩
 have bd_m_Finder_init:=ZjZ.binds (ps:=zg) (ds:=[.int 4 qt_m_Finder_init]) qa3 fun _ _ _ _ _ _ us hl=>by obtain ⟨_,_,rfl⟩:=us2 (Nat.succ.inj hl);exact ⟨_,rfl,rfl⟩
 have qb7:Mkr l.prog w K mg base (CX1 l.prog w) 6 "Finder" Zl zg [] (zn K ⟨Zy,ZK,ZH,ZY,ZS,ZL,ZC,Zr,Zv,ZD⟩ Zd Zl Zg Zc):=⟨⟨Ym,_,[],ZbA ZjZ B ER TP CF GC Zal Y8 JO,⟨qbw,Zka,Zks,qbx⟩,ZBp,.nil⟩,jY X G qbv⟩;have qbD:Mkr l.prog w K mg base (CX1 l.prog w) 6 "Finder" Zl zg [.int 4] (zn K ⟨Zy,ZK,ZH,ZY,ZS,ZL,ZC,Zr,Zv,ZD⟩ Zd Zl Zg Zc):=⟨⟨Ym,_,[.int 4 qt_m_Finder_init],ZbA ZjZ B ER TP CF GC Zal Y8 JO,⟨qbw,Zka,Zks,qbx⟩,bd_m_Finder_init,.cons ⟨_,rfl⟩ .nil⟩,jY X G qbv⟩;have ZDt:=ZAA.binds (ps:=YS) (by walk_at "2");have Zad:Fn l.prog w K mg base 1 "comes_before" YS (zG K):=⟨⟨qY,_,ZdE ZAA,jY X G ZtR,ZrF,ZDt⟩⟩;have ZBk:=Zs1.binds (ps:=YB) (by walk_at "2");have qa4:Md l.prog w K mg base CX0 2 Zd "first" YB [] (Ya K Zd):=⟨⟨YD,_,[],Zc5 Zs1 B CF Zad,⟨ZmS,ZoT,ZkR⟩,ZBk,.nil⟩,CF.qaa⟩;have ZBl:=Zs2.binds (ps:=zZ) (by walk_at "3");have qa1:Md l.prog w K mg base (CX1 l.prog w) 2 Zd "before" zZ [] (zK K ⟨Zy,ZK,ZH,ZY,ZS,ZL,ZC,Zr,Zv,ZD⟩ Zd):=⟨⟨z6,_,[],ZcG Zs2 CF ZT,⟨ZmT,ZoU,ZkS⟩,ZBl,.nil⟩,CF.qaa⟩;have ZBm:=Zs3.binds (ps:=Z9) (by walk_at "3");have qab:Md l.prog w K mg base (CX1 l.prog w) 3 Zd "row_with" Z9 [] (ZO K ⟨Zy,ZK,ZH,ZY,ZS,ZL,ZC,Zr,Zv,ZD⟩ Zd):=⟨⟨zz,_,[],Zb3 Zs3 qa4 qa1,⟨ZmU,ZoV,ZkT⟩,ZBm,.nil⟩,CF.qaa⟩;have ZBn:=Zs4.binds (ps:=zi) (by walk_at "3");have qaM:Md l.prog w K mg base (CX1 l.prog w) 4 Zd "rows_with" zi [] (zd K ⟨Zy,ZK,ZH,ZY,ZS,ZL,ZC,Zr,Zv,ZD⟩ Zd):=⟨⟨zj,_,[],ZbS Zs4 qab,⟨ZmV,ZoW,ZkU⟩,ZBn,.nil⟩,CF.qaa⟩;have ZBq:=Zs6.binds (ps:=qa) (by walk_at "2");have qa9:Md l.prog w K mg base CX0 5 Zl "rows" qa [] (Y3 K Zd Zl):=⟨⟨ql,_,[],Zd5 Zs6 B CF qaM,⟨ZmX,ZoY,ZkW⟩,ZBq,.nil⟩,CF.qar⟩;have ZBj:=Zs0.binds (ps:=z0) (by walk_at "2");have qa2:Md l.prog w K mg base (CX1 l.prog w) 2 Zd "letter" z0 [] (zL K ⟨Zy,ZK,ZH,ZY,ZS,ZL,ZC,Zr,Zv,ZD⟩ Zd):=⟨⟨z7,_,[],ZcH Zs0 CF ZT,⟨ZmR,ZoS,ZkQ⟩,ZBj,.nil⟩,CF.qaa⟩;have ZBo:=Zs5.binds (ps:=YO) (by walk_at "2");have qa6:Md l.prog w K mg base (CX1 l.prog w) 4 Zd "back" YO [] (YF K ⟨Zy,ZK,ZH,ZY,ZS,ZL,ZC,Zr,Zv,ZD⟩ Zd):=⟨⟨YW,_,[],ZdB Zs5 qa2 qab,⟨ZmW,ZoX,ZkV⟩,ZBo,.nil⟩,CF.qaa⟩;have ZBr:=Zs7.binds (ps:=qb) (by walk_at "2");have qba:Md l.prog w K mg base (CX1 l.prog w) 5 Zl "walk" qb [] (Y4 K ⟨Zy,ZK,ZH,ZY,ZS,ZL,ZC,Zr,Zv,ZD⟩ Zd Zl):=⟨⟨qm,_,[],Zd6 Zs7 CF ZT qa6,⟨ZmY,ZoZ,ZkX⟩,ZBr,.nil⟩,CF.qar⟩;have ZBs:=Zs8.binds (ps:=YA) (by walk_at "2");have qa5:Md l.prog w K mg base CX0 6 Zl "places" YA [] (z9 K Zd Zl):=⟨⟨YC,_,[],Zc4 Zs8 B qa9 qba,⟨ZmZ,Zo0,ZkY⟩,ZBs,.nil⟩,CF.qar⟩;have ZA3:=ZsK.binds (ps:=qe) (by walk_at "2");have Zay:FnX l.prog w K mg base 8 "answer_find" qe (zp K ⟨Zy,ZK,ZH,ZY,ZS,ZL,ZC,Zr,Zv,ZD⟩ Zd Zl Zg Zc):=⟨⟨qt,_,Zd8 ZsK ZcV qb7 qbD qa5,jY X G Zj9,ZkB,ZA3⟩⟩;have ZBu:=Zta.binds (ps:=JR) (by walk_at "2");have qbq:Md l.prog w K mg base (CX1 l.prog w) 9 ZB "say" JR [] (Js K ⟨Zy,ZK,ZH,ZY,ZS,ZL,ZC,Zr,Zv,ZD⟩ Zd Zl ZB Zg Zc):=⟨⟨JX,_,[],Zgd Zta TP CF ZbM ZaB Zaz Zac Zax Za1 ZaA Zay,⟨Zm1,Zo2,ZkZ⟩,ZBu,.nil⟩,CF.qb4⟩;have ZA9:=ZsQ.binds (ps:=Za3) (by walk_at "2");have Y9:Fn l.prog w K mg base 10 "_law_said" Za3 (Yy K Zd Zl ZB Zg Zc):=⟨⟨Zdn,_,Zl3 ZsQ ER ZdV qbq,jY X G ZmG,ZkH,ZA9⟩⟩
 have ZA6:=ZsN.binds (ps:=Zbw) (by walk_at "0");have ZdU:Fn l.prog w K mg base 1 "_law_signs" Zbw (Zba K):=⟨⟨Zcv,_,ZjA ZsN,jY X G ZmD,ZkE,ZA6⟩⟩;have ZBb:=ZsS.binds (ps:=JU) (by walk_at "2");have JP:Fn l.prog w K mg base 2 "_law_signs_by" JU (YM K):=⟨⟨ZaQ,_,Zgi ZsS B ZF ZdU,jY X G ZmI,ZkJ,ZBb⟩⟩;have ZBc:=ZsT.binds (ps:=Zca) (by walk_at "3");have Zde:Fn l.prog w K mg base 1 "_law_kept" Zca (ZaZ K):=⟨⟨Zdm,_,Zl2 ZsT B,jY X G ZmJ,ZkK,ZBc⟩⟩;have ZBd:=ZsU.binds (ps:=qW) (by walk_at "2");have qU:Fn l.prog w K mg base 2 "_law_odd_name" qW (YL K):=⟨⟨ZaP,_,Zgh ZsU B ZF,jY X G ZmK,ZkL,ZBd⟩⟩;have ZBe:=ZsV.binds (ps:=Zb9) (by walk_at "4");have Ze5:Fn l.prog w K mg base 3 "_law_deed" Zb9 (ZbI K):=⟨⟨Zdl,_,Zl1 ZsV B ZF JP Zde qU,jY X G ZmL,ZkM,ZBe⟩⟩;have ZBa:=ZsR.binds (ps:=qN) (by walk_at "2");have Yz:Fn l.prog w K mg base 1 "_law_is_said" qN (zx K):=⟨⟨Zbi,_,Zhn ZsR B,jY X G ZmH,ZkI,ZBa⟩⟩;have ZBf:=ZsW.binds (ps:=Zdf) (by walk_at "2");have ZgY:Fn l.prog w K mg base 2 "_law_met" Zdf (Zcl K):=⟨⟨ZeP,_,Zqb ZsW Yz,jY X G ZmM,ZkN,ZBf⟩⟩;have ZBg:=ZsX.binds (ps:=Yk) (by walk_at "3");have Yj:Fn l.prog w K mg base 11 "_law_places_told" Yk (zu K Zd Zl ZB Zg Zc):=⟨⟨Jx,_,Zed ZsX B Y9 Yz,jY X G ZmN,ZkO,ZBg⟩⟩;have ZBh:=ZsY.binds (ps:=Zbv) (by walk_at "4");have Zcq:Fn l.prog w K mg base 12 "_law_asked" Zbv (Zak K Zd Zl ZB Zg Zc):=⟨⟨Zct,_,Zjy ZsY B ZF Y9 Yz qU Yj,jY X G ZmO,ZkP,ZBh⟩⟩;have ZBt:=Zs9.binds (ps:=Jj) (by walk_at "1");have qb9:Mkr l.prog w K mg base CX0 1 "Desk" ZB Jj [] (qQ K ZB):=⟨⟨Jo,_,[],ZfD Zs9 CF,⟨qcf,Zm0,Zo1,qcg⟩,ZBt,.nil⟩,jY X G qca⟩;exact Zyp ZAz B Zb7 ZF ZbN Y9 Ze5 ZgY Yj Zcq qb9
theorem ZDV {l:VC} {q:jw} {loose:List Str} {XP:(Str->Option Value)->Heap->Prop} {YP:jB->Heap->Prop} {d:DefRec} {K:vZ->Qa} {ts:List jk} (Zg Zc:jk) (hn:l.most=some 63) (hdf:d.params.defaults=[])
 (hY:∀(w:jB) (h:Heap),YP w h->(K w.params).In h/\∀p∈ts,h.get? p=some (Qaz #[]))
 (F:∀(w:jB) (mg:Str->Option Value) (fa:jk) (h:Heap),(K w.params).In h->h.Ns jm mg->mg d.name=some (.ref fa)->
  (∀p∈ts,(K w.params).lookup p=none/\∃c,QaE (K w.params) c p=true)/\∃fd:j7,(∀(s:jj) (u:Value),Qam s fd ⟨[u],[]⟩ [("_law_script",u)])/\∀base:Heap,(K w.params).In base->base.Ns jm mg->ZAs mg base->Z0 l.prog w (K w.params) mg base CX0 13 fa fd Zj1 (ZhH (K w.params) Zg Zc))
 (m_p_order_of:Zg∈ts) (m_m_Letters_init:Zc∈ts) (ne_p_order_of_m_Letters_init:Zg≠Zc):
 WL q loose XP YP l.row.toRowW d [] (fun f vs=>PySem.call f vs):=
 L2.Zq1 (n:=63) (k:=13) (x:="_law_script") (ts:=ts) (CX:=fun _=>CX0) (sp:=fun w=>ZhH (K w.params) Zg Zc) hn (by decide) hdf ⟨rfl,by decide,by decide⟩ hY F (fun _ H a ns hl hS hT=>⟨a,ns,rfl,hS,hl,.inl (hT _ m_p_order_of),.inl (hT _ m_m_Letters_init),ne_p_order_of_m_Letters_init,fun _=>rfl⟩) fun _ _ _ _ _ z=>z
end My
end
open PySem PySem.W PyProof.Rows
set_option maxRecDepth 100000 in
set_option maxHeartbeats 0 in
theorem PySem.Challenge.cw_backindex_k90_texts_kept_holds : PySem.Challenge.rw_backindex_k90_texts_kept.Holds := by
 w_on;o_law;k_head;(case hw=>w_witness2)
 k_fill
 refine' My.ZDV (l:=PySem.Challenge.rw_backindex_k90_texts_kept) ?Zg ?Zc rfl rfl (fun w h Y=>⟨PySem.W.km_in_of Y,PySem.W.km_tabs_of Y⟩) ?F ?m_p_order_of ?m_m_Letters_init ?ne_p_order_of_m_Letters_init
 case F=>
  intro w mg fa h KX G hmg;refine' My.ZtY KX G hmg ?ZtN ?ZwU ?ZuF ?ZrB ?ZtO ?ZwV ?ZuG ?ZrC ?ZtP ?ZwW ?ZuH ?ZrD ?ZtQ ?ZwX ?ZuI ?ZrE ?qbL ?ZDh ?Zrv ?Zxb ?ZtR ?ZwY ?ZuJ ?ZrF ?ZtS ?ZwZ ?ZuK ?ZrG ?ZtT ?Zw0 ?ZuL ?ZrH ?ZtU ?Zw1 ?ZuM ?ZrI ?ZtV ?Zw2 ?ZuN ?ZrJ ?ZtW ?Zw3 ?ZuO ?ZrK ?Zmz ?Zpi ?Zm8 ?Zku ?ZmA ?Zpj ?Zm9 ?Zkv ?Zj4 ?Zpk ?Zna ?Zkw ?Zj5 ?Zpl ?Znb ?Zkx ?Zj6 ?Zpm ?Znc ?Zky ?Zj7 ?Zpn ?Znd ?Zkz ?Zj8 ?Zpo ?Zne ?ZkA ?Zj9 ?Zpp ?Znf ?ZkB ?ZmB ?Zpq ?Zng ?ZkC ?ZmC ?Zpr ?Znh ?ZkD ?ZmD ?Zps ?Zni ?ZkE ?ZmE ?Zpt ?Znj ?ZkF ?ZmF ?Zpu ?Znk ?ZkG ?ZmG ?Zpv ?Znl ?ZkH ?ZmH ?Zpw ?Znm ?ZkI ?ZmI ?Zpx ?Znn ?ZkJ ?ZmJ ?Zpy ?Zno ?ZkK ?ZmK ?Zpz ?Znp ?ZkL ?ZmL ?ZpA ?Znq ?ZkM ?ZmM ?ZpB ?Znr ?ZkN ?ZmN ?ZpC ?Zns ?ZkO ?ZmO ?ZpD ?Znt ?ZkP ?ZmP ?ZpE ?Znu ?Zpa ?ZmQ ?ZoR ?ZpF ?Znv ?Zpb ?qbj ?ZtG ?Zkp ?Zp6 ?ZmR ?ZoS ?ZpG ?Znw ?ZkQ ?ZmS ?ZoT ?ZpH ?Znx ?ZkR ?ZmT ?ZoU ?ZpI ?Zny ?ZkS ?ZmU ?ZoV ?ZpJ ?Znz ?ZkT ?ZmV ?ZoW ?ZpK ?ZnA ?ZkU ?ZmW ?ZoX ?ZpL ?ZnB ?ZkV ?Zka ?Zks ?ZpM ?ZnC ?Zpc ?qa3 ?ZmX ?ZoY ?ZpN ?ZnD ?ZkW ?ZmY ?ZoZ ?ZpO ?ZnE ?ZkX ?ZmZ ?Zo0 ?ZpP ?ZnF ?ZkY ?Zm0 ?Zo1 ?ZpQ ?ZnG ?Zpd ?Zm1 ?Zo2 ?ZpR ?ZnH ?ZkZ ?qa7 ?qa8 ?qbk ?qbb ?qbl ?qby ?qbN ?qbt ?qbm ?qbz ?qbA ?g1_Empty ?g2_Empty ?g3_Empty ?g4_Empty ?g5_Empty ?g6_Empty ?g7_Empty ?qbO ?qbc ?qbd ?g1_TooLong ?g2_TooLong ?g3_TooLong ?g4_TooLong ?g5_TooLong ?g6_TooLong ?g7_TooLong ?qbn ?qbe ?qbf ?g1_NoName ?g2_NoName ?g3_NoName ?g4_NoName ?g5_NoName ?g6_NoName ?g7_NoName ?qbu ?qbg ?qbh ?g1_NoRow ?g2_NoRow ?g3_NoRow ?g4_NoRow ?g5_NoRow ?g6_NoRow ?g7_NoRow ?qbP ?qaj ?qaz ?qaA ?qaU ?qaN ?qaB ?qaV ?qaC ?qaO ?qaW ?qah ?qak ?qal ?qaD ?qat ?qam ?qaE ?qan ?qau ?qaF ?qai ?qav ?qaw ?qaP ?qaG ?qax ?qaQ ?qay ?qaH ?qaR ?qao ?qaI ?qaJ ?qaX ?qaS ?qaK ?qaY ?qaL ?qaT ?qaZ ?qbE ?qbF ?qbG ?qbH ?qbI ?qbJ ?qbK ?qad ?qap ?qaq ?qac ?qag ?qbv ?qbQ ?qbR ?qbS ?qbT ?qbw ?qbx ?qa0 ?qae ?qaf ?qca ?qcb ?qcc ?qcd ?qce ?qcf ?qcg ?qas ?qbi ?qbr ?qch ?qbB ?qbU ?qbo ?qbV ?qbp ?qbs ?z_dict ?z_enumerate ?z_int ?z_isinstance ?z_len ?z_list ?z_range ?z_reversed ?z_set ?z_sorted ?z_str ?z_sum ?z_zip ?hts
  (case qbE|qbv|qca|ZtN|ZwU|ZuF|ZrB|ZtO|ZwV|ZuG|ZrC|ZtP|ZwW|ZuH|ZrD|ZtQ|ZwX|ZuI|ZrE|qbL=>k_is)
  (case ZDh=>rfl)
  (case Zrv=>kernel_rfl)
  (case Zxb=>rfl)
  (case ZtR|ZwY|ZuJ|ZrF|ZtS|ZwZ|ZuK|ZrG|ZtT|Zw0|ZuL|ZrH|ZtU|Zw1|ZuM|ZrI|ZtV|Zw2|ZuN|ZrJ|ZtW|Zw3|ZuO|ZrK|Zmz|Zpi|Zm8|Zku|ZmA|Zpj|Zm9|Zkv|Zj4|Zpk|Zna|Zkw|Zj5|Zpl|Znb|Zkx|Zj6|Zpm|Znc|Zky|Zj7|Zpn|Znd|Zkz|Zj8|Zpo|Zne|ZkA|Zj9|Zpp|Znf|ZkB|ZmB|Zpq|Zng|ZkC|ZmC|Zpr|Znh|ZkD|ZmD|Zps|Zni|ZkE|ZmE|Zpt|Znj|ZkF|ZmF|Zpu|Znk|ZkG|ZmG|Zpv|Znl|ZkH|ZmH|Zpw|Znm|ZkI|ZmI|Zpx|Znn|ZkJ|ZmJ|Zpy|Zno|ZkK|ZmK|Zpz|Znp|ZkL|ZmL|ZpA|Znq|ZkM|ZmM|ZpB|Znr|ZkN|ZmN|ZpC|Zns|ZkO|ZmO|ZpD|Znt|ZkP|ZmP|ZpE|Znu|Zpa|ZmQ|ZoR|ZpF|Znv|Zpb|qbj=>k_is)
  (case ZtG=>rfl)
  (case Zkp=>kernel_rfl)
  (case Zp6=>rfl)
  (case ZmR|ZoS|ZpG|Znw|ZkQ|ZmS|ZoT|ZpH|Znx|ZkR|ZmT|ZoU|ZpI|Zny|ZkS|ZmU|ZoV|ZpJ|Znz|ZkT|ZmV|ZoW|ZpK|ZnA|ZkU|ZmW|ZoX|ZpL|ZnB|ZkV|Zka|Zks|ZpM|ZnC|Zpc|qa3|ZmX|ZoY|ZpN|ZnD|ZkW|ZmY|ZoZ|ZpO|ZnE|ZkX|ZmZ|Zo0|ZpP|ZnF|ZkY|Zm0|Zo1|ZpQ|ZnG|Zpd|Zm1|Zo2|ZpR|ZnH|ZkZ|qa7=>k_is)
  (case qa8=>k_exc)
  (case qbk|qbb=>k_is)
  (case qbl=>k_exc)
  (case qby=>k_is)
  (case qbN=>k_exc)
  (case qbt|qbm|qbz=>k_is)
  (case qbA=>k_exc)
  (case g1_Empty|g2_Empty|g3_Empty|g4_Empty|g5_Empty|g6_Empty|g7_Empty=>k_is)
  (case qbO=>kit_is)
  (case qbc=>k_is)
  (case qbd=>k_exc)
  (case g1_TooLong|g2_TooLong|g3_TooLong|g4_TooLong|g5_TooLong|g6_TooLong|g7_TooLong=>k_is)
  (case qbn=>kit_is)
  (case qbe=>k_is)
  (case qbf=>k_exc)
  (case g1_NoName|g2_NoName|g3_NoName|g4_NoName|g5_NoName|g6_NoName|g7_NoName=>k_is)
  (case qbu=>kit_is)
  (case qbg=>k_is)
  (case qbh=>k_exc)
  (case g1_NoRow|g2_NoRow|g3_NoRow|g4_NoRow|g5_NoRow|g6_NoRow|g7_NoRow=>k_is)
  (case qbP=>kit_is)
  (case qaj=>k_is)
  (case qaz|qaA|qaU|qaN|qaB|qaV|qaC|qaO|qaW=>kit_is)
  (case qah=>k_is)
  (case qak|qal|qaD|qat|qam|qaE|qan|qau|qaF=>kit_is)
  (case qai=>k_is)
  (case qav|qaw|qaP|qaG|qax|qaQ|qay|qaH|qaR=>kit_is)
  (case qao=>k_is)
  (case qaI|qaJ|qaX|qaS|qaK|qaY|qaL|qaT|qaZ=>kit_is)
  (case qbF|qbG|qbH|qbI|qbJ|qbK|qad|qap|qaq|qac|qag|qbQ|qbR|qbS|qbT|qbw|qbx|qa0|qae|qaf|qcb|qcc|qcd|qce|qcf|qcg|qas|qbi|qbr|qch=>k_is)
  (case qbB=>exact ⟨⟨_,_,by k_is,by k_keys,by repeat (first|exact True.intro|refine ⟨⟨_,rfl⟩,?_,?_⟩|exact ⟨_,rfl⟩|rfl)⟩,by decide⟩)
  (case qbU=>k_is)
  (case qbo=>exact ⟨_,_,_,by k_is,rfl,rfl,by decide,.cons ⟨_,rfl⟩ (.cons ⟨_,rfl⟩ (.nil))⟩)
  (case qbV=>k_is)
  (case qbp=>exact ⟨⟨_,_,by k_is,by k_keys,by repeat (first|exact True.intro|refine ⟨⟨_,rfl⟩,?_,?_⟩|exact ⟨_,rfl⟩|rfl)⟩,by decide⟩)
  (case qbs|z_dict|z_enumerate|z_int|z_isinstance|z_len|z_list|z_range|z_reversed|z_set|z_sorted|z_str|z_sum|z_zip=>k_is)
  (case hts=>decide)
 (case m_p_order_of|m_m_Letters_init|ne_p_order_of_m_Letters_init=>decide)
