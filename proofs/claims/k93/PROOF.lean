import PyProof.Rows.All
import Wide.All
import OpenK.AllK
import Wide.FinOn
import Lean
import PyProof.EqAt
import PyProof.EqKinds
import PyProof.TupleCall
import PySem.Challenge.RW_backindex_k93_no_rows
import KE.KRevIter
import KE.KSortAsk
import KE.KSortTup
import PyProof.Rows.SortKeyStr
import KE.KLam
import KE.KSortKey
import OpenK.KOwn
import KE.RegKIsAll
import PyProof.EnumMake
import PyProof.EnumFor
import PyProof.EnumStmt
import KE.KNestM
import PyProof.Rows.CallKwBuiltin
import PyProof.StrWalks
import KE.KDictOf
import PyProof.CompUse
import PyProof.NeKinds
import PyProof.ZipIter
import PyProof.Rows.SumAny
import PyProof.Rows.SetFrom
import PyProof.ListRange
import PyProof.StrLawsIn
import PyProof.CollectIter
import PyProof.JoinWalk
import PyProof.Conv_int_bool
import KE.IntBitsLaws
import PyProof.FactsAll.str
import PyProof.ListStr
import PyProof.Draws
import PyProof.CallStr
import PyProof.StrLawsFrom
import PyProof.Rows.StrNews2
import PyProof.StrCalls
import KE.KIntText
import PyProof.Rows.RegStrFacts
import PyProof.DictWalks
import PyProof.AttrMissHeap
import PyProof.LongRange
import PyProof.Rows.Range3
import PyProof.Rows.StrSplitMax
import OpenK.KTop
import PyProof.Rows.Chain
def PySem.W.Fast.tw8121324446564635158 : Nat := 0
def PySem.W.Fast.tw1904315283282606242 : Nat := 0
def PySem.W.Fast.tw12001689363054588001 : Nat := 0
def PySem.W.Fast.tw11106465589752063585 : Nat := 0
def PySem.W.Fast.tw13722851700066603667 : Nat := 0
def PySem.W.Fast.tw6196160473733158185 : Nat := 0
def PySem.W.Fast.tw8120911941000002647 : Nat := 0
def PySem.W.Fast.tw6427368281295957427 : Nat := 0
def PySem.W.Fast.tw11301968583569192552 : Nat := 0
def PySem.W.Fast.tw6156862186316116511 : Nat := 0
def PySem.W.Fast.tw949589025386528250 : Nat := 0
def PySem.W.Fast.tw44710715633560006 : Nat := 0
def PySem.W.Fast.tw13401759138176337301 : Nat := 0
def PySem.W.Fast.tw1426429550983329226 : Nat := 0
def PySem.W.Fast.tw18162150759136821217 : Nat := 0
def PySem.W.Fast.tw4851011131690020435 : Nat := 0
def PySem.W.Fast.tw10238158674971694826 : Nat := 0
def PySem.W.Fast.tw18099098502809318823 : Nat := 0
def PySem.W.Fast.tw2659977587796549391 : Nat := 0
def PySem.W.Fast.tw9354317432875791055 : Nat := 0
def PySem.W.Fast.tw4024262419760346715 : Nat := 0
def PySem.W.Fast.tw4762051828318483295 : Nat := 0
def PySem.W.Fast.tw9941103218989811672 : Nat := 0
def PySem.W.Fast.tw9045076039617290799 : Nat := 0
def PySem.W.Fast.tw13537832308856538308 : Nat := 0
def PySem.W.Fast.tw5392302361836227883 : Nat := 0
def PySem.W.Fast.tw13404173912287306477 : Nat := 0
def PySem.W.Fast.tw6637907178114043202 : Nat := 0
def PySem.W.Fast.tw17747992904745262523 : Nat := 0
def PySem.W.Fast.tw10566707646858824934 : Nat := 0
def PySem.W.Fast.tw3382840004312151879 : Nat := 0
def PySem.W.Fast.tw15202624192891168814 : Nat := 0
def PySem.W.Fast.tw4026696989998556658 : Nat := 0
def PySem.W.Fast.tw17014102035256207577 : Nat := 0
def PySem.W.Fast.tw9816871693192915047 : Nat := 0
def PySem.W.Fast.tw7181188161637008325 : Nat := 0
def PySem.W.Fast.tw14406050751028883130 : Nat := 0
def PySem.W.Fast.tw18269445824355147968 : Nat := 0
def PySem.W.Fast.tw9246305268194609277 : Nat := 0
def PySem.W.Fast.tw5631827392836333104 : Nat := 0
def PySem.W.Fast.tw6651154808837116685 : Nat := 0
def PySem.W.Fast.tw16005591675516461203 : Nat := 0
def PySem.W.Fast.tw2372704835711280541 : Nat := 0
def PySem.W.Fast.tw11880101805454662533 : Nat := 0
def PySem.W.Fast.tw2634866283383552561 : Nat := 0
def PySem.W.Fast.tw18012158599989482848 : Nat := 0
def PySem.W.Fast.tw17080955141759968978 : Nat := 0
def PySem.W.Fast.tw508355199007477729 : Nat := 0
def PySem.W.Fast.tw4777706595186415152 : Nat := 0
def PySem.W.Fast.tw3462475098535520528 : Nat := 0
def PySem.W.Fast.tw2345519154687915537 : Nat := 0
def PySem.W.Fast.tw12554346419406270003 : Nat := 0
def PySem.W.Fast.tw13060548027107896186 : Nat := 0
def PySem.W.Fast.tw12827394253170726725 : Nat := 0
def PySem.W.Fast.tw12682229523445364033 : Nat := 0
def PySem.W.Fast.tw12407305995420561942 : Nat := 0
def PySem.W.Fast.tw16938567018214804907 : Nat := 0
def PySem.W.Fast.tw14009739479302259372 : Nat := 0
def PySem.W.Fast.tw253680119498883683 : Nat := 0
def PySem.W.Fast.tw638142458265218580 : Nat := 0
def PySem.W.Fast.tw6867529389629265691 : Nat := 0
def PySem.W.Fast.tw14534373800348019021 : Nat := 0
def PySem.W.Fast.tw13278766801379987615 : Nat := 0
def PySem.W.Fast.tw4742706701339550304 : Nat := 0
def PySem.W.Fast.tw12746738264206268703 : Nat := 0
def PySem.W.Fast.tw18212200193742845827 : Nat := 0
def PySem.W.Fast.tw18123709237299355832 : Nat := 0
def PySem.W.Fast.tw16165595275073155086 : Nat := 0
def PySem.W.Fast.tw2837983014636708822 : Nat := 0
def PySem.W.Fast.tw14475712324238712540 : Nat := 0
def PySem.W.Fast.tw12704362880207135068 : Nat := 0
def PySem.W.Fast.tw14159413980897282395 : Nat := 0
def PySem.W.Fast.tw4678450436041861868 : Nat := 0
def PySem.W.Fast.tw2586032454723129888 : Nat := 0
def PySem.W.Fast.tw953796525406156617 : Nat := 0
def PySem.W.Fast.tw8452286204253686878 : Nat := 0
def PySem.W.Fast.tw7557647761655906632 : Nat := 0
def PySem.W.Fast.tw10746548992789569512 : Nat := 0
def PySem.W.Fast.tw14496558142772080261 : Nat := 0
def PySem.W.Fast.tw12830674776856877371 : Nat := 0
def PySem.W.Fast.tw16929723191527971956 : Nat := 0
def PySem.W.Fast.tw15576381604340029965 : Nat := 0
def PySem.W.Fast.tw12535461264412459338 : Nat := 0
def PySem.W.Fast.tw14908414076607648951 : Nat := 0
def PySem.W.Fast.tw11178687553436743425 : Nat := 0
def PySem.W.Fast.tw7488209915094394456 : Nat := 0
def PySem.W.Fast.tw1354681940987190470 : Nat := 0
def PySem.W.Fast.tw16377329138455929619 : Nat := 0
def PySem.W.Fast.tw3420319973641267631 : Nat := 0
def PySem.W.Fast.tw13159688244265334185 : Nat := 0
def PySem.W.Fast.tw14087933110696456443 : Nat := 0
def PySem.W.Fast.tw14880586347627948287 : Nat := 0
def PySem.W.Fast.tw10509019092855485164 : Nat := 0
def PySem.W.Fast.tw14632021831673145786 : Nat := 0
def PySem.W.Fast.tw17483190171752874821 : Nat := 0
def PySem.W.Fast.tw1060255714405913194 : Nat := 0
def PySem.W.Fast.tw498472296318970833 : Nat := 0
def PySem.W.Fast.tw1949828366004775646 : Nat := 0
def PySem.W.Fast.tw5249798663389457642 : Nat := 0
def PySem.W.Fast.tw13939119618255585023 : Nat := 0
def PySem.W.Fast.tw7687060139632061760 : Nat := 0
def PySem.W.Fast.tw17593001286500114073 : Nat := 0
def PySem.W.Fast.tw2915648121462778343 : Nat := 0
def PySem.W.Fast.tw15247918917328656351 : Nat := 0
def PySem.W.Fast.tw12083589449753300159 : Nat := 0
def PySem.W.Fast.tw17503632820011263701 : Nat := 0
def PySem.W.Fast.tw14639874885029781401 : Nat := 0
def PySem.W.Fast.tw15222017859836952916 : Nat := 0
def PySem.W.Fast.tw759266157609178624 : Nat := 0
def PySem.W.Fast.tw137478136499688715 : Nat := 0
def PySem.W.Fast.tw13913459357514814174 : Nat := 0
def PySem.W.Fast.tw7624360443398610557 : Nat := 0
def PySem.W.Fast.tw12813011770389283460 : Nat := 0
def PySem.W.Fast.tw11168621417691885972 : Nat := 0
def PySem.W.Fast.tw7190528103011085977 : Nat := 0
def PySem.W.Fast.tw7123661231355914339 : Nat := 0
def PySem.W.Fast.tw14548015578176966786 : Nat := 0
def PySem.W.Fast.tw8622726108186096300 : Nat := 0
def PySem.W.Fast.tw12572021172610838730 : Nat := 0
def PySem.W.Fast.tw12424646157128596190 : Nat := 0
def PySem.W.Fast.tw14296163695108899159 : Nat := 0
def PySem.W.Fast.tw6419776924863277373 : Nat := 0
def PySem.W.Fast.tw3879351825394769067 : Nat := 0
def PySem.W.Fast.tw13584240033682002893 : Nat := 0
def PySem.W.Fast.tw12874117726466870282 : Nat := 0
def PySem.W.Fast.tw2025950245354264414 : Nat := 0
def PySem.W.Fast.tw6364156472499965305 : Nat := 0
def PySem.W.Fast.tw1940201234119127471 : Nat := 0
def PySem.W.Fast.tw13719696923842366439 : Nat := 0
def PySem.W.Fast.tw11894629627788171007 : Nat := 0
def PySem.W.Fast.tw10310022121117459338 : Nat := 0
def PySem.W.Fast.tw6709634839823280696 : Nat := 0
def PySem.W.Fast.tw16014215911186396705 : Nat := 0
def PySem.W.Fast.tw2131950187377566963 : Nat := 0
def PySem.W.Fast.tw16561613677739576272 : Nat := 0
def PySem.W.Fast.tw3094973825726430211 : Nat := 0
def PySem.W.Fast.tw2502721529766643270 : Nat := 0
def PySem.W.Fast.tw11368820029900991351 : Nat := 0
def PySem.W.Fast.tw18323691527726281995 : Nat := 0
def PySem.W.Fast.tw7254640670451488918 : Nat := 0
def PySem.W.Fast.tw15862059214483218380 : Nat := 0
def PySem.W.Fast.tw15394297896718179625 : Nat := 0
def PySem.W.Fast.tw8744118455583155556 : Nat := 0
def PySem.W.Fast.tw2999798769112807456 : Nat := 0
def PySem.W.Fast.tw6410182944401465535 : Nat := 0
def PySem.W.Fast.tw11093571683081747083 : Nat := 0
def PySem.W.Fast.tw8651517780244900515 : Nat := 0
def PySem.W.Fast.tw17985276954974007622 : Nat := 0
def PySem.W.Fast.tw8650810626927057920 : Nat := 0
def PySem.W.Fast.tw11881062959944076316 : Nat := 0
def PySem.W.Fast.tw6056861648800887196 : Nat := 0
def PySem.W.Fast.tw7665376812527276958 : Nat := 0
def PySem.W.Fast.tw7590236699233507184 : Nat := 0
def PySem.W.Fast.tw33935798349387787 : Nat := 0
def PySem.W.Fast.tw10807756631661014358 : Nat := 0
def PySem.W.Fast.tw14585075976148644554 : Nat := 0
def PySem.W.Fast.tw13443310729089325293 : Nat := 0
def PySem.W.Fast.tw14814971594940415131 : Nat := 0
def PySem.W.Fast.tw2495889709926888423 : Nat := 0
def PySem.W.Fast.tw12354828990990855959 : Nat := 0
def PySem.W.Fast.tw14634154272603329823 : Nat := 0
def PySem.W.Fast.tw5151605936523941490 : Nat := 0
def PySem.W.Fast.tw12029985254083314670 : Nat := 0
def PySem.W.Fast.tw4291420492260051870 : Nat := 0
def PySem.W.Fast.tw3669720621405319337 : Nat := 0
def PySem.W.Fast.tw7682172068969651136 : Nat := 0
def PySem.W.Fast.tw16050602074699635364 : Nat := 0
def PySem.W.Fast.tw4519320945268229743 : Nat := 0
def PySem.W.Fast.tw1407979427347707121 : Nat := 0
def PySem.W.Fast.tw6754628947394399530 : Nat := 0
def PySem.W.Fast.tw5329789033199166829 : Nat := 0
def PySem.W.Fast.tw3009152211134783994 : Nat := 0
def PySem.W.Fast.tw7895729694257261147 : Nat := 0
def PySem.W.Fast.tw13877524792547357692 : Nat := 0
def PySem.W.Fast.tw5139896463860117763 : Nat := 0
def PySem.W.Fast.tw2724929246440001440 : Nat := 0
def PySem.W.Fast.tw125720174181438154 : Nat := 0
def PySem.W.Fast.tw14471302294430158011 : Nat := 0
def PySem.W.Fast.tw10159169603473171387 : Nat := 0
def PySem.W.Fast.tw3147794456648613131 : Nat := 0
def PySem.W.Fast.tw18208499589414278210 : Nat := 0
def PySem.W.Fast.tw3291901401491695347 : Nat := 0
def PySem.W.Fast.tw6006589128815584170 : Nat := 0
def PySem.W.Fast.tw12853532265257504074 : Nat := 0
def PySem.W.Fast.tw9157266946203899853 : Nat := 0
def PySem.W.Fast.tw8964289802294484897 : Nat := 0
def PySem.W.Fast.tw16004286268273274511 : Nat := 0
def PySem.W.Fast.tw18409117255459858417 : Nat := 0
def PySem.W.Fast.tw7431528864608000574 : Nat := 0
def PySem.W.Fast.tw4000959279990987041 : Nat := 0
def PySem.W.Fast.tw6213234478550939103 : Nat := 0
def PySem.W.Fast.tw13046051317979627893 : Nat := 0
def PySem.W.Fast.tw12375209981197882381 : Nat := 0
def PySem.W.Fast.tw8614725305768121939 : Nat := 0
def PySem.W.Fast.tw9047373674861608808 : Nat := 0
def PySem.W.Fast.tw8372545521129973429 : Nat := 0
def PySem.W.Fast.tw13118515780067564426 : Nat := 0
def PySem.W.Fast.tw12815209194730521906 : Nat := 0
def PySem.W.Fast.tw14470911924136956783 : Nat := 0
def PySem.W.Fast.tw1394490517413400185 : Nat := 0
noncomputable section
set_option Elab.async false
set_option linter.all false
set_option maxRecDepth 100000
namespace L2
open PySem PySem.Spec PyProof.Rows
abbrev Key := Sum Int Str
noncomputable def keyIs : Key → Value → Bool
  | .inl k, v => Value.isInt k v
  | .inr x, v => Value.isStrOf x v
noncomputable def keyH (w : World) : Key → Int
  | .inl k => hashInt k
  | .inr x => hashStr w x
theorem keyIs_shape : ∀ {k : Key} {v : Value}, keyIs k v = true → (∃ i t, k = Sum.inl i ∧ v = Value.int i t) ∨ (∃ x t, k = Sum.inr x ∧ v = Value.str x t)
  | .inl i, v, h => by
    obtain ⟨t, e⟩ := Value.isInt_shape (k := i) (v := v) h
    exact .inl ⟨i, t, rfl, e⟩
  | .inr x, v, h => by
    obtain ⟨t, e⟩ := Value.isStrOf_shape (x := x) (v := v) h
    exact .inr ⟨x, t, rfl, e⟩
theorem keyIs_int (i : Int) (t : Tok) : keyIs (.inl i) (.int i t) = true := by simp [keyIs, Value.isInt]
theorem keyIs_str (x : Str) (t : Tok) : keyIs (.inr x) (.str x t) = true := by simp [keyIs, Value.isStrOf]
theorem key_ll (a b : Int) : decide ((Sum.inl a : Key) = Sum.inl b) = (a == b) := by
  by_cases e : a = b
  · subst e; simp
  · have h : ¬ (Sum.inl a : Key) = Sum.inl b := fun q => e (Sum.inl.inj q)
    rw [decide_eq_false h]
    exact (beq_eq_false_iff_ne.mpr e).symm
theorem key_rr (a b : Str) : decide ((Sum.inr a : Key) = Sum.inr b) = decide (a = b) := by
  by_cases e : a = b
  · subst e; simp
  · have h : ¬ (Sum.inr a : Key) = Sum.inr b := fun q => e (Sum.inr.inj q)
    rw [decide_eq_false h, decide_eq_false e]
theorem key_lr (a : Int) (b : Str) : decide ((Sum.inl a : Key) = Sum.inr b) = false := decide_eq_false (fun q => nomatch q)
theorem key_rl (a : Str) (b : Int) : decide ((Sum.inr a : Key) = Sum.inl b) = false := decide_eq_false (fun q => nomatch q)
noncomputable def mixKind (prog : Program) (w : World) : PySem.KeyKind prog w Key where
  is := keyIs
  hash := keyH w
  inj := fun v a b ha hb => by
    rcases keyIs_shape ha with ⟨i, t, rfl, rfl⟩ | ⟨x, t, rfl, rfl⟩
    · rcases keyIs_shape hb with ⟨j, u, rfl, e⟩ | ⟨y, u, rfl, e⟩
      · injection e with e1 _; rw [e1]
      · exact nomatch e
    · rcases keyIs_shape hb with ⟨j, u, rfl, e⟩ | ⟨y, u, rfl, e⟩
      · exact nomatch e
      · injection e with e1 _; rw [e1]
  byValue := fun k v h => by
    rcases keyIs_shape h with ⟨i, t, rfl, rfl⟩ | ⟨x, t, rfl, rfl⟩ <;> rfl
  pyHash := fun hv h => by
    rcases keyIs_shape hv with ⟨i, t, rfl, rfl⟩ | ⟨x, t, rfl, rfl⟩
    · exact wpAny_pyHash_int h
    · exact wpAny_pyHash_str h
  eqBool := fun hu hv h => by
    rcases keyIs_shape hu with ⟨i, t, rfl, rfl⟩ | ⟨x, t, rfl, rfl⟩
    · rcases keyIs_shape hv with ⟨j, u, rfl, rfl⟩ | ⟨y, u, rfl, rfl⟩
      · rw [key_ll] at h; exact wpAny_eqBool_int h
      · rw [key_lr] at h; exact SeqAt.EqAt.int_str i t y u _ _ _ _ h
    · rcases keyIs_shape hv with ⟨j, u, rfl, rfl⟩ | ⟨y, u, rfl, rfl⟩
      · rw [key_rl] at h; exact SeqAt.EqAt.str_int x t j u _ _ _ _ h
      · rw [key_rr] at h; exact wpAny_eqBool_str h
  «strs» := fun k x t v h => by
    rcases keyIs_shape h with ⟨i, u, rfl, e⟩ | ⟨y, u, rfl, e⟩
    · exact nomatch e
    · injection e with e1 _
      subst e1
      cases v <;> rfl
theorem mixKind_int (prog : Program) (w : World) (i : Int) (t : Tok) : (mixKind prog w).is (.inl i) (.int i t) = true := keyIs_int i t
theorem mixKind_str (prog : Program) (w : World) (x : Str) (t : Tok) : (mixKind prog w).is (.inr x) (.str x t) = true := keyIs_str x t
end L2
namespace L2
open PySem PySem.Spec PyProof.Rows
inductive V where
  | non | bl (b : Bool) | int (i : Int) | str (x : Str) | byt (b : Array UInt8) | flt (b : UInt64) | ref (a : Addr) | ty (n : String)
  deriving DecidableEq
noncomputable def RelV : V → Value → Prop
  | .non, u => u = Value.none
  | .bl b, u => u = Value.bool b
  | .int i, u => ∃ t, u = Value.int i t
  | .str x, u => ∃ t, u = Value.str x t
  | .byt b, u => ∃ t, u = Value.bytes b t
  | .flt b, u => ∃ t, u = Value.float b t
  | .ref a, u => u = Value.ref a
  | .ty n, u => u = Value.type n
abbrev Vals : List V → List Value → Prop := Paired RelV
theorem Vals.length {xs : List V} {us : List Value} (r : Vals xs us) : xs.length = us.length := Paired.length r
theorem Vals.get : ∀ {xs : List V} {us : List Value} {i : Nat} {x : V}, Vals xs us → xs[i]? = some x → ∃ u, us[i]? = some u ∧ RelV x u
  | _, _, _, _, .nil, e => by simp at e
  | _, _, 0, _, .cons r _, e => by simp at e; subst e; exact ⟨_, rfl, r⟩
  | _, _, i + 1, x, .cons _ t, e => by
    obtain ⟨u, h1, h2⟩ := Vals.get (i := i) (x := x) t (by simpa using e)
    exact ⟨u, by simpa using h1, h2⟩
theorem Vals.set {x : V} {u : Value} (r : RelV x u) : ∀ {xs : List V} {us : List Value} (i : Nat), Vals xs us → Vals (xs.set i x) (us.set i u)
  | _, _, _, .nil => .nil
  | _, _, 0, .cons _ t => .cons r t
  | _, _, i + 1, .cons q t => .cons q (Vals.set r i t)
theorem Vals.append : ∀ {xs ys : List V} {us ws : List Value}, Vals xs us → Vals ys ws → Vals (xs ++ ys) (us ++ ws)
  | _, _, _, _, .nil, s => s
  | _, _, _, _, .cons r t, s => .cons r (Vals.append t s)
theorem Vals.take : ∀ {xs : List V} {us : List Value} (n : Nat), Vals xs us → Vals (xs.take n) (us.take n)
  | _, _, 0, _ => .nil
  | _, _, _ + 1, .nil => .nil
  | _, _, n + 1, .cons r t => .cons r (Vals.take n t)
theorem Vals.drop : ∀ {xs : List V} {us : List Value} (n : Nat), Vals xs us → Vals (xs.drop n) (us.drop n)
  | _, _, 0, r => r
  | _, _, _ + 1, .nil => .nil
  | _, _, n + 1, .cons _ t => Vals.drop n t
theorem Vals.none_of : ∀ {xs : List V} {us : List Value} {i : Nat}, Vals xs us → xs[i]? = none → us[i]? = none := fun {xs us i} r e => by
  have h1 := r.length
  have h2 : xs.length ≤ i := List.getElem?_eq_none_iff.mp e
  exact List.getElem?_eq_none_iff.mpr (by omega)
noncomputable def RelO : Option V → Option Value → Prop
  | some v, some u => RelV v u
  | none, none => True
  | _, _ => False
noncomputable def KV {κ : Type} : List (κ × V) → List (κ × Value) → Prop := Paired fun (p : κ × V) (q : κ × Value) => p.1 = q.1 ∧ RelV p.2 q.2
noncomputable def kV : Key → V
  | .inl i => .int i
  | .inr x => .str x
inductive HO where
  | lst (xs : List V)
  | tup (xs : List V)
  | dK (kvs : List (Key × V)) | dT (kvs : List (List Key × V))
  | set (S : Int → Bool) (n : Nat)
  | ins (C dx : Addr) (fs : List (Str × V))
  | own (x : Addr)
  | xd (fs : List (Str × V))
  | met (f x : Addr)
  | rng (lo hi : Int)
  | frz (o : Obj) (u : HO)
  | tbl (ps : Array Value)
  | ext (φ : Heap → Prop)
abbrev Hp := Addr → Option HO
noncomputable def upd (H : Hp) (a : Addr) (o : HO) : Hp := fun b => if b = a then some o else H b
theorem upd_same {H : Hp} {a : Addr} {o : HO} : upd H a o a = some o := by unfold upd; rw [if_pos rfl]
theorem upd_ne {H : Hp} {a b : Addr} {o : HO} (h : b ≠ a) : upd H a o b = H b := by unfold upd; rw [if_neg h]
theorem ne_of {H : Hp} {a b : Addr} {o u : HO} (h : H a = some o) (h' : H b = some u) (d : o ≠ u) : a ≠ b := by
  intro e; subst e; rw [h] at h'; exact d (Option.some.inj h')
theorem ne_of_none {H : Hp} {a b : Addr} {o : HO} (h : H a = some o) (h' : H b = none) : a ≠ b := by
  intro e; subst e; rw [h] at h'; cases h'
section
variable (P : Program) (w : World)
noncomputable def ObjOk (H : Hp) (h : Heap) (a : Addr) : HO → Prop
  | .lst xs => xs.length ≤ sizeLine ∧ ∃ (its : List Value) (n : Nat), Vals xs its ∧ h.get? a = some { cls := .type "list", data := .seq its.toArray n }
  | .tup xs => xs.length ≤ sizeLine ∧ ∃ its : List Value, Vals xs its ∧ IsTup h a its.toArray
  | .dK kvs => kvs.length ≤ sizeLine ∧ (a == sysModules) = false ∧ ∃ vs, KV kvs vs ∧ h.DictOf (mixKind P w) a vs
  | .dT _ => False
  | .set S n => h.SetOf (intKind P w) a S n
  | .ins C dx fs => H dx = some (.own a) ∧ fs.length ≤ 1000 ∧ dx ≠ a ∧ h.get? a = some (PySem.W.instObj C dx) ∧
      ∃ mA, h.Ns1 dx mA ∧ (∀ f, RelO (fs.lookup f) (mA f)) ∧ PySem.Within mA (fs.map (·.1))
  | .own _ => ∃ o, h.get? a = some o
  | .xd fs => ∃ mA, h.Ns1 a mA ∧ ∀ f, RelO (fs.lookup f) (mA f)
  | .rng lo hi => ∃ t u v, h.get? a = some { cls := .type "range", data := .fields #[.int lo t, .int hi u, .int 1 v] }
  | .frz o u => h.get? a = some o ∧ ObjOk H h a u
  | .tbl ps => h.get? a = some { cls := .none, data := .fields ps }
  | .met f x => h.get? a = some (PySem.W.methodObj (.ref f) (.ref x))
  | .ext φ => φ h ∧ (∃ o, h.get? a = some o) ∧ ∀ h1 h2 : Heap, φ h1 → (∀ o, h1.get? a = some o → h2.get? a = some o) → φ h2
noncomputable def HOk (H : Hp) (h : Heap) : Prop := ∀ a o, H a = some o → ObjOk P w H h a o
end
section
variable {P : Program} {w : World} {H H' : Hp} {h h' : Heap} {a : Addr} {o : HO}
theorem ObjOk.lt (x : ObjOk P w H h a o) : a < h.objs.size := by
  cases o with
  | lst xs => obtain ⟨_, _, _, _, e⟩ := x; exact Heap.lt_size e
  | tup xs => obtain ⟨_, _, _, p⟩ := x; exact p.lt
  | dK kvs => obtain ⟨_, _, _, _, o, _, _, e, _⟩ := x; exact Heap.lt_size e
  | dT kvs => exact False.elim x
  | set S n => obtain ⟨o, _, _, _, e, _⟩ := x; exact Heap.lt_size e
  | ins C dx fs => obtain ⟨_, _, _, e, _⟩ := x; exact Heap.lt_size e
  | own y => obtain ⟨_, e⟩ := x; exact Heap.lt_size e
  | xd fs => obtain ⟨_, ⟨_, _, _, e, _⟩, _⟩ := x; exact Heap.lt_size e
  | rng lo hi => obtain ⟨_, _, _, e⟩ := x; exact Heap.lt_size e
  | frz ob u => obtain ⟨e, _⟩ := x; exact Heap.lt_size e
  | tbl ps => exact Heap.lt_size (show h.get? a = some _ from x)
  | met f y => exact Heap.lt_size (show h.get? a = some _ from x)
  | ext φ => obtain ⟨_, ⟨_, e⟩, _⟩ := x; exact Heap.lt_size e
theorem Paired.mapP {α β : Type} {F G : α → β → Prop} : ∀ {l₁ : List α} {l₂ : List β}, Paired F l₁ l₂ → (∀ a b, F a b → G a b) → Paired G l₁ l₂
  | _, _, .nil, _ => .nil
  | _, _, .cons r t, f => .cons (f _ _ r) (Paired.mapP t f)
theorem ObjOk.stay (x : ObjOk P w H h a o) (k : ∀ b u, (b = a ∨ H b = some (.own a)) → h.get? b = some u → h'.get? b = some u)
    (ho : ∀ b, H b = some (.own a) → H' b = some (.own a)) (ht : ∀ b xs, H b = some (.tup xs) → H' b = some (.tup xs)) : ObjOk P w H' h' a o := by
  induction o with
  | lst xs => obtain ⟨z, its, n, r, e⟩ := x; exact ⟨z, its, n, r, k _ _ (.inl rfl) e⟩
  | tup xs => obtain ⟨z, its, r, ob, e, c⟩ := x; exact ⟨z, its, r, ob, k _ _ (.inl rfl) e, c⟩
  | dK kvs => obtain ⟨z, y, vs, r, ob, es, ep, e, c⟩ := x; exact ⟨z, y, vs, r, ob, es, ep, k _ _ (.inl rfl) e, c⟩
  | dT kvs => exact False.elim x
  | set S n => obtain ⟨ob, es, ep, t, e, c⟩ := x; exact ⟨ob, es, ep, t, k _ _ (.inl rfl) e, c⟩
  | ins C dx fs =>
    obtain ⟨d, z, ne, e, mA, ⟨od, es, ep, e2, c⟩, r⟩ := x
    exact ⟨ho _ d, z, ne, k _ _ (.inl rfl) e, mA, ⟨od, es, ep, k _ _ (.inr d) e2, c⟩, r⟩
  | own y => obtain ⟨ob, e⟩ := x; exact ⟨ob, k _ _ (.inl rfl) e⟩
  | xd fs => obtain ⟨mA, ⟨od, es, ep, e, c⟩, r⟩ := x; exact ⟨mA, ⟨od, es, ep, k _ _ (.inl rfl) e, c⟩, r⟩
  | rng lo hi => obtain ⟨t, u, v, e⟩ := x; exact ⟨t, u, v, k _ _ (.inl rfl) e⟩
  | frz ob u ih => obtain ⟨e, q⟩ := x; exact ⟨k _ _ (.inl rfl) e, ih q⟩
  | tbl ps =>
    have e : h.get? a = some { cls := .none, data := .fields ps } := x
    show h'.get? a = some { cls := .none, data := .fields ps }
    exact k a _ (.inl rfl) e
  | met f y =>
    have e : h.get? a = some (PySem.W.methodObj (.ref f) (.ref y)) := x
    show h'.get? a = some (PySem.W.methodObj (.ref f) (.ref y))
    exact k a _ (.inl rfl) e
  | ext φ => obtain ⟨p, ⟨o, e⟩, st⟩ := x; exact ⟨st _ _ p fun o q => k _ _ (.inl rfl) q, ⟨o, k _ _ (.inl rfl) e⟩, st⟩
theorem HOk.lt (x : HOk P w H h) (e : H a = some o) : a < h.objs.size := (x a o e).lt
theorem HOk.fresh (x : HOk P w H h) (e : h.objs.size ≤ a) : H a = none := by
  cases q : H a with
  | none => rfl
  | some u => exact absurd (Nat.lt_of_lt_of_le (x.lt q) e) (Nat.lt_irrefl _)
theorem HOk.kept (x : HOk P w H h) (k : ∀ b u, h.get? b = some u → h'.get? b = some u) : HOk P w H h' := fun a o e =>
  (x a o e).stay (fun b u _ q => k b u q) (fun _ q => q) fun _ _ q => q
theorem HOk.laid (x : HOk P w H h) (k : ∀ b u, h.get? b = some u → h'.get? b = some u) (hp : h.objs.size ≤ a) (new : ObjOk P w (upd H a o) h' a o) : HOk P w (upd H a o) h' := fun b u e => by
  have hn := x.fresh hp
  by_cases hb : b = a
  · subst hb; rw [upd_same] at e; cases e; exact new
  · rw [upd_ne hb] at e
    exact (x b u e).stay (fun c v _ q => k c v q) (fun c q => by rw [upd_ne (ne_of_none q hn)]; exact q) fun c xs q => by rw [upd_ne (ne_of_none q hn)]; exact q
end
noncomputable def Rd (H : Hp) (a : Addr) (u : HO) : Prop := H a = some u ∨ ∃ o, H a = some (.frz o u)
theorem Rd.of {H : Hp} {a : Addr} {u : HO} (h : H a = some u) : Rd H a u := .inl h
theorem Rd.ok {P : Program} {w : World} {H : Hp} {h : Heap} {a : Addr} {u : HO} (r : Rd H a u) (x : HOk P w H h) : ObjOk P w H h a u := by
  rcases r with r | ⟨o, r⟩
  · exact x a u r
  · obtain ⟨_, q⟩ := x a _ r
    exact q
noncomputable def Mut : Option HO → Prop
  | some (.lst _) => True
  | some (.dK _) => True
  | some (.dT _) => True
  | some (.set _ _) => True
  | some (.ins _ _ _) => True
  | some (.ext _) => True
  | _ => False
section
variable {P : Program} {w : World} {H : Hp} {h h' : Heap} {x e : Addr} {o' : HO}
theorem HOk.write (ok : HOk P w H h) (mu : Mut (H x)) (he : e = x ∨ H e = some (.own x)) (k : ∀ b u, b ≠ e → h.get? b = some u → h'.get? b = some u) (heo : ∃ u, h'.get? e = some u)
    (new : ObjOk P w (upd H x o') h' x o') : HOk P w (upd H x o') h' := fun b u q => by
  have nown : ∀ c y, H c = some (.own y) → c ≠ x := fun c y r z => by subst z; rw [r] at mu; exact mu
  have ntup : ∀ c xs, H c = some (.tup xs) → c ≠ x := fun c xs r z => by subst z; rw [r] at mu; exact mu
  by_cases hb : b = x
  · subst hb; rw [upd_same] at q; cases q; exact new
  · rw [upd_ne hb] at q
    by_cases hbe : b = e
    · have q' : H b = some (.own x) := by
        rcases he with z | z
        · exact absurd (hbe.trans z) hb
        · rw [hbe]; exact z
      rw [q] at q'; cases q'
      obtain ⟨v, hv⟩ := heo
      exact ⟨v, by rw [hbe]; exact hv⟩
    · refine (ok b u q).stay (fun c v hc r => k c v ?_ r) (fun c r => by rw [upd_ne (nown c b r)]; exact r) fun c xs r => by rw [upd_ne (ntup c xs r)]; exact r
      rcases hc with rfl | hc
      · exact hbe
      · rintro rfl
        rcases he with z | z
        · exact nown c b hc z
        · rw [hc] at z; cases z; exact hb rfl
end
structure Un (fs ex : List Addr) (H H' : Hp) (h h' : Heap) : Prop where
  keep : ∀ b o, h.get? b = some o → H b = none → b ∉ fs → b ∉ ex → h'.get? b = some o
  slot : ∀ b o, h.get? b = some o → H b = none → b ∈ fs → b ∉ ex → ∃ sl, h'.get? b = some { o with slots := sl }
  free : ∀ b o, h.get? b = some o → H b = none → b ∉ ex → H' b = none
  there : ∀ b o, h.get? b = some o → b ∉ ex → ∃ o', h'.get? b = some o'
  tups : ∀ b xs, H b = some (.tup xs) → H' b = some (.tup xs)
  frzs : ∀ b o u, H b = some (.frz o u) → H' b = some (.frz o u)
  tbls : ∀ b ps, H b = some (.tbl ps) → ∃ more, H' b = some (.tbl (ps ++ more))
section
variable {fs fs' ex ex' : List Addr} {H H1 H2 : Hp} {h h1 h2 h' : Heap} {a x e : Addr} {o : HO}
theorem Un.any (u : Un fs ex H H1 h h1) {b : Addr} {ob : Obj} (q : h.get? b = some ob) (n : H b = none) (hx : b ∉ ex) : ∃ sl, h1.get? b = some { ob with slots := sl } := by
  by_cases hb : b ∈ fs
  · exact u.slot b ob q n hb hx
  · exact ⟨ob.slots, u.keep b ob q n hb hx⟩
theorem Un.trans (a : Un fs ex H H1 h h1) (b : Un fs ex H1 H2 h1 h2) : Un fs ex H H2 h h2 where
  keep := fun c ob q n hc hx => b.keep c ob (a.keep c ob q n hc hx) (a.free c ob q n hx) hc hx
  slot := fun c ob q n hc hx => by
    obtain ⟨sl, e1⟩ := a.slot c ob q n hc hx
    obtain ⟨sl', e2⟩ := b.slot c _ e1 (a.free c ob q n hx) hc hx
    exact ⟨sl', e2⟩
  free := fun c ob q n hx => by
    obtain ⟨o', e1⟩ := a.there c ob q hx
    exact b.free c o' e1 (a.free c ob q n hx) hx
  there := fun c ob q hx => by
    obtain ⟨o', e1⟩ := a.there c ob q hx
    exact b.there c o' e1 hx
  tups := fun c xs q => b.tups c xs (a.tups c xs q)
  frzs := fun c ob xs q => b.frzs c ob xs (a.frzs c ob xs q)
  tbls := fun c ps q => by
    obtain ⟨m1, e1⟩ := a.tbls c ps q
    obtain ⟨m2, e2⟩ := b.tbls c _ e1
    exact ⟨m1 ++ m2, by rw [e2, Array.append_assoc]⟩
theorem Un.kept (k : ∀ b u, h.get? b = some u → h'.get? b = some u) : Un fs ex H H h h' :=
  ⟨fun b ob q _ _ _ => k b ob q, fun b ob q _ _ _ => ⟨ob.slots, k b ob q⟩, fun _ _ _ n _ => n, fun b ob q _ => ⟨ob, k b ob q⟩, fun _ _ q => q, fun _ _ _ q => q, fun _ ps q => ⟨#[], by rw [q]; simp⟩⟩
theorem Un.refl : Un fs ex H H h h := Un.kept fun _ _ q => q
theorem Un.laid (k : ∀ b u, h.get? b = some u → h'.get? b = some u) (hp : h.objs.size ≤ a) (hn : H a = none) : Un fs ex H (upd H a o) h h' where
  keep := fun b u q _ _ _ => k b u q
  slot := fun b u q _ _ _ => ⟨u.slots, k b u q⟩
  free := fun b u q n _ => by rw [upd_ne (Nat.ne_of_lt (Nat.lt_of_lt_of_le (Heap.lt_size q) hp))]; exact n
  there := fun b u q _ => ⟨u, k b u q⟩
  tups := fun b xs q => by rw [upd_ne (ne_of_none q hn)]; exact q
  frzs := fun b u xs q => by rw [upd_ne (ne_of_none q hn)]; exact q
  tbls := fun b ps q => ⟨#[], by rw [upd_ne (ne_of_none q hn), q]; simp⟩
theorem Un.write (mu : Mut (H x)) (he : e = x ∨ H e = some (.own x)) (k : ∀ b u, b ≠ e → h.get? b = some u → h'.get? b = some u) (heo : ∃ u, h'.get? e = some u) : Un fs ex H (upd H x o) h h' := by
  have hx : ∀ b, H b = none → b ≠ x := fun b n z => by subst z; rw [n] at mu; exact mu
  have hb : ∀ b, H b = none → b ≠ e := fun b n z => by
    subst z
    rcases he with r | r
    · exact hx b n r
    · rw [n] at r; cases r
  have hm : ∀ b u, H b = some u → ¬ Mut (some u) → b ≠ x := fun b u q nm z => by subst z; rw [q] at mu; exact nm mu
  refine ⟨fun b u q n _ _ => k b u (hb b n) q, fun b u q n _ _ => ⟨u.slots, k b u (hb b n) q⟩, fun b u q n _ => by rw [upd_ne (hx b n)]; exact n, fun b u q _ => ?_,
    fun b xs q => by rw [upd_ne (hm b _ q fun z => z)]; exact q, fun b u xs q => by rw [upd_ne (hm b _ q fun z => z)]; exact q, fun b ps q => ⟨#[], by rw [upd_ne (hm b _ q fun z => z), q]; simp⟩⟩
  by_cases hbe : b = e
  · subst hbe; exact heo
  · exact ⟨u, k b u hbe q⟩
theorem Un.mono (u : Un fs ex H H1 h h1) (hs : ∀ b ∈ fs, b ∈ fs') (hx : ∀ b ∈ ex, b ∈ ex') : Un fs' ex' H H1 h h1 :=
  ⟨fun b ob q n hb he => u.keep b ob q n (fun z => hb (hs b z)) fun z => he (hx b z), fun _ _ q n _ he => u.any q n fun z => he (hx _ z), fun b ob q n he => u.free b ob q n fun z => he (hx b z), fun b ob q he => u.there b ob q fun z => he (hx b z), u.tups, u.frzs, u.tbls⟩
end
noncomputable def trk (h : Heap) (H : Hp) : List Addr := (List.range h.objs.size).filter fun a => (H a).isSome
noncomputable def hidT (h : Heap) (H : Hp) : Heap := PySem.W.hideAll h (trk h H)
theorem hidT_size (h : Heap) (H : Hp) : (hidT h H).objs.size = h.objs.size := PySem.W.hideAll_size _ _
theorem hidT_get {h : Heap} {H : Hp} {b : Addr} {o : Obj} (e : h.get? b = some o) (n : H b = none) : (hidT h H).get? b = some o :=
  PySem.W.hideAll_get _ e fun hm => by
    have q : (H b).isSome = true := (List.mem_filter.mp hm).2
    rw [n] at q; simp at q
theorem of_hidT {h : Heap} {H : Hp} {b : Addr} {o : Obj} (e : (hidT h H).get? b = some o) : h.get? b = some o ∧ H b = none := by
  have e' : h.get? b = some o := PySem.W.of_hideAll (trk h H) e
  refine ⟨e', ?_⟩
  cases q : H b with
  | none => rfl
  | some x =>
    have hm : b ∈ trk h H := List.mem_filter.mpr ⟨List.mem_range.mpr (Heap.lt_size e'), by simp [q]⟩
    have z : (hidT h H).get? b = none := PySem.W.hideAll_none (trk h H) hm
    rw [z] at e; cases e
noncomputable def allNews (g h : Heap) (L : Addr) : List (Addr × Obj) := (List.range h.objs.size).filterMap fun a => if a = L ∨ (g.get? a).isSome = true then none else (h.get? a).map fun o => (a, o)
noncomputable def rest (g h : Heap) (L d : Addr) : List (Addr × Obj) := (allNews g h L).filter fun p => decide (p.1 ≠ d)
end L2
namespace L2
open PySem PySem.Spec PyProof.Rows
structure Mod (K : PySem.W.Frag) (mg : Str → Option Value) (base : Heap) : Prop where
  kin : K.In base
  glob : base.Ns mainGlobals mg
  blt : ∃ mb, base.Ns builtinsNs mb ∧ ∀ x : Str, x ≠ "__name__" → mb x = bootBuiltins x
  nolimit : base.NoLimit
/-- the context: a def's body (or a comprehension's block) running. base: fixed through the whole law; s₀, H₀: the entry; outer: the frames whose slots others may change (a def's callers); stack: all frames that run;
   ex: iterators that were made ahead of the entry and are walked here (a comprehension's); fn: the names whose cells were made at the entry (a def: all; a comprehension's block: its own); calm: not within an except suite; pn: pins that every state bears; xe: what is wanted of an exception that leaves the code -/
structure Cx where
  prog : Program
  w : World
  K : PySem.W.Frag
  mg : Str → Option Value
  base : Heap
  A : Around
  N : List Str
  s₀ : Shared
  H₀ : Hp
  env : Env
  outer : List Env
  stack : List Env
  ex : List Addr
  fn : Str → Bool
  calm : Bool
  pn : List (Addr × Obj)
  xe : Value → Shared → Prop
noncomputable def frs (l : List Env) : List Addr := l.filterMap (·.frame)
abbrev Cx.fs (X : Cx) : List Addr := frs X.outer
noncomputable def Vis (sc : Scope) (x : Str) : Prop := sc.names.lookup x = some .local ∨ sc.names.lookup x = some .cell ∨ sc.names.lookup x = some .free
noncomputable def Loc (sc : Scope) (x : Str) : Prop := sc.names.lookup x = some .local ∨ sc.names.lookup x = some .cell
noncomputable def Look (env : Env) (h : Heap) (m : Str → Option Value) (x : Str) (u : Value) : Prop :=
  (env.kindOf x = some .local ∧ m x = some u) ∨ ((env.kindOf x = some .cell ∨ env.kindOf x = some .free) ∧ ∃ c, env.cells.lookup x = some c ∧ h.IsCell c (some u))
structure Cx.Ok (X : Cx) : Prop where
  mod : Mod X.K X.mg X.base
  kind : X.env.scope.kind = .function
  glob : X.env.globals = mainGlobals
  blt : X.env.builtins = builtinsNs
  above : X.s₀.heap.objs.size ≤ X.env.locals
  inj : ∀ x y c, X.env.cells.lookup x = some c → X.env.cells.lookup y = some c → x = y
  has : ∀ x, (X.env.kindOf x = some .cell ∨ X.env.kindOf x = some .free) → ∃ c, X.env.cells.lookup x = some c
  cab : ∀ x c, X.fn x = true → X.env.cells.lookup x = some c → X.s₀.heap.objs.size ≤ c
  hd : X.calm = true → X.A.handled = none
  frames : X.A.frames = some X.stack
  stk : X.stack = X.outer ∨ (X.stack = X.env :: X.outer ∧ X.env.frame = some X.env.locals)
  exf : ∀ b ∈ X.ex, b ≠ X.env.locals ∧ ∀ x c, X.env.cells.lookup x = some c → c ≠ b
  bs : ∀ b o, X.base.get? b = some o → X.s₀.heap.get? b = some o ∧ X.H₀ b = none
  bsz : X.base.objs.size ≤ X.s₀.heap.objs.size
  noex : ∀ b o, X.base.get? b = some o → b ∉ X.ex
  exfs : ∀ b ∈ X.ex, b ∉ X.fs
  funs : X.s₀.heap.FunFrames X.base X.outer
  frf : ∀ b ∈ X.fs, X.H₀ b = none
structure Inv (X : Cx) (pins : List (Addr × Obj)) (σ : List (Option V)) (H : Hp) (s : Shared) : Prop where
  ok : X.Ok
  os : s.os = X.s₀.os
  bare : AllBare s.gens
  base : Un X.fs X.ex X.H₀ H X.s₀.heap s.heap
  loc : ∃ m, s.heap.Ns X.env.locals m ∧ ∀ (i : Nat) (x : Str) (v : V), X.N[i]? = some x → σ[i]? = some (some v) → Vis X.env.scope x → ∃ u, RelV v u ∧ Look X.env s.heap m x u
  cell : ∀ x c, X.env.cells.lookup x = some c → ∃ v, s.heap.IsCell c v
  free : H X.env.locals = none
  freeC : ∀ x c, X.env.cells.lookup x = some c → H c = none
  pin : ∀ p ∈ X.pn ++ pins, s.heap.get? p.1 = some p.2 ∧ H p.1 = none ∧ p.1 ≠ X.env.locals ∧ p.1 ∉ X.fs ∧ ∀ v, p.2.data ≠ .cell v
  hok : HOk X.prog X.w H s.heap
  len : σ.length = X.N.length
section
variable {X : Cx} {pins : List (Addr × Obj)} {σ : List (Option V)} {H H' : Hp} {s : Shared} {h' : Heap}
theorem Cx.Ok.nofr (ok : X.Ok) {b : Addr} {o : Obj} (e : X.base.get? b = some o) : b ∉ X.fs := fun hb => by
  have := (ok.funs.mem hb).1
  rw [e] at this; cases this
theorem Inv.bs (I : Inv X pins σ H s) : ∀ b o, X.base.get? b = some o → s.heap.get? b = some o ∧ H b = none := fun b o e =>
  ⟨I.base.keep b o (I.ok.bs b o e).1 (I.ok.bs b o e).2 (I.ok.nofr e) (I.ok.noex b o e), I.base.free b o (I.ok.bs b o e).1 (I.ok.bs b o e).2 (I.ok.noex b o e)⟩
theorem Inv.bk (I : Inv X pins σ H s) : ∀ b o, X.base.get? b = some o → s.heap.get? b = some o := fun b o e => (I.bs b o e).1
theorem Inv.mod (I : Inv X pins σ H s) : Mod X.K X.mg X.base := I.ok.mod
theorem Inv.kIn (I : Inv X pins σ H s) : X.K.In s.heap := I.ok.mod.kin.keeps I.bk
theorem Inv.nolimit (I : Inv X pins σ H s) : s.heap.NoLimit := I.ok.mod.nolimit.keeps I.bk
theorem Inv.lt (I : Inv X pins σ H s) : X.env.locals < s.heap.objs.size := let ⟨_, hn, _⟩ := I.loc; hn.lt
theorem Inv.sz (I : Inv X pins σ H s) : X.s₀.heap.objs.size ≤ s.heap.objs.size := Nat.le_trans I.ok.above (Nat.le_of_lt I.lt)
theorem Inv.nofs (I : Inv X pins σ H s) {a : Addr} (h : s.heap.objs.size ≤ a) : a ∉ X.fs := fun hb => by
  obtain ⟨_, o, ho, _⟩ := I.ok.funs.mem hb
  exact absurd (Nat.lt_of_lt_of_le (Heap.lt_size ho) (Nat.le_trans I.sz h)) (Nat.lt_irrefl _)
theorem Inv.cne (I : Inv X pins σ H s) : ∀ x c, X.env.cells.lookup x = some c → c ≠ X.env.locals := fun x c e z => by
  obtain ⟨v, o, ho, hd⟩ := I.cell x c e
  obtain ⟨m, ⟨o', es, ep, ho', hd', _⟩, _⟩ := I.loc
  rw [z, ho'] at ho; cases ho; rw [hd'] at hd; cases hd
theorem Inv.funs (I : Inv X pins σ H s) : s.heap.FunFrames X.base X.outer := by
  have all : ∀ (l : List Env), (∀ b ∈ frs l, b ∈ X.fs) → X.s₀.heap.FunFrames X.base l → s.heap.FunFrames X.base l := by
    intro l
    induction l with
    | nil => intro _ _; trivial
    | cons env r ih =>
      intro hs hl
      obtain ⟨hk, ⟨L, o, hf, hn, ho, hd⟩, hr⟩ := hl
      have hL : L ∈ X.fs := hs L (by unfold frs; rw [List.filterMap_cons, hf]; exact List.mem_cons_self)
      obtain ⟨sl, e⟩ := I.base.slot L o ho (I.ok.frf L hL) hL fun z => I.ok.exfs L z hL
      exact ⟨hk, ⟨L, _, hf, hn, e, hd⟩, ih (fun b hb => hs b (by unfold frs; rw [List.filterMap_cons, hf]; exact List.mem_cons_of_mem _ hb)) hr⟩
  exact all X.outer (fun _ hb => hb) I.ok.funs
theorem Inv.stack (I : Inv X pins σ H s) : s.heap.FunFrames X.base X.stack := by
  rcases I.ok.stk with e | ⟨e, hf⟩
  · rw [e]; exact I.funs
  · rw [e]
    obtain ⟨m, hn, _⟩ := I.loc
    refine .cons (by rw [I.ok.kind]; decide) hf hn ?_ I.funs
    exact Heap.get?_none_of_le (Nat.le_trans I.ok.bsz I.ok.above)
theorem Inv.stkSub (I : Inv X pins σ H s) : ∀ b ∈ frs X.stack, b ∈ X.env.locals :: X.fs := fun b hb => by
  rcases I.ok.stk with e | ⟨e, hf⟩
  · rw [e] at hb; exact List.mem_cons_of_mem _ hb
  · rw [e] at hb
    unfold frs at hb
    rw [List.filterMap_cons, hf] at hb
    exact hb
theorem Inv.stkFree (I : Inv X pins σ H s) : ∀ b ∈ frs X.stack, H b = none := fun b hb => by
  rcases List.mem_cons.mp (I.stkSub b hb) with e | hb
  · rw [e]; exact I.free
  · obtain ⟨_, o, ho, _⟩ := I.ok.funs.mem hb
    exact I.base.free b o ho (I.ok.frf b hb) fun z => I.ok.exfs b z hb
theorem Inv.step {g' : Array GenState} {t' : Nat} {d' : Drawn} {ch : List Addr} (I : Inv X pins σ H s)
    (hch : ∀ b ∈ ch, (b ∈ X.ex ∨ X.s₀.heap.objs.size ≤ b) ∧ b ≠ X.env.locals ∧ (∀ x c, X.env.cells.lookup x = some c → c ≠ b) ∧ ∀ p ∈ X.pn ++ pins, p.1 ≠ b)
    (keep : ∀ b o, b ≠ X.env.locals → b ∉ X.fs → b ∉ ch → s.heap.get? b = some o → H b = none → h'.get? b = some o)
    (slot : ∀ b o, b ≠ X.env.locals → b ∈ X.fs → b ∉ ch → s.heap.get? b = some o → H b = none → ∃ sl, h'.get? b = some { o with slots := sl }) (free : ∀ b o, b ∉ ch → s.heap.get? b = some o → H b = none → H' b = none)
    (there : ∀ b o, b ∉ ch → s.heap.get? b = some o → ∃ o', h'.get? b = some o')
    (tups : ∀ b xs, H b = some (.tup xs) → H' b = some (.tup xs)) (frzs : ∀ b o u, H b = some (.frz o u) → H' b = some (.frz o u)) (tbls : ∀ b ps, H b = some (.tbl ps) → ∃ more, H' b = some (.tbl (ps ++ more)))
    (ns : ∀ m, s.heap.Ns X.env.locals m → h'.Ns X.env.locals m) (hok : HOk X.prog X.w H' h') (hg : AllBare g') :
    Inv X pins σ H' { s with heap := h', gens := g', drawn := d', toks := t' } := by
  have neL : ∀ b o, X.s₀.heap.get? b = some o → b ≠ X.env.locals := fun b o e => Nat.ne_of_lt (Nat.lt_of_lt_of_le (Heap.lt_size e) I.ok.above)
  have neC : ∀ b o, X.s₀.heap.get? b = some o → b ∉ X.ex → b ∉ ch := fun b o e hx hb => by
    rcases (hch b hb).1 with z | z
    · exact hx z
    · exact absurd (Nat.lt_of_lt_of_le (Heap.lt_size e) z) (Nat.lt_irrefl _)
  have cellK : ∀ x c, X.env.cells.lookup x = some c → ∀ v, s.heap.IsCell c v → h'.IsCell c v := fun x c e v ⟨o, ho, hd⟩ => by
    have nch : c ∉ ch := fun z => (hch c z).2.2.1 x c e rfl
    by_cases hc : c ∈ X.fs
    · obtain ⟨sl, q⟩ := slot c o (I.cne x c e) hc nch ho (I.freeC x c e)
      exact ⟨_, q, hd⟩
    · exact ⟨o, keep c o (I.cne x c e) hc nch ho (I.freeC x c e), hd⟩
  refine ⟨I.ok, I.os, hg, ⟨fun b o e n hb hx => ?_, fun b o e n hb hx => ?_, fun b o e n hx => ?_, fun b o e hx => ?_, fun b xs e => tups b xs (I.base.tups b xs e), fun b o xs e => frzs b o xs (I.base.frzs b o xs e), fun b ps e => ?_⟩, ?_, fun x c e => ?_, ?_, fun x c e => ?_, fun p hp => ?_, hok, I.len⟩
  · exact keep b o (neL b o e) hb (neC b o e hx) (I.base.keep b o e n hb hx) (I.base.free b o e n hx)
  · obtain ⟨sl, e1⟩ := I.base.slot b o e n hb hx
    obtain ⟨sl', e2⟩ := slot b _ (neL b o e) hb (neC b o e hx) e1 (I.base.free b o e n hx)
    exact ⟨sl', e2⟩
  · obtain ⟨o', e1⟩ := I.base.there b o e hx
    exact free b o' (neC b o e hx) e1 (I.base.free b o e n hx)
  · obtain ⟨o', e1⟩ := I.base.there b o e hx
    exact there b o' (neC b o e hx) e1
  · obtain ⟨m1, e1⟩ := I.base.tbls b ps e
    obtain ⟨m2, e2⟩ := tbls b _ e1
    exact ⟨m1 ++ m2, by rw [e2, Array.append_assoc]⟩
  · obtain ⟨m, hn, hl⟩ := I.loc
    refine ⟨m, ns m hn, fun i x v e1 e2 e3 => ?_⟩
    obtain ⟨u, r, l⟩ := hl i x v e1 e2 e3
    refine ⟨u, r, ?_⟩
    rcases l with l | ⟨k, c, e, z⟩
    · exact .inl l
    · exact .inr ⟨k, c, e, cellK x c e _ z⟩
  · obtain ⟨v, z⟩ := I.cell x c e
    exact ⟨v, cellK x c e v z⟩
  · obtain ⟨m, ⟨o, _, _, ho, _⟩, _⟩ := I.loc
    exact free _ o (fun z => (hch _ z).2.1 rfl) ho I.free
  · obtain ⟨v, o, ho, hd⟩ := I.cell x c e
    exact free c o (fun z => (hch c z).2.2.1 x c e rfl) ho (I.freeC x c e)
  · obtain ⟨e, n, ne, nf, d⟩ := I.pin p hp
    have nch : p.1 ∉ ch := fun z => (hch p.1 z).2.2.2 p hp rfl
    exact ⟨keep p.1 p.2 ne nf nch e n, free p.1 p.2 nch e n, ne, nf, d⟩
theorem Inv.un {t' : Nat} (I : Inv X pins σ H s) (u : Un X.fs [] H H' s.heap h') (hok : HOk X.prog X.w H' h') : Inv X pins σ H' { s with heap := h', toks := t' } := by
  obtain ⟨m, ⟨o, es, ep, ho, r⟩, _⟩ := id I.loc
  obtain ⟨sl, hL⟩ := u.any ho I.free (by simp)
  exact I.step (g' := s.gens) (d' := s.drawn) (ch := []) (fun _ z => nomatch z) (fun b o _ hb _ e n => u.keep b o e n hb (by simp)) (fun b o _ hb _ e n => u.slot b o e n hb (by simp)) (fun b o _ e n => u.free b o e n (by simp)) (fun b o _ e => u.there b o e (by simp)) u.tups u.frzs u.tbls (fun m' hm => by
    obtain ⟨o', es', ep', ho', r'⟩ := hm
    rw [ho] at ho'; cases ho'
    exact ⟨_, es', ep', hL, r'⟩) hok I.bare
theorem Inv.call {g' : Array GenState} {t' : Nat} {d' : Drawn} {ch : List Addr} (I : Inv X pins σ H s) (u : Un (frs X.stack) ch H H' s.heap h') (hok : HOk X.prog X.w H' h') (hg : AllBare g')
    (hch : ∀ b ∈ ch, (b ∈ X.ex ∨ X.s₀.heap.objs.size ≤ b) ∧ b ≠ X.env.locals ∧ (∀ x c, X.env.cells.lookup x = some c → c ≠ b) ∧ ∀ p ∈ X.pn ++ pins, p.1 ≠ b) :
    Inv X pins σ H' { s with heap := h', gens := g', drawn := d', toks := t' } := by
  obtain ⟨m, ⟨o, es, ep, ho, r⟩, _⟩ := id I.loc
  obtain ⟨sl, hL⟩ := u.any ho I.free fun z => (hch _ z).2.1 rfl
  exact I.step (ch := ch) hch (fun b o hL hb hc e n => u.keep b o e n (fun z => (List.mem_cons.mp (I.stkSub b z)).elim hL hb) hc) (fun b o _ _ hc e n => u.any e n hc) (fun b o hc e n => u.free b o e n hc) (fun b o hc e => u.there b o e hc) u.tups u.frzs u.tbls (fun m' hm => by
    obtain ⟨o', es', ep', ho', r'⟩ := hm
    rw [ho] at ho'; cases ho'
    exact ⟨_, es', ep', hL, r'⟩) hok hg
theorem Inv.turned {t' : Nat} {it : Addr} (I : Inv X pins σ H s) (k : ∀ b o, b ≠ it → s.heap.get? b = some o → h'.get? b = some o) (hn : H it = none) (hL : it ≠ X.env.locals)
    (h1 : it ∈ X.ex ∨ X.s₀.heap.objs.size ≤ it) (h2 : ∀ x c, X.env.cells.lookup x = some c → c ≠ it) (h3 : ∀ p ∈ X.pn ++ pins, p.1 ≠ it) : Inv X pins σ H { s with heap := h', toks := t' } := by
  have nit : ∀ b u, H b = some u → b ≠ it := fun b u e z => by rw [z, hn] at e; cases e
  refine I.step (g' := s.gens) (d' := s.drawn) (ch := [it]) (fun b hb => ?_) (fun b o _ _ hc e _ => k b o (fun z => hc (by simp [z])) e) (fun b o _ _ hc e _ => ⟨o.slots, k b o (fun z => hc (by simp [z])) e⟩) (fun _ _ _ _ n => n)
    (fun b o hc e => ⟨o, k b o (fun z => hc (by simp [z])) e⟩) (fun _ _ e => e) (fun _ _ _ e => e) (fun b ps e => ⟨#[], by rw [e]; simp⟩) (fun m hm => ?_) (fun b u e => ?_) I.bare
  · have e : b = it := by simpa using hb
    subst e
    exact ⟨h1, hL, h2, h3⟩
  · obtain ⟨o, es, ep, ho, r⟩ := hm
    exact ⟨o, es, ep, k _ o (Ne.symm hL) ho, r⟩
  · refine (I.hok b u e).stay (fun c v hc q => k c v ?_ q) (fun _ q => q) fun _ _ q => q
    rcases hc with z | z
    · rw [z]; exact nit b u e
    · exact nit c _ z
theorem Inv.tok (I : Inv X pins σ H s) (t : Nat) : Inv X pins σ H { s with toks := t } := I.un (h' := s.heap) (t' := t) Un.refl I.hok
theorem Inv.kept {t' : Nat} (I : Inv X pins σ H s) (k : ∀ b u, s.heap.get? b = some u → h'.get? b = some u) : Inv X pins σ H { s with heap := h', toks := t' } := I.un (Un.kept k) (I.hok.kept k)
theorem Inv.laid {a : Addr} {o : HO} {t' : Nat} (I : Inv X pins σ H s) (k : ∀ b u, s.heap.get? b = some u → h'.get? b = some u) (hp : s.heap.objs.size ≤ a) (new : ObjOk X.prog X.w (upd H a o) h' a o) :
    Inv X pins σ (upd H a o) { s with heap := h', toks := t' } := I.un (Un.laid k hp (I.hok.fresh hp)) (I.hok.laid k hp new)
theorem Inv.write {x e : Addr} {o : HO} {t' : Nat} (I : Inv X pins σ H s) (mu : Mut (H x)) (he : e = x ∨ H e = some (.own x)) (k : ∀ b u, b ≠ e → s.heap.get? b = some u → h'.get? b = some u) (heo : ∃ u, h'.get? e = some u)
    (new : ObjOk X.prog X.w (upd H x o) h' x o) : Inv X pins σ (upd H x o) { s with heap := h', toks := t' } := I.un (Un.write mu he k heo) (I.hok.write mu he k heo new)
theorem Inv.weak {σ' : List (Option V)} (I : Inv X pins σ H s) (hl : σ'.length = σ.length) (w : ∀ (i : Nat) v, σ'[i]? = some (some v) → σ[i]? = some (some v)) : Inv X pins σ' H s :=
  ⟨I.ok, I.os, I.bare, I.base, let ⟨m, hn, hl'⟩ := I.loc; ⟨m, hn, fun i x v e1 e2 e3 => hl' i x v e1 (w i v e2) e3⟩, I.cell, I.free, I.freeC, I.pin, I.hok, hl.trans I.len⟩
theorem Inv.pins_of {pins' : List (Addr × Obj)} (I : Inv X pins σ H s) (h : ∀ p ∈ pins', s.heap.get? p.1 = some p.2 ∧ H p.1 = none ∧ p.1 ≠ X.env.locals ∧ p.1 ∉ X.fs ∧ ∀ v, p.2.data ≠ .cell v) : Inv X pins' σ H s :=
  ⟨I.ok, I.os, I.bare, I.base, I.loc, I.cell, I.free, I.freeC, fun p hp => (List.mem_append.mp hp).elim (fun z => I.pin p (List.mem_append_left _ z)) (h p), I.hok, I.len⟩
theorem nodup_ix {N : List Str} (hN : N.Nodup) {i j : Nat} {x : Str} (a : N[i]? = some x) (b : N[j]? = some x) : i = j := by
  obtain ⟨h1, e1⟩ := List.getElem?_eq_some_iff.mp a
  obtain ⟨h2, e2⟩ := List.getElem?_eq_some_iff.mp b
  exact (List.getElem_inj hN).mp (e1.trans e2.symm)
theorem store_ok2 {M : Model} {A : Around} {E : Value → Shared → Prop} {i : Nat} {x : Str} {v : V} {u : Value} {Q : Unit → Shared → Prop} (I : Inv X pins σ H s) (hN : X.N.Nodup) (hi : X.N[i]? = some x) (hx : Loc X.env.scope x) (r : RelV v u)
    (h : ∀ s', Inv X pins (σ.set i (some v)) H s' → (∃ a, Heap.SameBut a s.heap s'.heap ∧ (a = X.env.locals ∨ X.env.cells.lookup x = some a)) → Q () s') (hf : X.fn x = true ∨ X.env.scope.names.lookup x = some .local := by first | exact .inl rfl | exact .inr rfl | assumption) : wpAny M A (storeName X.env x u) Q E s := by
  obtain ⟨m, hn, hl⟩ := id I.loc
  have hcls : (X.env.scope.kind == .class || (X.env.scope.kind == .module && X.env.locals != X.env.globals)) = false := by rw [I.ok.kind]; rfl
  have hiσ : i < σ.length := by rw [I.len]; exact (List.getElem?_eq_some_iff.mp hi).1
  have cne := I.cne
  have tracked : ∀ {a : Addr} {h' : Heap}, (∃ o, s.heap.get? a = some o ∧ H a = none) → Heap.SameBut a s.heap h' → HOk X.prog X.w H h' := fun {a h'} ha hs b ob e => by
    obtain ⟨_, _, hfree⟩ := ha
    refine (I.hok b ob e).stay (fun c w' hc q => (hs.2 c ?_).trans q) (fun _ q => q) fun _ _ q => q
    rintro rfl
    rcases hc with rfl | hc
    · rw [hfree] at e; cases e
    · rw [hfree] at hc; cases hc
  rcases hx with hk | hk
  · refine wpAny_storeName_local hk hn (fun h' hn' hs => ?_) hcls
    obtain ⟨oL, _, _, hoL, _⟩ := id hn
    refine h _ ⟨I.ok, I.os, I.bare, ⟨fun b o e n hb hx => ?_, fun b o e n hb hx => ?_, I.base.free, fun b o e hx => ?_, I.base.tups, I.base.frzs, I.base.tbls⟩, ⟨_, hn', fun j y v' e1 e2 e3 => ?_⟩, fun y c e => ?_, I.free, I.freeC, fun p hp => ?_, tracked ⟨oL, hoL, I.free⟩ hs, by simpa using I.len⟩ ⟨_, hs, .inl rfl⟩
    · exact (hs.2 b (Nat.ne_of_lt (Nat.lt_of_lt_of_le (Heap.lt_size e) I.ok.above))).trans (I.base.keep b o e n hb hx)
    · obtain ⟨sl, e1⟩ := I.base.slot b o e n hb hx
      exact ⟨sl, (hs.2 b (Nat.ne_of_lt (Nat.lt_of_lt_of_le (Heap.lt_size e) I.ok.above))).trans e1⟩
    · obtain ⟨o', e1⟩ := I.base.there b o e hx
      exact ⟨o', (hs.2 b (Nat.ne_of_lt (Nat.lt_of_lt_of_le (Heap.lt_size e) I.ok.above))).trans e1⟩
    · by_cases hj : j = i
      · subst hj
        rw [hi] at e1; cases e1
        rw [List.getElem?_set_self hiσ] at e2
        cases e2
        exact ⟨u, r, .inl ⟨hk, by simp⟩⟩
      · rw [List.getElem?_set_ne (Ne.symm hj)] at e2
        obtain ⟨u', r', q⟩ := hl j y v' e1 e2 e3
        refine ⟨u', r', ?_⟩
        rcases q with ⟨k, e⟩ | ⟨k, c, e, z⟩
        · refine .inl ⟨k, ?_⟩
          have : y ≠ x := fun e => hj (nodup_ix hN e1 (e ▸ hi))
          simp [this, e]
        · exact .inr ⟨k, c, e, z.sameBut hs (cne y c e)⟩
    · obtain ⟨w', z⟩ := I.cell y c e
      exact ⟨w', z.sameBut hs (cne y c e)⟩
    · obtain ⟨e, n, ne, nf, d⟩ := I.pin p hp
      exact ⟨(hs.2 p.1 ne).trans e, n, ne, nf, d⟩
  · have hfn : X.fn x = true := by
      rcases hf with z | z
      · exact z
      · rw [z] at hk; cases hk
    obtain ⟨c, hc⟩ := I.ok.has x (.inl hk)
    obtain ⟨w', z⟩ := I.cell x c hc
    refine wpAny_storeName_cell I.ok.kind hk hc z (fun h' hc' hs => ?_)
    obtain ⟨oc, hoc, hocd⟩ := id z
    refine h { s with heap := h' } ⟨I.ok, I.os, I.bare, ⟨fun b o e n hb hx => ?_, fun b o e n hb hx => ?_, I.base.free, fun b o e hx => ?_, I.base.tups, I.base.frzs, I.base.tbls⟩, ⟨m, hn.sameBut hs (Ne.symm (cne x c hc)), fun j y v' e1 e2 e3 => ?_⟩, fun y c' e => ?_, I.free, I.freeC, fun p hp => ?_, tracked ⟨oc, hoc, I.freeC x c hc⟩ hs, by simpa using I.len⟩ ⟨c, hs, .inr hc⟩
    · exact (hs.2 b (Nat.ne_of_lt (Nat.lt_of_lt_of_le (Heap.lt_size e) (I.ok.cab x c hfn hc)))).trans (I.base.keep b o e n hb hx)
    · obtain ⟨sl, e1⟩ := I.base.slot b o e n hb hx
      exact ⟨sl, (hs.2 b (Nat.ne_of_lt (Nat.lt_of_lt_of_le (Heap.lt_size e) (I.ok.cab x c hfn hc)))).trans e1⟩
    · obtain ⟨o', e1⟩ := I.base.there b o e hx
      exact ⟨o', (hs.2 b (Nat.ne_of_lt (Nat.lt_of_lt_of_le (Heap.lt_size e) (I.ok.cab x c hfn hc)))).trans e1⟩
    · by_cases hj : j = i
      · subst hj
        rw [hi] at e1; cases e1
        rw [List.getElem?_set_self hiσ] at e2
        cases e2
        exact ⟨u, r, .inr ⟨.inl hk, c, hc, hc'⟩⟩
      · rw [List.getElem?_set_ne (Ne.symm hj)] at e2
        obtain ⟨u', r', q⟩ := hl j y v' e1 e2 e3
        refine ⟨u', r', ?_⟩
        rcases q with q | ⟨k, c', e, z'⟩
        · exact .inl q
        · refine .inr ⟨k, c', e, z'.sameBut hs ?_⟩
          rintro rfl
          exact hj (nodup_ix hN e1 (I.ok.inj _ _ _ e hc ▸ hi))
    · by_cases hcc : c' = c
      · subst hcc; exact ⟨_, hc'⟩
      · obtain ⟨w2, z2⟩ := I.cell y c' e
        exact ⟨w2, z2.sameBut hs hcc⟩
    · obtain ⟨e, n, ne, nf, d⟩ := I.pin p hp
      refine ⟨(hs.2 p.1 ?_).trans e, n, ne, nf, d⟩
      intro q
      rw [q, hoc] at e
      have q' : oc = p.2 := Option.some.inj e
      exact d w' (by rw [← q']; exact hocd)
theorem store_ok {M : Model} {A : Around} {E : Value → Shared → Prop} {i : Nat} {x : Str} {v : V} {u : Value} {Q : Unit → Shared → Prop} (I : Inv X pins σ H s) (hN : X.N.Nodup) (hi : X.N[i]? = some x) (hx : Loc X.env.scope x) (r : RelV v u)
    (h : ∀ s', Inv X pins (σ.set i (some v)) H s' → Q () s') (hf : X.fn x = true ∨ X.env.scope.names.lookup x = some .local := by first | exact .inl rfl | exact .inr rfl | assumption) : wpAny M A (storeName X.env x u) Q E s :=
  store_ok2 I hN hi hx r (fun s' I' _ => h s' I') hf
theorem Inv.call' {s' : Shared} {ch : List Addr} (I : Inv X pins σ H s) (ho : s'.os = s.os) (u : Un (frs X.stack) ch H H' s.heap s'.heap) (hok : HOk X.prog X.w H' s'.heap) (hg : AllBare s'.gens)
    (hch : ∀ b ∈ ch, (b ∈ X.ex ∨ X.s₀.heap.objs.size ≤ b) ∧ b ≠ X.env.locals ∧ (∀ x c, X.env.cells.lookup x = some c → c ≠ b) ∧ ∀ p ∈ X.pn ++ pins, p.1 ≠ b) : Inv X pins σ H' s' := by
  obtain ⟨h', g', d', t', o'⟩ := s'
  have e : o' = s.os := ho
  subst e
  exact I.call (g' := g') (t' := t') (d' := d') u hok hg hch
end
abbrev XK := Value → Option Addr → Hp → Prop
abbrev St := List (Option V)
abbrev VK := V → Hp → Prop
abbrev TE := St → Hp → VK → Prop
abbrev TT := St → Hp → (Bool → Hp → Prop) → Prop
abbrev TA := St → Hp → (List V → Hp → Prop) → Prop
structure Ends where
  nx : St → Hp → Prop
  rt : VK
  bk : St → Hp → Prop := fun _ _ => False
  ct : St → Hp → Prop := fun _ _ => False
abbrev TS := Ends → St → Hp → Prop
noncomputable def EP (X : Cx) (pins : List (Addr × Obj)) (σ : St) (Q : VK) (u : Value) (s' : Shared) : Prop := ∃ v H', Inv X pins σ H' s' ∧ RelV v u ∧ Q v H'
noncomputable def TP (X : Cx) (pins : List (Addr × Obj)) (σ : St) (Q : Bool → Hp → Prop) (b : Bool) (s' : Shared) : Prop := ∃ H', Inv X pins σ H' s' ∧ Q b H'
noncomputable def AP (X : Cx) (pins : List (Addr × Obj)) (σ : St) (Q : List V → Hp → Prop) (us : List Value) (s' : Shared) : Prop := ∃ vs H', Inv X pins σ H' s' ∧ Vals vs us ∧ Q vs H'
noncomputable def SP (X : Cx) (pins : List (Addr × Obj)) (D : Ends) (f : Flow) (s' : Shared) : Prop :=
  match f with
  | .next => ∃ σ' H', Inv X pins σ' H' s' ∧ D.nx σ' H'
  | .brk => ∃ σ' H', Inv X pins σ' H' s' ∧ D.bk σ' H'
  | .cont => ∃ σ' H', Inv X pins σ' H' s' ∧ D.ct σ' H'
  | .ret u => ∃ v σ' H', Inv X pins σ' H' s' ∧ RelV v u ∧ D.rt v H'
noncomputable def PE (X : Cx) (e : Expr) (t : TE) : Prop :=
  ∀ (pins : List (Addr × Obj)) (s : Shared) (σ : St) (H : Hp) (Q : VK), Inv X pins σ H s → t σ H Q → wpAny (model X.prog X.w) X.A (eval e X.env) (EP X pins σ Q) X.xe s
noncomputable def PT (X : Cx) (e : Expr) (t : TT) : Prop :=
  ∀ (pins : List (Addr × Obj)) (s : Shared) (σ : St) (H : Hp) (Q : Bool → Hp → Prop), Inv X pins σ H s → t σ H Q → wpAny (model X.prog X.w) X.A (isTrue e X.env (eval e X.env)) (TP X pins σ Q) X.xe s
noncomputable def PW (X : Cx) (e : Expr) (t : TT) : Prop :=
  ∀ (whole : Sem Value) (pins : List (Addr × Obj)) (s : Shared) (σ : St) (H : Hp) (Q : Bool → Hp → Prop), Inv X pins σ H s → t σ H Q → wpAny (model X.prog X.w) X.A (isTrue e X.env whole) (TP X pins σ Q) X.xe s
theorem PW.pt {X : Cx} {e : Expr} {t : TT} (h : PW X e t) : PT X e t := h _
noncomputable def PA (X : Cx) (es : List Expr) (t : TA) : Prop :=
  ∀ (pos : Pos) (pins : List (Addr × Obj)) (s : Shared) (σ : St) (H : Hp) (Q : List V → Hp → Prop), Inv X pins σ H s → t σ H Q → wpAny (model X.prog X.w) X.A (spliced (backTo pos (starEach es X.env))) (AP X pins σ Q) X.xe s
noncomputable def PS (X : Cx) (st : Stmt) (t : TS) : Prop :=
  ∀ (pins : List (Addr × Obj)) (s : Shared) (σ : St) (H : Hp) (D : Ends), Inv X pins σ H s → t D σ H → wpAny (model X.prog X.w) X.A (exec st X.env) (SP X pins D) X.xe s
noncomputable def PSs (X : Cx) (st : List Stmt) (t : TS) : Prop :=
  ∀ (pins : List (Addr × Obj)) (s : Shared) (σ : St) (H : Hp) (D : Ends), Inv X pins σ H s → t D σ H → wpAny (model X.prog X.w) X.A (execs st X.env) (SP X pins D) X.xe s
theorem thn {α : Type} {t : Sem α} {Q Q' : α → Shared → Prop} {M : Model} {A : Around} {E : Value → Shared → Prop} {s : Shared} (h : wpAny M A t Q E s) (hQ : ∀ a s, Q a s → Q' a s) : wpAny M A t Q' E s := wpAny_mono h hQ fun _ _ x => x
end L2
namespace L2
open PySem PySem.Spec PyProof.Rows
section
variable {X : Cx}
noncomputable def tVar (i : Nat) : TE := fun σ H Q => ∃ v, σ[i]? = some (some v) ∧ Q v H
noncomputable def tC (v : V) : TE := fun _ H Q => Q v H
theorem pe_var {i : Nat} {x : Str} {pos : Pos} (hN : X.N[i]? = some x) (hv : Vis X.env.scope x) (hd : (x == ("__debug__" : Str)) = false := by decide) (hcd : (x == ("__classdict__" : Str)) = false := by decide) : PE X (.Name x pos) (tVar i) := by
  intro pins s σ H Q I h
  obtain ⟨v, e, h⟩ := h
  obtain ⟨m, hn, hl⟩ := I.loc
  obtain ⟨u, r, l⟩ := hl i x v hN e hv
  have fin : EP X pins σ Q u s := ⟨v, H, I, r, h⟩
  rcases l with ⟨hk, hm⟩ | ⟨hk, c, hc, hcell⟩
  · exact wpAny_Name (wpAny_loadName_local I.ok.kind hk hn hm fin) hd
  · rcases hk with hk | hk
    · exact wpAny_Name (wpAny_loadName_cell I.ok.kind hk hc hcell fin) hd
    · exact wpAny_Name (wpAny_loadName_free I.ok.kind hk hc hcell fin hcd) hd
theorem pe_int {i j pos} : PE X (.Constant (.int i) j pos) (tC (.int i)) := fun _ _ _ H _ I h => wpAny_Constant_int ⟨.int i, H, I.tok _, ⟨_, rfl⟩, h⟩
theorem pe_bl {b j pos} : PE X (.Constant (.bool b) j pos) (tC (.bl b)) := fun _ _ _ H _ I h => Constant_bool ⟨.bl b, H, I, rfl, h⟩
theorem pe_str {x j pos} : PE X (.Constant (.str x) j pos) (tC (.str x)) := fun _ _ _ H _ I h => Calls.Constant_str ⟨.str x, H, I.tok _, ⟨_, rfl⟩, h⟩
noncomputable def Gl (X : Cx) (x : Str) : Prop := X.env.kindOf x = some .globalImplicit
theorem ld_glob {E : Value → Shared → Prop} {pins : List (Addr × Obj)} {s : Shared} {σ : St} {H : Hp} {x : Str} {u : Value} {pos : Pos} {Q : Value → Shared → Prop} (I : Inv X pins σ H s) (hg : Gl X x) (hm : X.mg x = some u) (h : Q u s)
    (hd : (x == ("__debug__" : Str)) = false := by decide) : wpAny (model X.prog X.w) X.A (eval (.Name x pos) X.env) Q E s :=
  Calls.Name_function_global I.ok.kind hg (Calls.loadGlobal_global (by rw [I.ok.glob]; exact I.mod.glob.keeps I.bk) hm h) hd
theorem ld_blt {E : Value → Shared → Prop} {pins : List (Addr × Obj)} {s : Shared} {σ : St} {H : Hp} {x : Str} {u : Value} {pos : Pos} {Q : Value → Shared → Prop} (I : Inv X pins σ H s) (hg : Gl X x) (hm : X.mg x = none) (hv : bootBuiltins x = some u) (h : Q u s)
    (hn : x ≠ "__name__" := by decide) (hd : (x == ("__debug__" : Str)) = false := by decide) : wpAny (model X.prog X.w) X.A (eval (.Name x pos) X.env) Q E s := by
  obtain ⟨mb, h1, h2⟩ := I.mod.blt
  exact Calls.Name_function_global I.ok.kind hg (Calls.loadGlobal_builtin (by rw [I.ok.glob]; exact I.mod.glob.keeps I.bk) hm (by rw [I.ok.blt]; exact h1.keeps I.bk) ((h2 x hn).trans hv) h) hd
theorem pe_glob {x : Str} {v : V} {u : Value} {pos : Pos} (hg : Gl X x) (hm : X.mg x = some u) (r : RelV v u) (hd : (x == ("__debug__" : Str)) = false := by decide) : PE X (.Name x pos) (tC v) :=
  fun _ _ _ H _ I h => ld_glob I hg hm ⟨v, H, I, r, h⟩ hd
theorem pe_bltn {x : Str} {v : V} {u : Value} {pos : Pos} (hg : Gl X x) (hm : X.mg x = none) (hv : bootBuiltins x = some u) (r : RelV v u) (hn : x ≠ "__name__" := by decide) (hd : (x == ("__debug__" : Str)) = false := by decide) : PE X (.Name x pos) (tC v) :=
  fun _ _ _ H _ I h => ld_blt I hg hm hv ⟨v, H, I, r, h⟩ hn hd
variable {a b : Expr} {ta tb : TE} {pos : Pos}
noncomputable def PC (X : Cx) (op : CmpOp) (a b : Expr) (t : TE) : Prop :=
  ∀ (pins : List (Addr × Obj)) (s : Shared) (σ : St) (H : Hp) (Q : VK), Inv X pins σ H s → t σ H Q →
    wpAny (model X.prog X.w) X.A (eval a X.env) (fun v s₁ => wpAny (model X.prog X.w) X.A (eval b X.env) (fun u s₂ => wpAny (model X.prog X.w) X.A (compareOp op v u) (EP X pins σ Q) X.xe s₂) X.xe s₁) X.xe s
theorem nobehind (b : Expr) {op : CmpOp} (h : op ≠ .In) (h2 : op ≠ .NotIn) : behindInMarks op b = false := by
  have e1 : (op == CmpOp.In) = false := by cases op <;> first | rfl | exact absurd rfl h
  have e2 : (op == CmpOp.NotIn) = false := by cases op <;> first | rfl | exact absurd rfl h2
  cases b <;> simp [behindInMarks, e1, e2]
noncomputable def tB (t : TE) : TT := fun σ H Q => t σ H fun x H1 => ∃ c, x = .bl c ∧ Q c H1
theorem pt_cmp {op : CmpOp} {t : TE} (h : PC X op a b t) (h1 : behindInMarks op b = false := by first | exact nobehind _ (by decide) (by decide) | rfl) : PT X (.Compare a [op] [b] pos) (tB t) := by
  intro pins s σ H Q I hw
  refine wpAny_isTrue_Compare1 (thn (h pins s σ H _ I hw) fun v s1 h1 => thn h1 fun u s2 h2 => thn h2 fun c s3 ⟨x, H1, I1, r1, q1⟩ => ?_) h1
  obtain ⟨d, rfl, q⟩ := q1
  cases r1
  exact wpAny_truthy_bool ⟨H1, I1, q⟩
variable {tA tB' : TT} {rest : List Expr}
noncomputable def tAnd (t u : TT) : TT := fun σ H Q => t σ H fun c H1 => if c = true then u σ H1 Q else Q false H1
noncomputable def tOr (t u : TT) : TT := fun σ H Q => t σ H fun c H1 => if c = true then Q true H1 else u σ H1 Q
noncomputable def tNot (t : TT) : TT := fun σ H Q => t σ H fun c H1 => Q (!c) H1
theorem pw_and1 (ha : PT X a tA) : PW X (.BoolOp .And [a] pos) tA := by
  intro wh pins s σ H Q I h
  refine isTrue_and (thn (ha pins s σ H Q I h) fun c s1 e => ?_)
  cases c with
  | true => exact isTrue_and_nil e
  | false => exact e
theorem pw_or1 (ha : PT X a tA) : PW X (.BoolOp .Or [a] pos) tA := by
  intro wh pins s σ H Q I h
  refine isTrue_or (thn (ha pins s σ H Q I h) fun c s1 e => ?_)
  cases c with
  | false => exact isTrue_or_nil e
  | true => exact e
theorem pw_and (ha : PT X a tA) (hb : PW X (.BoolOp .And (b :: rest) pos) tB') : PW X (.BoolOp .And (a :: b :: rest) pos) (tAnd tA tB') := by
  intro wh pins s σ H Q I h
  refine isTrue_and (thn (ha pins s σ H _ I h) fun c s1 ⟨H1, I1, q1⟩ => ?_)
  cases c with
  | true => exact hb wh pins s1 σ H1 Q I1 q1
  | false => exact ⟨H1, I1, q1⟩
theorem pw_or (ha : PT X a tA) (hb : PW X (.BoolOp .Or (b :: rest) pos) tB') : PW X (.BoolOp .Or (a :: b :: rest) pos) (tOr tA tB') := by
  intro wh pins s σ H Q I h
  refine isTrue_or (thn (ha pins s σ H _ I h) fun c s1 ⟨H1, I1, q1⟩ => ?_)
  cases c with
  | true => exact ⟨H1, I1, q1⟩
  | false => exact hb wh pins s1 σ H1 Q I1 q1
theorem pt_not (ha : PT X a tA) : PT X (.UnaryOp .Not a pos) (tNot tA) := by
  intro pins s σ H Q I h
  exact isTrue_not (ha pins s σ H (fun c H1 => Q (!c) H1) I h)
noncomputable def tAndV (ta tb : TE) : TE := fun σ H Q => ta σ H fun x H1 => ∃ c, x = .bl c ∧ if c = true then tb σ H1 Q else Q (.bl false) H1
theorem pe_one {op} {t : TE} (h : PE X a t) : PE X (.BoolOp op [a] pos) t := fun pins s σ H Q I hw => BoolOp_one (h pins s σ H Q I hw)
theorem pe_and (ha : PE X a ta) (hb : PE X (.BoolOp .And (b :: rest) pos) tb) : PE X (.BoolOp .And (a :: b :: rest) pos) (tAndV ta tb) := by
  intro pins s σ H Q I h
  refine BoolOp_and (thn (ha pins s σ H _ I h) fun v s1 ⟨x, H1, I1, r1, q1⟩ => ?_)
  obtain ⟨c, rfl, q1⟩ := q1
  cases r1
  refine wpAny_truthy_bool ?_
  cases c with
  | true => exact hb pins s1 σ H1 Q I1 q1
  | false => exact ⟨.bl false, H1, I1, rfl, q1⟩
end
end L2
namespace L2
open PySem PySem.Spec PyProof.Rows
noncomputable def SqL (K : PySem.W.Frag) (H : Hp) (a : Addr) (xs : List V) : Prop :=
  Rd H a (.lst xs) ∨
    ∃ (o : Obj) (its : Array Value) (n : Nat), K.lookup a = some o ∧ o.cls = .type "list" ∧ o.dict = none ∧ o.data = .seq its n ∧ its.size ≤ sizeLine ∧ Vals xs its.toList
noncomputable def SqT (K : PySem.W.Frag) (H : Hp) (a : Addr) (xs : List V) : Prop :=
  Rd H a (.tup xs) ∨
    ∃ (o : Obj) (its : Array Value) (n : Nat), K.lookup a = some o ∧ o.cls = .type "tuple" ∧ o.data = .seq its n ∧ its.size ≤ sizeLine ∧ Vals xs its.toList
noncomputable def absV : Value → Option V
  | .none => some .non
  | .bool b => some (.bl b)
  | .int i _ => some (.int i)
  | .str x _ => some (.str x)
  | .bytes b _ => some (.byt b)
  | .float b _ => some (.flt b)
  | .ref a => some (.ref a)
  | .type n => some (.ty n)
  | _ => none
theorem RelV.abs {x : V} {u : Value} (r : RelV x u) : absV u = some x := by
  cases x with
  | non => cases r; rfl
  | bl _ => cases r; rfl
  | int _ => obtain ⟨t, rfl⟩ := r; rfl
  | str _ => obtain ⟨t, rfl⟩ := r; rfl
  | byt _ => obtain ⟨t, rfl⟩ := r; rfl
  | flt _ => obtain ⟨t, rfl⟩ := r; rfl
  | ref _ => cases r; rfl
  | ty _ => cases r; rfl
theorem RelV.inj {x y : V} {u : Value} (r : RelV x u) (q : RelV y u) : x = y := Option.some.inj (r.abs.symm.trans q.abs)
theorem Vals.inj : ∀ {xs ys : List V} {us : List Value}, Vals xs us → Vals ys us → xs = ys
  | _, _, _, .nil, .nil => rfl
  | _, _, _, .cons r t, .cons r' t' => by rw [r.inj r', Vals.inj t t']
section
variable {X : Cx} {pins : List (Addr × Obj)} {σ : St} {H : Hp} {s : Shared} {a : Addr} {xs ys : List V}
theorem SqL.of {K : PySem.W.Frag} (h : H a = some (.lst xs)) : SqL K H a xs := .inl (.inl h)
theorem SqT.of {K : PySem.W.Frag} (h : H a = some (.tup xs)) : SqT K H a xs := .inl (.inl h)
theorem Inv.list (I : Inv X pins σ H s) (h : SqL X.K H a xs) : ∃ its : List Value, Vals xs its ∧ PlainL s.heap a its.toArray ∧ xs.length ≤ sizeLine := by
  rcases h with h | ⟨o, its, n, hk, hc, hd, hs, hz, r⟩
  · obtain ⟨z, its, n, r, e⟩ := h.ok I.hok
    exact ⟨its, r, ⟨_, n, e, rfl, rfl, rfl⟩, z⟩
  · refine ⟨its.toList, r, ⟨o, n, I.kIn a o hk, hc, hd, by simpa using hs⟩, ?_⟩
    have e := r.length
    simp only [Array.length_toList] at e
    omega
theorem Inv.tuple (I : Inv X pins σ H s) (h : SqT X.K H a xs) : ∃ its : List Value, Vals xs its ∧ IsTup s.heap a its.toArray ∧ xs.length ≤ sizeLine := by
  rcases h with h | ⟨o, its, n, hk, hc, hs, hz, r⟩
  · obtain ⟨z, its, r, p⟩ := h.ok I.hok
    exact ⟨its, r, p, z⟩
  · refine ⟨its.toList, r, ⟨o, I.kIn a o hk, hc, n, by simpa using hs⟩, ?_⟩
    have e := r.length
    simp only [Array.length_toList] at e
    omega
theorem Inv.list_inj (I : Inv X pins σ H s) (h : SqL X.K H a xs) (h' : SqL X.K H a ys) : xs = ys := by
  obtain ⟨its, r, ⟨o, n, e, _, _, d⟩, _⟩ := I.list h
  obtain ⟨its', r', ⟨o', n', e', _, _, d'⟩, _⟩ := I.list h'
  rw [e] at e'; cases e'
  rw [d] at d'
  injection d' with d1 _
  have : its = its' := by simpa using congrArg Array.toList d1
  subst this
  exact r.inj r'
theorem Inv.tuple_inj (I : Inv X pins σ H s) (h : SqT X.K H a xs) (h' : SqT X.K H a ys) : xs = ys := by
  obtain ⟨its, r, ⟨o, e, _, n, d⟩, _⟩ := I.tuple h
  obtain ⟨its', r', ⟨o', e', _, n', d'⟩, _⟩ := I.tuple h'
  rw [e] at e'; cases e'
  rw [d] at d'
  injection d' with d1 _
  have : its = its' := by simpa using congrArg Array.toList d1
  subst this
  exact r.inj r'
end
abbrev Cx.wish (X : Cx) (E : Value → Shared → Prop) : Cx := { X with xe := E }
abbrev Cx.nox (X : Cx) : Cx := X.wish fun _ _ => False
theorem Cx.Ok.wish {X : Cx} (ok : X.Ok) (E : Value → Shared → Prop) : (X.wish E).Ok :=
  ⟨ok.mod, ok.kind, ok.glob, ok.blt, ok.above, ok.inj, ok.has, ok.cab, ok.hd, ok.frames, ok.stk, ok.exf, ok.bs, ok.bsz, ok.noex, ok.exfs, ok.funs, ok.frf⟩
theorem Cx.Ok.unwish {X : Cx} {E : Value → Shared → Prop} (ok : (X.wish E).Ok) : X.Ok :=
  ⟨ok.mod, ok.kind, ok.glob, ok.blt, ok.above, ok.inj, ok.has, ok.cab, ok.hd, ok.frames, ok.stk, ok.exf, ok.bs, ok.bsz, ok.noex, ok.exfs, ok.funs, ok.frf⟩
section
variable {X : Cx} {pins : List (Addr × Obj)} {σ : St} {H : Hp} {s : Shared} {E : Value → Shared → Prop}
theorem Inv.wish (I : Inv X pins σ H s) (E : Value → Shared → Prop) : Inv (X.wish E) pins σ H s := ⟨I.ok.wish E, I.os, I.bare, I.base, I.loc, I.cell, I.free, I.freeC, I.pin, I.hok, I.len⟩
theorem Inv.unwish (I : Inv (X.wish E) pins σ H s) : Inv X pins σ H s := ⟨I.ok.unwish, I.os, I.bare, I.base, I.loc, I.cell, I.free, I.freeC, I.pin, I.hok, I.len⟩
theorem SP.unwish {D : Ends} {f : Flow} {s' : Shared} (h : SP (X.wish E) pins D f s') : SP X pins D f s' := by
  cases f with
  | next => obtain ⟨σ', H', I, q⟩ := h; exact ⟨σ', H', I.unwish, q⟩
  | brk => obtain ⟨σ', H', I, q⟩ := h; exact ⟨σ', H', I.unwish, q⟩
  | cont => obtain ⟨σ', H', I, q⟩ := h; exact ⟨σ', H', I.unwish, q⟩
  | ret u => obtain ⟨v, σ', H', I, r, q⟩ := h; exact ⟨v, σ', H', I.unwish, r, q⟩
theorem PE.nox {e : Expr} {t : TE} (h : PE X.nox e t) : PE X e t := fun pins s σ H Q I hw =>
  wpAny_mono (h pins s σ H Q (I.wish _) hw) (fun _ _ ⟨v, H', I', r, q⟩ => ⟨v, H', I'.unwish, r, q⟩) fun _ _ z => False.elim z
theorem PT.nox {e : Expr} {t : TT} (h : PT X.nox e t) : PT X e t := fun pins s σ H Q I hw =>
  wpAny_mono (h pins s σ H Q (I.wish _) hw) (fun _ _ ⟨H', I', q⟩ => ⟨H', I'.unwish, q⟩) fun _ _ z => False.elim z
theorem PSs.nox {st : List Stmt} {t : TS} (h : PSs X.nox st t) : PSs X st t := fun pins s σ H D I hw =>
  wpAny_mono (h pins s σ H D (I.wish _) hw) (fun _ _ q => q.unwish) fun _ _ z => False.elim z
end
section
variable {X : Cx} {st : Stmt} {rest : List Stmt} {t u : TS} {e : Expr} {te : TE} {pos : Pos}
noncomputable def tNext : TS := fun D σ H => D.nx σ H
noncomputable def tSeq (t u : TS) : TS := fun D σ H => t { D with nx := u D } σ H
theorem pss_nil : PSs X [] tNext := fun _ _ σ H _ I h => wpAny_execs_nil ⟨σ, H, I, h⟩
theorem pss_cons (h1 : PS X st t) (h2 : PSs X rest u) : PSs X (st :: rest) (tSeq t u) := by
  intro pins s σ H D I h
  refine wpAny_execs_cons (thn (h1 pins s σ H { D with nx := u D } I h) fun f s1 q => ?_)
  cases f with
  | next =>
    obtain ⟨σ', H', I', q⟩ := q
    exact h2 pins s1 σ' H' D I' q
  | ret v => exact q
  | brk => exact q
  | cont => exact q
theorem pss_one (h1 : PS X st t) : PSs X [st] t := by
  intro pins s σ H D I h
  refine wpAny_execs_cons (thn (h1 pins s σ H D I h) fun f s1 q => ?_)
  cases f with
  | next => exact wpAny_execs_nil q
  | ret v => exact q
  | brk => exact q
  | cont => exact q
theorem Inv.quiet {pins : List (Addr × Obj)} {σ : St} {H : Hp} {s : Shared} (I : Inv X pins σ H s) : interactive X.env = false := by simp [interactive, I.ok.kind]
noncomputable def tDrop (te : TE) : TS := fun D σ H => te σ H fun _ H1 => D.nx σ H1
theorem ps_expr (he : PE X e te) (hs : swapsWith e none pos.line X.env = pure false := by rfl) : PS X (.Expr e pos) (tDrop te) := by
  intro pins s σ H D I h
  exact wpAny_Expr_any (thn (he pins s σ H _ I h) fun v s1 ⟨x, H1, I1, r1, q1⟩ => ⟨σ, H1, I1, q1⟩) I.quiet hs
noncomputable def tRet (te : TE) : TS := fun D σ H => te σ H D.rt
theorem ps_ret (he : PE X e te) : PS X (.Return (some e) pos) (tRet te) := by
  intro pins s σ H D I h
  exact wpAny_Return_some (thn (he pins s σ H _ I h) fun v s1 ⟨x, H1, I1, r1, q1⟩ => ⟨x, σ, H1, I1, r1, q1⟩)
noncomputable def tRetN : TS := fun D _ H => D.rt .non H
theorem ps_retN : PS X (.Return none pos) tRetN := fun _ _ σ H _ I h => wpAny_Return_none ⟨.non, σ, H, I, rfl, h⟩
noncomputable def tIfS (c : TT) (t u : TS) : TS := fun D σ H => c σ H fun b H1 => if b = true then t D σ H1 else u D σ H1
theorem ps_if {c : Expr} {a b : List Stmt} {tc : TT} (hc : PT X c tc) (ha : PSs X a t) (hb : PSs X b u) : PS X (.If c a b pos) (tIfS tc t u) := by
  intro pins s σ H D I h
  refine wpAny_If (thn (hc pins s σ H _ I h) fun d s1 ⟨H1, I1, q1⟩ => ?_)
  cases d with
  | true => exact ha pins s1 σ H1 D I1 q1
  | false => exact hb pins s1 σ H1 D I1 q1
end
abbrev TG := V → St → Hp → (St → Hp → Prop) → Prop
abbrev TGs := List V → St → Hp → (St → Hp → Prop) → Prop
noncomputable def PG (X : Cx) (target : Expr) (t : TG) : Prop :=
  ∀ (pins : List (Addr × Obj)) (s : Shared) (σ : St) (H : Hp) (v : V) (u : Value) (Q : St → Hp → Prop), Inv X pins σ H s → RelV v u → t v σ H Q →
    wpAny (model X.prog X.w) X.A (assign target X.env u) (fun _ s' => ∃ σ' H', Inv X pins σ' H' s' ∧ Q σ' H') X.xe s
section
variable {X : Cx} {pos : Pos}
noncomputable def gName (i : Nat) : TG := fun v σ H Q => Q (σ.set i (some v)) H
theorem pg_name {i : Nat} {x : Str} (hN : X.N.Nodup) (hi : X.N[i]? = some x) (hx : Loc X.env.scope x) (hf : X.fn x = true ∨ X.env.scope.names.lookup x = some .local := by first | exact .inl rfl | exact .inr rfl | assumption) : PG X (.Name x pos) (gName i) := by
  intro pins s σ H v u Q I r h
  exact wpAny_assign_Name (store_ok I hN hi hx r (fun s' I' => ⟨_, H, I', h⟩) hf)
noncomputable def gNil : TGs := fun vs σ H Q => vs = [] ∧ Q σ H
noncomputable def gCons (t : TG) (u : TGs) : TGs := fun vs σ H Q => ∃ v r, vs = v :: r ∧ t v σ H fun σ' H' => u r σ' H' Q
noncomputable def gTup (K : PySem.W.Frag) (n : Nat) (t : TGs) : TG := fun v σ H Q => ∃ a xs, v = .ref a ∧ SqT K H a xs ∧ xs.length = n ∧ t xs σ H Q
noncomputable def tAsg (te : TE) (g : TG) : TS := fun D σ H => te σ H fun x H1 => g x σ H1 D.nx
theorem ps_set {i : Nat} {x : Str} {e : Expr} {te : TE} {pos' : Pos} (hN : X.N.Nodup) (hi : X.N[i]? = some x) (hx : Loc X.env.scope x) (he : PE X e te) (hs : swapsWith e (some (.Name x pos')) pos.line X.env = pure false := by rfl) (hf : X.fn x = true ∨ X.env.scope.names.lookup x = some .local := by first | exact .inl rfl | exact .inr rfl | assumption) :
    PS X (.Assign [.Name x pos'] e pos) (tAsg te (gName i)) := by
  intro pins s σ H D I h
  refine wpAny_Assign_Name (thn (he pins s σ H _ I h) fun v s1 ⟨y, H1, I1, r1, q1⟩ => ?_) hs
  exact store_ok I1 hN hi hx r1 (fun s2 I2 => ⟨_, H1, I2, q1⟩) hf
end
section
variable {X : Cx} {pos : Pos}
end
structure It where
  go : Nat → Hp → Prop
  yld : Nat → Hp → V → Hp → Prop
  stop : Nat → Hp → Prop
noncomputable def FpOk (X : Cx) (pins : List (Addr × Obj)) (H : Hp) (b : Addr) : Prop :=
  H b = none ∧ b ≠ X.env.locals ∧ b ∉ X.fs ∧ (b ∈ X.ex ∨ X.s₀.heap.objs.size ≤ b) ∧ (∀ x c, X.env.cells.lookup x = some c → c ≠ b) ∧ ∀ p ∈ X.pn ++ pins, p.1 ≠ b
theorem Inv.fpOk {X : Cx} {pins : List (Addr × Obj)} {σ : St} {H H' : Hp} {s : Shared} {b : Addr} (I : Inv X pins σ H s) (hb : s.heap.objs.size ≤ b) (hn : H' b = none) : FpOk X pins H' b := by
  refine ⟨hn, Nat.ne_of_gt (Nat.lt_of_lt_of_le I.lt hb), I.nofs hb, .inr (Nat.le_trans I.sz hb), fun x c e z => ?_, fun p hp z => ?_⟩
  · obtain ⟨v, q⟩ := I.cell x c e
    exact absurd (Nat.lt_of_lt_of_le q.lt (by rw [z]; exact hb)) (Nat.lt_irrefl _)
  · exact absurd (Nat.lt_of_lt_of_le (Heap.lt_size (I.pin p hp).1) (by rw [z]; exact hb)) (Nat.lt_irrefl _)
structure Turn (P : Program) (w : World) (K : PySem.W.Frag) (tg : Expr) (J : It) (fp : List Addr) (it : Addr) (tn : Nat → Heap → Prop) : Prop where
  mem : it ∈ fp
  obj : ∀ i h, tn i h → ∀ b ∈ fp, ∃ o, h.get? b = some o ∧ ∀ v, o.data ≠ .cell v
  keep : ∀ i h h', tn i h → (∀ b ∈ fp, ∀ o, h.get? b = some o → h'.get? b = some o) → tn i h'
  item : ∀ (X : Cx), X.prog = P → X.w = w → X.K = K → X.calm = true → ∀ (i : Nat) (pins : List (Addr × Obj)) (s : Shared) (σ : St) (H : Hp) (E : Value → Shared → Prop), Inv X pins σ H s → (∀ b ∈ fp, FpOk X pins H b) → tn i s.heap → J.go i H →
    wpAny (model P w) X.A (pyNext (.ref it)) (fun r s1 => ∃ u, r = some u ∧
      wpAny (model P w) X.A (letOwnedTupleGo tg (.ref it) u) (fun _ s2 => ∃ x H', Inv X pins σ H' s2 ∧ RelV x u ∧ J.yld i H x H' ∧ tn (i + 1) s2.heap ∧ ∀ b ∈ fp, H' b = none) E s1) E s
  done : ∀ (X : Cx), X.prog = P → X.w = w → X.K = K → X.calm = true → ∀ (i : Nat) (pins : List (Addr × Obj)) (s : Shared) (σ : St) (H : Hp) (E : Value → Shared → Prop), Inv X pins σ H s → (∀ b ∈ fp, FpOk X pins H b) → tn i s.heap → J.stop i H →
    wpAny (model P w) X.A (pyNext (.ref it)) (fun r s1 => r = none ∧ Inv X pins σ H s1) E s
  self : ∀ (A : Around) (i : Nat) (s : Shared) (Q : Value → Shared → Prop) (E : Value → Shared → Prop), tn i s.heap → Q (.ref it) s → wpAny (model P w) A (pyIter (.ref it)) Q E s
abbrev TI := St → Hp → (It → Hp → Prop) → Prop
noncomputable def PIE (X : Cx) (pins : List (Addr × Obj)) (σ : St) (tg : Expr) (R : It → Hp → Prop) (itv : Value) (s2 : Shared) : Prop :=
  ∃ (it : Addr) (fp : List Addr) (tn : Nat → Heap → Prop) (J : It) (H' : Hp), itv = .ref it ∧ Inv X pins σ H' s2 ∧ Turn X.prog X.w X.K tg J fp it tn ∧ tn 0 s2.heap ∧ (∀ b ∈ fp, FpOk X pins H' b) ∧ R J H'
noncomputable def PI (X : Cx) (tg iter : Expr) (wi : TI) : Prop :=
  ∀ (pins : List (Addr × Obj)) (s : Shared) (σ : St) (H : Hp) (R : It → Hp → Prop), Inv X pins σ H s → wi σ H R →
    wpAny (model X.prog X.w) X.A (eval iter X.env) (fun v s1 => wpAny (model X.prog X.w) X.A (pyIter v) (PIE X pins σ tg R) X.xe s1) X.xe s
theorem go_of {M : Model} {A : Around} {E : Value → Shared → Prop} {s : Shared} {tg : Expr} {it : Addr} {u : Value} {o : Obj} {n : String} {vs : Array Value} {Q : Unit → Shared → Prop} (ho : s.heap.get? it = some o) (hc : o.cls = .type n) (hd : o.data = .fields vs)
    (hn : ["enumerate", "zip", "dict_itemiterator", "dict_reverseitemiterator", "odict_iterator", "itertools.zip_longest", "itertools.pairwise"].contains n = false) (hQ : Q () s) : wpAny M A (letOwnedTupleGo tg (.ref it) u) Q E s := by
  unfold letOwnedTupleGo
  cases tg <;> first
    | exact wpAny_pure hQ
    | (cases u <;> first
        | exact wpAny_pure hQ
        | (refine wpAny_bind (wpAny_load ho ?_)
           rw [hc, hd]
           show wpAny M A (if (["enumerate", "zip", "dict_itemiterator", "dict_reverseitemiterator", "odict_iterator", "itertools.zip_longest", "itertools.pairwise"].contains n && vs[0]? == some (rawInt _)) = true then _ else _) Q E s
           rw [if_neg (by intro h; rw [hn, Bool.false_and] at h; cases h)]
           exact wpAny_pure hQ))
noncomputable def Itl (K : PySem.W.Frag) (a : Addr) : It :=
  ⟨fun i H => ∃ xs x, SqL K H a xs ∧ xs[i]? = some x, fun i H x H' => H' = H ∧ ∀ xs, SqL K H a xs → xs[i]? = some x, fun i H => ∃ xs, SqL K H a xs ∧ xs.length ≤ i⟩
noncomputable def Itt (K : PySem.W.Frag) (a : Addr) : It :=
  ⟨fun i H => ∃ xs x, SqT K H a xs ∧ xs[i]? = some x, fun i H x H' => H' = H ∧ ∀ xs, SqT K H a xs → xs[i]? = some x, fun i H => ∃ xs, SqT K H a xs ∧ xs.length ≤ i⟩
noncomputable def Itr (lo : Int) (n : Nat) : It := ⟨fun i _ => i < n, fun i H x H' => H' = H ∧ x = .int (lo + i), fun i _ => n ≤ i⟩
theorem turn_list {P : Program} {w : World} {K : PySem.W.Frag} {tg : Expr} (a it : Addr) : Turn P w K tg (Itl K a) [it] it (fun i h => h.IsListIter it a i) where
  mem := by simp
  obj := fun i h st b hb => by
    have e : b = it := by simpa using hb
    subst e
    obtain ⟨o, e, c, d⟩ := st
    exact ⟨o, e, fun v z => by rw [d] at z; cases z⟩
  keep := fun i h h' st k => st.at fun o e => k it (by simp) o e
  item := by
    intro X hP hw hK hc i pins s σ H E I hf st hg
    subst hP hw hK
    obtain ⟨xs, x, hq, hx⟩ := hg
    obtain ⟨its, rv, p, hz⟩ := I.list hq
    obtain ⟨u, hu, ru⟩ := rv.get hx
    obtain ⟨f0, f1, f2, f3, f4, f5⟩ := hf it (by simp)
    refine wpAny_pyNext_list_item st p.isList (x := u) (by simpa using hu) fun h' st' sb => ?_
    have I1 : Inv X pins σ H { s with heap := h' } := I.turned (t' := s.toks) (fun b o hb e => (sb.2 b hb).trans e) f0 f1 f3 f4 f5
    obtain ⟨o, e, c, d⟩ := id st'
    exact ⟨u, rfl, go_of (s := { s with heap := h' }) e c d (by decide) ⟨x, H, I1, ru, ⟨rfl, fun ys hy => by rw [I.list_inj hy hq]; exact hx⟩, st', fun b hb => (hf b hb).1⟩⟩
  done := by
    intro X hP hw hK hc i pins s σ H E I hf st hg
    subst hP hw hK
    obtain ⟨xs, hq, hx⟩ := hg
    obtain ⟨its, rv, p, hz⟩ := I.list hq
    obtain ⟨f0, f1, f2, f3, f4, f5⟩ := hf it (by simp)
    have hl := rv.length
    exact wpAny_pyNext_list_end (I.ok.hd hc) st p.isList (by simp; omega) fun h' eb => ⟨rfl, I.turned (t' := s.toks) (fun b o hb e => eb b o hb e) f0 f1 f3 f4 f5⟩
  self := fun _ _ _ _ _ st h => wpAny_pyIter_listiter st h
theorem turn_tuple {P : Program} {w : World} {K : PySem.W.Frag} {tg : Expr} (a it : Addr) : Turn P w K tg (Itt K a) [it] it (fun i h => h.IsTupleIter it a i) where
  mem := by simp
  obj := fun i h st b hb => by
    have e : b = it := by simpa using hb
    subst e
    obtain ⟨o, e, c, d⟩ := st
    exact ⟨o, e, fun v z => by rw [d] at z; cases z⟩
  keep := fun i h h' st k => st.at fun o e => k it (by simp) o e
  item := by
    intro X hP hw hK hc i pins s σ H E I hf st hg
    subst hP hw hK
    obtain ⟨xs, x, hq, hx⟩ := hg
    obtain ⟨its, rv, p, hz⟩ := I.tuple hq
    obtain ⟨u, hu, ru⟩ := rv.get hx
    obtain ⟨f0, f1, f2, f3, f4, f5⟩ := hf it (by simp)
    refine wpAny_pyNext_tuple_item st (show s.heap.IsTuple a its.toArray from p) (x := u) (by simpa using hu) fun h' st' sb => ?_
    have I1 : Inv X pins σ H { s with heap := h' } := I.turned (t' := s.toks) (fun b o hb e => (sb.2 b hb).trans e) f0 f1 f3 f4 f5
    obtain ⟨o, e, c, d⟩ := id st'
    exact ⟨u, rfl, go_of (s := { s with heap := h' }) e c d (by decide) ⟨x, H, I1, ru, ⟨rfl, fun ys hy => by rw [I.tuple_inj hy hq]; exact hx⟩, st', fun b hb => (hf b hb).1⟩⟩
  done := by
    intro X hP hw hK hc i pins s σ H E I hf st hg
    subst hP hw hK
    obtain ⟨xs, hq, hx⟩ := hg
    obtain ⟨its, rv, p, hz⟩ := I.tuple hq
    obtain ⟨f0, f1, f2, f3, f4, f5⟩ := hf it (by simp)
    have hl := rv.length
    exact wpAny_pyNext_tuple_end (I.ok.hd hc) st (show s.heap.IsTuple a its.toArray from p) (by simp; omega) fun h' eb => ⟨rfl, I.turned (t' := s.toks) (fun b o hb e => eb b o hb e) f0 f1 f3 f4 f5⟩
  self := fun _ _ _ _ _ st h => wpAny_pyIter_tupleiter st h
theorem turn_range {P : Program} {w : World} {K : PySem.W.Frag} {tg : Expr} (it : Addr) (lo : Int) (n : Nat) : Turn P w K tg (Itr lo n) [it] it (fun i h => IsRangeIter h it (lo + (i : Nat) * 1) ((n : Int) - (i : Nat)) 1) where
  mem := by simp
  obj := fun i h st b hb => by
    have e : b = it := by simpa using hb
    subst e
    exact ⟨_, st, fun v z => by
      have z' : Data.fields _ = Data.cell v := z
      cases z'⟩
  keep := fun i h h' st k => k it (by simp) _ st
  item := by
    intro X hP hw hK hc i pins s σ H E I hf st hg
    subst hP hw hK
    obtain ⟨f0, f1, f2, f3, f4, f5⟩ := hf it (by simp)
    have W := Walks.range (prog := X.prog) (w := X.w) (I.ok.hd hc) it lo 1 n
    refine W.item i s _ _ hg st fun v h' tk hv st' kk => ?_
    obtain ⟨t, rfl⟩ := hv
    have I1 : Inv X pins σ H { s with heap := h', toks := tk } := I.turned (fun b o hb e => kk b o (by simpa using hb) e) f0 f1 f3 f4 f5
    refine ⟨_, rfl, go_of (s := { s with heap := h', toks := tk }) (n := "range_iterator") st' rfl rfl (by decide) ⟨.int (lo + i), H, I1, ⟨t, ?_⟩, ⟨rfl, rfl⟩, st', fun b hb => (hf b hb).1⟩⟩
    rw [Int.mul_one]
  done := by
    intro X hP hw hK hc i pins s σ H E I hf st hg
    subst hP hw hK
    obtain ⟨f0, f1, f2, f3, f4, f5⟩ := hf it (by simp)
    exact wpAny_pyNext_range_end (I.ok.hd hc) st (by have : n ≤ i := hg; omega) fun h' eb => ⟨rfl, I.turned (t' := s.toks) (fun b o hb e => eb b o hb e) f0 f1 f3 f4 f5⟩
  self := fun _ _ _ _ _ st h => wpAny_pyIter_rangeiter st h
end L2
namespace L2
open PySem PySem.Spec PyProof.Rows
section
variable {X : Cx} {tg : Expr}
noncomputable def iList (K : PySem.W.Frag) (tl : TE) : TI := fun σ H R => tl σ H fun x H1 => ∃ a, x = .ref a ∧ (∃ xs, SqL K H1 a xs) ∧ R (Itl K a) H1
noncomputable def iTup (K : PySem.W.Frag) (tl : TE) : TI := fun σ H R => tl σ H fun x H1 => ∃ a, x = .ref a ∧ (∃ xs, SqT K H1 a xs) ∧ R (Itt K a) H1
theorem pi_list {l : Expr} {tl : TE} (hl : PE X l tl) : PI X tg l (iList X.K tl) := by
  intro pins s σ H R I h
  refine thn (hl pins s σ H _ I h) fun v s1 ⟨x, H1, I1, r1, q1⟩ => ?_
  obtain ⟨a, e, ⟨xs, hq⟩, q⟩ := q1
  subst e
  cases r1
  obtain ⟨its, rv, p, hz⟩ := I1.list hq
  refine wpAny_pyIter_list p.isList ?_
  refine ⟨s1.heap.objs.size, [s1.heap.objs.size], _, _, H1, rfl, I1.kept (t' := s1.toks) fun b o e => Heap.get?_push_of_some _ e, turn_list a _, ⟨_, Heap.get?_push_size _ rfl, rfl, rfl⟩, fun b hb => ?_, q⟩
  have e : b = s1.heap.objs.size := by simpa using hb
  subst e
  exact I1.fpOk (Nat.le_refl _) (I1.hok.fresh (Nat.le_refl _))
theorem pi_tup {l : Expr} {tl : TE} (hl : PE X l tl) : PI X tg l (iTup X.K tl) := by
  intro pins s σ H R I h
  refine thn (hl pins s σ H _ I h) fun v s1 ⟨x, H1, I1, r1, q1⟩ => ?_
  obtain ⟨a, e, ⟨xs, hq⟩, q⟩ := q1
  subst e
  cases r1
  obtain ⟨its, rv, p, hz⟩ := I1.tuple hq
  refine wpAny_pyIter_tuple (show s1.heap.IsTuple a its.toArray from p) ?_
  refine ⟨s1.heap.objs.size, [s1.heap.objs.size], _, _, H1, rfl, I1.kept (t' := s1.toks) fun b o e => Heap.get?_push_of_some _ e, turn_tuple a _, ⟨_, Heap.get?_push_size _ rfl, rfl, rfl⟩, fun b hb => ?_, q⟩
  have e : b = s1.heap.objs.size := by simpa using hb
  subst e
  exact I1.fpOk (Nat.le_refl _) (I1.hok.fresh (Nat.le_refl _))
theorem range_it {pins : List (Addr × Obj)} {σ : St} {H : Hp} {s : Shared} {R : It → Hp → Prop} {E : Value → Shared → Prop} {lo hi : Int} {t u v : Tok} {tk : Nat} (I : Inv X pins σ H s) (h1 : -(2 ^ 62) ≤ lo) (h2 : lo < 2 ^ 62) (h3 : -(2 ^ 62) ≤ hi) (h4 : hi < 2 ^ 62)
    (q : R (Itr lo (hi - lo).toNat) H) : wpAny (model X.prog X.w) X.A (pyIter (.ref s.heap.objs.size)) (PIE X pins σ tg R) E { s with heap := s.heap.push { cls := .type "range", data := .fields #[.int lo t, .int hi u, .int 1 v] }, toks := tk } := by
  refine wpAny_pyIter_range (IsRange.new ..) (small_one h1 h2 h3 h4) ?_
  have I1 : Inv X pins σ H { s with heap := s.heap.push { cls := .type "range", data := .fields #[.int lo t, .int hi u, .int 1 v] }, toks := tk } := I.kept fun b o e => Heap.get?_push_of_some _ e
  refine ⟨(s.heap.push { cls := .type "range", data := .fields #[.int lo t, .int hi u, .int 1 v] }).objs.size, [(s.heap.push { cls := .type "range", data := .fields #[.int lo t, .int hi u, .int 1 v] }).objs.size], _, _, H, rfl,
    I1.kept (t' := tk) fun b o e => Heap.get?_push_of_some _ e, turn_range _ lo (hi - lo).toNat, ?_, fun b hb => ?_, q⟩
  · have e1 : lo + ((0 : Nat) : Int) * 1 = lo := by simp
    have e2 : (((hi - lo).toNat : Nat) : Int) - ((0 : Nat) : Int) = Builtin.Range.rangeSize lo hi 1 := by rw [rangeSize_one]; split <;> omega
    show IsRangeIter _ _ (lo + ((0 : Nat) : Int) * 1) ((((hi - lo).toNat : Nat) : Int) - ((0 : Nat) : Int)) 1
    rw [e1, e2]
    exact Heap.get?_push_size _ rfl
  · have e : b = (s.heap.push { cls := .type "range", data := .fields #[.int lo t, .int hi u, .int 1 v] }).objs.size := by simpa using hb
    subst e
    exact I1.fpOk (Nat.le_refl _) (I1.hok.fresh (Nat.le_refl _))
noncomputable def iRng1 (ta : TA) : TI := fun σ H R => ta σ H fun vs H1 => ∃ j : Int, vs = [.int j] ∧ -(2 ^ 62) ≤ j ∧ j < 2 ^ 62 ∧ R (Itr 0 j.toNat) H1
theorem pi_range1 {a : Expr} {ta : TA} {p pos : Pos} (hg : Gl X "range") (hm : X.mg "range" = none) (ha : PA X [a] ta) (hs : starEach [a] X.env = [(false, eval a X.env)] := by rfl) : PI X tg (.Call (.Name "range" p) [a] [] pos) (iRng1 ta) := by
  intro pins s σ H R I h
  refine Call_ (ld_blt I hg hm boot_range (PyProof.Rows.callWith_type1 (thn (ha pos pins s σ H _ I h) fun us s1 ⟨vs, H1, I1, r1, q1⟩ => ?_) hs rfl))
  obtain ⟨j, e, q1, q2, q⟩ := q1
  subst e
  cases r1 with
  | cons r rr =>
    cases rr
    obtain ⟨t, rfl⟩ := r
    exact call_range_1 (range_it I1 (by omega) (by omega) q1 q2 (by simpa using q))
noncomputable def tFor (wi : TI) (g : TG) (tb : TS) : TS := fun D σ H => wi σ H fun J H1 => ∃ W : Nat → Nat → St → Hp → Prop, (∃ m, W 0 m σ H1) ∧ ∀ i m σ H, W i m σ H →
  (J.stop i H ∧ D.nx σ H) ∨ (J.go i H ∧ ∃ N : St → Hp → Prop, (∀ σ' H', N σ' H' → ∃ m', m' < m ∧ W (i + 1) m' σ' H') ∧ ∀ x H', J.yld i H x H' → g x σ H' fun σ2 H2 => tb { D with nx := N, ct := N, bk := D.nx } σ2 H2)
noncomputable def pinsAt (fp : List Addr) (h : Heap) : List (Addr × Obj) := fp.filterMap fun b => (h.get? b).map fun o => (b, o)
theorem mem_pinsAt {fp : List Addr} {h : Heap} {b : Addr} {o : Obj} (hb : b ∈ fp) (e : h.get? b = some o) : (b, o) ∈ pinsAt fp h := List.mem_filterMap.mpr ⟨b, hb, by rw [e]; rfl⟩
theorem of_pinsAt {fp : List Addr} {h : Heap} {p : Addr × Obj} (hp : p ∈ pinsAt fp h) : p.1 ∈ fp ∧ h.get? p.1 = some p.2 := by
  obtain ⟨b, hb, e⟩ := List.mem_filterMap.mp hp
  cases q : h.get? b with
  | none => rw [q] at e; cases e
  | some o =>
    rw [q] at e
    have e' : (b, o) = p := Option.some.inj e
    subst e'
    exact ⟨hb, q⟩
theorem Inv.pinned {pins : List (Addr × Obj)} {σ : St} {H : Hp} {s : Shared} {fp : List Addr} (I : Inv X pins σ H s) (hf : ∀ b ∈ fp, FpOk X pins H b) (ho : ∀ b ∈ fp, ∃ o, s.heap.get? b = some o ∧ ∀ v, o.data ≠ .cell v) : Inv X (pins ++ pinsAt fp s.heap) σ H s :=
  I.pins_of fun p hp => (List.mem_append.mp hp).elim (fun z => I.pin p (List.mem_append_right _ z)) fun z => by
    obtain ⟨hb, e⟩ := of_pinsAt z
    obtain ⟨f0, f1, f2, _⟩ := hf p.1 hb
    obtain ⟨o, e', d⟩ := ho p.1 hb
    rw [e] at e'; cases e'
    exact ⟨e, f0, f1, f2, d⟩
theorem Inv.unpinned {pins pl : List (Addr × Obj)} {σ : St} {H : Hp} {s : Shared} (I : Inv X (pins ++ pl) σ H s) : Inv X pins σ H s := I.pins_of fun p hp => I.pin p (List.mem_append_right _ (List.mem_append_left _ hp))
theorem ps_for {iter : Expr} {body : List Stmt} {wi : TI} {g : TG} {tb : TS} {pos : Pos} (hp : PassesOwn (model X.prog X.w) X.A X.env X.xe) (hc : X.calm = true) (hi : PI X tg iter wi) (hg : PG X tg g) (hb : PSs X body tb)
    (hs : ∀ x, foldedSetIterable iter X.env x = pure x := by intro _; rfl) : PS X (.For tg iter body [] pos) (tFor wi g tb) := by
  intro pins s σ H D I h
  refine wpAny_For (thn (hi pins s σ H _ I h) fun v s1 h1 => thn h1 fun itv s2 h2 => ?_) hs
  obtain ⟨it, fp, tn, J, H2, e, I2, T, st2, f2, W, ⟨m0, w0⟩, turn⟩ := h2
  subst e
  -- what stays true of the iterator's objects through the loop
  have stat : ∀ {H' : Hp}, (∀ b ∈ fp, H' b = none) → ∀ b ∈ fp, FpOk X pins H' b := fun hn b hb => ⟨hn b hb, (f2 b hb).2⟩
  refine codeAny_forLoop_any (fun n s' => ∃ i σ' H', Inv X pins σ' H' s' ∧ tn i s'.heap ∧ (∀ b ∈ fp, H' b = none) ∧ W i n σ' H') ?_ m0 ⟨0, σ, H2, I2, st2, fun b hb => (f2 b hb).1, w0⟩
  rintro n s3 ⟨i, σ3, H3, I3, st3, fr3, w3⟩
  rcases turn i n σ3 H3 w3 with ⟨stop, qn⟩ | ⟨go, N, hN, step⟩
  · refine wpAny_passesOwn hp (thn (T.done X rfl rfl rfl hc i pins s3 σ3 H3 X.xe I3 (stat fr3) st3 stop) fun r s4 ⟨hr, I4⟩ => ?_)
    subst hr
    exact wpAny_execs_nil ⟨σ3, H3, I4, qn⟩
  · refine wpAny_passesOwn hp (thn (T.item X rfl rfl rfl hc i pins s3 σ3 H3 X.xe I3 (stat fr3) st3 go) fun r s4 ⟨u, hr, h4⟩ => ?_)
    subst hr
    refine wpAny_passesOwn hp (thn h4 fun _ s5 ⟨x, H5, I5, r5, y5, st5, fr5⟩ => ?_)
    have I5' := I5.pinned (stat fr5) (T.obj _ _ st5)
    refine wpAny_passesOwn hp (thn (hg _ s5 σ3 H5 x u _ I5' r5 (step x H5 y5)) fun _ s6 ⟨σ6, H6, I6, q6⟩ => ?_)
    refine wpAny_passesOwn hp (thn (hb _ s6 σ6 H6 _ I6 q6) fun f s7 q7 => ?_)
    have again : ∀ {σ7 : St} {H7 : Hp}, Inv X (pins ++ pinsAt fp s5.heap) σ7 H7 s7 → N σ7 H7 → ∃ m, m < n ∧ ∃ i σ' H', Inv X pins σ' H' s7 ∧ tn i s7.heap ∧ (∀ b ∈ fp, H' b = none) ∧ W i m σ' H' := fun {σ7 H7} I7 n7 => by
      obtain ⟨m', hm, w7⟩ := hN σ7 H7 n7
      refine ⟨m', hm, i + 1, σ7, H7, I7.unpinned, T.keep _ _ _ st5 fun b hb o e => (I7.pin (b, o) (List.mem_append_right _ (List.mem_append_right _ (mem_pinsAt hb e)))).1, fun b hb => ?_, w7⟩
      obtain ⟨o, e, d⟩ := T.obj _ _ st5 b hb
      exact (I7.pin (b, o) (List.mem_append_right _ (List.mem_append_right _ (mem_pinsAt hb e)))).2.1
    cases f with
    | next => obtain ⟨σ7, H7, I7, n7⟩ := q7; exact again I7 n7
    | cont => obtain ⟨σ7, H7, I7, n7⟩ := q7; exact again I7 n7
    | brk => obtain ⟨σ7, H7, I7, q7⟩ := q7; exact ⟨σ7, H7, I7.unpinned, q7⟩
    | ret v => obtain ⟨x7, σ7, H7, I7, r7, q7⟩ := q7; exact ⟨x7, σ7, H7, I7.unpinned, r7, q7⟩
end
theorem for_list {K : PySem.W.Frag} {a : Addr} {xs : List V} {g : TG} {tb : TS} {D : Ends} {σ : St} {H : Hp} (Pv : Nat → St → Hp → Prop) (h0 : Pv 0 σ H) (hl : ∀ i σ H, i ≤ xs.length → Pv i σ H → SqL K H a xs)
    (hs : ∀ i x σ H, xs[i]? = some x → Pv i σ H → g x σ H fun σ2 H2 => tb { D with nx := Pv (i + 1), ct := Pv (i + 1), bk := D.nx } σ2 H2) (hd : ∀ σ H, Pv xs.length σ H → D.nx σ H) :
    ∃ W : Nat → Nat → St → Hp → Prop, (∃ m, W 0 m σ H) ∧ ∀ i m σ H, W i m σ H →
      ((Itl K a).stop i H ∧ D.nx σ H) ∨ ((Itl K a).go i H ∧ ∃ N : St → Hp → Prop, (∀ σ' H', N σ' H' → ∃ m', m' < m ∧ W (i + 1) m' σ' H') ∧ ∀ x H', (Itl K a).yld i H x H' → g x σ H' fun σ2 H2 => tb { D with nx := N, ct := N, bk := D.nx } σ2 H2) := by
  refine ⟨fun i m σ H => m = xs.length - i ∧ i ≤ xs.length ∧ Pv i σ H, ⟨xs.length, by simp, Nat.zero_le _, h0⟩, ?_⟩
  rintro i m σ H ⟨rfl, hi, p⟩
  have q := hl i σ H hi p
  by_cases hlt : i < xs.length
  · refine .inr ⟨⟨xs, xs[i], q, by simp [hlt]⟩, Pv (i + 1), fun σ' H' p' => ⟨xs.length - (i + 1), by omega, rfl, hlt, p'⟩, fun x H' y => ?_⟩
    obtain ⟨e, y⟩ := y
    subst e
    exact hs i x σ _ (y xs q) p
  · have e : i = xs.length := by omega
    subst e
    exact .inl ⟨⟨xs, q, Nat.le_refl _⟩, hd σ H p⟩
theorem for_tup {K : PySem.W.Frag} {a : Addr} {xs : List V} {g : TG} {tb : TS} {D : Ends} {σ : St} {H : Hp} (Pv : Nat → St → Hp → Prop) (h0 : Pv 0 σ H) (hl : ∀ i σ H, i ≤ xs.length → Pv i σ H → SqT K H a xs)
    (hs : ∀ i x σ H, xs[i]? = some x → Pv i σ H → g x σ H fun σ2 H2 => tb { D with nx := Pv (i + 1), ct := Pv (i + 1), bk := D.nx } σ2 H2) (hd : ∀ σ H, Pv xs.length σ H → D.nx σ H) :
    ∃ W : Nat → Nat → St → Hp → Prop, (∃ m, W 0 m σ H) ∧ ∀ i m σ H, W i m σ H →
      ((Itt K a).stop i H ∧ D.nx σ H) ∨ ((Itt K a).go i H ∧ ∃ N : St → Hp → Prop, (∀ σ' H', N σ' H' → ∃ m', m' < m ∧ W (i + 1) m' σ' H') ∧ ∀ x H', (Itt K a).yld i H x H' → g x σ H' fun σ2 H2 => tb { D with nx := N, ct := N, bk := D.nx } σ2 H2) := by
  refine ⟨fun i m σ H => m = xs.length - i ∧ i ≤ xs.length ∧ Pv i σ H, ⟨xs.length, by simp, Nat.zero_le _, h0⟩, ?_⟩
  rintro i m σ H ⟨rfl, hi, p⟩
  have q := hl i σ H hi p
  by_cases hlt : i < xs.length
  · refine .inr ⟨⟨xs, xs[i], q, by simp [hlt]⟩, Pv (i + 1), fun σ' H' p' => ⟨xs.length - (i + 1), by omega, rfl, hlt, p'⟩, fun x H' y => ?_⟩
    obtain ⟨e, y⟩ := y
    subst e
    exact hs i x σ _ (y xs q) p
  · have e : i = xs.length := by omega
    subst e
    exact .inl ⟨⟨xs, q, Nat.le_refl _⟩, hd σ H p⟩
theorem for_range {lo : Int} {n : Nat} {g : TG} {tb : TS} {D : Ends} {σ : St} {H : Hp} (Pv : Nat → St → Hp → Prop) (h0 : Pv 0 σ H)
    (hs : ∀ i σ H, i < n → Pv i σ H → g (.int (lo + i)) σ H fun σ2 H2 => tb { D with nx := Pv (i + 1), ct := Pv (i + 1), bk := D.nx } σ2 H2) (hd : ∀ σ H, Pv n σ H → D.nx σ H) :
    ∃ W : Nat → Nat → St → Hp → Prop, (∃ m, W 0 m σ H) ∧ ∀ i m σ H, W i m σ H →
      ((Itr lo n).stop i H ∧ D.nx σ H) ∨ ((Itr lo n).go i H ∧ ∃ N : St → Hp → Prop, (∀ σ' H', N σ' H' → ∃ m', m' < m ∧ W (i + 1) m' σ' H') ∧ ∀ x H', (Itr lo n).yld i H x H' → g x σ H' fun σ2 H2 => tb { D with nx := N, ct := N, bk := D.nx } σ2 H2) := by
  refine ⟨fun i m σ H => m = n - i ∧ i ≤ n ∧ Pv i σ H, ⟨n, by simp, Nat.zero_le _, h0⟩, ?_⟩
  rintro i m σ H ⟨rfl, hi, p⟩
  by_cases hlt : i < n
  · refine .inr ⟨hlt, Pv (i + 1), fun σ' H' p' => ⟨n - (i + 1), by omega, rfl, hlt, p'⟩, fun x H' y => ?_⟩
    obtain ⟨e, y⟩ := y
    subst e y
    exact hs i σ _ hlt p
  · have e : i = n := by omega
    subst e
    exact .inl ⟨Nat.le_refl _, hd σ H p⟩
end L2
namespace L2
open PySem PySem.Spec PyProof.Rows
abbrev R2 := V → V → Hp → VK → Prop
noncomputable def OpR (X : Cx) (f : Value → Value → Sem Value) (r : R2) : Prop :=
  ∀ (pins : List (Addr × Obj)) (s : Shared) (σ : St) (H : Hp) (x y : V) (v u : Value) (Q : VK), Inv X pins σ H s → RelV x v → RelV y u → r x y H Q →
    wpAny (model X.prog X.w) X.A (f v u) (EP X pins σ Q) X.xe s
noncomputable def UnR (X : Cx) (f : Value → Sem Value) (r : V → Hp → VK → Prop) : Prop :=
  ∀ (pins : List (Addr × Obj)) (s : Shared) (σ : St) (H : Hp) (x : V) (v : Value) (Q : VK), Inv X pins σ H s → RelV x v → r x H Q →
    wpAny (model X.prog X.w) X.A (f v) (EP X pins σ Q) X.xe s
noncomputable def CallR (X : Cx) (f : Value) (r : List V → Hp → VK → Prop) : Prop :=
  ∀ (pins : List (Addr × Obj)) (s : Shared) (σ : St) (H : Hp) (xs : List V) (us : List Value) (Q : VK), Inv X pins σ H s → Vals xs us → r xs H Q →
    wpAny (model X.prog X.w) X.A (call f us) (EP X pins σ Q) X.xe s
noncomputable def TruR (X : Cx) (r : V → Hp → (Bool → Hp → Prop) → Prop) : Prop :=
  ∀ (pins : List (Addr × Obj)) (s : Shared) (σ : St) (H : Hp) (x : V) (v : Value) (Q : Bool → Hp → Prop), Inv X pins σ H s → RelV x v → r x H Q →
    wpAny (model X.prog X.w) X.A (truthy v) (TP X pins σ Q) X.xe s
noncomputable def tOp (r : R2) (ta tb : TE) : TE := fun σ H Q => ta σ H fun x H1 => tb σ H1 fun y H2 => r x y H2 Q
noncomputable def tUn (r : V → Hp → VK → Prop) (ta : TE) : TE := fun σ H Q => ta σ H fun x H1 => r x H1 Q
noncomputable def rI (C : Int → Int → Prop) (g : Int → Int → V) : R2 := fun x y H Q => ∃ i j, x = .int i ∧ y = .int j ∧ C i j ∧ Q (g i j) H
noncomputable def rI0 (g : Int → Int → V) : R2 := fun x y H Q => ∃ i j, x = .int i ∧ y = .int j ∧ Q (g i j) H
noncomputable def rU (g : Int → V) : V → Hp → VK → Prop := fun x H Q => ∃ i, x = .int i ∧ Q (g i) H
section
variable {X : Cx} {a b c : Expr} {ta tb tc : TE} {pos : Pos}
theorem binT (ha : PE X a ta) (hb : PE X b tb) {pins : List (Addr × Obj)} {s : Shared} {σ : St} {H : Hp} {R : V → V → Hp → Prop} (I : Inv X pins σ H s)
    (h : ta σ H fun x H1 => tb σ H1 fun y H2 => R x y H2) {Q : Value → Shared → Prop} {f : Value → Value → Sem Value}
    (hf : ∀ v u s2 x y H2, Inv X pins σ H2 s2 → RelV x v → RelV y u → R x y H2 → wpAny (model X.prog X.w) X.A (f v u) Q X.xe s2) :
    wpAny (model X.prog X.w) X.A (eval a X.env) (fun v s₁ => wpAny (model X.prog X.w) X.A (eval b X.env) (fun u s₂ => wpAny (model X.prog X.w) X.A (f v u) Q X.xe s₂) X.xe s₁) X.xe s := by
  refine thn (ha pins s σ H _ I h) fun v s1 ⟨x, H1, I1, r1, q1⟩ => ?_
  refine thn (hb pins s1 σ H1 _ I1 q1) fun u s2 ⟨y, H2, I2, r2, q2⟩ => ?_
  exact hf v u s2 x y H2 I2 r1 r2 q2
theorem pe_op {op : Operator} {r : R2} (ho : OpR X (binaryOp op) r) (ha : PE X a ta) (hb : PE X b tb) : PE X (.BinOp a op b pos) (tOp r ta tb) := by
  intro pins s σ H Q I h
  exact wpAny_BinOp (binT ha hb I h fun v u s2 x y H2 I2 rx ry q => ho pins s2 σ H2 x y v u Q I2 rx ry q)
theorem pe_un {op : UnaryOp} {r : V → Hp → VK → Prop} (ho : UnR X (unaryOp op) r) (ha : PE X a ta) : PE X (.UnaryOp op a pos) (tUn r ta) := by
  intro pins s σ H Q I h
  exact UnaryOp_ (thn (ha pins s σ H _ I h) fun v s1 ⟨x, H1, I1, r1, q1⟩ => ho pins s1 σ H1 x v Q I1 r1 q1)
theorem opI {f : Value → Value → Sem Value} {C : Int → Int → Prop} {g : Int → Int → Int}
    (rule : ∀ (i j : Int) (t u : Tok) (s : Shared) (Q : Value → Shared → Prop) (E : Value → Shared → Prop), C i j → Q (.int (g i j) s.toks) { s with toks := s.toks + 1 } → wpAny (model X.prog X.w) X.A (f (.int i t) (.int j u)) Q E s) :
    OpR X f (rI C fun i j => .int (g i j)) := by
  intro pins s σ H x y v u Q I rx ry h
  obtain ⟨i, j, rfl, rfl, hc, q⟩ := h
  obtain ⟨t, rfl⟩ := rx
  obtain ⟨t', rfl⟩ := ry
  exact rule i j t t' s _ _ hc ⟨.int (g i j), H, I.tok _, ⟨_, rfl⟩, q⟩
theorem opI0 {f : Value → Value → Sem Value} {g : Int → Int → Int}
    (rule : ∀ (i j : Int) (t u : Tok) (s : Shared) (Q : Value → Shared → Prop) (E : Value → Shared → Prop), Q (.int (g i j) s.toks) { s with toks := s.toks + 1 } → wpAny (model X.prog X.w) X.A (f (.int i t) (.int j u)) Q E s) :
    OpR X f (rI0 fun i j => .int (g i j)) := by
  intro pins s σ H x y v u Q I rx ry h
  obtain ⟨i, j, rfl, rfl, q⟩ := h
  obtain ⟨t, rfl⟩ := rx
  obtain ⟨t', rfl⟩ := ry
  exact rule i j t t' s _ _ ⟨.int (g i j), H, I.tok _, ⟨_, rfl⟩, q⟩
theorem opB0 {f : Value → Value → Sem Value} {g : Int → Int → Bool}
    (rule : ∀ (i j : Int) (t u : Tok) (s : Shared) (Q : Value → Shared → Prop) (E : Value → Shared → Prop), Q (.bool (g i j)) s → wpAny (model X.prog X.w) X.A (f (.int i t) (.int j u)) Q E s) :
    OpR X f (rI0 fun i j => .bl (g i j)) := by
  intro pins s σ H x y v u Q I rx ry h
  obtain ⟨i, j, rfl, rfl, q⟩ := h
  obtain ⟨t, rfl⟩ := rx
  obtain ⟨t', rfl⟩ := ry
  exact rule i j t t' s _ _ ⟨.bl (g i j), H, I, rfl, q⟩
noncomputable def CPow (i j : Int) : Prop := 0 ≤ j ∧ j ≤ 1000000 ∧ i.natAbs < 2 ^ 64
noncomputable def CMul (i j : Int) : Prop := (-(2 ^ 64) < i ∧ i < 2 ^ 64) ∨ (-(2 ^ 64) < j ∧ j < 2 ^ 64)
theorem CMul.ok {i j : Int} (h : CMul i j) : IntMulOk i j := by
  rcases h with ⟨h1, h2⟩ | ⟨h1, h2⟩
  · exact .of_left (intBits_le_64 h1 h2)
  · exact .of_right (intBits_le_64 h1 h2)
theorem op_add : OpR X (binaryOp .Add) (rI0 fun i j => .int (i + j)) := opI0 fun _ _ _ _ _ _ _ q => add_int q
theorem op_sub : OpR X (binaryOp .Sub) (rI0 fun i j => .int (i - j)) := opI0 fun _ _ _ _ _ _ _ q => sub_int q
theorem op_mul : OpR X (binaryOp .Mult) (rI CMul fun i j => .int (i * j)) := opI fun _ _ _ _ _ _ _ hc q => mul_int q hc.ok
theorem op_mod : OpR X (binaryOp .Mod) (rI (fun _ j => 0 < j) fun i j => .int (i % j)) := opI fun i j _ _ _ _ _ hc q => by
  have h1 : (0 : Int) < j := hc
  exact mod_int' (by omega) (by rw [Int.fmod_eq_emod_of_nonneg i (by omega)]; exact q)
theorem op_pow : OpR X (binaryOp .Pow) (rI CPow fun i j => .int (i ^ j.toNat)) := opI fun _ _ _ _ _ _ _ hc q => pow_int_small hc.1 hc.2.1 hc.2.2 q
theorem unI {f : Value → Sem Value} {g : Int → Int}
    (rule : ∀ (i : Int) (t : Tok) (s : Shared) (Q : Value → Shared → Prop) (E : Value → Shared → Prop), Q (.int (g i) s.toks) { s with toks := s.toks + 1 } → wpAny (model X.prog X.w) X.A (f (.int i t)) Q E s) :
    UnR X f (rU fun i => .int (g i)) := by
  intro pins s σ H x v Q I rx h
  obtain ⟨i, rfl, q⟩ := h
  obtain ⟨t, rfl⟩ := rx
  exact rule i t s _ _ ⟨.int (g i), H, I.tok _, ⟨_, rfl⟩, q⟩
theorem un_neg : UnR X (unaryOp .USub) (rU fun i => .int (-i)) := unI fun _ _ _ _ _ q => neg_int q
end
noncomputable def scal : V → V → Bool
  | .non, .non => true | .non, .int _ => true | .int _, .non => true | .non, .bl _ => true | .bl _, .non => true | .non, .str _ => true | .str _, .non => true
  | .int _, .int _ => true | .bl _, .bl _ => true | .str _, .str _ => true | .byt _, .byt _ => true
  | .int _, .str _ => true | .str _, .int _ => true | .bl _, .str _ => true | .str _, .bl _ => true
  | _, _ => false
noncomputable def rEq : R2 := fun x y H Q => scal x y = true ∧ Q (.bl (decide (x = y))) H
noncomputable def rNe : R2 := fun x y H Q => scal x y = true ∧ Q (.bl (!decide (x = y))) H
theorem dec_int {i j : Int} : decide (V.int i = V.int j) = (i == j) := by
  rw [Bool.eq_iff_iff]
  simp
theorem dec_bl {i j : Bool} : decide (V.bl i = V.bl j) = (i == j) := by
  rw [Bool.eq_iff_iff]
  simp
theorem dec_str {i j : Str} : decide (V.str i = V.str j) = (i == j) := by
  rw [Bool.eq_iff_iff]
  simp
theorem dec_byt {i j : Array UInt8} : decide (V.byt i = V.byt j) = (i.toList == j.toList) := by
  rw [Bool.eq_iff_iff]
  cases i
  cases j
  simp
section
variable {X : Cx} {a b c : Expr} {ta tb tc : TE} {pos : Pos}
theorem fin_bl {pins : List (Addr × Obj)} {σ : St} {H : Hp} {s : Shared} {Q : VK} {k k' : Bool} (I : Inv X pins σ H s) (q : Q (.bl k) H) (e : k = k') : EP X pins σ Q (.bool k') s := by
  subst e
  exact ⟨.bl k, H, I, rfl, q⟩
theorem op_eq : OpR X (compareOp .Eq) rEq := by
  intro pins s σ H x y v u Q I rx ry h
  obtain ⟨hs, q⟩ := h
  cases x with
  | non =>
    cases rx
    cases y with
    | non => cases ry; exact PySem.EqNone.eq_none_none (fin_bl I q (by simp))
    | bl j => cases ry; exact PySem.EqNone.eq_none_bool (fin_bl I q (by simp))
    | int j => obtain ⟨t', rfl⟩ := ry; exact PySem.EqNone.eq_none_int (fin_bl I q (by simp))
    | str j => obtain ⟨t', rfl⟩ := ry; exact PySem.EqNone.eq_none_str (fin_bl I q (by simp))
    | _ => exact absurd (show false = true from hs) Bool.false_ne_true
  | bl i =>
    cases rx
    cases y with
    | non => cases ry; exact PySem.EqNone.eq_bool_none (fin_bl I q (by simp))
    | bl j => cases ry; exact eq_bool (fin_bl I q dec_bl)
    | str j => obtain ⟨t', rfl⟩ := ry; exact PySem.EqMixed.eq_bool_str (fin_bl I q (by simp))
    | _ => exact absurd (show false = true from hs) Bool.false_ne_true
  | int i =>
    obtain ⟨t, rfl⟩ := rx
    cases y with
    | non => cases ry; exact PySem.EqNone.eq_int_none (fin_bl I q (by simp))
    | int j => obtain ⟨t', rfl⟩ := ry; exact eq_int (fin_bl I q dec_int)
    | str j => obtain ⟨t', rfl⟩ := ry; exact PySem.EqMixed.eq_int_str (fin_bl I q (by simp))
    | _ => exact absurd (show false = true from hs) Bool.false_ne_true
  | str i =>
    obtain ⟨t, rfl⟩ := rx
    cases y with
    | non => cases ry; exact PySem.EqNone.eq_str_none (fin_bl I q (by simp))
    | bl j => cases ry; exact PySem.EqMixed.eq_str_bool (fin_bl I q (by simp))
    | int j => obtain ⟨t', rfl⟩ := ry; exact PySem.EqMixed.eq_str_int (fin_bl I q (by simp))
    | str j => obtain ⟨t', rfl⟩ := ry; exact eq_str (fin_bl I q dec_str)
    | _ => exact absurd (show false = true from hs) Bool.false_ne_true
  | byt i =>
    obtain ⟨t, rfl⟩ := rx
    cases y with
    | byt j => obtain ⟨t', rfl⟩ := ry; exact PySem.W.eq_bytes (fin_bl I q dec_byt)
    | _ => exact absurd (show false = true from hs) Bool.false_ne_true
  | _ => cases y <;> exact absurd (show false = true from hs) Bool.false_ne_true
theorem op_ne : OpR X (compareOp .NotEq) rNe := by
  intro pins s σ H x y v u Q I rx ry h
  obtain ⟨hs, q⟩ := h
  cases x with
  | non =>
    cases rx
    cases y with
    | non => cases ry; exact PySem.EqNone.ne_none_none (fin_bl I q (by simp))
    | bl j => cases ry; exact PySem.EqNone.ne_none_bool (fin_bl I q (by simp))
    | int j => obtain ⟨t', rfl⟩ := ry; exact PySem.EqNone.ne_none_int (fin_bl I q (by simp))
    | str j => obtain ⟨t', rfl⟩ := ry; exact PySem.EqNone.ne_none_str (fin_bl I q (by simp))
    | _ => exact absurd (show false = true from hs) Bool.false_ne_true
  | bl i =>
    cases rx
    cases y with
    | non => cases ry; exact PySem.EqNone.ne_bool_none (fin_bl I q (by simp))
    | bl j => cases ry; exact ne_bool (fin_bl I q (congrArg not dec_bl))
    | str j => obtain ⟨t', rfl⟩ := ry; exact PySem.EqMixed.ne_bool_str (fin_bl I q (by simp))
    | _ => exact absurd (show false = true from hs) Bool.false_ne_true
  | int i =>
    obtain ⟨t, rfl⟩ := rx
    cases y with
    | non => cases ry; exact PySem.EqNone.ne_int_none (fin_bl I q (by simp))
    | int j => obtain ⟨t', rfl⟩ := ry; exact ne_int (fin_bl I q (congrArg not dec_int))
    | str j => obtain ⟨t', rfl⟩ := ry; exact PySem.EqMixed.ne_int_str (fin_bl I q (by simp))
    | _ => exact absurd (show false = true from hs) Bool.false_ne_true
  | str i =>
    obtain ⟨t, rfl⟩ := rx
    cases y with
    | non => cases ry; exact PySem.EqNone.ne_str_none (fin_bl I q (by simp))
    | bl j => cases ry; exact PySem.EqMixed.ne_str_bool (fin_bl I q (by simp))
    | int j => obtain ⟨t', rfl⟩ := ry; exact PySem.EqMixed.ne_str_int (fin_bl I q (by simp))
    | str j => obtain ⟨t', rfl⟩ := ry; exact ne_str (fin_bl I q (congrArg not dec_str))
    | _ => exact absurd (show false = true from hs) Bool.false_ne_true
  | byt i =>
    obtain ⟨t, rfl⟩ := rx
    cases y with
    | byt j => obtain ⟨t', rfl⟩ := ry; exact PySem.W.ne_bytes (fin_bl I q (congrArg not dec_byt))
    | _ => exact absurd (show false = true from hs) Bool.false_ne_true
  | _ => cases y <;> exact absurd (show false = true from hs) Bool.false_ne_true
theorem op_lt : OpR X (compareOp .Lt) (rI0 fun i j => .bl (decide (i < j))) := opB0 fun _ _ _ _ _ _ _ q => lt_int q
theorem op_le : OpR X (compareOp .LtE) (rI0 fun i j => .bl (decide (i ≤ j))) := opB0 fun _ _ _ _ _ _ _ q => le_int q
theorem op_gt : OpR X (compareOp .Gt) (rI0 fun i j => .bl (decide (j < i))) := opB0 fun _ _ _ _ _ _ _ q => gt_int q
theorem op_lt_str : OpR X (compareOp .Lt) (fun x y H Q => ∃ i j, x = .str i ∧ y = .str j ∧ Q (.bl (decide (i.cps.toList < j.cps.toList))) H) := by
  intro pins s σ H x y v u Q I rx ry h
  obtain ⟨i, j, rfl, rfl, q⟩ := h
  obtain ⟨t, rfl⟩ := rx
  obtain ⟨t', rfl⟩ := ry
  exact lt_str (fin_bl I q rfl)
theorem OpR.or {f : Value → Value → Sem Value} {r r' : R2} (h : OpR X f r) (h' : OpR X f r') : OpR X f (fun x y H Q => r x y H Q ∨ r' x y H Q) := by
  intro pins s σ H x y v u Q I rx ry q
  rcases q with q | q
  · exact h pins s σ H x y v u Q I rx ry q
  · exact h' pins s σ H x y v u Q I rx ry q
theorem nomark (b : Expr) {op : CmpOp} (h : op ≠ .In := by decide) (h2 : op ≠ .NotIn := by decide) : behindInMarks op b = false := by
  have e1 : (op == CmpOp.In) = false := by cases op <;> first | rfl | exact absurd rfl h
  have e2 : (op == CmpOp.NotIn) = false := by cases op <;> first | rfl | exact absurd rfl h2
  cases b <;> simp [behindInMarks, e1, e2]
theorem pe_cmpR {op : CmpOp} {r : R2} (ho : OpR X (compareOp op) r) (ha : PE X a ta) (hb : PE X b tb) (hm : behindInMarks op b = false) : PE X (.Compare a [op] [b] pos) (tOp r ta tb) := by
  intro pins s σ H Q I h
  exact wpAny_Compare1 (binT ha hb I h fun v u s2 x y H2 I2 rx ry q => ho pins s2 σ H2 x y v u Q I2 rx ry q) hm
noncomputable def TruV (K : PySem.W.Frag) (x : V) (H : Hp) (k : Bool) : Prop :=
  match x with
  | .non => k = false
  | .bl b => k = b
  | .int i => k = (i != 0)
  | .str y => y.length ≤ sizeLine ∧ k = ((y.length : Int) != 0)
  | .byt y => y.size ≤ sizeLine ∧ k = ((y.size : Int) != 0)
  | .ref p => (∃ xs, SqL K H p xs ∧ k = !xs.isEmpty) ∨ (∃ xs, SqT K H p xs ∧ k = !xs.isEmpty) ∨ ∃ kvs, H p = some (.dK kvs) ∧ k = !kvs.isEmpty
  | _ => False
theorem isEmpty_kv {κ : Type} {kvs : List (κ × V)} {vs : List (κ × Value)} (r : KV kvs vs) : (!vs.isEmpty) = !kvs.isEmpty := by
  cases r <;> rfl
theorem isEmpty_of {xs : List V} {its : List Value} (r : Vals xs its) : (!its.toArray.isEmpty) = !xs.isEmpty := by
  cases r <;> simp
theorem line63 : (sizeLine : Nat) < 2 ^ 63 := by rw [sizeLine_eq]; decide
theorem tru_ok : TruR X (fun x H Q => ∃ k, TruV X.K x H k ∧ Q k H) := by
  intro pins s σ H x v Q I rx h
  obtain ⟨k, e, q⟩ := h
  have hl := line63
  have hs : sizeLine = 16777216 := sizeLine_eq
  cases x with
  | non =>
    cases rx
    have e' : k = false := e
    subst e'
    exact truthy_none ⟨H, I, q⟩
  | bl b =>
    cases rx
    have e' : k = b := e
    subst e'
    exact wpAny_truthy_bool ⟨H, I, q⟩
  | int i =>
    obtain ⟨t, rfl⟩ := rx
    have e' : k = (i != 0) := e
    subst e'
    exact PySem.P.truthy_int ⟨H, I, q⟩
  | str y =>
    obtain ⟨t, rfl⟩ := rx
    obtain ⟨hy, e'⟩ : y.length ≤ sizeLine ∧ k = ((y.length : Int) != 0) := e
    subst e'
    exact PySem.P.truthy_str (by omega) ⟨H, I.tok _, q⟩
  | byt y =>
    obtain ⟨t, rfl⟩ := rx
    obtain ⟨hy, e'⟩ : y.size ≤ sizeLine ∧ k = ((y.size : Int) != 0) := e
    subst e'
    exact PySem.W.truthy_bytes (by omega) ⟨H, I.tok _, q⟩
  | ref p =>
    cases rx
    have e' : (∃ xs, SqL X.K H p xs ∧ k = !xs.isEmpty) ∨ (∃ xs, SqT X.K H p xs ∧ k = !xs.isEmpty) ∨ ∃ kvs, H p = some (.dK kvs) ∧ k = !kvs.isEmpty := e
    rcases e' with ⟨xs, hx, e'⟩ | ⟨xs, hx, e'⟩ | ⟨kvs, hx, e'⟩
    · subst e'
      obtain ⟨its, r, pl, hz⟩ := I.list hx
      have hlen := r.length
      exact wpAny_truthy_list pl.isList (by simp only [List.size_toArray]; omega) ⟨H, I.tok _, by rw [isEmpty_of r]; exact q⟩
    · subst e'
      obtain ⟨its, r, pl, hz⟩ := I.tuple hx
      have hlen := r.length
      exact truthy_tuple pl (by simp only [List.size_toArray]; omega) ⟨H, I.tok _, by rw [isEmpty_of r]; exact q⟩
    · subst e'
      obtain ⟨hz, hS, vs, r, m⟩ : kvs.length ≤ sizeLine ∧ (p == sysModules) = false ∧ ∃ vs, KV kvs vs ∧ s.heap.DictOf (mixKind X.prog X.w) p vs := I.hok p _ hx
      have hlen : kvs.length = vs.length := Paired.length r
      exact wpAny_truthy_dict hS m (by omega) ⟨H, I.tok _, by rw [isEmpty_kv r]; exact q⟩
  | _ => exact (show False from e).elim
theorem op_add_str : OpR X (binaryOp .Add) (fun x y H Q => ∃ i j, x = .str i ∧ y = .str j ∧ i.length + j.length ≤ sizeLine ∧ Q (.str (i ++ j)) H) := by
  intro pins s σ H x y v u Q I rx ry h
  obtain ⟨i, j, rfl, rfl, hz, q⟩ := h
  obtain ⟨t, rfl⟩ := rx
  obtain ⟨t', rfl⟩ := ry
  exact add_str (fun t' tk => ⟨.str (i ++ j), H, I.tok _, ⟨_, rfl⟩, q⟩) hz
theorem vals1 {x : V} {us : List Value} (r : Vals [x] us) : ∃ u, us = [u] ∧ RelV x u := by
  cases r with
  | cons r1 r2 => cases r2; exact ⟨_, rfl, r1⟩
theorem vals2 {x y : V} {us : List Value} (r : Vals [x, y] us) : ∃ u w', us = [u, w'] ∧ RelV x u ∧ RelV y w' := by
  cases r with
  | cons r1 r2 =>
    cases r2 with
    | cons r3 r4 => cases r4; exact ⟨_, _, rfl, r1, r3⟩
end
end L2
namespace L2
open PySem PySem.Spec PyProof.Rows
structure ObjM (h : Heap) (x dx C : Addr) (mA : Str → Option Value) : Prop where
  obj : h.get? x = some (PySem.W.instObj C dx)
  ns : h.Ns1 dx mA
  ne : dx ≠ x
theorem lookIn_ns {h : Heap} {dx : Addr} {mA : Str → Option Value} (n : h.Ns1 dx mA) : ∃ od, h.get? dx = some od ∧ ∀ name, PySem.W.lookIn name od = some (mA name) := by
  obtain ⟨o, es, ep, ho, hd, hk, _, hm⟩ := n
  refine ⟨o, ho, fun name => ?_⟩
  have e := hm name
  unfold nsFind findBy at e
  rw [← Array.find?_toList] at e
  unfold PySem.W.lookIn
  rw [hd]
  dsimp only
  split
  · rename_i y q
    rw [q] at e
    exact congrArg some e
  · rename_i q
    rw [q] at e
    have a : es.toList.any (·.refKey) = false := by
      rw [List.any_eq_false]
      intro y hy
      obtain ⟨z, t, hkey⟩ := hk y (Array.mem_toList_iff.mp hy)
      simp [DictEntry.refKey, hkey]
    have a' : ¬ es.toList.any (·.refKey) = true := by rw [a]; exact Bool.false_ne_true
    rw [if_neg a']
    exact congrArg some e
theorem ObjM.look {h : Heap} {x dx C : Addr} {mA : Str → Option Value} (I : ObjM h x dx C mA) : ∃ od, PySem.W.InstAt h x (PySem.W.instObj C dx) C (some od) ∧ ∀ name, PySem.W.lookIn name od = some (mA name) :=
  let ⟨od, ho, hl⟩ := lookIn_ns I.ns
  ⟨od, ⟨I.obj, rfl, rfl, ho⟩, hl⟩
section
variable {prog : Program} {w : World} {A : Around} {E : Value → Shared → Prop} {s : Shared} {K : PySem.W.Frag} {x dx C f : Addr} {mA : Str → Option Value} {name : Str} {v : Value}
theorem get_map {expr : Bool} {Q : Value → Shared → Prop} (X : K.In s.heap) (I : ObjM s.heap x dx C mA) (hg : PySem.W.plainGet K C name = true) (hh : PySem.W.hasDictIn K C = true)
    (ha : PySem.W.findIn K (.ref C) name = some none) (hv : mA name = some v) (hv' : PySem.W.handedIn v = true) (h : Q v { s with toks := s.toks + 1 }) :
    wpAny (model prog w) A (getAttr (.ref x) name expr) Q E s := by
  obtain ⟨od, J, hl⟩ := I.look
  exact PySem.W.get_value X J (PySem.W.plainGet_of hg).1 (PySem.W.findObj_own hh ha rfl (by rw [hl, hv])) hv' h
theorem get_meth {pl : Sem Bool} {Q : Value × List Value → Shared → Prop} (X : K.In s.heap) (I : ObjM s.heap x dx C mA) (hg : PySem.W.plainGet K C name = true)
    (hf : PySem.W.findIn K (.ref C) name = some (some (.ref f))) (ht : PySem.W.isFn K (.ref f) = true) (hv : mA name = none) (h : Q (.ref f, [.ref x]) s) :
    wpAny (model prog w) A (getMethod (.ref x) name pl) Q E s := by
  obtain ⟨od, J, hl⟩ := I.look
  exact PySem.W.method_fn X J (PySem.W.plainGet_of hg).1 (PySem.W.plainGet_of hg).2 hf (beq_iff_eq.mp ht) (by show (PySem.W.lookIn name od).map (·.isSome) = some false; rw [hl, hv]; rfl) h
theorem set_map {ns : List Str} {Q : Unit → Shared → Prop} (X : K.In s.heap) (I : ObjM s.heap x dx C mA)
    (hs : PySem.W.findIn K (.ref C) "__setattr__" = some (some (.builtin "object.__setattr__"))) (hp : PySem.W.plainOver K C = true) (ht : PySem.W.takerIn K C name = some none) (hh : PySem.W.hasDictIn K C = true)
    (hw : PySem.Within mA ns) (hsz : ns.length ≤ sizeLine)
    (h : ∀ h', ObjM h' x dx C (fun y => if y = name then some v else mA y) → Heap.SameBut dx s.heap h' → Q () { s with heap := h', toks := s.toks + 2 }) :
    wpAny (model prog w) A (setAttr (.ref x) name v) Q E s := by
  obtain ⟨od, J, hl⟩ := I.look
  refine PySem.W.set_plain X J hs (PySem.W.osa_open (s := { s with toks := s.toks + 1 }) (r := none) X J hp ht fun b => ?_)
  obtain ⟨cd, hc, hd'⟩ := PySem.W.any_some hh
  have hx : s.heap.get? x = some ⟨.ref C, some dx, .plain, #[]⟩ := I.obj
  refine wpAny_bind (wpAny_pure (wpAny_bind (wpAny_bind (wpAny_loadPart hx (wpAny_bind (PySem.W.Looks.here (s := { s with toks := s.toks + 1 }) (PySem.W.looks_clsIn X hc) ?_))))))
  rw [hd']
  refine wpAny_pure (a := some dx) (wpAny_bind (wpAny_pure (wpAny_bind ?_)))
  refine wpAny_nsSet1 (s := { s with toks := s.toks + 1 }) I.ns fun h' hn2 hs2 => ?_
  obtain ⟨oD, esD, epD, hoD, hdD, hcD⟩ := hn2.count (PySem.Within.cons name v hw)
  refine wpAny_bind (wpAny_lookBehind hoD (by rw [hdD]; exact pastItsLine_dict (Nat.le_trans hcD (by rw [List.length_cons]; omega))) ?_)
  exact wpAny_pure (h _ ⟨(hs2.2 _ (Ne.symm I.ne)).trans I.obj, hn2, I.ne⟩ hs2)
theorem make_map {R : Result → Shared → Prop} {vs : List Value} {kw : List (Str × Value)} (X : K.In s.heap) (hm : PySem.W.makesIn K C = true)
    (hi : PySem.W.findIn K (.ref C) "__init__" = some (some (.ref f))) (hf : PySem.W.typeIn K (.ref f) = some (.type "function"))
    (h : codeAny (model prog w) (A.under (.builtin "type.__call__" ⟨.ref C :: vs, kw⟩)) (.call (.ref f) ⟨.ref (s.heap.objs.size + 1) :: vs, kw⟩) (PySem.W.InitBack (s.heap.objs.size + 1) R)
      { s with heap := (s.heap.push PySem.W.emptyDict).push (PySem.W.instObj C s.heap.objs.size) }) :
    codeAny (model prog w) A (.call (.ref C) ⟨vs, kw⟩) R s := by
  obtain ⟨hh, g, d, t, os⟩ := s
  exact PySem.W.make_core (PySem.W.makes_of X hm) (PySem.W.looks_findIn X hi) (fun self => PySem.W.bind_fn X self hf) (.inl rfl) h
end
noncomputable def putF (f : Str) (v : V) : List (Str × V) → List (Str × V)
  | [] => [(f, v)]
  | (g, x) :: r => if g = f then (g, v) :: r else (g, x) :: putF f v r
theorem lookup_putF (f g : Str) (v : V) : ∀ fs : List (Str × V), (putF f v fs).lookup g = if g = f then some v else fs.lookup g
  | [] => by
    show List.lookup g [(f, v)] = _
    by_cases h : g = f
    · have hb : (g == f) = true := beq_iff_eq.mpr h
      simp only [List.lookup, hb, if_pos h]
    · have hb : (g == f) = false := beq_eq_false_iff_ne.mpr h
      simp only [List.lookup, hb, if_neg h]
  | (k, x) :: r => by
    have ih := lookup_putF f g v r
    rw [show putF f v ((k, x) :: r) = (if k = f then (k, v) :: r else (k, x) :: putF f v r) from rfl]
    by_cases hk : k = f
    · rw [if_pos hk]
      by_cases h : g = k
      · have hb : (g == k) = true := beq_iff_eq.mpr h
        simp only [List.lookup, hb, if_pos (h.trans hk)]
      · have hb : (g == k) = false := beq_eq_false_iff_ne.mpr h
        simp only [List.lookup, hb, if_neg (fun e : g = f => h (e.trans hk.symm))]
    · rw [if_neg hk]
      by_cases h : g = k
      · have hb : (g == k) = true := beq_iff_eq.mpr h
        simp only [List.lookup, hb, if_neg (fun e : g = f => hk (h.symm.trans e))]
      · have hb : (g == k) = false := beq_eq_false_iff_ne.mpr h
        simp only [List.lookup, hb]
        exact ih
theorem keys_putF (f : Str) (v : V) : ∀ fs : List (Str × V), f ∈ (putF f v fs).map (·.1) ∧ ∀ g, g ∈ fs.map (·.1) → g ∈ (putF f v fs).map (·.1)
  | [] => ⟨by simp [putF], fun g h => by simp at h⟩
  | (k, x) :: r => by
    obtain ⟨i1, i2⟩ := keys_putF f v r
    rw [show putF f v ((k, x) :: r) = (if k = f then (k, v) :: r else (k, x) :: putF f v r) from rfl]
    by_cases hk : k = f
    · rw [if_pos hk]
      subst hk
      exact ⟨by simp, fun g h => by simpa using h⟩
    · rw [if_neg hk]
      refine ⟨?_, fun g h => ?_⟩
      · rw [List.map_cons]
        exact List.mem_cons_of_mem _ i1
      · rw [List.map_cons] at h ⊢
        rcases List.mem_cons.mp h with e | e
        · exact List.mem_cons.mpr (.inl e)
        · exact List.mem_cons_of_mem _ (i2 g e)
theorem length_putF (f : Str) (v : V) : ∀ fs : List (Str × V), (putF f v fs).length ≤ fs.length + 1
  | [] => by simp [putF]
  | (k, x) :: r => by
    have ih := length_putF f v r
    rw [show putF f v ((k, x) :: r) = (if k = f then (k, v) :: r else (k, x) :: putF f v r) from rfl]
    by_cases hk : k = f
    · rw [if_pos hk, List.length_cons, List.length_cons]; omega
    · rw [if_neg hk, List.length_cons, List.length_cons]; omega
theorem RelO.some_of {v : V} {o : Option Value} (r : RelO (some v) o) : ∃ u, o = some u ∧ RelV v u := by
  cases o with
  | none => exact (show False from r).elim
  | some u => exact ⟨u, rfl, r⟩
theorem RelO.none_of {o : Option Value} (r : RelO none o) : o = none := by
  cases o with
  | none => rfl
  | some u => exact (show False from r).elim
theorem handed_of {v : V} {u : Value} (r : RelV v u) : PySem.W.handedIn u = true := by
  cases v with
  | non => cases (show u = Value.none from r); rfl
  | bl b => cases (show u = Value.bool b from r); rfl
  | int i => obtain ⟨t, e⟩ := (show ∃ t, u = Value.int i t from r); cases e; rfl
  | str x => obtain ⟨t, e⟩ := (show ∃ t, u = Value.str x t from r); cases e; rfl
  | byt b => obtain ⟨t, e⟩ := (show ∃ t, u = Value.bytes b t from r); cases e; rfl
  | flt b => obtain ⟨t, e⟩ := (show ∃ t, u = Value.float b t from r); cases e; rfl
  | ref a => cases (show u = Value.ref a from r); rfl
  | ty n => cases (show u = Value.type n from r); rfl
section
variable {P : Program} {w : World} {H H' : Hp} {h h' : Heap} {a C dx : Addr} {fs fs' : List (Str × V)}
theorem ins_get (hok : HOk P w H h) (e : H a = some (.ins C dx fs)) : ∃ mA, ObjM h a dx C mA ∧ (∀ f, RelO (fs.lookup f) (mA f)) ∧ PySem.Within mA (fs.map (·.1)) ∧ fs.length ≤ 1000 ∧ H dx = some (.own a) := by
  obtain ⟨d, z, ne, ob, mA, n, r, q⟩ := (show ObjOk P w H h a (.ins C dx fs) from hok a _ e)
  exact ⟨mA, ⟨ob, n, ne⟩, r, q, z, d⟩
end
structure Cls (K : PySem.W.Frag) (C : Addr) : Prop where
  pg : PySem.W.plainGet K C Str.empty = true
  hd : PySem.W.hasDictIn K C = true
  po : PySem.W.plainOver K C = true
  sa : PySem.W.findIn K (.ref C) "__setattr__" = some (some (.builtin "object.__setattr__"))
theorem Cls.get {K : PySem.W.Frag} {C : Addr} (c : Cls K C) (f : Str) : PySem.W.plainGet K C f = true := c.pg
noncomputable def NoAttr (K : PySem.W.Frag) (C : Addr) (f : Str) : Prop := PySem.W.findIn K (.ref C) f = some none
theorem NoAttr.taker {K : PySem.W.Frag} {C : Addr} {f : Str} (n : NoAttr K C f) : PySem.W.takerIn K C f = some none := by
  unfold PySem.W.takerIn
  rw [show PySem.W.findIn K (.ref C) f = some none from n]
  rfl
structure Con (K : PySem.W.Frag) (C : Addr) (f : Str) (v : V) (u : Value) : Prop where
  at_ : PySem.W.findIn K (.ref C) f = some (some u)
  rel : RelV v u
  get : PySem.W.specialIn K u "__get__" = some none
  cp : PySem.W.copiedNames.contains f = false
structure Meth (K : PySem.W.Frag) (C : Addr) (m : Str) (f : Addr) : Prop where
  at_ : PySem.W.findIn K (.ref C) m = some (some (.ref f))
  fn : PySem.W.isFn K (.ref f) = true
  kp : PySem.W.keepIn K (.ref f) = true
section
variable {X : Cx} {pins : List (Addr × Obj)} {σ : St} {H : Hp} {s : Shared} {a C dx : Addr} {fs : List (Str × V)} {f : Str} {v : V} {A : Around} {E : Value → Shared → Prop}
theorem getattr_ok {b : Bool} {Q : Value → Shared → Prop} (I : Inv X pins σ H s) (e : H a = some (.ins C dx fs)) (c : Cls X.K C) (n : NoAttr X.K C f) (l : fs.lookup f = some v)
    (h : ∀ u s', Inv X pins σ H s' → RelV v u → Q u s') : wpAny (model X.prog X.w) A (getAttr (.ref a) f b) Q E s := by
  obtain ⟨mA, O, r, _, _, _⟩ := ins_get I.hok e
  obtain ⟨u, hu, ru⟩ := RelO.some_of (v := v) (o := mA f) (by rw [← l]; exact r f)
  exact get_map I.kIn O (c.get f) c.hd n hu (handed_of ru) (h u _ (I.tok _) ru)
theorem getmeth_ok {m : Str} {g : Addr} {pl : Sem Bool} {Q : Value × List Value → Shared → Prop} (I : Inv X pins σ H s) (e : H a = some (.ins C dx fs)) (c : Cls X.K C) (k : Meth X.K C m g) (l : fs.lookup m = none)
    (h : Q (.ref g, [.ref a]) s) : wpAny (model X.prog X.w) A (getMethod (.ref a) m pl) Q E s := by
  obtain ⟨mA, O, r, _, _, _⟩ := ins_get I.hok e
  have hn : mA m = none := RelO.none_of (by rw [← l]; exact r m)
  exact get_meth I.kIn O (c.get m) k.at_ k.fn hn h
theorem setattr_ok {y : V} {u : Value} {Q : Unit → Shared → Prop} (I : Inv X pins σ H s) (e : H a = some (.ins C dx fs)) (c : Cls X.K C) (n : NoAttr X.K C f) (hl : fs.length < 1000) (ry : RelV y u)
    (h : ∀ s', Inv X pins σ (upd H a (.ins C dx (putF f y fs))) s' → Q () s') : wpAny (model X.prog X.w) A (setAttr (.ref a) f u) Q E s := by
  obtain ⟨mA, O, r, wi, _, ho⟩ := ins_get I.hok e
  have hz : (fs.map (·.1)).length ≤ sizeLine := by rw [List.length_map, sizeLine_eq]; omega
  refine set_map I.kIn O c.sa c.po n.taker c.hd wi hz fun h' O' sb => h _ ?_
  have hd : ∃ o, h'.get? dx = some o := let ⟨o, _, _, e', _⟩ := O'.ns; ⟨o, e'⟩
  refine I.write (x := a) (e := dx) (by rw [e]; exact True.intro) (.inr ho) (fun b q hb z => (sb.2 b hb).trans z) hd ?_
  refine ⟨by rw [upd_ne O.ne]; exact ho, ?_, O.ne, O'.obj, _, O'.ns, fun g => ?_, fun g hg => ?_⟩
  · have := length_putF f y fs; omega
  · show RelO ((putF f y fs).lookup g) (if g = f then some u else mA g)
    rw [lookup_putF]
    by_cases q : g = f
    · rw [if_pos q, if_pos q]; exact ry
    · rw [if_neg q, if_neg q]; exact r g
  · by_cases q : g = f
    · rw [q]; exact (keys_putF f y fs).1
    · refine (keys_putF f y fs).2 g (wi g fun z => hg ?_)
      show (if g = f then some u else mA g) = none
      rw [if_neg q]; exact z
theorem Inv.made (I : Inv X pins σ H s) : Inv X pins σ (upd (upd H s.heap.objs.size (.own (s.heap.objs.size + 1))) (s.heap.objs.size + 1) (.ins C s.heap.objs.size []))
    { s with heap := (s.heap.push PySem.W.emptyDict).push (PySem.W.instObj C s.heap.objs.size) } := by
  have e1 : (s.heap.push PySem.W.emptyDict).get? s.heap.objs.size = some PySem.W.emptyDict := Heap.get?_push_size s.heap rfl
  have e2 : ((s.heap.push PySem.W.emptyDict).push (PySem.W.instObj C s.heap.objs.size)).get? (s.heap.objs.size + 1) = some (PySem.W.instObj C s.heap.objs.size) := by
    have := Heap.get?_push_size (s.heap.push PySem.W.emptyDict) (o := PySem.W.instObj C s.heap.objs.size) rfl
    rwa [Heap.size_push] at this
  have e3 : (s.heap.push PySem.W.emptyDict).Ns s.heap.objs.size (fun _ => none) := ⟨PySem.W.emptyDict, #[], _, e1, rfl, (fun e he => absurd he (by simp)), fun _ => rfl⟩
  have I1 := I.laid (a := s.heap.objs.size) (o := .own (s.heap.objs.size + 1)) (h' := s.heap.push PySem.W.emptyDict) (t' := s.toks) (fun b u q => Heap.get?_push_of_some _ q) (Nat.le_refl _) ⟨_, e1⟩
  refine I1.laid (a := s.heap.objs.size + 1) (o := .ins C s.heap.objs.size []) (t' := s.toks) (fun b u q => Heap.get?_push_of_some _ q) (Nat.le_of_eq (Heap.size_push _ _)) ?_
  have ne : s.heap.objs.size ≠ s.heap.objs.size + 1 := Nat.ne_of_lt (Nat.lt_succ_self _)
  refine ⟨by rw [upd_ne ne, upd_same], Nat.zero_le _, ne, e2, fun _ => none, (Heap.Ns1.of_empty e3).at fun o q => Heap.get?_push_of_some _ q, fun _ => True.intro, fun y hy => absurd rfl hy⟩
theorem attr_of {prog : Program} {w : World} {env : Env} {e : Expr} {f : Str} {pos : Pos} {s : Shared} {Q : Value → Shared → Prop} (hb : attributeBase e f env (eval e env) = eval e env)
    (h : wpAny (model prog w) A (eval e env) (fun o s₁ => wpAny (model prog w) A (getAttr o f true) Q E s₁) E s) : wpAny (model prog w) A (eval (.Attribute e f pos) env) Q E s :=
  Attribute_any_ h (by rw [arm_eval_Attribute, hb])
end
noncomputable def tFld (K : PySem.W.Frag) (ta : TE) (f : Str) : TE := fun σ H Q => ta σ H fun x H1 => ∃ a C dx fs v, x = .ref a ∧ H1 a = some (.ins C dx fs) ∧ Cls K C ∧ NoAttr K C f ∧ fs.lookup f = some v ∧ Q v H1
noncomputable def sFld (K : PySem.W.Frag) (ta tv : TE) (f : Str) : TS := fun D σ H => tv σ H fun y H1 => ta σ H1 fun x H2 => ∃ a C dx fs, x = .ref a ∧ H2 a = some (.ins C dx fs) ∧ Cls K C ∧ NoAttr K C f ∧ fs.length < 1000 ∧
  D.nx σ (upd H2 a (.ins C dx (putF f y fs)))
section
variable {X : Cx} {o e value : Expr} {f : Str} {pos pos' tpos : Pos} {ta tv : TE}
theorem pe_fld (he : PE X e ta) (hb : attributeBase e f X.env (eval e X.env) = eval e X.env) : PE X (.Attribute e f pos) (tFld X.K ta f) := by
  intro pins s σ H Q I h
  refine attr_of hb (thn (he pins s σ H _ I h) fun u s1 ⟨x, H1, I1, rx, a, C, dx, fs, v, ex, ea, c, n, l, q⟩ => ?_)
  subst ex
  obtain rfl : u = Value.ref a := rx
  exact getattr_ok I1 ea c n l fun u' s2 I2 ru => ⟨v, H1, I2, ru, q⟩
theorem ps_fld (ha : PE X o ta) (hv : PE X value tv) (hs : swapsWith value (some (.Attribute o f pos')) pos.line X.env = pure false) : PS X (.Assign [.Attribute o f pos'] value pos) (sFld X.K ta tv f) := by
  intro pins s σ H D I h
  refine plainObj_wpAny_Assign_Attribute (thn (hv pins s σ H _ I h) fun u s1 ⟨y, H1, I1, ry, q⟩ => thn (ha pins s1 σ H1 _ I1 q) fun ov s2 ⟨x, H2, I2, rx, a, C, dx, fs, ex, ea, c, n, l, q2⟩ => ?_) hs
  subst ex
  obtain rfl : ov = Value.ref a := rx
  exact setattr_ok I2 ea c n l ry fun s3 I3 => ⟨σ, _, I3, q2⟩
end
section
variable {X : Cx} {pins : List (Addr × Obj)} {σ : St} {H : Hp} {s : Shared} {A : Around} {E : Value → Shared → Prop} {Q : Value → Shared → Prop} {c : Value} {b : Bool}
inductive TyOf (K : PySem.W.Frag) (H : Hp) : V → Value → Prop where
  | non : TyOf K H .non (.type "NoneType")
  | bl (x : Bool) : TyOf K H (.bl x) (.type "bool")
  | int (i : Int) : TyOf K H (.int i) (.type "int")
  | str (x : Str) : TyOf K H (.str x) (.type "str")
  | flt (x : UInt64) : TyOf K H (.flt x) (.type "float")
  | lst {a : Addr} {xs : List V} (e : H a = some (.lst xs)) : TyOf K H (.ref a) (.type "list")
  | frz {a : Addr} {o : Obj} {xs : List V} (e : H a = some (.frz o (.lst xs))) : TyOf K H (.ref a) (.type "list")
  | tup {a : Addr} {xs : List V} (e : H a = some (.tup xs)) : TyOf K H (.ref a) (.type "tuple")
  | dK {a : Addr} {kvs : List (Key × V)} (e : H a = some (.dK kvs)) : TyOf K H (.ref a) (.type "dict")
  | dT {a : Addr} {kvs : List (List Key × V)} (e : H a = some (.dT kvs)) : TyOf K H (.ref a) (.type "dict")
  | ins {a C dx : Addr} {fs : List (Str × V)} (e : H a = some (.ins C dx fs)) (cl : Cls K C) (ha : PySem.W.findIn K (.ref C) "__class__" = some (some (.builtin "object.__class__")))
      (hn : PySem.W.specialIn K (.builtin "object.__class__") "__get__" = some (some (.builtin "getset_descriptor.__get__"))) (htk : PySem.W.takesIn K (.builtin "object.__class__") = some true)
      (hm : PySem.W.mroIn K C (.type "object") = some true) : TyOf K H (.ref a) (.ref C)
theorem isinst_ok {x : V} {u t : Value} (I : Inv X pins σ H s) (rx : RelV x u) (ty : TyOf X.K H x t) (e : PySem.W.kitOne X.K t c = some b) (h : ∀ tk, Q (.bool b) { s with toks := tk }) :
    wpAny (model X.prog X.w) A (call (.builtin "isinstance") [u, c]) Q E s := by
  cases ty with
  | non => cases (show u = Value.none from rx); exact PySem.W.kia_one PySem.W.kitx_none I.kIn True.intro e (fun z => nomatch z) h
  | bl y => cases (show u = Value.bool y from rx); exact PySem.W.kia_one PySem.W.kitx_bool I.kIn True.intro e (fun z => nomatch z) h
  | int i => obtain ⟨t, q⟩ := (show ∃ t, u = Value.int i t from rx); cases q; exact PySem.W.kia_one PySem.W.kitx_int I.kIn True.intro e (fun z => nomatch z) h
  | str y => obtain ⟨t, q⟩ := (show ∃ t, u = Value.str y t from rx); cases q; exact PySem.W.kia_one PySem.W.kitx_str I.kIn True.intro e (fun z => nomatch z) h
  | flt y => obtain ⟨t, q⟩ := (show ∃ t, u = Value.float y t from rx); cases q; exact PySem.W.kia_one PySem.W.kitx_float I.kIn True.intro e (fun z => nomatch z) h
  | @lst a xs ea =>
    cases (show u = Value.ref a from rx)
    obtain ⟨_, _, n, _, h1⟩ := (show ObjOk X.prog X.w H s.heap a (.lst xs) from I.hok a _ ea)
    exact PySem.W.kia_one PySem.W.kitx_list I.kIn ⟨_, h1, rfl⟩ e (fun z => nomatch z) h
  | @frz a ob xs ea =>
    cases (show u = Value.ref a from rx)
    obtain ⟨_, _, _, n, _, h1⟩ := (show ObjOk X.prog X.w H s.heap a (.frz ob (.lst xs)) from I.hok a _ ea)
    exact PySem.W.kia_one PySem.W.kitx_list I.kIn ⟨_, h1, rfl⟩ e (fun z => nomatch z) h
  | @tup a xs ea =>
    cases (show u = Value.ref a from rx)
    obtain ⟨_, _, _, p⟩ := (show ObjOk X.prog X.w H s.heap a (.tup xs) from I.hok a _ ea)
    obtain ⟨o, h1, h2, _⟩ := p
    exact PySem.W.kia_one PySem.W.kitx_tuple I.kIn ⟨o, h1, h2⟩ e (fun z => nomatch z) h
  | @dK a kvs ea =>
    cases (show u = Value.ref a from rx)
    obtain ⟨_, _, vs, _, p⟩ := (show ObjOk X.prog X.w H s.heap a (.dK kvs) from I.hok a _ ea)
    obtain ⟨o, es, ep, h1, h2, _⟩ := p
    exact PySem.W.kia_one PySem.W.kitx_dict I.kIn ⟨o, h1, h2.1⟩ e (fun z => nomatch z) h
  | @dT a kvs ea => exact False.elim (show ObjOk X.prog X.w H s.heap a (.dT kvs) from I.hok a _ ea)
  | @ins a C dx fs ea cl ha hn htk hm =>
    cases (show u = Value.ref a from rx)
    obtain ⟨mA, O, _⟩ := ins_get I.hok ea
    obtain ⟨od, J, _⟩ := O.look
    exact PySem.W.kia_one (PySem.W.kitx_own (cl.get _) cl.hd ha hn htk hm) I.kIn J e (fun z => nomatch z) h
end
end L2
namespace L2
open PySem PySem.Spec PyProof.Rows
structure Room (k : Nat) (A : Around) : Prop where
  hd : A.handled = none
  dp : A.depth + 3 * k + 5 < recursionLimit
  un : A.units + 16 * k + 200 < cLine
theorem Room.mono {j k : Nat} {A : Around} (r : Room k A) (h : j ≤ k) : Room j A := ⟨r.hd, by have := r.dp; omega, by have := r.un; omega⟩
theorem Room.deeper {k : Nat} {A : Around} (r : Room (k + 1) A) (env : Env) : Room k (A.deeper env) :=
  ⟨r.hd, by have := r.dp; show A.depth + 1 + 3 * k + 5 < _; omega, by have := r.un; show A.units + 3 + 16 * k + 200 < _; omega⟩
theorem Room.in1 {k : Nat} {A : Around} (r : Room (k + 1) A) : Room k A.in1 :=
  ⟨r.hd, by have := r.dp; show A.depth + 3 * k + 5 < _; omega, by have := r.un; show A.units + 1 + 16 * k + 200 < _; omega⟩
theorem make_depth {A : Around} {C : Addr} {us : List Value} {kw : List (Str × Value)} : (A.under (.builtin "type.__call__" ⟨.ref C :: us, kw⟩)).depth = A.depth + 1 := by
  first | rfl | simp [Around.under, Code.weight, Code.isCreation, Code.isGuard, Code.isCaller, Code.frames, Code.isFrame, guardIds]
theorem make_units {A : Around} {C : Addr} {us : List Value} {kw : List (Str × Value)} : (A.under (.builtin "type.__call__" ⟨.ref C :: us, kw⟩)).units = A.units + 1 := by
  first | rfl | simp [Around.under, Code.cUnits, Code.frames, Code.isFrame]
theorem Room.make {k : Nat} {A : Around} (r : Room (k + 1) A) (C : Addr) (us : List Value) (kw : List (Str × Value)) : Room k (A.under (.builtin "type.__call__" ⟨.ref C :: us, kw⟩)) :=
  ⟨r.hd, by have := r.dp; rw [make_depth]; omega, by have := r.un; rw [make_units]; omega⟩
theorem Room.depth {k : Nat} {A : Around} (r : Room k A) : A.depth < recursionLimit := by have := r.dp; omega
theorem Room.units {k : Nat} {A : Around} (r : Room k A) : A.units + 64 < cLine := by have := r.un; omega
noncomputable def tNil : TA := fun _ H Q => Q [] H
noncomputable def tCons (ta : TE) (tr : TA) : TA := fun σ H Q => ta σ H fun x H1 => tr σ H1 fun xs H2 => Q (x :: xs) H2
section
variable {X : Cx} {e : Expr} {es : List Expr} {te : TE} {t : TA} {pos : Pos}
theorem pa_nil : PA X [] tNil := fun _ _ _ _ H Q I h => Calls.spliced_nil ⟨[], H, I, .nil, h⟩
theorem pa_cons (ha : PE X e te) (hr : PA X es t) (hs : starEach (e :: es) X.env = (false, eval e X.env) :: starEach es X.env := by rfl) : PA X (e :: es) (tCons te t) := by
  intro pos pins s σ H Q I h
  rw [hs]
  show wpAny _ _ (spliced ((false, eval e X.env) :: backTo pos (starEach es X.env))) _ _ s
  refine Calls.spliced_cons (thn (ha pins s σ H _ I h) fun u s1 ⟨x, H1, I1, r1, q1⟩ => ?_)
  exact thn (hr pos pins s1 σ H1 _ I1 q1) fun us s2 ⟨xs, H2, I2, r2, q2⟩ => ⟨x :: xs, H2, I2, .cons r1 r2, q2⟩
noncomputable def tTup (t : TA) : TE := fun σ H Q => t σ H fun xs H1 => xs.length ≤ sizeLine ∧ ∀ p, H1 p = none → Q (.ref p) (upd H1 p (.tup xs))
noncomputable def tLst (t : TA) : TE := fun σ H Q => t σ H fun xs H1 => xs.length ≤ sizeLine ∧ ∀ p, H1 p = none → Q (.ref p) (upd H1 p (.lst xs))
theorem pe_tup {x1} (h : PA X es t) : PE X (.Tuple es x1 pos) (tTup t) := by
  intro pins s σ H Q I hq
  refine wpAny_Tuple_spliced (thn (h pos pins s σ H _ I hq) fun us s1 ⟨xs, H1, I1, r, z, q⟩ => ⟨by rw [← r.length]; exact z, ?_⟩)
  have hf : H1 s1.heap.objs.size = none := I1.hok.fresh (Nat.le_refl _)
  refine ⟨.ref s1.heap.objs.size, upd H1 s1.heap.objs.size (.tup xs), I1.laid (t' := s1.toks) (fun b u e => Heap.get?_push_of_some _ e) (Nat.le_refl _) ?_, rfl, q _ hf⟩
  exact ⟨z, us, r, ⟨_, Heap.get?_push_size _ rfl, rfl, _, rfl⟩⟩
theorem pe_lst (h : PA X es t) : PE X (.List es pos) (tLst t) := by
  intro pins s σ H Q I hq
  refine wpAny_List_spliced (thn (h pos pins s σ H _ I hq) fun us s1 ⟨xs, H1, I1, r, z, q⟩ => ⟨by rw [← r.length]; exact z, ?_⟩)
  have hf : H1 s1.heap.objs.size = none := I1.hok.fresh (Nat.le_refl _)
  refine ⟨.ref s1.heap.objs.size, upd H1 s1.heap.objs.size (.lst xs), I1.laid (t' := s1.toks) (fun b u e => Heap.get?_push_of_some _ e) (Nat.le_refl _) ?_, rfl, q _ hf⟩
  exact ⟨z, us, 0, r, Heap.get?_push_size _ rfl⟩
end
abbrev Sp := List V → Hp → VK → XK → Prop
abbrev CXT := List Env → Hp → Shared → XK → Value → Shared → Prop
structure Env0 (P : Program) (w : World) (K : PySem.W.Frag) (mg : Str → Option Value) (base : Heap) (A : Around) (outer : List Env) (s : Shared) (H : Hp) : Prop where
  frames : A.frames = some outer
  mod : Mod K mg base
  bs : ∀ b o, base.get? b = some o → s.heap.get? b = some o ∧ H b = none
  bsz : base.objs.size ≤ s.heap.objs.size
  funs : s.heap.FunFrames base outer
  frf : ∀ b ∈ frs outer, H b = none
  hok : HOk P w H s.heap
  bare : AllBare s.gens
noncomputable def CE (outer : List Env) (P : Program) (w : World) (H : Hp) (s : Shared) (Q : VK) (u : Value) (s' : Shared) : Prop :=
  ∃ v H', s'.os = s.os ∧ AllBare s'.gens ∧ Un (frs outer) [] H H' s.heap s'.heap ∧ HOk P w H' s'.heap ∧ RelV v u ∧ Q v H'
noncomputable def CR (CX : CXT) (outer : List Env) (P : Program) (w : World) (H : Hp) (s : Shared) (Q : VK) (E : XK) (r : Result) (s' : Shared) : Prop :=
  match r with
  | .ok (.ret u) => CE outer P w H s Q u s'
  | .ok _ => False
  | .error e => CX outer H s E e s'
structure FnOk (P : Program) (w : World) (K : PySem.W.Frag) (mg : Str → Option Value) (base : Heap) (CX : CXT) (k : Nat) (f : Addr) (fd : FuncData) (ps : List Str) (sp : Sp) : Prop where
  len : ∀ vs H Q E, sp vs H Q E → vs.length = ps.length
  run : ∀ (A : Around) (outer : List Env) (s : Shared) (H : Hp) (args : Args) (us : List Value) (vs : List V) (Q : VK) (E : XK), Room k A → Env0 P w K mg base A outer s H → BindsTo s fd args (ps.zip us) → Vals vs us → sp vs H Q E →
    codeAny (model P w) A (.call (.ref f) args) (CR CX outer P w H s Q E) s
theorem FnOk.mono {P : Program} {w : World} {K : PySem.W.Frag} {mg : Str → Option Value} {base : Heap} {CX : CXT} {j k : Nat} {f : Addr} {fd : FuncData} {ps : List Str} {sp : Sp} (F : FnOk P w K mg base CX j f fd ps sp) (h : j ≤ k) :
    FnOk P w K mg base CX k f fd ps sp := ⟨F.len, fun A outer s H args us vs Q E hr => F.run A outer s H args us vs Q E (hr.mono h)⟩
theorem FnOk.imp {P : Program} {w : World} {K : PySem.W.Frag} {mg : Str → Option Value} {base : Heap} {CX : CXT} {k : Nat} {f : Addr} {fd : FuncData} {ps : List Str} {sp sp' : Sp} (F : FnOk P w K mg base CX k f fd ps sp)
    (h : ∀ vs H Q E, sp' vs H Q E → sp vs H Q E) : FnOk P w K mg base CX k f fd ps sp' :=
  ⟨fun vs H Q E q => F.len vs H Q E (h _ _ _ _ q), fun A outer s H args us vs Q E hr he hb hv hs => F.run A outer s H args us vs Q E hr he hb hv (h _ _ _ _ hs)⟩
theorem Env0.make {P : Program} {w : World} {K : PySem.W.Frag} {mg : Str → Option Value} {base : Heap} {A : Around} {outer : List Env} {s : Shared} {H : Hp} (e : Env0 P w K mg base A outer s H) (C : Addr) (us : List Value) (kw : List (Str × Value)) :
    Env0 P w K mg base (A.under (.builtin "type.__call__" ⟨.ref C :: us, kw⟩)) outer s H := ⟨by first | exact e.frames | (simpa [Around.under, Code.envs, Code.isFrame, pushEnvs] using e.frames), e.mod, e.bs, e.bsz, e.funs, e.frf, e.hok, e.bare⟩
theorem Env0.in1 {P : Program} {w : World} {K : PySem.W.Frag} {mg : Str → Option Value} {base : Heap} {A : Around} {outer : List Env} {s : Shared} {H : Hp} (e : Env0 P w K mg base A outer s H) :
    Env0 P w K mg base A.in1 outer s H := ⟨e.frames, e.mod, e.bs, e.bsz, e.funs, e.frf, e.hok, e.bare⟩
section
variable {X : Cx} {pins : List (Addr × Obj)} {σ : St} {H : Hp} {s s' : Shared}
theorem Inv.env0 (I : Inv X pins σ H s) : Env0 X.prog X.w X.K X.mg X.base X.A X.stack s H :=
  ⟨I.ok.frames, I.ok.mod, I.bs, Nat.le_trans I.ok.bsz I.sz, I.stack, I.stkFree, I.hok, I.bare⟩
theorem Inv.after {Q : VK} {u : Value} (I : Inv X pins σ H s) (h : CE X.stack X.prog X.w H s Q u s') : EP X pins σ Q u s' := by
  obtain ⟨v, H', os, bare, un, hok, r, q⟩ := h
  obtain ⟨hh, g, d, t, os'⟩ := s'
  obtain rfl : os' = s.os := os
  exact ⟨v, H', I.call (h' := hh) (g' := g) (d' := d) (t' := t) (ch := []) un hok bare (fun b z => absurd z (by simp)), r, q⟩
end
noncomputable def tCall (sp : Sp) (dvs : List V) (E : XK) (t : TA) : TE := fun σ H Q => t σ H fun vs H1 => sp (vs ++ dvs) H1 Q E
noncomputable def tMake (C : Addr) (sp : Sp) (dvs : List V) (E : XK) (t : TA) : TE := fun σ H Q => t σ H fun vs H1 => ∀ x dx, H1 x = none → H1 dx = none → dx ≠ x →
  sp (.ref x :: (vs ++ dvs)) (upd (upd H1 dx (.own x)) x (.ins C dx [])) (fun v H2 => v = .non ∧ Q (.ref x) H2) E
noncomputable def Binds (K : PySem.W.Frag) (fd : FuncData) (ps : List Str) (ds : List Value) : Prop :=
  ∀ (s : Shared) (us : List Value), K.In s.heap → (us ++ ds).length = ps.length → BindsTo s fd ⟨us, []⟩ (ps.zip (us ++ ds))
theorem Binds.all {K : PySem.W.Frag} {fd : FuncData} {ps : List Str} (h : ∀ us : List Value, us.length = ps.length → bindArgs fd ⟨us, []⟩ = pure (ps.zip us)) : Binds K fd ps [] := fun s us _ hl => by
  rw [List.append_nil] at hl ⊢
  exact .of_eq (h us hl)
noncomputable def Passes (CX : CXT) (X : Cx) (E : XK) : Prop := ∀ (pins : List (Addr × Obj)) (σ : St) (H : Hp) (s : Shared) (e : Value) (s' : Shared), Inv X pins σ H s → CX X.stack H s E e s' → X.xe e s'
section
variable {X : Cx} {CX : CXT} {k : Nat} {f C : Addr} {fd : FuncData} {ps : List Str} {sp : Sp} {dvs : List V} {ds : List Value} {E : XK} {x m : Str} {p pos apos : Pos} {e o : Expr} {es : List Expr} {ta : TE} {t : TA}
theorem run_fn {pins : List (Addr × Obj)} {σ : St} {H : Hp} {s : Shared} {Q : VK} {us : List Value} {vs : List V} (F : FnOk X.prog X.w X.K X.mg X.base CX k f fd ps sp) (hr : Room k X.A) (hb : Binds X.K fd ps ds) (hd : Vals dvs ds) (hx : Passes CX X E)
    (I : Inv X pins σ H s) (r : Vals vs us) (h : sp (vs ++ dvs) H Q E) : wpAny (model X.prog X.w) X.A (call (.ref f) us) (EP X pins σ Q) X.xe s := by
  have r2 : Vals (vs ++ dvs) (us ++ ds) := r.append hd
  have hl : (us ++ ds).length = ps.length := by rw [← r2.length]; exact F.len _ _ _ _ h
  refine wpAny_call (codeAny_mono (F.run X.A X.stack s H ⟨us, []⟩ (us ++ ds) (vs ++ dvs) Q E hr I.env0 (hb s us I.kIn hl) r2 h) fun r s' hq => ?_)
  cases r with
  | error e => exact hx pins σ H s e s' I hq
  | ok fl =>
    cases fl with
    | ret u => exact I.after hq
    | next => exact False.elim hq
    | brk => exact False.elim hq
    | cont => exact False.elim hq
theorem pe_call (F : FnOk X.prog X.w X.K X.mg X.base CX k f fd ps sp) (hr : Room k X.A) (hg : Gl X x) (hm : X.mg x = some (.ref f)) (hk : PySem.W.keepIn X.K (.ref f) = true) (hb : Binds X.K fd ps ds) (hd : Vals dvs ds) (hx : Passes CX X E)
    (ha : PA X (e :: es) t) (hdb : (x == ("__debug__" : Str)) = false := by decide) (he : starEach (e :: es) X.env = (false, eval e X.env) :: starEach es X.env := by rfl) (hpl : (backTo pos (starEach es X.env)).any (·.1) = false := by rfl) :
    PE X (.Call (.Name x p) (e :: es) [] pos) (tCall sp dvs E t) := by
  intro pins s σ H Q I h
  refine wpAny_Call_Name_kw (ld_glob I hg hm ?_ hdb)
  refine PySem.W.callWith_K (h₀ := X.base) I.ok.mod.kin hk (thn (ha pos pins s σ H _ I h) fun us s1 ⟨vs, H1, I1, r, q⟩ => ⟨I1.kIn, ?_⟩) he hpl
  exact run_fn F hr hb hd hx I1 r q
theorem pe_call0 (F : FnOk X.prog X.w X.K X.mg X.base CX k f fd ps sp) (hr : Room k X.A) (hg : Gl X x) (hm : X.mg x = some (.ref f)) (hk : PySem.W.keepIn X.K (.ref f) = true) (hb : Binds X.K fd ps ds) (hd : Vals dvs ds) (hx : Passes CX X E)
    (hdb : (x == ("__debug__" : Str)) = false := by decide) : PE X (.Call (.Name x p) [] [] pos) (tCall sp dvs E tNil) := by
  intro pins s σ H Q I h
  refine wpAny_Call_Name_kw (ld_glob I hg hm ?_ hdb)
  exact PySem.W.callWith_K0 I.kIn hk (run_fn (us := []) F hr hb hd hx I .nil h)
structure Mk (K : PySem.W.Frag) (C f : Addr) : Prop where
  makes : PySem.W.makesIn K C = true
  init : PySem.W.findIn K (.ref C) "__init__" = some (some (.ref f))
  fn : PySem.W.isFn K (.ref f) = true
  kp : PySem.W.keepIn K (.ref C) = true
theorem run_make {pins : List (Addr × Obj)} {σ : St} {H : Hp} {s : Shared} {Q : VK} {us : List Value} {vs : List V} (M : Mk X.K C f) (F : FnOk X.prog X.w X.K X.mg X.base CX k f fd ps sp) (hr : Room (k + 1) X.A) (hb : Binds X.K fd ps ds) (hd : Vals dvs ds)
    (hx : Passes CX X E) (I : Inv X pins σ H s) (r : Vals vs us)
    (h : ∀ x dx, H x = none → H dx = none → dx ≠ x → sp (.ref x :: (vs ++ dvs)) (upd (upd H dx (.own x)) x (.ins C dx [])) (fun v H2 => v = .non ∧ Q (.ref x) H2) E) :
    wpAny (model X.prog X.w) X.A (call (.ref C) us) (EP X pins σ Q) X.xe s := by
  have hq := h (s.heap.objs.size + 1) s.heap.objs.size (I.hok.fresh (Nat.le_succ _)) (I.hok.fresh (Nat.le_refl _)) (Nat.ne_of_lt (Nat.lt_succ_self _))
  have I2 := Inv.made (C := C) I
  have r2 : Vals (V.ref (s.heap.objs.size + 1) :: (vs ++ dvs)) (Value.ref (s.heap.objs.size + 1) :: (us ++ ds)) := .cons rfl (r.append hd)
  have hl : (Value.ref (s.heap.objs.size + 1) :: us ++ ds).length = ps.length := by
    have e := r2.length
    rw [F.len _ _ _ _ hq] at e
    exact e.symm
  refine wpAny_call (make_map (f := f) I.kIn M.makes M.init (beq_iff_eq.mp M.fn) (codeAny_mono (F.run _ X.stack _ _ ⟨Value.ref (s.heap.objs.size + 1) :: us, []⟩ (Value.ref (s.heap.objs.size + 1) :: (us ++ ds)) _ _ E (hr.make C us [])
    (I2.env0.make C us []) (hb _ (Value.ref (s.heap.objs.size + 1) :: us) I2.kIn hl) r2 hq) fun r s' hq' => ?_))
  cases r with
  | error e => exact hx pins σ _ _ e s' I2 hq'
  | ok fl =>
    cases fl with
    | ret u =>
      obtain ⟨v, H', I3, rv, ev, q3⟩ := I2.after hq'
      subst ev
      exact ⟨rv, ⟨V.ref (s.heap.objs.size + 1), H', I3, rfl, q3⟩⟩
    | next => exact False.elim hq'
    | brk => exact False.elim hq'
    | cont => exact False.elim hq'
theorem pe_make0 (M : Mk X.K C f) (F : FnOk X.prog X.w X.K X.mg X.base CX k f fd ps sp) (hr : Room (k + 1) X.A) (hg : Gl X x) (hm : X.mg x = some (.ref C)) (hb : Binds X.K fd ps ds) (hd : Vals dvs ds) (hx : Passes CX X E)
    (hdb : (x == ("__debug__" : Str)) = false := by decide) : PE X (.Call (.Name x p) [] [] pos) (tMake C sp dvs E tNil) := by
  intro pins s σ H Q I h
  refine wpAny_Call_Name_kw (ld_glob I hg hm ?_ hdb)
  exact PySem.W.callWith_K0 I.kIn M.kp (run_make (us := []) M F hr hb hd hx I .nil h)
end
section
variable {X : Cx} {CX : CXT} {k : Nat} {f C : Addr} {fd : FuncData} {ps ks : List Str} {sp : Sp} {E : XK} {x m : Str} {p pos apos kpos : Pos} {e o : Expr} {es : List Expr} {kws : List Keyword} {te ta : TE} {t tk : TA} {nm : Option Str}
structure KBinds (K : PySem.W.Frag) (fd : FuncData) (ps ks : List Str) (g : List Value → List Value → List Value) (gV : List V → List V → List V) : Prop where
  to : ∀ (s : Shared) (us ws : List Value), K.In s.heap → (g us ws).length = ps.length → BindsTo s fd ⟨us, ks.zip ws⟩ (ps.zip (g us ws))
  rel : ∀ {vs : List V} {us : List Value} {zs : List V} {ws : List Value}, Vals vs us → Vals zs ws → Vals (gV vs zs) (g us ws)
variable {g : List Value → List Value → List Value} {gV : List V → List V → List V}
end
structure FnScope (N P : List Str) (sc : Scope) : Prop where
  kind : sc.kind = .function
  co : sc.isCoroutine = false
  gen : sc.isGenerator = false
  nd : N.Nodup
  pre : N.take P.length = P
  par : ∀ x ∈ P, sc.names.lookup x = some .local ∨ sc.names.lookup x = some .cell
  nofree : ∀ y ∈ sc.names, y.2 ≠ .free
theorem bindL_out {kindOf : Str → Option NameKind} {x : Str} : ∀ {binds : List (Str × Value)} {m : Str → Option Value}, (∀ v, (x, v) ∉ binds) → bindL kindOf binds m x = m x
  | [], _, _ => rfl
  | (n, v) :: r, m, h => by
    unfold bindL
    rw [bindL_out fun w hw => h w (List.mem_cons_of_mem _ hw)]
    split
    · have : x ≠ n := by rintro rfl; exact h v List.mem_cons_self
      simp [this]
    · rfl
theorem bindC_out {kindOf : Str → Option NameKind} {x : Str} : ∀ {binds : List (Str × Value)} {m : Str → Option Value}, (∀ v, (x, v) ∉ binds) → bindC kindOf binds m x = m x
  | [], _, _ => rfl
  | (n, v) :: r, m, h => by
    unfold bindC
    rw [bindC_out fun w hw => h w (List.mem_cons_of_mem _ hw)]
    split
    · rfl
    · have : x ≠ n := by rintro rfl; exact h v List.mem_cons_self
      simp [this]
theorem bindL_get {kindOf : Str → Option NameKind} {x : Str} {v : Value} : ∀ {P : List Str} {vs : List Value} {i : Nat} {m : Str → Option Value}, P.Nodup → P[i]? = some x → vs[i]? = some v → kindOf x = some .local →
    bindL kindOf (P.zip vs) m x = some v
  | [], _, _, _, _, h, _, _ => by simp at h
  | _ :: _, [], _, _, _, _, h, _ => by simp at h
  | p :: P, w :: vs, 0, m, nd, h1, h2, hk => by
    simp at h1 h2; subst h1; subst h2
    show bindL kindOf ((p, w) :: P.zip vs) m p = _
    unfold bindL
    rw [bindL_out fun v hv => (List.nodup_cons.mp nd).1 (List.of_mem_zip hv).1, if_pos hk]
    simp
  | p :: P, w :: vs, i + 1, m, nd, h1, h2, hk => by
    show bindL kindOf ((p, w) :: P.zip vs) m x = _
    unfold bindL
    exact bindL_get (i := i) (List.nodup_cons.mp nd).2 (by simpa using h1) (by simpa using h2) hk
theorem bindC_get {kindOf : Str → Option NameKind} {x : Str} {v : Value} : ∀ {P : List Str} {vs : List Value} {i : Nat} {m : Str → Option Value}, P.Nodup → P[i]? = some x → vs[i]? = some v → kindOf x ≠ some .local →
    bindC kindOf (P.zip vs) m x = some v
  | [], _, _, _, _, h, _, _ => by simp at h
  | _ :: _, [], _, _, _, _, h, _ => by simp at h
  | p :: P, w :: vs, 0, m, nd, h1, h2, hk => by
    simp at h1 h2; subst h1; subst h2
    show bindC kindOf ((p, w) :: P.zip vs) m p = _
    unfold bindC
    rw [bindC_out fun v hv => (List.nodup_cons.mp nd).1 (List.of_mem_zip hv).1, if_neg hk]
    simp
  | p :: P, w :: vs, i + 1, m, nd, h1, h2, hk => by
    show bindC kindOf ((p, w) :: P.zip vs) m x = _
    unfold bindC
    exact bindC_get (i := i) (List.nodup_cons.mp nd).2 (by simpa using h1) (by simpa using h2) hk
noncomputable def start (N : List Str) (vs : List V) : St := vs.map some ++ List.replicate (N.length - vs.length) none
noncomputable def cxOf (CX : CXT) (P : Program) (w : World) (K : PySem.W.Frag) (mg : Str → Option Value) (base : Heap) (N : List Str) (qual : Str) (scope : Scope) (f : Addr) (cd : Value) (A : Around) (outer : List Env) (s : Shared) (H : Hp) (E : XK) : Cx where
  prog := P
  w := w
  K := K
  mg := mg
  base := base
  A := A.deeper (envOfC qual scope s.heap.objs.size f cd)
  N := N
  s₀ := s
  H₀ := H
  env := envOfC qual scope s.heap.objs.size f cd
  outer := outer
  stack := envOfC qual scope s.heap.objs.size f cd :: outer
  ex := []
  calm := true
  fn := fun _ => true
  pn := []
  xe := fun e s' => wpAny (model P w) (A.deeper (envOfC qual scope s.heap.objs.size f cd)) (leaving (envOfC qual scope s.heap.objs.size f cd) e) (fun _ s'' => CX outer H s E e s'') (fun e' s'' => CX outer H s E e' s'') s'
theorem cell_has {sc : Scope} {n : Nat} {x : Str} (h : sc.names.lookup x = some .cell) : ∃ c, (cellsFrom n sc.names []).lookup x = some c := by
  have q := PySem.W.cellsFrom_some sc.names n [] (.inl h)
  exact Option.isSome_iff_exists.mp q
theorem inv_start {CX : CXT} {P : Program} {w : World} {K : PySem.W.Frag} {mg : Str → Option Value} {base : Heap} {N ps : List Str} {qual : Str} {scope : Scope} {f : Addr} {cd : Value} {A : Around} {outer : List Env} {s s1 : Shared} {H : Hp} {E : XK} {us : List Value} {vs : List V}
    (S : FnScope N ps scope) (hd : A.handled = none) (e0 : Env0 P w K mg base A outer s H) (hl : vs.length = ps.length) (r : Vals vs us)
    (x : InCallC s s.heap.objs.size (bindL (envOfC qual scope s.heap.objs.size f cd).kindOf (ps.zip us) fun _ => none) (cellsFrom (s.heap.objs.size + 1) scope.names []) (bindC (envOfC qual scope s.heap.objs.size f cd).kindOf (ps.zip us) fun _ => none) s1) :
    Inv (cxOf CX P w K mg base N qual scope f cd A outer s H E) [] (start N vs) H s1 := by
  have hpl : ps.length ≤ N.length := by have := congrArg List.length S.pre; rw [List.length_take] at this; omega
  obtain ⟨h1, tk, rfl, hk⟩ := x.done
  have noA : ∀ b : Addr, b ∉ (cxOf CX P w K mg base N qual scope f cd A outer s H E).ex := fun b z => absurd (show b ∈ ([] : List Addr) from z) (by simp)
  refine ⟨⟨e0.mod, S.kind, rfl, rfl, Nat.le_refl _, fun y z c h1 h2 => ?_, fun y hy => ?_, fun y c _ h => ?_, fun _ => hd, Around.frames_deeper e0.frames, .inr ⟨rfl, rfl⟩, fun b z => absurd z (noA b), e0.bs, e0.bsz, fun b _ _ => noA b, fun b z => absurd z (noA b), e0.funs, e0.frf⟩,
    rfl, e0.bare, Un.kept hk, ⟨_, x.toInCall.ns, fun i y v h1 h2 h3 => ?_⟩, fun y c h => ⟨_, x.cell y c h⟩, e0.hok.fresh (Nat.le_refl _), fun y c h => ?_, fun p hp => absurd (show p ∈ ([] : List (Addr × Obj)) from hp) (by simp), e0.hok.kept hk, ?_⟩
  · exact name_of_addr x.apart (PySem.mem_of_lookup h1) (PySem.mem_of_lookup h2)
  · have hy : scope.names.lookup y = some .cell ∨ scope.names.lookup y = some .free := hy
    rcases hy with hy | hy
    · exact cell_has hy
    · exact absurd rfl (S.nofree _ (PySem.mem_of_lookup hy))
  · exact Nat.le_of_lt (x.above y c (PySem.mem_of_lookup h))
  · have hi : i < vs.length := by
      unfold start at h2
      by_cases hi : i < vs.length
      · exact hi
      · rw [List.getElem?_append_right (by simpa using hi)] at h2
        rw [List.getElem?_replicate] at h2
        split at h2 <;> cases h2
    have ha : vs[i]? = some v := by
      unfold start at h2
      rw [List.getElem?_append_left (by simpa using hi), List.getElem?_map] at h2
      cases e : vs[i]? with
      | none => rw [e] at h2; cases h2
      | some a => rw [e] at h2; cases h2; rfl
    obtain ⟨u, hu, rv⟩ := r.get ha
    have hp : ps[i]? = some y := by
      rw [← S.pre, List.getElem?_take_of_lt (by omega)]; exact h1
    have ndP : ps.Nodup := by rw [← S.pre]; exact S.nd.sublist (List.take_sublist _ _)
    refine ⟨u, rv, ?_⟩
    rcases S.par y (List.mem_of_getElem? hp) with k | k
    · exact .inl ⟨k, bindL_get ndP hp hu k⟩
    · obtain ⟨c, e⟩ := cell_has (n := s.heap.objs.size + 1) k
      refine .inr ⟨.inl k, c, e, ?_⟩
      have q := x.cell y c e
      rw [bindC_get ndP hp hu (by show scope.names.lookup y ≠ _; rw [k]; decide)] at q
      exact q
  · exact e0.hok.fresh (Nat.le_of_lt (x.above y c (PySem.mem_of_lookup h)))
  · unfold start
    show _ = N.length
    rw [List.length_append, List.length_map, List.length_replicate]
    omega
theorem fn_of {CX : CXT} {P : Program} {w : World} {K : PySem.W.Frag} {mg : Str → Option Value} {base : Heap} {k : Nat} {f : Addr} {name qual : Str} {params : Arguments} {body : List Stmt} {scope : Scope} {dV kV doc pm cdv ct oc : Value} {an od : Option Addr}
    {osl : Array (Option Value)} {N ps : List Str} {sp : Sp} (lk : K.lookup f = some ⟨oc, od, .func (PySem.W.fnOf name qual params body scope dV kV doc pm an cdv ct), osl⟩) (hcd : PySem.W.codeIn K cdv qual = true) (S : FnScope N ps scope)
    (len : ∀ vs H Q E, sp vs H Q E → vs.length = ps.length)
    (hbody : ∀ (A : Around) (outer : List Env) (s : Shared) (H : Hp) (vs : List V) (Q : VK) (E : XK), Room k (A.deeper (envOfC qual scope s.heap.objs.size f cdv)) → sp vs H Q E →
      ∃ t, PSs (cxOf CX P w K mg base N qual scope f cdv A outer s H E) body t ∧ t { nx := fun _ H' => Q .non H', rt := Q } (start N vs) H) :
    FnOk P w K mg base CX (k + 1) f (PySem.W.fnOf name qual params body scope dV kV doc pm an cdv ct) ps sp := by
  refine ⟨len, fun A outer s H args us vs Q E hr e0 hb r hsp => ?_⟩
  have hl := len _ _ _ _ hsp
  have KX : K.In s.heap := e0.mod.kin.keeps fun b o e => (e0.bs b o e).1
  have lim : s.heap.NoLimit := e0.mod.nolimit.keeps fun b o e => (e0.bs b o e).1
  have hkind : ∀ y ∈ ps.zip us, scope.names.lookup y.1 = some .local ∨ (scope.names.lookup y.1 = some .cell ∧ ((cellsFrom (s.heap.objs.size + 1) scope.names []).lookup y.1).isSome = true) := fun ⟨n, v⟩ hy => by
    rcases S.par n (List.of_mem_zip hy).1 with q | q
    · exact .inl q
    · exact .inr ⟨q, PySem.W.cellsFrom_some _ _ _ (.inl q)⟩
  refine codeAny_call_function hr.depth (KX _ _ lk) rfl S.co S.gen rfl (PySem.W.codeRec_of KX hcd) (hb _ _ _ _ ?_)
  refine wpAny_newFunctionEnv_cells S.kind hkind fun env he s1 x => ?_
  subst he
  refine ⟨lim.keeps x.toInCall.keep, codeAny_func ?_⟩
  obtain ⟨t, ht, hq⟩ := hbody A outer s H vs Q E (hr.deeper _) hsp
  have I : Inv (cxOf CX P w K mg base N qual scope f cdv A outer s H E) [] (start N vs) H s1 := inv_start S hr.hd e0 hl r x
  refine wpAny_mono (ht [] s1 (start N vs) H _ I hq) (fun fl s' hs => ?_) fun e s' hs => hs
  have fin : ∀ {σ' : St} {H' : Hp} {v : V} {u : Value}, Inv (cxOf CX P w K mg base N qual scope f cdv A outer s H E) [] σ' H' s' → RelV v u → Q v H' → CE outer P w H s Q u s' :=
    fun {σ' H' v u} J rv q => ⟨v, H', J.os, J.bare, J.base, J.hok, rv, q⟩
  cases fl with
  | ret u =>
    obtain ⟨v, σ', H', J, rv, q⟩ := hs
    exact fin J rv q
  | next =>
    obtain ⟨σ', H', J, q⟩ := hs
    exact fin (v := V.non) (u := Value.none) J rfl q
  | brk =>
    obtain ⟨_, _, _, q⟩ := hs
    exact False.elim q
  | cont =>
    obtain ⟨_, _, _, q⟩ := hs
    exact False.elim q
end L2
namespace L2
open PySem PySem.Spec PyProof.Rows
section
variable {X : Cx} {x : Str} {p pos : Pos} {e : Expr} {es : List Expr} {t : TA} {id T : String} {r : List V → Hp → VK → Prop}
noncomputable def tCB (r : List V → Hp → VK → Prop) (t : TA) : TE := fun σ H Q => t σ H fun vs H1 => r vs H1 Q
theorem pe_callB (hc : CallR X (.builtin id) r) (hg : Gl X x) (hm : X.mg x = none) (hv : bootBuiltins x = some (.builtin id)) (ha : PA X (e :: es) t) (hn : x ≠ "__name__" := by decide) (hdb : (x == ("__debug__" : Str)) = false := by decide)
    (he : starEach (e :: es) X.env = (false, eval e X.env) :: starEach es X.env := by rfl) (hpl : (backTo pos (starEach es X.env)).any (·.1) = false := by rfl) : PE X (.Call (.Name x p) (e :: es) [] pos) (tCB r t) := by
  intro pins s σ H Q I h
  refine wpAny_Call_Name_kw (ld_blt I hg hm hv ?_ hn hdb)
  exact PyProof.Rows.callWith_builtin1 (thn (ha pos pins s σ H _ I h) fun us s1 ⟨vs, H1, I1, r1, q1⟩ => hc pins s1 σ H1 vs us Q I1 r1 q1) he hpl
theorem pe_callTy (hc : CallR X (.type T) r) (hg : Gl X x) (hm : X.mg x = none) (hv : bootBuiltins x = some (.type T)) (ha : PA X (e :: es) t) (hn : x ≠ "__name__" := by decide) (hdb : (x == ("__debug__" : Str)) = false := by decide)
    (he : starEach (e :: es) X.env = (false, eval e X.env) :: starEach es X.env := by rfl) (hpl : (backTo pos (starEach es X.env)).any (·.1) = false := by rfl) : PE X (.Call (.Name x p) (e :: es) [] pos) (tCB r t) := by
  intro pins s σ H Q I h
  refine wpAny_Call_Name_kw (ld_blt I hg hm hv ?_ hn hdb)
  exact PyProof.Rows.callWith_type1 (thn (ha pos pins s σ H _ I h) fun us s1 ⟨vs, H1, I1, r1, q1⟩ => hc pins s1 σ H1 vs us Q I1 r1 q1) he hpl
end
end L2
namespace HT
open PySem PyProof.Rows
section
open PySem.SeqAt
open PySem.AutoSeq1 (wpAny_loadPart')
open PySem.MeetsSeq PySem.MeetsSeq2 PySem.MeetsSeq3
end
section
variable {prog : Program} {w : World} {A : Around} {E : Value → Shared → Prop} {s : Shared}
theorem cat_tup {t b : Addr} {vs ws : List Value} {Q : Value → Shared → Prop} (ht : IsTup s.heap t vs.toArray) (hb : IsTup s.heap b ws.toArray) (hv : vs ≠ [])
    (h1 : ws = [] → Q (.ref t) s) (h2 : ws ≠ [] → Q (.ref s.heap.objs.size) { s with heap := s.heap.push { cls := .type "tuple", data := .seq (vs ++ ws).toArray } })
    (hsz : vs.length + ws.length ≤ sizeLine) : wpAny (model prog w) A (binaryOp .Add (.ref t) (.ref b)) Q E s := by
  obtain ⟨⟨cls, dd, data, sl⟩, ho, hc, n, hd⟩ := id ht
  obtain ⟨⟨cls2, dd2, data2, sl2⟩, ho2, hc2, n2, hd2⟩ := id hb
  simp only at hc hd hc2 hd2
  subst hc hd hc2 hd2
  have e : vs.toArray ++ ws.toArray = (vs ++ ws).toArray := by simp
  by_cases hw : ws = []
  · exact concat_meets ⟨_, ho, rfl⟩ ⟨_, ho2, rfl⟩ noFill_tuple_add seq_tuple_add PySem.F.slot_tuple_add PySem.F.entry_tuple_add (PySem.F.args_tuple_add_2 _ _)
      (tuple_addW1 t b vs.toArray ws.toArray n n2 dd dd2 sl sl2 (by simpa using hv) (by simp [hw])) ⟨ho, ho2, h1 hw⟩
  · refine concat_meets ⟨_, ho, rfl⟩ ⟨_, ho2, rfl⟩ noFill_tuple_add seq_tuple_add PySem.F.slot_tuple_add PySem.F.entry_tuple_add (PySem.F.args_tuple_add_2 _ _)
      (tuple_addW2 t b vs.toArray ws.toArray n n2 dd dd2 sl sl2 (by simpa using hv) (by simpa using hw) (by rw [List.size_toArray, List.size_toArray]; exact hsz)) ⟨ho, ho2, ?_⟩
    rw [e]
    exact h2 hw
noncomputable def sIx (n d : Nat) : Option Int → Nat
  | none => d
  | some v => if v < 0 then (v + (n : Int)).toNat else min v.toNat n
theorem sIx_le (n d : Nat) (hd : d ≤ n) (o : Option Int) : sIx n d o ≤ n := by
  cases o with
  | none => exact hd
  | some v =>
    show (if v < 0 then (v + (n : Int)).toNat else min v.toNat n) ≤ n
    by_cases hv : v < 0
    · rw [if_pos hv]; omega
    · rw [if_neg hv]; exact Nat.min_le_right _ _
end
end HT
namespace L2
open PySem PySem.Spec PyProof.Rows
abbrev TO := St → Hp → (Option Int → Hp → Prop) → Prop
noncomputable def PO (X : Cx) (e : Option Expr) (t : TO) : Prop :=
  ∀ (pins : List (Addr × Obj)) (s : Shared) (σ : St) (H : Hp) (Q : Option Int → Hp → Prop), Inv X pins σ H s → t σ H Q →
    wpAny (model X.prog X.w) X.A (evalPart e X.env) (fun u s' => ∃ o H', Inv X pins σ H' s' ∧ IsPart u o ∧ Q o H') X.xe s
noncomputable def tNoPart : TO := fun _ H Q => Q none H
noncomputable def tPart (t : TE) : TO := fun σ H Q => t σ H fun x H1 => ∃ i, x = .int i ∧ Q (some i) H1
section
variable {X : Cx} {e : Expr} {te : TE} {lo hi : Option Expr} {tl th : TO} {pos p2 : Pos}
theorem po_none : PO X none tNoPart := by
  intro pins s σ H Q I h
  rw [evalPart_none]
  exact wpAny_pure ⟨none, H, I, .none, h⟩
theorem po_some (h : PE X e te) : PO X (some e) (tPart te) := by
  intro pins s σ H Q I hw
  rw [evalPart_some]
  refine thn (h pins s σ H _ I hw) fun u s1 ⟨x, H1, I1, r1, q1⟩ => ?_
  obtain ⟨i, rfl, q⟩ := q1
  obtain ⟨t, rfl⟩ := r1
  exact ⟨some i, H1, I1, .int i t, q⟩
noncomputable def SlR (X : Cx) (r : V → Option Int → Option Int → Hp → VK → Prop) : Prop :=
  ∀ (pins : List (Addr × Obj)) (s : Shared) (σ : St) (H : Hp) (x : V) (v vl vu : Value) (lo hi : Option Int) (sl : Addr) (Q : VK), Inv X pins σ H s → RelV x v → s.heap.IsSliceOf sl vl vu .none → IsPart vl lo → IsPart vu hi → r x lo hi H Q →
    ∃ T id, typeLookup (.type T) "__getitem__" = pure (some (.builtin id)) ∧ s.TypeIs v T ∧ wpAny (model X.prog X.w) X.A (getItem v (.ref sl)) (EP X pins σ Q) X.xe s
theorem SlR.or {r r' : V → Option Int → Option Int → Hp → VK → Prop} (h : SlR X r) (h' : SlR X r') : SlR X (fun x lo hi H Q => r x lo hi H Q ∨ r' x lo hi H Q) := by
  intro pins s σ H x v vl vu lo hi sl Q I rx hs pl pu q
  rcases q with q | q
  · exact h pins s σ H x v vl vu lo hi sl Q I rx hs pl pu q
  · exact h' pins s σ H x v vl vu lo hi sl Q I rx hs pl pu q
noncomputable def tSl (r : V → Option Int → Option Int → Hp → VK → Prop) (te : TE) (tl th : TO) : TE := fun σ H Q => te σ H fun x H1 => tl σ H1 fun l H2 => th σ H2 fun u H3 => r x l u H3 Q
theorem pe_slice {r : V → Option Int → Option Int → Hp → VK → Prop} (hr : SlR X r) (he : PE X e te) (hl : PO X lo tl) (hu : PO X hi th) : PE X (.Subscript e (.Slice lo hi none p2) pos) (tSl r te tl th) := by
  intro pins s σ H Q I h
  refine Subscript_ (thn (he pins s σ H _ I h) fun v s1 ⟨x, H1, I1, r1, q1⟩ => ?_)
  refine wpAny_Slice (thn (hl pins s1 σ H1 _ I1 q1) fun vl s2 ⟨l, H2, I2, pl, q2⟩ => thn (hu pins s2 σ H2 _ I2 q2) fun vu s3 ⟨u, H3, I3, pu, q3⟩ => ?_)
  rw [evalPart_none]
  refine wpAny_pure ?_
  have I4 : Inv X pins σ H3 { s3 with heap := s3.heap.push { cls := .type "slice", data := .fields #[vl, vu, .none] } } := I3.kept (t' := s3.toks) fun b ob q => Heap.get?_push_of_some _ q
  obtain ⟨T, id, hT, ht, hg⟩ := hr pins { s3 with heap := s3.heap.push { cls := .type "slice", data := .fields #[vl, vu, .none] } } σ H3 x v vl vu l u s3.heap.objs.size Q I4 r1 (Heap.IsSliceOf.new ..) pl pu q3
  show wpAny (model X.prog X.w) X.A (subscriptTail e (.Slice lo hi none p2) v (.ref s3.heap.objs.size)) (EP X pins σ Q) X.xe { s3 with heap := s3.heap.push { cls := .type "slice", data := .fields #[vl, vu, .none] } }
  exact tail_any (ops := [.ref s3.heap.objs.size, v]) ht hT hg (by with_unfolding_all rfl)
noncomputable def cutV (xs : List V) (lo hi : Option Int) : List V := (xs.drop (HT.sIx xs.length 0 lo)).take (HT.sIx xs.length xs.length hi - HT.sIx xs.length 0 lo)
theorem cutV_length (xs : List V) (lo hi : Option Int) : (cutV xs lo hi).length ≤ xs.length := by
  unfold cutV
  rw [List.length_take, List.length_drop]
  omega
noncomputable def rCatT (K : PySem.W.Frag) : R2 := fun x y H Q => ∃ a b xs ys, x = .ref a ∧ y = .ref b ∧ SqT K H a xs ∧ SqT K H b ys ∧ xs ≠ [] ∧ xs.length + ys.length ≤ sizeLine ∧
  (ys = [] → Q (.ref a) H) ∧ (ys ≠ [] → ∀ p, H p = none → Q (.ref p) (upd H p (.tup (xs ++ ys))))
theorem Vals.nil_iff {xs : List V} {us : List Value} (r : Vals xs us) : us = [] ↔ xs = [] := by
  cases r with
  | nil => simp
  | cons _ _ => simp
theorem op_catT : OpR X (binaryOp .Add) (rCatT X.K) := by
  intro pins s σ H x y v u Q I rx ry h
  obtain ⟨a, b, xs, ys, rfl, rfl, ha, hb, hx, hz, q1, q2⟩ := h
  cases rx
  cases ry
  obtain ⟨its, r1, p1, _⟩ := I.tuple ha
  obtain ⟨its2, r2, p2, _⟩ := I.tuple hb
  refine HT.cat_tup p1 p2 (fun z => hx (r1.nil_iff.mp z)) (fun z => ⟨.ref a, H, I, rfl, q1 (r2.nil_iff.mp z)⟩) (fun z => ?_) (by rw [← r1.length, ← r2.length]; exact hz)
  refine ⟨.ref s.heap.objs.size, _, I.laid (t' := s.toks) (o := .tup (xs ++ ys)) (fun b ob q => Heap.get?_push_of_some _ q) (Nat.le_refl _) ?_, rfl, q2 (fun w => z (r2.nil_iff.mpr w)) _ (I.hok.fresh (Nat.le_refl _))⟩
  exact ⟨by rw [List.length_append]; exact hz, _, r1.append r2, IsTup.new _ _⟩
end
end L2
namespace L2
open PySem PySem.Spec PyProof.Rows
noncomputable def ixN (n : Nat) (i : Int) : Option Nat := if 0 ≤ i then (if i < n then some i.toNat else none) else if -(n : Int) ≤ i then some (i + n).toNat else none
noncomputable def atI {α : Type} (xs : List α) (i : Int) : Option α := (ixN xs.length i).bind fun j => xs[j]?
theorem ixN_seq {n : Nat} {i : Int} {j : Nat} (h : ixN n i = some j) : seqIndex? i n = some j ∧ j < n ∧ -(n : Int) ≤ i ∧ i < n := by
  unfold ixN at h
  by_cases h0 : 0 ≤ i
  · rw [if_pos h0] at h
    by_cases h1 : i < n
    · rw [if_pos h1] at h
      have e : i.toNat = j := Option.some.inj h
      exact ⟨by rw [seqIndex_of h0 h1, e], by omega, by omega, h1⟩
    · rw [if_neg h1] at h; cases h
  · rw [if_neg h0] at h
    by_cases h1 : -(n : Int) ≤ i
    · rw [if_pos h1] at h
      have e : (i + n).toNat = j := Option.some.inj h
      exact ⟨by rw [seqIndex_neg (by omega) h1, e], by omega, h1, by omega⟩
    · rw [if_neg h1] at h; cases h
theorem atI_get {α : Type} {xs : List α} {i : Int} {v : α} (h : atI xs i = some v) : ∃ j, seqIndex? i xs.length = some j ∧ xs[j]? = some v ∧ j < xs.length ∧ -(xs.length : Int) ≤ i ∧ i < xs.length := by
  unfold atI at h
  cases e : ixN xs.length i with
  | none => rw [e] at h; cases h
  | some j =>
    rw [e] at h
    obtain ⟨h1, h2, h3, h4⟩ := ixN_seq e
    exact ⟨j, h1, h, h2, h3, h4⟩
noncomputable def PlainIx (b : Expr) : Prop := ∀ o i, subscripted b false o i = operate [o, i] (getItem o i)
noncomputable def IxR (X : Cx) (r : R2) : Prop :=
  ∀ (value slice : Expr) (pins : List (Addr × Obj)) (s : Shared) (σ : St) (H : Hp) (x y : V) (v u : Value) (Q : VK), Inv X pins σ H s → RelV x v → RelV y u → r x y H Q →
    subscripted slice false v u = operate [v, u] (getItem v u) → wpAny (model X.prog X.w) X.A (subscriptTail value slice v u) (EP X pins σ Q) X.xe s
noncomputable def MtR (X : Cx) (id : String) (r : V → List V → Hp → VK → Prop) : Prop :=
  ∀ (pins : List (Addr × Obj)) (s : Shared) (σ : St) (H : Hp) (x : V) (xs : List V) (v : Value) (us : List Value) (Q : VK), Inv X pins σ H s → RelV x v → Vals xs us → r x xs H Q →
    wpAny (model X.prog X.w) X.A (call (.builtin id) (v :: us)) (EP X pins σ Q) X.xe s
section
variable {X : Cx} {a b : Expr} {ta tb : TE} {pos : Pos}
theorem IxR.or {r r' : R2} (h : IxR X r) (h' : IxR X r') : IxR X (fun x y H Q => r x y H Q ∨ r' x y H Q) := by
  intro value slice pins s σ H x y v u Q I rx ry q hs
  rcases q with q | q
  · exact h value slice pins s σ H x y v u Q I rx ry q hs
  · exact h' value slice pins s σ H x y v u Q I rx ry q hs
theorem MtR.or {id : String} {r r' : V → List V → Hp → VK → Prop} (h : MtR X id r) (h' : MtR X id r') : MtR X id (fun x xs H Q => r x xs H Q ∨ r' x xs H Q) := by
  intro pins s σ H x xs v us Q I rx rs q
  rcases q with q | q
  · exact h pins s σ H x xs v us Q I rx rs q
  · exact h' pins s σ H x xs v us Q I rx rs q
theorem pe_ix {r : R2} (hr : IxR X r) (ha : PE X a ta) (hb : PE X b tb) (hs : PlainIx b) : PE X (.Subscript a b pos) (tOp r ta tb) := by
  intro pins s σ H Q I h
  exact Subscript_ (binT ha hb I h fun v u s2 x y H2 I2 rx ry q => hr a b pins s2 σ H2 x y v u Q I2 rx ry q (hs _ _))
noncomputable def rIxL (K : PySem.W.Frag) : R2 := fun x y H Q => ∃ p xs i v, x = .ref p ∧ y = .int i ∧ SqL K H p xs ∧ atI xs i = some v ∧ Q v H
noncomputable def rIxT (K : PySem.W.Frag) : R2 := fun x y H Q => ∃ p xs i v, x = .ref p ∧ y = .int i ∧ SqT K H p xs ∧ atI xs i = some v ∧ Q v H
noncomputable def rIxS : R2 := fun x y H Q => ∃ z i c, x = .str z ∧ y = .int i ∧ z.length ≤ sizeLine ∧ atI z.cps.toList i = some c ∧ Q (.str ⟨#[c]⟩) H
theorem ix_list : IxR X (rIxL X.K) := by
  intro value slice pins s σ H x y v u Q I rx ry h hs
  obtain ⟨p, xs, i, z, rfl, rfl, hq, he, q⟩ := h
  cases rx
  obtain ⟨t, rfl⟩ := ry
  obtain ⟨its, r, pl, hz⟩ := I.list hq
  obtain ⟨j, h1, h2, h3, h4, h5⟩ := atI_get he
  obtain ⟨w, ew, rw'⟩ := r.get h2
  have hl := r.length
  have hn := line63
  have fin : EP X pins σ Q w s := ⟨z, H, I, rw', q⟩
  by_cases h0 : 0 ≤ i
  · have hj : i.toNat = j := by
      rw [seqIndex_of h0 h5] at h1
      exact Option.some.inj h1
    exact item_listR pl.isList h0 (by omega) (by rw [hj]; simpa using ew) fin hs
  · have hj : (i + (its.toArray.size : Int)).toNat = j := by
      rw [seqIndex_neg (by omega) h4] at h1
      rw [List.size_toArray, ← hl]
      exact Option.some.inj h1
    exact subscriptTail_builtinR (x := w) pl.isList.typeIs slot_list_getitem.lookup
      (wpAny_getItem_list_neg (Q := fun r s' => r = w ∧ EP X pins σ Q r s') pl.isList (by omega) (by rw [List.size_toArray] <;> omega) (by omega) (by rw [hj]; simpa using ew) ⟨rfl, fin⟩) hs
theorem ix_tup : IxR X (rIxT X.K) := by
  intro value slice pins s σ H x y v u Q I rx ry h hs
  obtain ⟨p, xs, i, z, rfl, rfl, hq, he, q⟩ := h
  cases rx
  obtain ⟨t, rfl⟩ := ry
  obtain ⟨its, r, pl, hz⟩ := I.tuple hq
  obtain ⟨j, h1, h2, h3, h4, h5⟩ := atI_get he
  obtain ⟨w, ew, rw'⟩ := r.get h2
  have hl := r.length
  have hn := line63
  have fin : EP X pins σ Q w s := ⟨z, H, I, rw', q⟩
  exact subscriptTail_builtinR (x := w) pl.typeIs slot_tuple_getitem.lookup
    (getItem_tuple (j := j) (Q := fun r s' => r = w ∧ EP X pins σ Q r s') pl (by omega) (by omega) (by rw [List.size_toArray, ← hl]; exact h1) (by simpa using ew) ⟨rfl, fin⟩) hs
theorem ix_str : IxR X rIxS := by
  intro value slice pins s σ H x y v u Q I rx ry h hs
  obtain ⟨z, i, c, rfl, rfl, hz, he, q⟩ := h
  obtain ⟨t, rfl⟩ := rx
  obtain ⟨t', rfl⟩ := ry
  obtain ⟨j, h1, h2, h3, h4, h5⟩ := atI_get he
  have hl : z.cps.toList.length = z.length := by simp [Str.length]
  rw [hl] at h1 h4 h5
  have hn := line63
  exact tail_any (typeIs_str s z t) slot_str_getitem.lookup (getItem_str (c := c) (by
    have e1 : decide (i < -(2 ^ 63 : Int)) = false := decide_eq_false (by omega)
    have e2 : decide (i ≥ 2 ^ 63) = false := decide_eq_false (by omega)
    rw [e1, e2, Bool.or_false]) (by rw [h1]; simpa using h2) ⟨.str ⟨#[c]⟩, H, I.tok _, ⟨_, rfl⟩, q⟩) hs
theorem Inv.lst {pins : List (Addr × Obj)} {σ : St} {H : Hp} {s : Shared} {p : Addr} {xs : List V} (I : Inv X pins σ H s) (h : H p = some (.lst xs)) :
    ∃ (its : List Value) (n : Nat), Vals xs its ∧ s.heap.get? p = some { cls := .type "list", data := .seq its.toArray n } ∧ xs.length ≤ sizeLine := by
  obtain ⟨z, its, n, r, e⟩ := I.hok p _ h
  exact ⟨its, n, r, e, z⟩
theorem slice_bounds (lo hi : Option Int) (n : Nat) : (sliceBounds lo hi none n).1 = ((HT.sIx n 0 lo : Nat) : Int) ∧ (sliceBounds lo hi none n).2.1 = ((HT.sIx n n hi : Nat) : Int) ∧ (sliceBounds lo hi none n).2.2 = 1 := by
  refine ⟨?_, ?_, rfl⟩
  · cases lo with
    | none => simp [sliceBounds, HT.sIx]
    | some i =>
      simp only [sliceBounds, HT.sIx, Option.getD_none, show (1 : Int) > 0 by decide, if_true]
      by_cases h : i < 0
      · simp only [h, if_true] <;> omega
      · simp only [h, if_false] <;> omega
  · cases hi with
    | none => simp [sliceBounds, HT.sIx]
    | some i =>
      simp only [sliceBounds, HT.sIx, Option.getD_none, show (1 : Int) > 0 by decide, if_true]
      by_cases h : i < 0
      · simp only [h, if_true] <;> omega
      · simp only [h, if_false] <;> omega
theorem slicePick_cut (its : List Value) (lo hi : Option Int) : slicePick its.toArray lo hi none = ((its.drop (HT.sIx its.length 0 lo)).take (HT.sIx its.length its.length hi - HT.sIx its.length 0 lo)).toArray := by
  obtain ⟨h1, h2, h3⟩ := slice_bounds lo hi its.toArray.size
  unfold slicePick
  rw [h1, h2, h3]
  simp only [sliceRange_one, pick_run, List.size_toArray] <;> rfl
noncomputable def rSlL (K : PySem.W.Frag) : V → Option Int → Option Int → Hp → VK → Prop := fun x lo hi H Q => ∃ a xs, x = .ref a ∧ SqL K H a xs ∧ ∀ p, H p = none → Q (.ref p) (upd H p (.lst (cutV xs lo hi)))
theorem sl_list : SlR X (rSlL X.K) := by
  intro pins s σ H x v vl vu lo hi sl Q I rx hs pl pu h
  obtain ⟨a, xs, rfl, hx, q⟩ := h
  cases rx
  obtain ⟨its, r, ht, hz⟩ := I.list hx
  have hlen := r.length
  refine ⟨"list", _, slot_list_getitem.lookup, ht.isList.typeIs, ?_⟩
  refine wpAny_getItem_list_slice ht.isList hs pl pu .none (by simp) ?_ (by rw [List.size_toArray] <;> omega)
  rw [slicePick_cut, ← hlen]
  refine ⟨.ref s.heap.objs.size, _, I.laid (t' := s.toks) (o := .lst (cutV xs lo hi)) (fun b ob q => Heap.get?_push_of_some _ q) (Nat.le_refl _) ?_, rfl, q _ (I.hok.fresh (Nat.le_refl _))⟩
  exact ⟨Nat.le_trans (cutV_length xs lo hi) hz, _, 0, (r.drop (HT.sIx xs.length 0 lo)).take (HT.sIx xs.length xs.length hi - HT.sIx xs.length 0 lo), Heap.get?_push_size _ rfl⟩
noncomputable def flatV : V → Bool
  | .non => true
  | .bl _ => true
  | .int _ => true
  | .str _ => true
  | _ => false
noncomputable def eqV : V → V → Bool
  | .non, .non => true
  | .bl a, .bl b => a == b
  | .bl a, .int b => (if a then 1 else 0) == b
  | .int a, .bl b => a == (if b then 1 else 0)
  | .int a, .int b => a == b
  | .str a, .str b => a == b
  | _, _ => false
theorem eqAt_V {A : Around} {s : Shared} {y x : V} {u v : Value} (ry : RelV y u) (rx : RelV x v) (fy : flatV y = true) (fx : flatV x = true) : SeqAt.EqAt A s u v (eqV y x) := by
  cases y with
  | non =>
    cases ry
    cases x with
    | non => cases rx; exact SeqAt.EqAt.same _
    | bl b => cases rx; exact SeqAt.EqAt.none_bool b
    | int b => obtain ⟨t, rfl⟩ := rx; exact SeqAt.EqAt.none_int b t
    | str b => obtain ⟨t, rfl⟩ := rx; exact SeqAt.EqAt.none_str b t
    | _ => exact absurd (show false = true from fx) Bool.false_ne_true
  | bl a =>
    cases ry
    cases x with
    | non => cases rx; exact SeqAt.EqAt.bool_none a
    | bl b => cases rx; exact SeqAt.EqAt.bool_bool a b
    | int b => obtain ⟨t, rfl⟩ := rx; exact SeqAt.EqAt.bool_int a b t
    | str b => obtain ⟨t, rfl⟩ := rx; exact SeqAt.EqAt.bool_str a b t
    | _ => exact absurd (show false = true from fx) Bool.false_ne_true
  | int a =>
    obtain ⟨t', rfl⟩ := ry
    cases x with
    | non => cases rx; exact SeqAt.EqAt.int_none a t'
    | bl b => cases rx; exact SeqAt.EqAt.int_bool a t' b
    | int b => obtain ⟨t, rfl⟩ := rx; exact SeqAt.EqAt.int_int a t' b t
    | str b => obtain ⟨t, rfl⟩ := rx; exact SeqAt.EqAt.int_str a t' b t
    | _ => exact absurd (show false = true from fx) Bool.false_ne_true
  | str a =>
    obtain ⟨t', rfl⟩ := ry
    cases x with
    | non => cases rx; exact SeqAt.EqAt.str_none a t'
    | bl b => cases rx; exact SeqAt.EqAt.str_bool a t' b
    | int b => obtain ⟨t, rfl⟩ := rx; exact SeqAt.EqAt.str_int a t' b t
    | str b => obtain ⟨t, rfl⟩ := rx; exact SeqAt.EqAt.str_str a t' b t
    | _ => exact absurd (show false = true from fx) Bool.false_ne_true
  | _ => exact absurd (show false = true from fy) Bool.false_ne_true
noncomputable def eqU (x : V) (u : Value) : Bool := match u with
  | .none => eqV .non x
  | .bool b => eqV (.bl b) x
  | .int i _ => eqV (.int i) x
  | .str z _ => eqV (.str z) x
  | _ => false
theorem eqU_of {x y : V} {u : Value} (r : RelV y u) (f : flatV y = true) : eqU x u = eqV y x := by
  cases y with
  | non => cases r; rfl
  | bl b => cases r; rfl
  | int i => obtain ⟨t, rfl⟩ := r; rfl
  | str z => obtain ⟨t, rfl⟩ := r; rfl
  | _ => exact absurd (show false = true from f) Bool.false_ne_true
theorem any_eqU {x : V} : ∀ {xs : List V} {us : List Value}, Vals xs us → xs.all flatV = true → us.any (eqU x) = xs.any fun y => eqV y x
  | _, _, .nil, _ => rfl
  | y :: xs, u :: us, .cons r t, f => by
    rw [List.all_cons, Bool.and_eq_true] at f
    rw [List.any_cons, List.any_cons, eqU_of r f.1, any_eqU t f.2]
theorem mem_eqAt {A : Around} {s : Shared} {x : V} {v : Value} (rx : RelV x v) (fx : flatV x = true) : ∀ {xs : List V} {us : List Value}, Vals xs us → xs.all flatV = true → ∀ u ∈ us, SeqAt.EqAt A s u v (eqU x u)
  | _, _, .nil, _ => fun u hu => by cases hu
  | y :: xs, u :: us, .cons r t, f => fun u' hu => by
    rw [List.all_cons, Bool.and_eq_true] at f
    rcases List.mem_cons.mp hu with rfl | hu
    · rw [eqU_of r f.1]; exact eqAt_V r rx f.1 fx
    · exact mem_eqAt rx fx t f.2 u' hu
noncomputable def inV (x : V) (xs : List V) : Bool := xs.any fun y => eqV y x
noncomputable def rIn (K : PySem.W.Frag) (neg : Bool) : R2 := fun x y H Q => ∃ p xs, y = .ref p ∧ (SqL K H p xs ∨ SqT K H p xs) ∧ flatV x = true ∧ xs.all flatV = true ∧ Q (.bl (if neg then !inV x xs else inV x xs)) H
theorem op_in_seq : OpR X (compareOp .In) (rIn X.K false) := by
  intro pins s σ H x y v u Q I rx ry h
  obtain ⟨p, xs, rfl, hq, fx, fs, q⟩ := h
  cases ry
  rcases hq with hq | hq
  · obtain ⟨its, r, pl, hz⟩ := I.list hq
    refine SeqAt.in_listAt (eqU x) pl.isList (fun w hw => mem_eqAt rx fx r fs w (by simpa using hw)) ⟨.bl _, H, I, rfl, ?_⟩
    rw [show its.toArray.any (eqU x) = its.any (eqU x) by simp, any_eqU r fs]
    exact q
  · obtain ⟨its, r, pl, hz⟩ := I.tuple hq
    refine SeqAt.in_tupleAt (eqU x) pl (fun w hw => mem_eqAt rx fx r fs w (by simpa using hw)) ⟨.bl _, H, I, rfl, ?_⟩
    rw [show its.toArray.any (eqU x) = its.any (eqU x) by simp, any_eqU r fs]
    exact q
theorem call_len_seq : CallR X (.builtin "len") (fun xs H Q => ∃ p ys, xs = [.ref p] ∧ (SqL X.K H p ys ∨ SqT X.K H p ys) ∧ Q (.int ys.length) H) := by
  intro pins s σ H xs us Q I r h
  obtain ⟨p, ys, rfl, hq, q⟩ := h
  obtain ⟨u, rfl, rx⟩ := vals1 r
  cases rx
  have hn := line63
  rcases hq with hq | hq
  · obtain ⟨its, r', pl, hz⟩ := I.list hq
    have hlen := r'.length
    exact Calls.call_len_list pl.isList (by simp only [List.size_toArray] <;> omega) ⟨.int ys.length, H, I.tok _, ⟨s.toks + 1, by rw [List.size_toArray, hlen]⟩, q⟩
  · obtain ⟨its, r', pl, hz⟩ := I.tuple hq
    have hlen := r'.length
    exact len_tuple pl (by simp only [List.size_toArray] <;> omega) ⟨.int ys.length, H, I.tok _, ⟨s.toks + 1, by rw [List.size_toArray, hlen]⟩, q⟩
theorem call_len_str : CallR X (.builtin "len") (fun xs H Q => ∃ z, xs = [.str z] ∧ z.length ≤ sizeLine ∧ Q (.int z.length) H) := by
  intro pins s σ H xs us Q I r h
  obtain ⟨z, rfl, hz, q⟩ := h
  obtain ⟨u, rfl, t, rfl⟩ := vals1 r
  have hn := line63
  exact len_str (by omega) ⟨.int z.length, H, I.tok _, ⟨_, rfl⟩, q⟩
theorem CallR.or {f : Value} {r r' : List V → Hp → VK → Prop} (h : CallR X f r) (h' : CallR X f r') : CallR X f (fun xs H Q => r xs H Q ∨ r' xs H Q) := by
  intro pins s σ H xs us Q I rs q
  rcases q with q | q
  · exact h pins s σ H xs us Q I rs q
  · exact h' pins s σ H xs us Q I rs q
noncomputable def tyV (K : PySem.W.Frag) (T : String) (x : V) (H : Hp) : Prop := match x with
  | .str _ => T = "str"
  | .int _ => T = "int"
  | .ref p => (T = "list" ∧ ∃ xs, SqL K H p xs) ∨ (T = "tuple" ∧ ∃ o, K.lookup p = some o ∧ o.cls = .type "tuple" ∧ o.dict = none) ∨
      (T = "dict" ∧ ((∃ kvs, H p = some (.dK kvs)) ∨ ∃ kvs, H p = some (.dT kvs))) ∨ (T = "set" ∧ ∃ S n, H p = some (.set S n))
  | _ => False
theorem tyV_is {pins : List (Addr × Obj)} {σ : St} {H : Hp} {s : Shared} {T : String} {x : V} {v : Value} (I : Inv X pins σ H s) (r : RelV x v) (ty : tyV X.K T x H) :
    s.TypeIs v T ∧ ∀ a, v = .ref a → ∃ ob, s.heap.get? a = some ob ∧ ob.dict = none := by
  cases x with
  | str z =>
    obtain ⟨t, rfl⟩ := r
    cases (show T = "str" from ty)
    exact ⟨typeIs_str s z t, fun _ e => nomatch e⟩
  | int i =>
    obtain ⟨t, rfl⟩ := r
    cases (show T = "int" from ty)
    exact ⟨typeIs_int s i t, fun _ e => nomatch e⟩
  | ref p =>
    cases r
    rcases ty with ⟨rfl, xs, hq⟩ | ⟨rfl, o, hk, hc, hd⟩ | ⟨rfl, hk⟩ | ⟨rfl, S, n, hk⟩
    · obtain ⟨its, _, pl, _⟩ := I.list hq
      refine ⟨pl.isList.typeIs, fun a e => ?_⟩
      cases e
      obtain ⟨o, n, e, c, hd, _⟩ := pl
      exact ⟨o, e, hd⟩
    · refine ⟨⟨o, I.kIn p o hk, hc⟩, fun a e => ?_⟩
      cases e
      exact ⟨o, I.kIn _ o hk, hd⟩
    · have z : ∃ o, s.heap.get? p = some o ∧ o.ExactDict := by
        rcases hk with ⟨kvs, hk⟩ | ⟨kvs, hk⟩
        · obtain ⟨_, _, _, _, o, _, _, e, ex, _⟩ := I.hok p _ hk
          exact ⟨o, e, ex⟩
        · exact False.elim (show ObjOk X.prog X.w H s.heap p (.dT kvs) from I.hok p _ hk)
      obtain ⟨o, e, ex⟩ := z
      refine ⟨⟨o, e, ex.1⟩, fun a e2 => ?_⟩
      cases e2
      exact ⟨o, e, ex.2.1⟩
    · obtain ⟨o, _, _, _, e, ex, _⟩ := I.hok p _ hk
      refine ⟨⟨o, e, ex.1⟩, fun a e2 => ?_⟩
      cases e2
      exact ⟨o, e, ex.2.1⟩
  | _ => exact False.elim ty
noncomputable def tBM (K : PySem.W.Frag) (T : String) (r : V → List V → Hp → VK → Prop) (to : TE) (t : TA) : TE := fun σ H Q => to σ H fun x H1 => tyV K T x H1 ∧ t σ H1 fun xs H2 => r x xs H2 Q
variable {o e : Expr} {es : List Expr} {to : TE} {t : TA} {name : Str} {apos cpos : Pos} {T id : String} {r : V → List V → Hp → VK → Prop}
theorem pe_bm (pa : PlainAttrs T) (slot : Slot T name id) (hty : typeOf (.builtin id) = pure (.type "method_descriptor")) (hm : MtR X id r) (ho : PE X o to) (ha : PA X (e :: es) t)
    (hbase : attributeBase o name X.env (eval o X.env) = eval o X.env := by rfl)
    (hfew : ((backTo cpos (starEach (e :: es) X.env)).all (fun x => !x.1) && (backToKw cpos (keywordEach [] X.env)).all (fun x => x.1.isSome)
      && decide ((e :: es).length + ([] : List Keyword).length + (if ([] : List Keyword).isEmpty then 0 else 1) < 30)) = true := by rfl)
    (hline : (apos.endLine == cpos.line) = true := by rfl) (hs : starEach (e :: es) X.env = (false, eval e X.env) :: starEach es X.env := by rfl) (hplain : (backTo cpos (starEach es X.env)).any (·.1) = false := by rfl) :
    PE X (.Call (.Attribute o name apos) (e :: es) [] cpos) (tBM X.K T r to t) := by
  intro pins s σ H Q I h
  refine wpAny_Call_method_late hbase hfew hline rfl (thn (ho pins s σ H _ I h) fun v s1 ⟨x, H1, I1, r1, ty, q1⟩ => ?_)
  obtain ⟨h1, h2⟩ := tyV_is I1 r1 ty
  refine ⟨T, id, pa, slot, hty, h1, h2, ?_⟩
  have hA := ha cpos pins s1 σ H1 _ I1 q1
  rw [hs] at hA ⊢
  refine Calls.callWith_builtin (by show (false || (backTo cpos (starEach es X.env)).any (·.1)) = false; rw [hplain] <;> rfl) (Calls.evalArgs_plain ?_)
  exact thn hA fun us s2 ⟨vs, H2, I2, r2, q2⟩ => hm pins s2 σ H2 x vs v us Q I2 r1 r2 q2
/- xs.append(e), list.index on a module's tuple .. are MtR facts of 06m -/
end
end L2
namespace L2
open PySem PySem.Spec PyProof.Rows
noncomputable def MtM (X : Cx) (id : String) (r : V → List V → Hp → VK → Prop) : Prop :=
  ∀ (pins : List (Addr × Obj)) (s : Shared) (σ : St) (H : Hp) (x : V) (xs : List V) (v : Value) (us : List Value) (Q : VK), Inv X pins σ H s → RelV x v → Vals xs us → r x xs H Q →
    wpAny (model X.prog X.w) X.A (call (.builtin id) (v :: us)) (EP X pins σ Q) X.xe s
theorem Vals.one : ∀ {x : V} {us : List Value}, Vals [x] us → ∃ u, us = [u] ∧ RelV x u
  | _, _, .cons r .nil => ⟨_, rfl, r⟩
theorem Vals.two : ∀ {x y : V} {us : List Value}, Vals [x, y] us → ∃ u v, us = [u, v] ∧ RelV x u ∧ RelV y v
  | _, _, _, .cons r (.cons q .nil) => ⟨_, _, rfl, r, q⟩
theorem Vals.reverse {xs : List V} {us : List Value} (h : Vals xs us) : Vals xs.reverse us.reverse := by
  induction h with
  | nil => exact .nil
  | cons r t ih => rw [List.reverse_cons, List.reverse_cons]; exact Vals.append ih (.cons r .nil)
theorem Vals.rep {xs : List V} {us : List Value} (h : Vals xs us) : ∀ k : Nat, Vals (List.replicate k xs).flatten (List.replicate k us).flatten
  | 0 => .nil
  | k + 1 => by
    rw [List.replicate_succ, List.replicate_succ, List.flatten_cons, List.flatten_cons]
    exact Vals.append h (Vals.rep h k)
theorem foldl_rep (its : List Value) : ∀ (k : Nat) (acc : List Value),
    List.foldl (fun x1 x2 => x1 ++ x2) acc.toArray (List.replicate k its.toArray) = (acc ++ (List.replicate k its).flatten).toArray
  | 0, acc => by simp
  | k + 1, acc => by
    have e : acc.toArray ++ its.toArray = (acc ++ its).toArray := by simp
    have e2 : (acc ++ its) ++ (List.replicate k its).flatten = acc ++ (List.replicate (k + 1) its).flatten := by
      rw [List.replicate_succ, List.flatten_cons, List.append_assoc]
    rw [← e2, ← foldl_rep its k (acc ++ its), ← e, List.replicate_succ, List.foldl_cons]
section
variable {X : Cx} {pins : List (Addr × Obj)} {σ : St} {H : Hp} {s : Shared} {l b : Addr} {xs ys zs : List V}
theorem Inv.lset {its its' : List Value} {n : Nat} {f : Array Value → Array Value} {t' : Nat} (I : Inv X pins σ H s) (hH : H l = some (.lst xs))
    (e : s.heap.get? l = some { cls := .type "list", data := .seq its.toArray n }) (hf : f its.toArray = its'.toArray) (hv : Vals ys its') (hz : ys.length ≤ sizeLine) :
    Inv X pins σ (upd H l (.lst ys)) { s with heap := s.heap.update l (Obj.mapSeq f), toks := t' } := by
  have q := PySem.IsL.update e f
  rw [hf] at q
  refine I.write (x := l) (e := l) (by rw [hH]; exact trivial) (.inl rfl) (fun b' u hb hu => (Heap.get?_update_other s.heap (Obj.mapSeq f) (Ne.symm hb)).trans hu) ⟨_, q⟩ ?_
  exact ⟨hz, its', _, hv, q⟩
theorem Inv.lnew {its : List Value} {t' : Nat} (I : Inv X pins σ H s) (hv : Vals ys its) (hz : ys.length ≤ sizeLine) :
    Inv X pins σ (upd H s.heap.objs.size (.lst ys)) { s with heap := s.heap.push { cls := .type "list", data := .seq its.toArray }, toks := t' } :=
  I.laid (fun _ _ q => Heap.get?_push_of_some _ q) (Nat.le_refl _) ⟨hz, its, 0, hv, Heap.get?_push_size _ rfl⟩
theorem Inv.fresh (I : Inv X pins σ H s) : H s.heap.objs.size = none := I.hok.fresh (Nat.le_refl _)
theorem Inv.lstM (I : Inv X pins σ H s) (hH : H l = some (.lst xs)) : xs.length ≤ sizeLine ∧ ∃ (its : List Value) (n : Nat), Vals xs its ∧ xs.length = its.length ∧ s.heap.get? l = some { cls := .type "list", data := .seq its.toArray n } := by
  obtain ⟨z, its, n, r, e⟩ := I.hok l _ hH
  exact ⟨z, its, n, r, r.length, e⟩
theorem notLongL {n : Nat} (h : n ≤ sizeLine) : Builtin.List.listTooLong n = false := by
  unfold Builtin.List.listTooLong
  exact decide_eq_false (by omega)
end
section
variable {X : Cx}
noncomputable def rAppend : V → List V → Hp → VK → Prop := fun x vs H Q => ∃ l xs y, x = .ref l ∧ vs = [y] ∧ H l = some (.lst xs) ∧ xs.length < sizeLine ∧ Q .non (upd H l (.lst (xs ++ [y])))
theorem mt_append : MtM X "list.append" rAppend := by
  intro pins s σ H x vs v us Q I rx rv h
  obtain ⟨l, xs, y, rfl, rfl, hH, hz, q⟩ := h
  cases rx
  obtain ⟨u, rfl, ru⟩ := rv.one
  obtain ⟨z, its, n, r, hl, e⟩ := I.lstM hH
  refine call_meets F.slot_list_append ⟨_, e, rfl⟩ F.entry_list_append (F.args_list_append_2 _ _) (PySem.list_append l its.toArray n u (by rw [List.size_toArray]; omega)) ⟨e, ?_⟩
  refine ⟨.non, _, I.lset (its' := its ++ [u]) hH e (by simp) (r.append (.cons ru .nil)) ?_, rfl, q⟩
  rw [List.length_append, List.length_singleton]
  omega
noncomputable def rCat : R2 := fun x y H Q => ∃ l b xs zs, x = .ref l ∧ y = .ref b ∧ H l = some (.lst xs) ∧ H b = some (.lst zs) ∧ xs.length + zs.length ≤ sizeLine ∧ ∀ p, H p = none → Q (.ref p) (upd H p (.lst (xs ++ zs)))
theorem op_cat : OpR X (binaryOp .Add) rCat := by
  intro pins s σ H x y v u Q I rx ry h
  obtain ⟨l, b, xs, zs, rfl, rfl, hH, hB, hz, q⟩ := h
  cases rx
  cases ry
  obtain ⟨z, its, n, r, hl, e⟩ := I.lstM hH
  obtain ⟨z2, its2, n2, r2, hl2, e2⟩ := I.lstM hB
  refine PySem.P.add_list e e2 ?_ (by rw [List.size_toArray, List.size_toArray]; omega)
  have ea : its.toArray ++ its2.toArray = (its ++ its2).toArray := by simp
  rw [ea]
  exact ⟨.ref _, _, I.lnew (t' := s.toks) (r.append r2) (by rw [List.length_append]; omega), rfl, q _ I.fresh⟩
noncomputable def rRep : R2 := fun x y H Q => ∃ l k xs, x = .ref l ∧ y = .int k ∧ H l = some (.lst xs) ∧ -(2 ^ 63) ≤ k ∧ k < 2 ^ 63 ∧ xs.length * k.toNat ≤ sizeLine ∧
  ∀ p, H p = none → Q (.ref p) (upd H p (.lst (List.replicate k.toNat xs).flatten))
theorem len_rep {α : Type} (xs : List α) (k : Nat) : (List.replicate k xs).flatten.length = k * xs.length := by
  induction k with
  | zero => simp
  | succ k ih => rw [List.replicate_succ, List.flatten_cons, List.length_append, ih, Nat.succ_mul, Nat.add_comm]
theorem op_rep : OpR X (binaryOp .Mult) rRep := by
  intro pins s σ H x y v u Q I rx ry h
  obtain ⟨l, k, xs, rfl, rfl, hH, h1, h2, hz, q⟩ := h
  cases rx
  obtain ⟨t, rfl⟩ := ry
  obtain ⟨z, its, n, r, hl, e⟩ := I.lstM hH
  have hlen : its.toArray.size * k.toNat ≤ sizeLine := by rw [List.size_toArray, ← hl]; exact hz
  have hcap : ¬ its.toArray.size * k.toNat > (2 ^ 63 - 1) / 8 := by
    have : (sizeLine : Nat) ≤ (2 ^ 63 - 1) / 8 := by decide
    omega
  have hfit : ¬ (!Builtin.List.listFitsIndex k) = true := by
    rw [fitsIndex_both h1 h2]
    exact Bool.false_ne_true
  have hlong : ¬ Builtin.List.listTooLong (its.toArray.size * k.toNat) = true := by
    rw [notLongL hlen]
    exact Bool.false_ne_true
  have hnew : List.foldl (fun x1 x2 => x1 ++ x2) #[] (List.replicate (if its.toArray.isEmpty = true then 0 else k.toNat) its.toArray) = (List.replicate k.toNat its).flatten.toArray := by
    have f0 : ∀ m : Nat, List.foldl (fun x1 x2 => x1 ++ x2) #[] (List.replicate m its.toArray) = (List.replicate m its).flatten.toArray := fun m => by
      have := foldl_rep its m []
      rw [List.nil_append] at this
      exact this
    rw [f0]
    cases its with
    | nil => simp
    | cons a r' => rw [if_neg (by simp)]
  refine wpAny_binaryOp_repeat_ref (T := "list") (U := "int") (by decide) ⟨_, e, rfl⟩ (fun s' => typeIs_int s' k t) noFill_list_mul F.fills_int_mul F.slot_int_rmul repeat_list F.slot_int_index.lookup
    (call_meets F.slot_int_rmul (typeIs_int s k t) F.entry_int_rmul (F.args_int_rmul_2 _ _) (int___rmul___int_list k t l its.toArray n)
      ⟨e, rfl, ⟨_, e, rfl⟩, call_meets F.slot_list_mul ⟨_, e, rfl⟩ F.entry_list_mul (F.args_list_mul_2 _ _) (AutoListH.list___mul___list_int_3 l its.toArray n k t hfit hcap hlong) ⟨e, ?_⟩⟩)
  rw [hnew]
  exact ⟨.ref _, _, I.lnew (t' := s.toks) (r.rep k.toNat) (by rw [len_rep, Nat.mul_comm]; exact hz), rfl, q _ I.fresh⟩
end
section
variable {prog : Program} {w : World} {A : Around} {E : Value → Shared → Prop} {s : Shared}
end
section
variable {X : Cx}
end
end L2
namespace Att
open PySem PySem.W PySem.Calls PyProof.Rows
theorem ints_of_wellAll {P : Params} {h : Heap} : ∀ (ns : List Int) (vs : List Value), WellAll P h vs (ns.map WData.int) → IntsAre vs ns := by
  intro ns
  induction ns with
  | nil =>
    intro vs w
    rw [List.map_nil] at w
    cases w
    exact .nil
  | cons n ns ih =>
    intro vs w
    rw [List.map_cons] at w
    cases w with
    | cons a b =>
      cases a
      exact .cons _ _ (ih _ b)
theorem script_of {l : OpenLaw} {n : Nat} (hn : l.most = some n) {P : Params} {h : Heap} {args : List WData} {vals : List Value}
    (hpre : l.row.toRowW.claim.pre args = true) (hwl : WellAll P h vals args) :
    ∃ a vs ns, vals = [Value.ref a] ∧ args = [WData.list (ns.map WData.int)] ∧ h.get? a = some { cls := .type "list", data := .seq vs.toArray } ∧ IntsAre vs ns ∧ ns.length ≤ n := by
  have hsh : WShape.hasAll [] args [.list .int] = true := (pre_splitW hpre).1
  have hc : l.pre.holds [] { args := args } = true := (pre_splitW hpre).2
  obtain ⟨d, r, rfl, h1, h2⟩ := hasAllW_cons hsh
  obtain rfl := hasAllW_nil h2
  obtain ⟨xs, rfl, h3⟩ := hasW_list h1
  obtain ⟨ns, rfl⟩ := items_int h3
  have hlen : ns.length ≤ n := by
    unfold OpenLaw.pre at hc
    have h4 : (WTm.not (.lt (.lit (.int (n : Int))) (.len (.arg 0)))).holds [] { args := [.list (ns.map .int)] } = true := by
      have h4 := (holds_andW hc).1
      rw [hn] at h4
      exact h4
    have h5 := condW_of h4 (w_not (w_lt w_lit (w_len_list (w_arg rfl))))
    rw [List.length_map] at h5
    refine Nat.le_of_not_lt fun q => ?_
    have q' : (n : Int) < ((ns.length : Nat) : Int) := by omega
    first
      | (rw [decide_eq_true q'] at h5; exact absurd h5 (by decide))
      | (simp at h5; omega)
  cases hwl with
  | cons w1 w2 =>
    cases w2
    cases w1 with
    | list ho hall => exact ⟨_, _, ns, rfl, rfl, ho, ints_of_wellAll ns _ hall, hlen⟩
theorem post_true (l : OpenLaw) (args : List WData) : l.row.toRowW.claim.post args (.bool true) args = true :=
  postW_of (r := l.row.toRowW) (X := (true == true))
    (show WShape.has [] (.bool true) .bool = true by first | rfl | decide | simp [WShape.has, WShape.arms, WShape.armsAll])
    (show (WTm.eq .res (.lit (.bool true))).value [] { args := args, res := some (.bool true), after := args } = some (.bool (true == true)) from w_eq_bool (w_res rfl) w_lit) rfl
theorem attach_call {l : OpenLaw} {n : Nat} {q : Program} {loose : List Str} {XP : (Str → Option Value) → Heap → Prop} {YP : World → Heap → Prop} {d : DefRec}
    (hn : l.most = some n) (hdf : d.params.defaults = [])
    (call : ∀ (w : World) (s₀ s₁ : Shared) (mg mb : Str → Option Value) (fa : Addr) (o : Obj) (pm cd doc : Value) (a : Addr) (vs : List Value) (ns : List Int),
      Ground q loose [] XP w s₀ mg mb s₁.heap → YP w s₁.heap →
      s₁.heap.get? fa = some o → o.data = .func (docDef d.name d.params d.body d.scope pm cd doc) → s₁.heap.CodeRec cd d.name → mg d.name = some (.ref fa) →
      s₁.heap.get? a = some { cls := .type "list", data := .seq vs.toArray } → IntsAre vs ns → ns.length ≤ n → s₁.gens = #[] →
      codeAny (model l.prog w) callerA (.call (.ref fa) ⟨[.ref a], []⟩) (fun r s' => r = .ok (.ret (.bool true)) ∧ OldK s₁.heap s'.heap ∧ s'.os = s₁.os ∧ AllBare s'.gens) s₁) :
    WalkO q loose XP YP l.row.toRowW d [] (fun f vs => PySem.call f vs) := by
  intro w s₀ s₁ mg mb G Y fa o pm cd doc dV kV ho hd hcd hD hmg hg args vals as hpre hlay hrd hwl hlo
  obtain rfl : dV = .none := Dflts.none hD hdf
  obtain rfl : kV = .none := Dflts.noKw hD
  obtain ⟨a, vs, ns, rfl, rfl, hobj, hints, hlen⟩ := script_of hn hpre hwl
  refine enter_call (codeAny_mono (call w s₀ s₁ mg mb fa o pm cd doc a vs ns G Y ho (fd_plain hd) hcd hmg hobj hints hlen hg) fun r s' hq => ?_)
  obtain ⟨rfl, h2, h3, h4⟩ := hq
  exact ⟨.inl ⟨.bool true, .bool true, [], rfl, fun _ => rfl, .bool true, post_true l _, fun _ => ⟨List.Pairwise.nil, fun _ hm => (nomatch hm)⟩⟩, h2, h3, h4⟩
section
variable {prog : Program} {w : World} {A : Around} {E : Value → Shared → Prop} {s : Shared} {K : Frag}
end
end Att
namespace L2
open PySem PySem.Spec PyProof.Rows
theorem vals_ints : ∀ {vs : List Value} {ns : List Int}, IntsAre vs ns → Vals (ns.map V.int) vs
  | _, _, .nil => .nil
  | _, _, .cons n t h => .cons ⟨t, rfl⟩ (vals_ints h)
noncomputable def Only (H : Hp) : Prop := ∀ b, H b = none ∨ ∃ o xs, H b = some (.frz o (.lst xs))
theorem law_call {P : Program} {w : World} {K : PySem.W.Frag} {mg mb : Str → Option Value} {CX : CXT} {k : Nat} {fa a : Addr} {fd : FuncData} {x : Str} {sp : Sp} {s₁ : Shared} {vs : List Value} {ns : List Int}
    (KX : K.In s₁.heap) (hns : s₁.heap.Ns mainGlobals mg) (hb : s₁.heap.Ns builtinsNs mb) (hbb : ∀ x : Str, x ≠ "__name__" → mb x = bootBuiltins x) (hlim : s₁.heap.NoLimit) (hg : s₁.gens = #[])
    (ha : s₁.heap.get? a = some { cls := .type "list", data := .seq vs.toArray }) (hi : IntsAre vs ns) (hl : ns.length ≤ sizeLine) (hr : Room k callerA)
    (F : ∀ base : Heap, K.In base → base.Ns mainGlobals mg → FnOk P w K mg base CX k fa fd [x] sp) (hbind : ∀ (s : Shared) (u : Value), BindsTo s fd ⟨[u], []⟩ [(x, u)])
    (hsp : ∀ H : Hp, Only H → SqL K H a (ns.map V.int) → sp [.ref a] H (fun v _ => v = .bl true) fun _ _ _ => False)
    (hCX : ∀ H e s', CX [] H s₁ (fun _ _ _ => False) e s' → False) :
    codeAny (model P w) callerA (.call (.ref fa) ⟨[.ref a], []⟩) (fun r s' => r = .ok (.ret (.bool true)) ∧ OldK s₁.heap s'.heap ∧ s'.os = s₁.os ∧ AllBare s'.gens) s₁ := by
  have rv := vals_ints hi
  have lenV := hi.length
  -- from an abstract heap in which nothing but the script may be tracked
  have core : ∀ H : Hp, Only H → SqL K H a (ns.map V.int) → HOk P w H s₁.heap → (∀ b, H b ≠ none → b = a) → (H a ≠ none → K.lookup a = none) →
      codeAny (model P w) callerA (.call (.ref fa) ⟨[.ref a], []⟩) (fun r s' => r = .ok (.ret (.bool true)) ∧ OldK s₁.heap s'.heap ∧ s'.os = s₁.os ∧ AllBare s'.gens) s₁ := by
    intro H hO hS hok hA hK
    have base_of : ∀ {b : Addr} {o : Obj}, s₁.heap.get? b = some o → H b = none → (hidT s₁.heap H).get? b = some o := fun e n => hidT_get e n
    have noA : ∀ {b : Addr} {o : Obj} {es : Array DictEntry} {ep : Nat}, s₁.heap.get? b = some o → o.data = .dict es ep → H b = none := fun {b o es ep} e d => by
      cases q : H b with
      | none => rfl
      | some u =>
        have e' : b = a := hA b (by rw [q]; simp)
        subst e'
        rw [ha] at e; cases e
        have d' : Data.seq vs.toArray _ = Data.dict es ep := d
        cases d'
    have nsK : ∀ {b : Addr} {m : Str → Option Value}, s₁.heap.Ns b m → (hidT s₁.heap H).Ns b m := fun {b m} ⟨o, es, ep, e, d, r⟩ => ⟨o, es, ep, base_of e (noA e d), d, r⟩
    have hKb : K.In (hidT s₁.heap H) := fun b o e => base_of (KX b o e) (by
      cases q : H b with
      | none => rfl
      | some u =>
        have e' : b = a := hA b (by rw [q]; simp)
        subst e'
        rw [hK (by rw [q]; simp)] at e; cases e)
    have hM : Mod K mg (hidT s₁.heap H) := ⟨hKb, nsK hns, ⟨mb, nsK hb, hbb⟩, let ⟨mc, h1, h2⟩ := hlim; ⟨mc, nsK h1, h2⟩⟩
    have e0 : Env0 P w K mg (hidT s₁.heap H) callerA [] s₁ H := ⟨rfl, hM, fun b o e => of_hidT e, Nat.le_of_eq (hidT_size _ _), trivial, fun b hb => absurd (show b ∈ ([] : List Addr) from hb) (by simp), hok, .of_eq hg⟩
    refine codeAny_mono ((F _ hKb (nsK hns)).run callerA [] s₁ H ⟨[.ref a], []⟩ [.ref a] [.ref a] _ _ hr e0 (hbind s₁ (.ref a)) (.cons rfl .nil) (hsp H hO hS)) fun r s' h => ?_
    cases r with
    | error e => exact (hCX H e s' h).elim
    | ok fl =>
      cases fl with
      | next => exact False.elim h
      | brk => exact False.elim h
      | cont => exact False.elim h
      | ret u =>
        obtain ⟨v, H', os, bare, un, hok', r', q⟩ := h
        have q' : v = .bl true := q
        subst q'
        obtain rfl : u = Value.bool true := r'
        refine ⟨rfl, OldK.of_keep fun b o e => ?_, os, bare⟩
        cases q : H b with
        | none => exact un.keep b o e q (by intro z; exact absurd (show b ∈ ([] : List Addr) from z) (by simp)) (by simp)
        | some u =>
          rcases hO b with z | ⟨ob, xs, z⟩
          · rw [q] at z; cases z
          · have z2 := un.frzs b ob _ z
            obtain ⟨e1, _⟩ := hok b _ z
            obtain ⟨e2, _⟩ := hok' b _ z2
            rw [e] at e1; cases e1
            exact e2
  cases hk : K.lookup a with
  | some o =>
    -- the script is one of the module's own objects
    have e := KX a o hk
    rw [ha] at e
    cases e
    refine core (fun _ => none) (fun _ => .inl rfl) (.inr ⟨_, vs.toArray, _, hk, rfl, rfl, rfl, by rw [List.size_toArray, lenV]; exact hl, by simpa using rv⟩) (fun b u z => by have z' : (none : Option HO) = some u := z; cases z') (fun b z => absurd rfl z) fun z => absurd rfl z
  | none =>
    refine core (fun b => if b = a then some (.frz { cls := .type "list", data := .seq vs.toArray } (.lst (ns.map V.int))) else none) (fun b => ?_) (.inl (.inr ⟨{ cls := .type "list", data := .seq vs.toArray }, if_pos rfl⟩)) (fun b u z => ?_) (fun b z => ?_) fun _ => hk
    · by_cases hb : b = a
      · exact .inr ⟨_, _, if_pos hb⟩
      · exact .inl (if_neg hb)
    · by_cases hb : b = a
      · have z' := (if_pos hb).symm.trans z
        cases z'
        subst hb
        exact ⟨ha, by rw [List.length_map]; exact hl, vs, _, rv, ha⟩
      · have z' := (if_neg hb).symm.trans z
        cases z'
    · by_cases hb : b = a
      · exact hb
      · exact absurd (if_neg hb) z
end L2
namespace L2
open PySem PySem.Spec PyProof.Rows
theorem walk_of {l : PySem.W.OpenLaw} {n k : Nat} {q : Program} {loose : List Str} {XP : (Str → Option Value) → Heap → Prop} {YP : World → Heap → Prop} {d : DefRec} {K : Params → PySem.W.Frag} {CX : World → CXT} {sp : World → Sp} {x : Str}
    (hn : l.most = some n) (hn2 : n ≤ sizeLine) (hdf : d.params.defaults = []) (hr : Room k callerA)
    (hY : ∀ (w : World) (h : Heap), YP w h → (K w.params).In h)
    (F : ∀ (w : World) (mg : Str → Option Value) (fa : Addr) (h : Heap), (K w.params).In h → h.Ns mainGlobals mg → mg d.name = some (.ref fa) →
      ∃ fd : FuncData, (∀ (s : Shared) (u : Value), BindsTo s fd ⟨[u], []⟩ [(x, u)]) ∧
        ∀ base : Heap, (K w.params).In base → base.Ns mainGlobals mg → FnOk l.prog w (K w.params) mg base (CX w) k fa fd [x] (sp w))
    (hsp : ∀ (w : World) (H : Hp) (a : Addr) (ns : List Int), ns.length ≤ n → Only H → SqL (K w.params) H a (ns.map V.int) → sp w [.ref a] H (fun v _ => v = .bl true) fun _ _ _ => False)
    (hCX : ∀ (w : World) (H : Hp) (s : Shared) (e : Value) (s' : Shared), CX w [] H s (fun _ _ _ => False) e s' → False) :
    PySem.W.WalkO q loose XP YP l.row.toRowW d [] (fun f vs => PySem.call f vs) := by
  refine Att.attach_call hn hdf fun w s₀ s₁ mg mb fa o pm cd doc a vs ns G Y ho hd hcd hmg hobj hints hlen hg => ?_
  have KX := hY w _ Y
  obtain ⟨fd, hb, hF⟩ := F w mg fa _ KX G.T.g hmg
  exact law_call KX G.T.g G.T.b G.T.builtins G.T.nolimit hg hobj hints (Nat.le_trans hlen hn2) hr hF hb (fun H hO hS => hsp w H a ns hlen hO hS) fun H e s' => hCX w H s₁ e s'
end L2
namespace L2
open PySem PySem.Spec PyProof.Rows
noncomputable def defArgs (s : Stmt) : Arguments := match s with
  | .FunctionDef _ a _ _ _ _ _ _ _ _ => a
  | _ => { posonlyargs := [], args := [], vararg := none, kwonlyargs := [], kw_defaults := [], kwarg := none, defaults := [] }
noncomputable def defBody (s : Stmt) : List Stmt := match s with
  | .FunctionDef _ _ b _ _ _ _ _ _ _ => b
  | _ => []
noncomputable def defScope (s : Stmt) : Scope := match s with
  | .FunctionDef _ _ _ _ _ _ sc _ _ _ => sc
  | _ => { kind := .function, names := [], isGenerator := false, isCoroutine := false }
abbrev CX0 : CXT := fun _ _ _ _ _ _ => False
abbrev E0 : XK := fun _ _ _ => False
theorem pass0 {X : Cx} : Passes CX0 X E0 := fun _ _ _ _ _ _ _ h => h.elim
structure Fun (K : PySem.W.Frag) (x qual : Str) (st : Stmt) (f : Addr) (fd : FuncData) : Prop where
  ex : ∃ (oc : Value) (od : Option Addr) (kV doc pm : Value) (an : Option Addr) (cdv ct : Value) (osl : Array (Option Value)),
    fd = PySem.W.fnOf x qual (defArgs st) (defBody st) (defScope st) .none kV doc pm an cdv ct ∧ K.lookup f = some ⟨oc, od, .func fd, osl⟩ ∧ PySem.W.codeIn K cdv qual = true
  kp : PySem.W.keepIn K (.ref f) = true
section
variable {P : Program} {w : World} {K : PySem.W.Frag} {mg : Str → Option Value} {base : Heap}
theorem Fun.ok {x qual : Str} {st : Stmt} {f : Addr} {fd : FuncData} {N ps : List Str} {k : Nat} {sp : Sp} (F : Fun K x qual st f fd) (S : FnScope N ps (defScope st)) (len : ∀ vs H Q E, sp vs H Q E → vs.length = ps.length)
    (hbody : ∀ (cdv : Value) (A : Around) (outer : List Env) (s : Shared) (H : Hp) (vs : List V) (Q : VK) (E : XK), Room k (A.deeper (envOfC qual (defScope st) s.heap.objs.size f cdv)) → sp vs H Q E →
      ∃ t, PSs (cxOf CX0 P w K mg base N qual (defScope st) f cdv A outer s H E).nox (defBody st) t ∧ t { nx := fun _ H' => Q .non H', rt := Q } (start N vs) H) : FnOk P w K mg base CX0 (k + 1) f fd ps sp := by
  obtain ⟨oc, od, kV, doc, pm, an, cdv, ct, osl, rfl, lk, hcd⟩ := F.ex
  refine fn_of lk hcd S len fun A outer s H vs Q E hr hsp => ?_
  obtain ⟨t, h, q⟩ := hbody cdv A outer s H vs Q E hr hsp
  exact ⟨t, h.nox, q⟩
theorem Fun.binds {x qual : Str} {st : Stmt} {f : Addr} {fd : FuncData} {ps : List Str} (F : Fun K x qual st f fd)
    (h : ∀ (kV doc pm : Value) (an : Option Addr) (cdv ct : Value) (us : List Value), us.length = ps.length → bindArgs (PySem.W.fnOf x qual (defArgs st) (defBody st) (defScope st) .none kV doc pm an cdv ct) ⟨us, []⟩ = pure (ps.zip us)) : Binds K fd ps [] := by
  obtain ⟨oc, od, kV, doc, pm, an, cdv, ct, osl, rfl, lk, hcd⟩ := F.ex
  exact .all (h kV doc pm an cdv ct)
theorem fun_mk {x qual : Str} {st : Stmt} {f : Addr} {oc : Value} {od an : Option Addr} {osl : Array (Option Value)} {kV doc pm cdv ct : Value} (l : K.lookup f = some ⟨oc, od, .func (PySem.W.fnOf x qual (defArgs st) (defBody st) (defScope st) .none kV doc pm an cdv ct), osl⟩)
    (c : PySem.W.codeIn K cdv qual = true) (k : PySem.W.keepIn K (.ref f) = true) : Fun K x qual st f (PySem.W.fnOf x qual (defArgs st) (defBody st) (defScope st) .none kV doc pm an cdv ct) := ⟨⟨oc, od, kV, doc, pm, an, cdv, ct, osl, rfl, l, c⟩, k⟩
end
theorem hu_of {A : Around} {k : Nat} (hr : Room k A) : A.units + 1 < cLine := Nat.lt_of_le_of_lt (Nat.add_le_add_left (by decide : 1 ≤ 64) _) hr.units
section
variable {X : Cx}
theorem pv (i : Nat) {x : Str} {pos : Pos} (hN : X.N[i]? = some x := by rfl) (hv : Vis X.env.scope x := by first | exact Or.inl rfl | exact Or.inr (Or.inl rfl) | exact Or.inr (Or.inr rfl)) (hd : (x == ("__debug__" : Str)) = false := by decide)
    (hcd : (x == ("__classdict__" : Str)) = false := by decide) : PE X (.Name x pos) (tVar i) := pe_var hN hv hd hcd
end
theorem iteF {A B : Prop} (h : B) : if false = true then A else B := by
  rw [if_neg Bool.false_ne_true]
  exact h
theorem iteT {A B : Prop} (h : A) : if true = true then A else B := by
  rw [if_pos rfl]
  exact h
theorem ite2 {c A B : Prop} [Decidable c] (h1 : c → A) (h2 : ¬ c → B) : if c then A else B := by
  by_cases h : c
  · rw [if_pos h]
    exact h1 h
  · rw [if_neg h]
    exact h2 h
noncomputable def Same (H H' : Hp) : Prop := ∀ b o, H b = some o → H' b = some o
theorem Same.refl (H : Hp) : Same H H := fun _ _ h => h
theorem Same.trans {H H1 H2 : Hp} (a : Same H H1) (b : Same H1 H2) : Same H H2 := fun c o h => b c o (a c o h)
theorem Same.free {H H' : Hp} (e : Same H H') {l : Addr} (h : H' l = Option.none) : H l = Option.none := by
  cases q : H l with
  | none => rfl
  | some o =>
    rw [e l o q] at h
    cases h
theorem Same.seq {K : PySem.W.Frag} {H H' : Hp} {a : Addr} {xs : List V} (e : Same H H') (h : SqL K H a xs) : SqL K H' a xs := by
  rcases h with (h | ⟨o, h⟩) | h
  · exact .inl (.inl (e _ _ h))
  · exact .inl (.inr ⟨o, e _ _ h⟩)
  · exact .inr h
end L2
set_option maxRecDepth 100000
namespace L2
open PySem PySem.Spec PyProof.Rows
noncomputable def T (l : List Nat) : Str := ⟨l.toArray⟩
noncomputable def L (z : Str) : List Nat := z.cps.toList
theorem L_T (l : List Nat) : L (T l) = l := by
  unfold L T
  simp
theorem T_L (z : Str) : T (L z) = z := by
  cases z
  simp [T, L]
theorem L_len (z : Str) : (L z).length = z.length := by simp [L, Str.length]
theorem T_len (l : List Nat) : (T l).length = l.length := by simp [T, Str.length]
theorem T_app (a b : List Nat) : T a ++ T b = T (a ++ b) := by
  show Str.append (T a) (T b) = T (a ++ b)
  simp [Str.append, T]
theorem T_inj {a b : List Nat} : T a = T b ↔ a = b := by
  constructor
  · intro h
    have := congrArg L h
    rwa [L_T, L_T] at this
  · intro h
    rw [h]
noncomputable def gS : St → Nat → Option V
  | [], _ => none
  | a :: _, 0 => a
  | _ :: r, n + 1 => gS r n
theorem gS_get : ∀ {σ : St} {i : Nat} {v : V}, gS σ i = some v → σ[i]? = some (some v)
  | [], _, _, h => by simp [gS] at h
  | a :: _, 0, v, h => by
    have h : a = some v := h
    simp [h]
  | _ :: r, n + 1, v, h => by
    have h : gS r n = some v := h
    simpa using gS_get h
noncomputable def rVar (i : Nat) : TE := fun σ H Q => match gS σ i with
  | some v => Q v H
  | none => False
section
variable {X : Cx}
theorem qv (i : Nat) {x : Str} {pos : Pos} (hN : X.N[i]? = some x := by rfl) (hv : Vis X.env.scope x := by first | exact Or.inl rfl | exact Or.inr (Or.inl rfl) | exact Or.inr (Or.inr rfl)) (hd : (x == ("__debug__" : Str)) = false := by decide)
    (hcd : (x == ("__classdict__" : Str)) = false := by decide) : PE X (.Name x pos) (rVar i) := by
  intro pins s σ H Q I h
  refine pv i hN hv hd hcd pins s σ H Q I ?_
  unfold rVar at h
  cases e : gS σ i with
  | none => rw [e] at h; exact h.elim
  | some v => rw [e] at h; exact ⟨v, gS_get e, h⟩
noncomputable def addV : R2 := fun x y H Q => match x, y with
  | .int i, .int j => Q (.int (i + j)) H
  | .str a, .str b => (L a).length + (L b).length ≤ sizeLine ∧ Q (.str (T (L a ++ L b))) H
  | .ref l, .ref b => rCat (.ref l) (.ref b) H Q
  | _, _ => False
theorem o_add : OpR X (binaryOp .Add) addV := by
  intro pins s σ H x y v u Q I rx ry h
  cases x <;> cases y <;> first
    | exact False.elim h
    | exact op_add pins s σ H _ _ v u Q I rx ry ⟨_, _, rfl, rfl, h⟩
    | exact op_cat pins s σ H _ _ v u Q I rx ry h
    | (refine op_add_str pins s σ H _ _ v u Q I rx ry ⟨_, _, rfl, rfl, ?_, ?_⟩
       · rw [← L_len, ← L_len]; exact h.1
       · rename_i a b
         have e := T_app (L a) (L b)
         rw [T_L, T_L] at e
         rw [e]; exact h.2)
noncomputable def int2 (C : Int → Int → Prop) (g : Int → Int → V) : R2 := fun x y H Q => match x, y with
  | .int i, .int j => C i j ∧ Q (g i j) H
  | _, _ => False
noncomputable def int2' (g : Int → Int → V) : R2 := fun x y H Q => match x, y with
  | .int i, .int j => Q (g i j) H
  | _, _ => False
theorem o_int2 {f : Value → Value → Sem Value} {C : Int → Int → Prop} {g : Int → Int → V} (h : OpR X f (rI C g)) : OpR X f (int2 C g) := by
  intro pins s σ H x y v u Q I rx ry q
  cases x <;> cases y <;> first
    | exact False.elim q
    | exact h pins s σ H _ _ v u Q I rx ry ⟨_, _, rfl, rfl, q.1, q.2⟩
theorem o_int2' {f : Value → Value → Sem Value} {g : Int → Int → V} (h : OpR X f (rI0 g)) : OpR X f (int2' g) := by
  intro pins s σ H x y v u Q I rx ry q
  cases x <;> cases y <;> first
    | exact False.elim q
    | exact h pins s σ H _ _ v u Q I rx ry ⟨_, _, rfl, rfl, q⟩
abbrev subV : R2 := int2' fun i j => .int (i - j)
theorem o_sub : OpR X (binaryOp .Sub) subV := o_int2' op_sub
abbrev modV : R2 := int2 (fun _ j => 0 < j) fun i j => .int (i % j)
theorem o_mod : OpR X (binaryOp .Mod) modV := o_int2 op_mod
abbrev powV : R2 := int2 CPow fun i j => .int (i ^ j.toNat)
theorem o_pow : OpR X (binaryOp .Pow) powV := o_int2 op_pow
noncomputable def rep (n : Nat) (l : List Nat) : List Nat := (List.replicate n l).flatten
theorem foldl_app (c : List (Array Nat)) : ∀ a : Array Nat, (c.foldl (fun x y => x ++ y) a).toList = a.toList ++ (c.map Array.toList).flatten := by
  induction c with
  | nil => intro a; simp
  | cons x r ih => intro a; simp [ih]
theorem mul_T (z : Str) (n : Int) : Txt.mul z n = T (rep n.toNat (L z)) := by
  unfold Txt.mul rep
  by_cases h1 : n < 1
  · rw [if_pos h1]
    have : n.toNat = 0 := by omega
    rw [this]
    rfl
  · rw [if_neg h1]
    by_cases h2 : (n == 1 || z.length == 0) = true
    · rw [if_pos h2]
      rcases Bool.or_eq_true _ _ |>.mp h2 with e | e
      · have : n = 1 := by simpa using e
        subst this
        show z = T (List.flatten [L z])
        simp [T_L]
      · have e0 : z.length = 0 := by simpa using e
        have e1 : L z = [] := List.eq_nil_of_length_eq_zero (by rw [L_len]; exact e0)
        rw [e1]
        have e2 : z = T [] := by rw [← e1, T_L]
        rw [e2]
        congr 1
        simp
    · rw [if_neg h2]
      have e := foldl_app (List.replicate n.toNat z.cps) #[]
      rw [← T_L ⟨_⟩]
      congr 1
      show (List.foldl (fun x y => x ++ y) #[] (List.replicate n.toNat z.cps)).toList = _
      rw [e]
      simp [L]
noncomputable def mulV : R2 := fun x y H Q => match x, y with
  | .int i, .int j => CMul i j ∧ Q (.int (i * j)) H
  | .str a, .int n => (-(2 ^ 63) ≤ n ∧ n < 2 ^ 63 ∧ (L a).length * n.toNat ≤ sizeLine) ∧ Q (.str (T (rep n.toNat (L a)))) H
  | .ref l, .int k => rRep (.ref l) (.int k) H Q
  | _, _ => False
theorem o_mul : OpR X (binaryOp .Mult) mulV := by
  intro pins s σ H x y v u Q I rx ry h
  cases x <;> cases y <;> first
    | exact False.elim h
    | exact op_mul pins s σ H _ _ v u Q I rx ry ⟨_, _, rfl, rfl, h.1, h.2⟩
    | exact op_rep pins s σ H _ _ v u Q I rx ry h
    | (rename_i a n
       obtain ⟨t, e⟩ := rx
       obtain ⟨t', e'⟩ := ry
       subst e e'
       obtain ⟨⟨h1, h2, h3⟩, q⟩ := h
       rw [L_len] at h3
       have hl : sizeLine = 16777216 := sizeLine_eq
       refine SB.mul ⟨?_, fun h4 h5 => ?_, fun h4 h5 => ?_⟩ fun t' k => ?_
       · rw [decide_eq_false (by omega), decide_eq_false (by omega)]; rfl
       · intro h6
         have h7 : n ≤ (a.length : Int) * n := by
           have h8 : a.length ≠ 0 := by
             intro z
             rw [z] at h5
             simp at h5
           have h9 : (1 : Int) ≤ (a.length : Int) := by omega
           calc n = 1 * n := by omega
             _ ≤ (a.length : Int) * n := Int.mul_le_mul_of_nonneg_right h9 (by omega)
         have h10 : (a.length : Int) * n ≤ 16777216 := by
           have : ((a.length * n.toNat : Nat) : Int) ≤ 16777216 := by omega
           rw [Int.natCast_mul, Int.toNat_of_nonneg (by omega)] at this
           exact this
         have h11 : (a.length : Int) ≤ (2 ^ 63 - 1) / n := by
           rw [Int.le_ediv_iff_mul_le (by omega)]
           omega
         omega
       · unfold Builtin.Str.tooLong
         exact decide_eq_false (by omega)
       · exact ⟨.str (T (rep n.toNat (L a))), H, I.tok _, ⟨_, by rw [mul_T]⟩, q⟩)
noncomputable def ltV : R2 := fun x y H Q => match x, y with
  | .int i, .int j => Q (.bl (decide (i < j))) H
  | .str a, .str b => Q (.bl (decide (L a < L b))) H
  | _, _ => False
theorem o_lt : OpR X (compareOp .Lt) ltV := by
  intro pins s σ H x y v u Q I rx ry h
  cases x <;> cases y <;> first
    | exact False.elim h
    | exact op_lt pins s σ H _ _ v u Q I rx ry ⟨_, _, rfl, rfl, h⟩
    | exact op_lt_str pins s σ H _ _ v u Q I rx ry ⟨_, _, rfl, rfl, h⟩
abbrev leV : R2 := int2' fun i j => .bl (decide (i ≤ j))
abbrev gtV : R2 := int2' fun i j => .bl (decide (j < i))
theorem o_le : OpR X (compareOp .LtE) leV := o_int2' op_le
theorem o_gt : OpR X (compareOp .Gt) gtV := o_int2' op_gt
noncomputable def sc : V → V → Option Bool
  | .int i, .int j => some (decide (i = j))
  | .str a, .str b => some (decide (L a = L b))
  | .bl a, .bl b => some (decide (a = b))
  | .non, .non => some true
  | .non, .int _ => some false | .int _, .non => some false | .non, .bl _ => some false | .bl _, .non => some false | .non, .str _ => some false | .str _, .non => some false
  | .int _, .str _ => some false | .str _, .int _ => some false | .bl _, .str _ => some false | .str _, .bl _ => some false
  | _, _ => none
theorem L_inj {a b : Str} : L a = L b ↔ a = b := by
  constructor
  · intro h
    rw [← T_L a, ← T_L b, h]
  · intro h
    rw [h]
theorem sc_eq {x y : V} {b : Bool} (h : sc x y = some b) : scal x y = true ∧ b = decide (x = y) := by
  cases x <;> cases y <;> first
    | exact (nomatch (show (none : Option Bool) = some b from h))
    | (have h := Option.some.inj h
       subst h
       refine ⟨rfl, ?_⟩
       simp [L_inj])
noncomputable def eqR : R2 := fun x y H Q => match sc x y with
  | some b => Q (.bl b) H
  | none => False
noncomputable def neR : R2 := fun x y H Q => match sc x y with
  | some b => Q (.bl (!b)) H
  | none => False
theorem o_eq : OpR X (compareOp .Eq) eqR := by
  intro pins s σ H x y v u Q I rx ry h
  unfold eqR at h
  cases e : sc x y with
  | none => rw [e] at h; exact h.elim
  | some b =>
    rw [e] at h
    obtain ⟨h1, h2⟩ := sc_eq e
    subst h2
    exact op_eq pins s σ H x y v u Q I rx ry ⟨h1, h⟩
theorem o_ne : OpR X (compareOp .NotEq) neR := by
  intro pins s σ H x y v u Q I rx ry h
  unfold neR at h
  cases e : sc x y with
  | none => rw [e] at h; exact h.elim
  | some b =>
    rw [e] at h
    obtain ⟨h1, h2⟩ := sc_eq e
    subst h2
    exact op_ne pins s σ H x y v u Q I rx ry ⟨h1, h⟩
noncomputable def ixV (K : PySem.W.Frag) : R2 := fun x y H Q => match x, y with
  | .str z, .int i => (L z).length ≤ sizeLine ∧ ∃ c, atI (L z) i = some c ∧ Q (.str (T [c])) H
  | .ref p, .int i => ∃ xs v, (SqL K H p xs ∨ SqT K H p xs) ∧ atI xs i = some v ∧ Q v H
  | _, _ => False
theorem i_ix : IxR X (ixV X.K) := by
  intro value slice pins s σ H x y v u Q I rx ry h hs
  cases x <;> cases y <;> first
    | exact False.elim h
    | (obtain ⟨hz, c, e, q⟩ := h
       exact ix_str value slice pins s σ H _ _ v u Q I rx ry ⟨_, _, c, rfl, rfl, (by rw [← L_len]; exact hz), e, q⟩ hs)
    | (obtain ⟨xs, w, e | e, ei, q⟩ := h
       · exact ix_list value slice pins s σ H _ _ v u Q I rx ry ⟨_, xs, _, w, rfl, rfl, e, ei, q⟩ hs
       · exact ix_tup value slice pins s σ H _ _ v u Q I rx ry ⟨_, xs, _, w, rfl, rfl, e, ei, q⟩ hs)
noncomputable def cut {α : Type} (xs : List α) (lo hi : Option Int) : List α := (xs.drop (HT.sIx xs.length 0 lo)).take (HT.sIx xs.length xs.length hi - HT.sIx xs.length 0 lo)
theorem cut_len {α : Type} (xs : List α) (lo hi : Option Int) : (cut xs lo hi).length ≤ xs.length := by
  unfold cut
  rw [List.length_take, List.length_drop]
  omega
theorem range_eq (a b : Nat) : sliceRange (a : Int) (b : Int) 1 = (List.range (b - a)).map fun k => a + k := by
  unfold sliceRange
  have h1 : (1 : Int) > 0 := by decide
  simp only [h1, if_true]
  have e2 : (if (a : Int) < (b : Int) then ((b : Int) - (a : Int) + 1 - 1) / 1 else 0).toNat = b - a := by
    split <;> omega
  rw [e2]
  apply List.map_congr_left
  intro k _
  omega
theorem ixs_eq (lo hi : Option Int) (n : Nat) : Builtin.Str.strSliceIndices lo hi 1 n = (List.range (HT.sIx n n hi - HT.sIx n 0 lo)).map fun k => HT.sIx n 0 lo + k := by
  rw [← range_eq]
  have h1 : (1 : Int) > 0 := by decide
  have cl : ∀ (i : Int) (d : Nat), max 0 (min (if i < 0 then i + (n : Int) else i) (n : Int)) = ((HT.sIx n d (some i) : Nat) : Int) := by
    intro i d
    show max 0 (min (if i < 0 then i + (n : Int) else i) (n : Int)) = (((if i < 0 then (i + (n : Int)).toNat else min i.toNat n) : Nat) : Int)
    by_cases hi : i < 0
    · rw [if_pos hi, if_pos hi]; omega
    · rw [if_neg hi, if_neg hi]; omega
  unfold Builtin.Str.strSliceIndices
  simp only [h1, if_true]
  cases lo with
  | none =>
    cases hi with
    | none => rfl
    | some j =>
      simp only [cl j n]
      rfl
  | some i =>
    cases hi with
    | none =>
      simp only [cl i 0]
      rfl
    | some j => simp only [cl i 0, cl j n]
theorem pick_L (l : List Nat) (a : Nat) : ∀ k : Nat, ((List.range k).map fun m => a + m).filterMap (fun i => l[i]?) = (l.drop a).take k
  | 0 => by simp
  | k + 1 => by
    rw [List.range_succ, List.map_append, List.filterMap_append, pick_L l a k, List.take_succ, List.getElem?_drop]
    cases e : l[a + k]? <;> simp [e]
theorem slice_T (z : Str) (lo hi : Option Int) : Txt.slice z lo hi = T (cut (L z) lo hi) := by
  unfold Txt.slice
  rw [ixs_eq]
  have e0 : (fun i : Nat => z.cps[i]?) = fun i : Nat => (L z)[i]? := by
    funext i
    simp [L]
  have hl : (L z).length = z.length := L_len z
  have h1 := HT.sIx_le z.length z.length (Nat.le_refl _) hi
  have e : T (cut (L z) lo hi) = ⟨(((List.range (HT.sIx z.length z.length hi - HT.sIx z.length 0 lo)).map fun k => HT.sIx z.length 0 lo + k).filterMap fun i => z.cps[i]?).toArray⟩ := by
    rw [e0, pick_L]
    unfold cut T
    rw [hl]
  rw [← e]
  split
  · rename_i h
    rw [List.length_map, List.length_range] at h
    have h2 : HT.sIx z.length z.length hi - HT.sIx z.length 0 lo = z.length := by simpa using h
    have h3 : HT.sIx z.length 0 lo = 0 := by
      by_cases hz : z.length = 0
      · have := HT.sIx_le z.length 0 (Nat.zero_le _) lo
        omega
      · omega
    unfold cut
    rw [hl, h2, h3, List.drop_zero, ← hl, List.take_length, T_L]
  · rfl
noncomputable def slV (K : PySem.W.Frag) : V → Option Int → Option Int → Hp → VK → Prop := fun x lo hi H Q => match x with
  | .str z => (L z).length ≤ sizeLine ∧ Q (.str (T (cut (L z) lo hi))) H
  | .ref p => ∃ xs, SqL K H p xs ∧ ∀ q, H q = none → Q (.ref q) (upd H q (.lst (cut xs lo hi)))
  | _ => False
theorem part_of {v : Value} {o : Option Int} (h : IsPart v o) : ∃ q : Option (Int × Tok), v = partValue q ∧ q.map (·.1) = o := by
  cases h with
  | none => exact ⟨none, rfl, rfl⟩
  | int i t => exact ⟨some (i, t), rfl, rfl⟩
theorem s_sl : SlR X (slV X.K) := by
  intro pins s σ H x v vl vu lo hi sl Q I rx hs pl pu h
  cases x with
  | str z =>
    obtain ⟨hz, q⟩ := h
    obtain ⟨t, rfl⟩ := rx
    obtain ⟨l, rfl, el⟩ := part_of pl
    obtain ⟨u, rfl, eu⟩ := part_of pu
    refine ⟨"str", _, F.slot_str_getitem.lookup, typeIs_str _ _ _, ?_⟩
    refine wpAny_getItem_str_slice (l := l) (u := u) (st := none) hs rfl ?_
    refine post_val_or_str ⟨?_, fun t' k => ?_⟩
    · show (Txt.slice z (l.map (·.1)) (u.map (·.1))).length ≤ sizeLine
      refine Nat.le_trans (Txt.slice_le z _ _) ?_
      rw [← L_len]
      exact hz
    · refine ⟨.str (T (cut (L z) lo hi)), H, I.tok _, ⟨t', ?_⟩, q⟩
      show Value.str (Txt.slice z (l.map (·.1)) (u.map (·.1))) t' = _
      rw [slice_T, el, eu]
  | ref p =>
    obtain ⟨xs, hx, q⟩ := h
    exact sl_list pins s σ H _ v vl vu lo hi sl Q I rx hs pl pu ⟨p, xs, rfl, hx, q⟩
  | _ => exact False.elim h
noncomputable def lenV (K : PySem.W.Frag) : List V → Hp → VK → Prop := fun xs H Q => match xs with
  | [.str z] => (L z).length ≤ sizeLine ∧ Q (.int (L z).length) H
  | [.ref p] => ∃ ys, (SqL K H p ys ∨ SqT K H p ys) ∧ Q (.int ys.length) H
  | _ => False
theorem c_len : CallR X (.builtin "len") (lenV X.K) := by
  intro pins s σ H xs us Q I r h
  unfold lenV at h
  split at h
  · exact call_len_str pins s σ H _ us Q I r ⟨_, rfl, by rw [← L_len]; exact h.1, by rw [← L_len]; exact h.2⟩
  · obtain ⟨ys, hy, q⟩ := h
    exact call_len_seq pins s σ H _ us Q I r ⟨_, ys, rfl, hy, q⟩
  · exact h.elim
noncomputable def joinL (sep : List Nat) : List (List Nat) → List Nat
  | [] => []
  | [x] => x
  | x :: y :: r => x ++ sep ++ joinL sep (y :: r)
theorem joinL_nil : ∀ xs : List (List Nat), joinL [] xs = xs.flatten
  | [] => rfl
  | [x] => by simp [joinL]
  | x :: y :: r => by
    rw [joinL, joinL_nil (y :: r)]
    simp
theorem join_T (sep : Str) : ∀ ys : List Str, Str.join sep ys = T (joinL (L sep) (ys.map L))
  | [] => rfl
  | [x] => by
    show x = T (L x)
    rw [T_L]
  | x :: y :: r => by
    show x ++ sep ++ Str.join sep (y :: r) = T (L x ++ L sep ++ joinL (L sep) ((y :: r).map L))
    rw [join_T sep (y :: r), ← T_app, ← T_app, T_L, T_L]
theorem strs_of : ∀ {zs : List Str} {us : List Value}, Vals (zs.map V.str) us → StrsAre us zs := by
  intro zs
  induction zs with
  | nil => intro us r; cases r; exact .nil
  | cons z r ih =>
    intro us h
    rw [List.map_cons] at h
    cases h with
    | cons r1 r2 =>
      obtain ⟨t, rfl⟩ := r1
      exact .cons z t (ih r2)
noncomputable def joinV (K : PySem.W.Frag) : V → List V → Hp → VK → Prop := fun x xs H Q => match x, xs with
  | .str a, [.ref p] => ∃ zs : List (List Nat), SqL K H p (zs.map fun l => V.str (T l)) ∧ (zs.map List.length).sum + zs.length * (L a).length ≤ sizeLine ∧ Q (.str (T (joinL (L a) zs))) H
  | _, _ => False
theorem m_join : MtR X "str.join" (joinV X.K) := by
  intro pins s σ H x xs v us Q I rx rs h
  unfold joinV at h
  split at h
  · rename_i a p
    obtain ⟨zs, hp, hz, q⟩ := h
    obtain ⟨t, rfl⟩ := rx
    obtain ⟨u, rfl, ru⟩ := vals1 rs
    cases ru
    obtain ⟨its, r', pl, _⟩ := I.list hp
    have e : (zs.map fun l => V.str (T l)) = (zs.map T).map V.str := by simp
    rw [e] at r'
    have hl : sizeLine = 16777216 := sizeLine_eq
    refine join_list (ys := zs.map T) pl.isList (by simpa using strs_of r') ?_ fun t' k => ?_
    · rw [List.map_map, List.length_map, ← L_len a]
      have : (Str.length ∘ T) = List.length := by
        funext l
        exact T_len l
      rw [← hl]
      show (List.map (Str.length ∘ T) zs).sum + _ ≤ _
      rw [this]
      exact hz
    · refine ⟨.str (T (joinL (L a) zs)), H, I.tok _, ⟨t', ?_⟩, q⟩
      show Value.str (Txt.join a (zs.map T)) t' = _
      have e2 : Txt.join a (zs.map T) = Str.join a (zs.map T) := StrLaws.glued_eq_join _ _
      rw [e2, join_T, List.map_map]
      congr 3
      simp [L_T, Function.comp_def]
  · exact h.elim
end
end L2
set_option maxRecDepth 100000
namespace L2
open PySem PySem.Spec PyProof.Rows
theorem ObjOk.forget {P : Program} {w : World} {H H' : Hp} {h h' : Heap} {a : Addr} {o : HO} (x : ObjOk P w H h a o) (y : ObjOk P w H' h' a o) : ObjOk P w H h' a o := by
  induction o with
  | frz ob u ih => exact ⟨y.1, ih x.2 y.2⟩
  | ins C dx fs => exact ⟨x.1, y.2⟩
  | dT kvs => exact False.elim x
  | _ => exact y
theorem HOk.forget {P : Program} {w : World} {H H' : Hp} {h h' : Heap} (x : HOk P w H h) (y : HOk P w H' h') (sm : Same H H') : HOk P w H h' := fun a o e => (x a o e).forget (y a o (sm a o e))
section
variable {X : Cx} {pins : List (Addr × Obj)} {σ σ' : St} {H H' : Hp} {s s' : Shared}
theorem Inv.forget (I : Inv X pins σ H s) (J : Inv X pins σ' H' s') (sm : Same H H') : Inv X pins σ' H s' :=
  ⟨J.ok, J.os, J.bare, ⟨J.base.keep, J.base.slot, I.base.free, J.base.there, I.base.tups, I.base.frzs, I.base.tbls⟩, J.loc, J.cell, I.free, I.freeC,
    fun p hp => ⟨(J.pin p hp).1, (I.pin p hp).2.1, (J.pin p hp).2.2⟩, I.hok.forget J.hok sm, J.len⟩
theorem Same.upd {H H' : Hp} {a : Addr} {o : HO} (e : Same H H') (n : H' a = none) : Same H (upd H' a o) := fun b u q => by
  have q' := e b u q
  rw [upd_ne (ne_of_none q' n)]
  exact q'
theorem Same.updN {H : Hp} {a : Addr} {o : HO} (n : H a = none) : Same H (L2.upd H a o) := Same.upd (Same.refl H) n
end
structure Fn (P : Program) (w : World) (K : PySem.W.Frag) (mg : Str → Option Value) (base : Heap) (k : Nat) (x : Str) (ps : List Str) (sp : Sp) : Prop where
  ex : ∃ f fd, FnOk P w K mg base CX0 k f fd ps sp ∧ mg x = some (.ref f) ∧ PySem.W.keepIn K (.ref f) = true ∧ Binds K fd ps []
section
variable {P : Program} {w : World} {K : PySem.W.Frag} {mg : Str → Option Value} {base : Heap}
theorem Fn.mono {j k : Nat} {x : Str} {ps : List Str} {sp : Sp} (F : Fn P w K mg base j x ps sp) (h : j ≤ k) : Fn P w K mg base k x ps sp := by
  obtain ⟨f, fd, F, r⟩ := F.ex
  exact ⟨f, fd, F.mono h, r⟩
theorem Fun.pure {x qual : Str} {st : Stmt} {f : Addr} {fd : FuncData} {N ps : List Str} {k : Nat} {sp : Sp} (F : Fun K x qual st f fd) (S : FnScope N ps (defScope st)) (len : ∀ vs H Q E, sp vs H Q E → vs.length = ps.length)
    (hbody : ∀ (cdv : Value) (A : Around) (outer : List Env) (s : Shared) (H : Hp) (vs : List V) (Q : VK) (E : XK), Room k (A.deeper (envOfC qual (defScope st) s.heap.objs.size f cdv)) → sp vs H Q E →
      ∃ t, PSs (cxOf CX0 P w K mg base N qual (defScope st) f cdv A outer s H E).nox (defBody st) t ∧ t { nx := fun _ H' => Same H H' ∧ Q .non H, rt := fun v H' => Same H H' ∧ Q v H } (start N vs) H) : FnOk P w K mg base CX0 (k + 1) f fd ps sp := by
  have F1 : FnOk P w K mg base CX0 (k + 1) f fd ps (fun vs H Q' E => ∃ Q, sp vs H Q E ∧ Q' = fun v H' => Same H H' ∧ Q v H) := by
    refine F.ok S (fun vs H Q E ⟨Q0, h, _⟩ => len vs H Q0 E h) fun cdv A outer s H vs Q E hr ⟨Q0, h, e⟩ => ?_
    subst e
    exact hbody cdv A outer s H vs Q0 E hr h
  refine ⟨len, fun A outer s H args us vs Q E hr e0 hb r hsp => ?_⟩
  refine codeAny_mono (F1.run A outer s H args us vs (fun v H' => Same H H' ∧ Q v H) E hr e0 hb r ⟨Q, hsp, rfl⟩) fun r s' h => ?_
  cases r with
  | error e => exact h
  | ok fl =>
    cases fl with
    | ret u =>
      obtain ⟨v, H', os, bare, un, hok, rv, sm, q⟩ := h
      exact ⟨v, H, os, bare, ⟨un.keep, un.slot, fun _ _ _ n _ => n, un.there, fun _ _ q => q, fun _ _ _ q => q, fun _ ps q => ⟨#[], by rw [q]; simp⟩⟩, e0.hok.forget hok sm, rv, q⟩
    | next => exact h
    | brk => exact h
    | cont => exact h
end
section
variable {X : Cx} {k : Nat} {x : Str} {ps : List Str} {sp : Sp} {p pos : Pos} {e : Expr} {es : List Expr} {t : TA}
noncomputable def tFn (sp : Sp) (t : TA) : TE := fun σ H Q => t σ H fun vs H1 => sp vs H1 Q E0
theorem pe_fn (F : Fn X.prog X.w X.K X.mg X.base k x ps sp) (hr : Room k X.A) (ha : PA X (e :: es) t) (hg : Gl X x := by rfl) (hdb : (x == ("__debug__" : Str)) = false := by decide)
    (he : starEach (e :: es) X.env = (false, eval e X.env) :: starEach es X.env := by rfl) (hpl : (backTo pos (starEach es X.env)).any (·.1) = false := by rfl) : PE X (.Call (.Name x p) (e :: es) [] pos) (tFn sp t) := by
  obtain ⟨f, fd, F, hm, hk, hb⟩ := F.ex
  intro pins s σ H Q I h
  refine pe_call F hr hg hm hk hb .nil pass0 ha hdb he hpl pins s σ H Q I ?_
  show t σ H fun vs H1 => sp (vs ++ []) H1 Q E0
  simp only [List.append_nil]
  exact h
theorem pe_fn0 (F : Fn X.prog X.w X.K X.mg X.base k x ps sp) (hr : Room k X.A) (hg : Gl X x := by rfl) (hdb : (x == ("__debug__" : Str)) = false := by decide) : PE X (.Call (.Name x p) [] [] pos) (fun _ H Q => sp [] H Q E0) := by
  obtain ⟨f, fd, F, hm, hk, hb⟩ := F.ex
  intro pins s σ H Q I h
  exact pe_call0 F hr hg hm hk hb .nil pass0 hdb pins s σ H Q I h
end
noncomputable def closL : List (Str × NameKind) → List (Str × Addr) → List (Str × Addr) → Option (List (Str × Addr))
  | [], _, acc => some acc
  | (n, k) :: r, cells, acc => if k == .free then (match cells.lookup n with
      | some c => closL r cells ((n, c) :: acc)
      | none => none) else closL r cells acc
theorem closureFor_L {scope : Scope} {env : Env} {cl : List (Str × Addr)} (h : closL scope.names env.cells [] = some cl) : closureFor scope env = pure cl := by
  have all : ∀ (names : List (Str × NameKind)) (acc : List (Str × Addr)), closL names env.cells acc = some cl →
      (do
        let mut cs := acc
        for (name, kind) in names do
          if kind == .free then cs := (name, ← cellOf env name) :: cs
        return cs : Sem (List (Str × Addr))) = pure cl := by
    intro names
    induction names with
    | nil =>
      intro acc h
      cases Option.some.inj (show some acc = some cl from h)
      rfl
    | cons x r ih =>
      intro acc h
      obtain ⟨n, k⟩ := x
      unfold closL at h
      dsimp only at ih ⊢
      rw [List.forIn_cons]
      dsimp only
      cases hk : (k == NameKind.free) with
      | false =>
        rw [hk] at h
        simp only [hk, Bool.false_eq_true, if_false] at h ⊢
        exact ih acc h
      | true =>
        rw [hk] at h
        simp only [hk, if_true] at h ⊢
        cases hc : env.cells.lookup n with
        | none => rw [hc] at h; cases h
        | some c =>
          rw [hc] at h
          unfold cellOf
          simp only [hc]
          exact ih ((n, c) :: acc) h
  exact all scope.names [] h
theorem closL_in {cells : List (Str × Addr)} {cl : List (Str × Addr)} : ∀ (names : List (Str × NameKind)) (acc : List (Str × Addr)), closL names cells acc = some cl →
    (∀ x c, acc.lookup x = some c → cells.lookup x = some c) → (∀ x c, cl.lookup x = some c → cells.lookup x = some c) ∧ ∀ x, ((∃ c, acc.lookup x = some c) ∨ names.lookup x = some .free) → ∃ c, cl.lookup x = some c
  | [], acc, h, ha => by
    cases Option.some.inj (show some acc = some cl from h)
    exact ⟨ha, fun x hx => hx.elim id fun z => by simp at z⟩
  | (n, k) :: r, acc, h, ha => by
    unfold closL at h
    cases hk : (k == NameKind.free) with
    | false =>
      rw [hk] at h
      simp only [Bool.false_eq_true, if_false] at h
      obtain ⟨h1, h2⟩ := closL_in r acc h ha
      refine ⟨h1, fun x hx => h2 x (hx.imp id fun z => ?_)⟩
      rw [List.lookup_cons] at z
      cases hx : x == n with
      | true =>
        rw [hx] at z
        cases Option.some.inj z
        cases hk
      | false => rw [hx] at z; exact z
    | true =>
      rw [hk] at h
      simp only [if_true] at h
      cases hc : cells.lookup n with
      | none => rw [hc] at h; cases h
      | some c =>
        rw [hc] at h
        obtain ⟨h1, h2⟩ := closL_in r ((n, c) :: acc) h (fun x d hx => by
          rw [List.lookup_cons] at hx
          cases e : x == n with
          | true =>
            rw [e] at hx
            cases Option.some.inj hx
            rw [eq_of_beq e]
            exact hc
          | false => rw [e] at hx; exact ha x d hx)
        refine ⟨h1, fun x hx => ?_⟩
        cases e : x == n with
        | true => exact h2 x (.inl ⟨c, by rw [List.lookup_cons, e]⟩)
        | false =>
          refine h2 x ?_
          rcases hx with ⟨d, hd⟩ | hx
          · exact .inl ⟨d, by rw [List.lookup_cons, e]; exact hd⟩
          · rw [List.lookup_cons, e] at hx
            exact .inr hx
theorem relabel_of {scope : Scope} {env : Env} {x : Str} {k : NameKind} (h : scope.names.lookup x = some k) : (relabel scope env).names.lookup x = some (if (k == .free && env.scope.kind == .function && env.kindOf x == some .cell) = true then .cell else k) := by
  unfold relabel
  dsimp only
  generalize scope.names = names at h
  induction names with
  | nil => simp at h
  | cons y r ih =>
    obtain ⟨n, j⟩ := y
    rw [List.map_cons]
    rw [List.lookup_cons] at h
    cases e : x == n with
    | true =>
      rw [e] at h
      cases Option.some.inj h
      have en := eq_of_beq e
      subst en
      dsimp only
      split <;> rw [List.lookup_cons, beq_self_eq_true]
    | false =>
      rw [e] at h
      have := ih h
      dsimp only
      split <;> (rw [List.lookup_cons, e]; exact this)
theorem relabel_none {scope : Scope} {env : Env} {x : Str} (h : scope.names.lookup x = none) : (relabel scope env).names.lookup x = none := by
  unfold relabel
  dsimp only
  generalize scope.names = names at h
  induction names with
  | nil => rfl
  | cons y r ih =>
    obtain ⟨n, j⟩ := y
    rw [List.map_cons]
    rw [List.lookup_cons] at h
    cases e : x == n with
    | true => rw [e] at h; cases h
    | false =>
      rw [e] at h
      have := ih h
      dsimp only
      split <;> (rw [List.lookup_cons, e]; exact this)
noncomputable def PFs (X : Cx) (ifs : List Expr) (t : TT) : Prop :=
  ∀ (pins : List (Addr × Obj)) (s : Shared) (σ : St) (H : Hp) (Q : Bool → Hp → Prop), Inv X pins σ H s → t σ H Q →
    wpAny (model X.prog X.w) X.A (forIn ifs true fun c r => if r = true then do let ok ← isTrue c X.env (eval c X.env); pure (ForInStep.yield ok) else pure (ForInStep.yield r)) (TP X pins σ Q) X.xe s
theorem pf_nil {X : Cx} : PFs X [] (fun _ H Q => Q true H) := fun _ _ _ H _ I h => wpAny_tests_nil ⟨H, I, h⟩
theorem pf_one {X : Cx} {c : Expr} {t : TT} (h : PT X c t) : PFs X [c] t := fun pins s σ H Q I q => wpAny_tests_one (h pins s σ H Q I q)
noncomputable def CapOk (X : Cx) (scope : Scope) : List (Str × Nat) → Prop
  | [] => True
  | (x, j) :: r => (X.N[j]? = some x ∧ X.env.scope.names.lookup x = some .cell ∧ scope.names.lookup x = some .free) ∧ CapOk X scope r
theorem CapOk.get {X : Cx} {scope : Scope} : ∀ {cp : List (Str × Nat)} {i : Nat} {x : Str} {j : Nat}, CapOk X scope cp → cp[i]? = some (x, j) → X.N[j]? = some x ∧ X.env.scope.names.lookup x = some .cell ∧ scope.names.lookup x = some .free
  | [], _, _, _, _, e => by simp at e
  | (y, k) :: r, 0, x, j, h, e => by
    simp at e
    obtain ⟨rfl, rfl⟩ := e
    exact h.1
  | _ :: r, i + 1, x, j, h, e => CapOk.get (cp := r) (i := i) h.2 (by simpa using e)
noncomputable def capS (n : Nat) (cp : List (Str × Nat)) (σ : St) : St := List.replicate n none ++ cp.map fun p => gS σ p.2
noncomputable def cxC (X : Cx) (scope : Scope) (cl : List (Str × Addr)) (N : List Str) (fp : List Addr) (C : Addr) (s : Shared) (H : Hp) : Cx :=
  { X with N := N, s₀ := s, H₀ := H, env := compEnvC scope cl C X.env, outer := X.stack, stack := X.stack, ex := fp, fn := fun _ => false, pn := [], xe := fun _ _ => False }
noncomputable def GKeep (n : Nat) (g : TG) : Prop := ∀ x σ H Q, g x σ H Q → g x σ H fun σ' H' => Q σ' H' ∧ ∀ j : Nat, n ≤ j → σ'[j]? = σ[j]?
theorem gk_name {n i : Nat} (h : i < n) : GKeep n (gName i) := fun x σ H Q q => ⟨q, fun j hj => List.getElem?_set_ne (by omega)⟩
noncomputable def tComp (n : Nat) (cp : List (Str × Nat)) (wi : TI) (g : TG) (tc : TT) (te : TE) : TE := fun σ H Q => wi σ H fun J H1 => ∃ W : Nat → Nat → Hp → List V → Prop, (∃ m, W 0 m H1 []) ∧ ∀ i m H2 acc, W i m H2 acc →
  acc.length < sizeLine ∧ ((J.stop i H2 ∧ ∀ l, H2 l = none → Q (.ref l) (upd H2 l (.lst acc))) ∨
    (J.go i H2 ∧ ∀ x H3, J.yld i H2 x H3 → g x (capS n cp σ) H3 fun σ' H4 => tc σ' H4 fun b H5 => if b = true then te σ' H5 fun y H6 => ∃ m', m' < m ∧ W (i + 1) m' H6 (acc ++ [y]) else ∃ m', m' < m ∧ W (i + 1) m' H5 acc))
abbrev lobj (its : List Value) (n : Nat) : Obj := { cls := .type "list", data := .seq its.toArray n }
section
variable {X : Cx} {pins : List (Addr × Obj)} {σ : St} {H2 : Hp} {s2 : Shared} {scope : Scope} {cl : List (Str × Addr)} {own : List Str} {cp : List (Str × Nat)} {fp : List Addr} {C D : Addr} {h1 : Heap}
theorem comp_ok (I : Inv X pins σ H2 s2) (hcl : closL scope.names X.env.cells [] = some cl) (hk : scope.kind = .function) (hnc : ∀ y ∈ scope.names, y.2 ≠ .cell)
    (f2 : ∀ b ∈ fp, FpOk X pins H2 b) (hC : s2.heap.objs.size ≤ C) (hlt : ∀ b ∈ fp, b < s2.heap.objs.size) (N : List Str) : (cxC X scope cl N fp C s2 H2).Ok := by
  have c1 := (closL_in scope.names [] hcl (fun x c h => by simp at h)).1
  have c2 := (closL_in scope.names [] hcl (fun x c h => by simp at h)).2
  refine ⟨I.ok.mod, hk, I.ok.glob, I.ok.blt, hC, fun x y c h1 h2 => I.ok.inj x y c (c1 x c h1) (c1 y c h2), fun x hx => ?_, fun x c h _ => absurd h (by simp [cxC]), I.ok.hd, I.ok.frames, .inl rfl, fun b hb => ⟨?_, fun x c h => ?_⟩, I.bs, Nat.le_trans I.ok.bsz I.sz, fun b o e hb => ?_, fun b hb hf => ?_, I.stack, I.stkFree⟩
  · have hx : (relabel scope X.env).names.lookup x = some .cell ∨ (relabel scope X.env).names.lookup x = some .free := hx
    cases e : scope.names.lookup x with
    | none => rw [relabel_none e] at hx; rcases hx with z | z <;> cases z
    | some k =>
      rw [relabel_of e] at hx
      refine c2 x (.inr ?_)
      by_cases hf : (k == .free && X.env.scope.kind == .function && X.env.kindOf x == some .cell) = true
      · have : k = .free := by
          simp only [Bool.and_eq_true] at hf
          exact eq_of_beq hf.1.1
        rw [e, this]
      · rw [if_neg hf] at hx
        rcases hx with z | z
        · cases Option.some.inj z
          exact absurd rfl (hnc _ (PySem.mem_of_lookup e))
        · cases Option.some.inj z
          exact e
  · exact Nat.ne_of_lt (Nat.lt_of_lt_of_le (hlt b hb) hC)
  · exact (f2 b hb).2.2.2.2.1 x c (c1 x c h)
  · rcases (f2 b hb).2.2.2.1 with z | z
    · exact I.ok.noex b o e z
    · exact absurd (Nat.lt_of_lt_of_le (Heap.lt_size e) (Nat.le_trans I.ok.bsz z)) (Nat.lt_irrefl _)
  · have hf : b ∈ frs X.stack := hf
    rcases List.mem_cons.mp (I.stkSub b hf) with z | z
    · exact (f2 b hb).2.1 z
    · exact (f2 b hb).2.2.1 z
theorem comp_start {tk : Nat} (I : Inv X pins σ H2 s2) (hcl : closL scope.names X.env.cells [] = some cl) (hk : scope.kind = .function) (hnc : ∀ y ∈ scope.names, y.2 ≠ .cell) (hcp : CapOk X scope cp)
    (f2 : ∀ b ∈ fp, FpOk X pins H2 b) (hC : s2.heap.objs.size < C) (hlt : ∀ b ∈ fp, b < s2.heap.objs.size) (hns : h1.Ns C (fun _ => none)) (old : ∀ b o, s2.heap.get? b = some o → h1.get? b = some o)
    (hD : h1.get? s2.heap.objs.size = some (lobj [] 0)) :
    Inv (cxC X scope cl (own ++ cp.map (·.1)) fp C s2 H2) [(s2.heap.objs.size, lobj [] 0)] (capS own.length cp σ) H2 { s2 with heap := h1, toks := tk } := by
  have ok := comp_ok I hcl hk hnc f2 (Nat.le_of_lt hC) hlt (own ++ cp.map (·.1))
  have c1 := (closL_in scope.names [] hcl (fun x c h => by simp at h)).1
  have c2 := (closL_in scope.names [] hcl (fun x c h => by simp at h)).2
  obtain ⟨m, hm, hl⟩ := id I.loc
  refine ⟨ok, rfl, I.bare, Un.kept old, ⟨_, hns, fun i x v e1 e2 e3 => ?_⟩, fun x c e => ?_, I.hok.fresh (Nat.le_of_lt hC), fun x c e => I.freeC x c (c1 x c e), fun p hp => ?_, I.hok.kept old, ?_⟩
  · have e1 : (own ++ cp.map (·.1))[i]? = some x := e1
    unfold capS at e2
    by_cases hi : i < own.length
    · rw [List.getElem?_append_left (by simpa using hi), List.getElem?_replicate] at e2
      split at e2 <;> cases e2
    · rw [List.getElem?_append_right (by simpa using hi), List.length_replicate, List.getElem?_map] at e2
      rw [List.getElem?_append_right (by omega), List.getElem?_map] at e1
      cases q : cp[i - own.length]? with
      | none => rw [q] at e1; cases e1
      | some p =>
        rw [q] at e1 e2
        obtain ⟨y, j⟩ := p
        cases Option.some.inj e1
        obtain ⟨g1, g2, g3⟩ := hcp.get q
        have e4 : gS σ j = some v := Option.some.inj e2
        obtain ⟨u, r, lk⟩ := hl j y v g1 (gS_get e4) (.inr (.inl g2))
        refine ⟨u, r, .inr ⟨?_, ?_⟩⟩
        · left
          show (relabel scope X.env).names.lookup y = some .cell
          rw [relabel_of g3]
          rw [if_pos]
          have : X.env.kindOf y = some .cell := g2
          rw [this, I.ok.kind]
          rfl
        · rcases lk with ⟨z, _⟩ | ⟨_, c, z, zc⟩
          · have z' : X.env.scope.names.lookup y = some .local := z
            rw [g2] at z'
            cases z'
          · obtain ⟨d, hd⟩ := c2 y (.inr g3)
            have hd' := c1 y d hd
            rw [z] at hd'
            cases Option.some.inj hd'
            obtain ⟨o, ho, hdt⟩ := zc
            exact ⟨c, hd, o, old _ _ ho, hdt⟩
  · obtain ⟨v, o, ho, hd⟩ := I.cell x c (c1 x c e)
    exact ⟨v, o, old _ _ ho, hd⟩
  · have hp : p ∈ [(s2.heap.objs.size, lobj [] 0)] := hp
    cases List.mem_singleton.mp hp
    refine ⟨hD, I.hok.fresh (Nat.le_refl _), Nat.ne_of_lt hC, fun hf => ?_, fun v z => by cases z⟩
    have hf : s2.heap.objs.size ∈ frs X.stack := hf
    rcases List.mem_cons.mp (I.stkSub _ hf) with z | z
    · exact Nat.ne_of_gt I.lt z
    · exact I.nofs (Nat.le_refl _) z
  · show (capS own.length cp σ).length = (own ++ cp.map (·.1)).length
    unfold capS
    simp
theorem comp_end {X' : Cx} {σ' : St} {H' : Hp} {s' : Shared} {h'' : Heap} {acc : List V} {its : List Value} {n : Nat} (I : Inv X pins σ H2 s2) (f2 : ∀ b ∈ fp, FpOk X pins H2 b)
    (hX : X' = cxC X scope cl (own ++ cp.map (·.1)) fp C s2 H2) (hC : s2.heap.objs.size < C) (J : Inv X' [(s2.heap.objs.size, lobj its n)] σ' H' s') (rv : Vals acc its) (hz : acc.length ≤ sizeLine)
    (hsb : Heap.SameBut C s'.heap h'') : H' s2.heap.objs.size = none ∧ Inv X pins σ (upd H' s2.heap.objs.size (.lst acc)) { s' with heap := h'' } := by
  subst hX
  obtain ⟨p1, p2, p3, p4, p5⟩ := J.pin (s2.heap.objs.size, lobj its n) (List.mem_append_right _ (List.mem_singleton.mpr rfl))
  have p1 : s'.heap.get? s2.heap.objs.size = some (lobj its n) := p1
  have p2 : H' s2.heap.objs.size = none := p2
  have hfC : H' C = none := J.free
  have up : ∀ b o, b ≠ C → s'.heap.get? b = some o → h''.get? b = some o := fun b o hb e => (hsb.2 b hb).trans e
  have ltC : ∀ b o, s2.heap.get? b = some o → b ≠ C := fun b o e => Nat.ne_of_lt (Nat.lt_trans (Heap.lt_size e) hC)
  have ltD : ∀ b o, s2.heap.get? b = some o → b ≠ s2.heap.objs.size := fun b o e => Nat.ne_of_lt (Heap.lt_size e)
  have B : Un (frs X.stack) fp H2 H' s2.heap s'.heap := J.base
  refine ⟨p2, I.call' (ch := fp) J.os ⟨fun b o e n hb hx => up b o (ltC b o e) (B.keep b o e n hb hx), fun b o e n hb hx => ?_, fun b o e n hx => ?_, fun b o e hx => ?_, fun b xs e => ?_, fun b o u e => ?_, fun b ps e => ?_⟩ (fun a o e => ?_) J.bare
    fun b hb => ⟨(f2 b hb).2.2.2.1, (f2 b hb).2.1, (f2 b hb).2.2.2.2.1, (f2 b hb).2.2.2.2.2⟩⟩
  · obtain ⟨sl, e1⟩ := B.slot b o e n hb hx
    exact ⟨sl, up b _ (ltC b o e) e1⟩
  · rw [upd_ne (ltD b o e)]
    exact B.free b o e n hx
  · obtain ⟨o', e1⟩ := B.there b o e hx
    exact ⟨o', up b o' (ltC b o e) e1⟩
  · have q := B.tups b xs e
    rw [upd_ne (ne_of_none q p2)]
    exact q
  · have q := B.frzs b o u e
    rw [upd_ne (ne_of_none q p2)]
    exact q
  · obtain ⟨more, q⟩ := B.tbls b ps e
    exact ⟨more, by rw [upd_ne (ne_of_none q p2)]; exact q⟩
  · by_cases ha : a = s2.heap.objs.size
    · subst ha
      rw [upd_same] at e
      cases e
      exact ⟨hz, its, n, rv, up _ _ (Nat.ne_of_lt hC) p1⟩
    · rw [upd_ne ha] at e
      refine (J.hok a o e).stay (fun b u hb q => up b u ?_ q) (fun b q => ?_) fun b xs q => ?_
      · rintro rfl
        rcases hb with z | z
        · subst z
          rw [hfC] at e
          cases e
        · rw [hfC] at z
          cases z
      · rw [upd_ne (ne_of_none q p2)]
        exact q
      · rw [upd_ne (ne_of_none q p2)]
        exact q
end
theorem thnE {α : Type} {t : Sem α} {Q Q' : α → Shared → Prop} {M : Model} {A : Around} {E : Value → Shared → Prop} {s : Shared} (h : wpAny M A t Q (fun _ _ => False) s) (hQ : ∀ a s, Q a s → Q' a s) : wpAny M A t Q' E s := wpAny_mono h hQ fun _ _ x => x.elim
section
variable {X : Cx}
theorem pe_comp {elt iter target : Expr} {ifs : List Expr} {scope : Scope} {pos : Pos} {cl : List (Str × Addr)} {own : List Str} {cp : List (Str × Nat)} {wi : TI} {g : TG} {tc : TT} {te : TE}
    (hc : X.calm = true) (hcl : closL scope.names X.env.cells [] = some cl) (hk : scope.kind = .function) (hnc : ∀ y ∈ scope.names, y.2 ≠ .cell)
    (hnm : ∀ x ∈ scope.names, x.2 = .local → scope.names.lookup x.1 = some .local) (hcp : CapOk X scope cp) (hi : PI X target iter wi) (gk : GKeep own.length g)
    (hg : ∀ fp C s H, PG (cxC X scope cl (own ++ cp.map (·.1)) fp C s H) target g) (ht : ∀ fp C s H, PFs (cxC X scope cl (own ++ cp.map (·.1)) fp C s H) ifs tc) (he : ∀ fp C s H, PE (cxC X scope cl (own ++ cp.map (·.1)) fp C s H) elt te)
    (hs : ∀ x, foldedSetIterable iter X.env x = pure x := by intro _; rfl) : PE X (.ListComp elt [⟨target, iter, ifs, 0⟩] scope pos) (tComp own.length cp wi g tc te) := by
  intro pins s σ H Q I h
  rw [eval_ListComp]
  refine wpAny_comprehension_free (use := none) rfl hs (closureFor_L hcl) hk hnm (thn (hi pins s σ H _ I h) fun xv s1 h1 => thn h1 fun itv s2 h2 => ?_)
  obtain ⟨it, fp, tn, J, H2, e, I2, Tn, st2, f2, W, ⟨m0, w0⟩, turn⟩ := h2
  subst e
  have hlt : ∀ b ∈ fp, b < s2.heap.objs.size := fun b hb => by
    obtain ⟨o, e, _⟩ := Tn.obj _ _ st2 b hb
    exact Heap.lt_size e
  refine wpAny_newObj_type (wpAny_newFunctionEnv hnc (by intro y hy; simp at hy) (fun h1 hns hsb => ?_) hk)
  dsimp only at hns hsb ⊢
  generalize hP : s2.heap.push { cls := .type "list", dict := none, data := .seq ([] : List Value).toArray } = h0 at hns hsb ⊢
  have hCs : h0.objs.size = s2.heap.objs.size + 1 := by rw [← hP, Heap.size_push]
  generalize hCg : h0.objs.size = C at hns hsb hCs ⊢
  have hC : s2.heap.objs.size < C := by omega
  have neC : ∀ b : Addr, b < s2.heap.objs.size → b ≠ C := fun b h => Nat.ne_of_lt (Nat.lt_trans h hC)
  have old : ∀ b o, s2.heap.get? b = some o → h1.get? b = some o := fun b o e =>
    (hsb.2 b (neC b (Heap.lt_size e))).trans (by rw [Heap.get?_push_of_some _ (by rw [← hP]; exact Heap.get?_push_of_some _ e)])
  have hD : h1.get? s2.heap.objs.size = some (lobj [] 0) :=
    (hsb.2 _ (Nat.ne_of_lt hC)).trans (by rw [Heap.get?_push_of_some _ (by rw [← hP]; exact Heap.get?_push_size _ rfl)])
  have fpok : ∀ {its : List Value} {k : Nat} {H' : Hp}, (∀ b ∈ fp, H' b = none) → ∀ b ∈ fp, FpOk (cxC X scope cl (own ++ cp.map (·.1)) fp C s2 H2) [(s2.heap.objs.size, lobj its k)] H' b := fun {its k H'} fr b hb => by
    refine ⟨fr b hb, neC b (hlt b hb), fun hf => ?_, .inl hb, fun x c e => ?_, fun p hp => ?_⟩
    · have hf : b ∈ frs X.stack := hf
      rcases List.mem_cons.mp (I2.stkSub b hf) with z | z
      · exact (f2 b hb).2.1 z
      · exact (f2 b hb).2.2.1 z
    · exact (f2 b hb).2.2.2.2.1 x c ((closL_in scope.names [] hcl (fun x c h => by simp at h)).1 x c e)
    · have hp : p ∈ [(s2.heap.objs.size, lobj its k)] := hp
      cases List.mem_singleton.mp hp
      exact Nat.ne_of_gt (hlt b hb)
  have loop : ∀ s4 : Shared, s4 = { s2 with heap := h1, toks := s2.toks + ([] : List (Str × Value)).length } →
      codeAny (model X.prog X.w) X.A (.compLoop (.ListComp elt [⟨target, iter, ifs, 0⟩] scope pos) 0 (.ref it) (.ref s2.heap.objs.size) (compEnvC scope cl C X.env))
        (compPost (model X.prog X.w) X.A X.xe none (EP X pins σ Q) (.ref s2.heap.objs.size) C) s4 := by
    intro s4 e4
    have I4 : Inv (cxC X scope cl (own ++ cp.map (·.1)) fp C s2 H2) [(s2.heap.objs.size, lobj [] 0)] (capS own.length cp σ) H2 s4 := by
      rw [e4]
      exact comp_start I2 hcl hk hnc hcp f2 hC hlt (by simpa using hns) old hD
    have st4 : tn 0 s4.heap := by
      rw [e4]
      exact Tn.keep _ _ _ st2 fun b _ o e => old b o e
    refine codeAny_loop rfl (fun n s' => ∃ i H' acc its k, Inv (cxC X scope cl (own ++ cp.map (·.1)) fp C s2 H2) [(s2.heap.objs.size, lobj its k)] (capS own.length cp σ) H' s' ∧ Vals acc its ∧ tn i s'.heap ∧ (∀ b ∈ fp, H' b = none) ∧ W i n H' acc)
      (fun n s' hI => ?_) m0 ⟨0, H2, [], [], 0, I4, .nil, st4, fun b hb => (f2 b hb).1, w0⟩
    obtain ⟨i, H', acc, its, k, I', rv, st, fr, w⟩ := hI
    show wpAny _ X.A ((compTurn (.ListComp elt [⟨target, iter, ifs, 0⟩] scope pos) 0 (.ref it) (.ref s2.heap.objs.size) (compEnvC scope cl C X.env)).onRaise (fun x => do noteFrame x (compEnvC scope cl C X.env); theTreesLotGoes x)) _ _ s'
    refine wpAny_noted ?_
    rw [compTurn_list]
    refine wpAny_bind (wpAny_standAt (wpAny_bind ?_))
    obtain ⟨hz, ⟨stop, fin⟩ | ⟨go, step⟩⟩ := turn i n H' acc w
    · refine thnE (Tn.done (cxC X scope cl (own ++ cp.map (·.1)) fp C s2 H2) rfl rfl rfl hc i _ s' _ H' (fun _ _ => False) I' (fpok fr) st stop) fun r s5 ⟨hr, I5⟩ => ?_
      subst hr
      refine wpAny_pure ?_
      obtain ⟨mm, hmm, _⟩ := I5.loc
      refine ⟨mm, hmm, fun h'' hs'' => ?_⟩
      obtain ⟨hn, I6⟩ := comp_end I2 f2 rfl hC I5 rv (Nat.le_of_lt hz) hs''
      exact ⟨.ref s2.heap.objs.size, _, I6, rfl, fin _ hn⟩
    · refine thnE (Tn.item (cxC X scope cl (own ++ cp.map (·.1)) fp C s2 H2) rfl rfl rfl hc i _ s' _ H' (fun _ _ => False) I' (fpok fr) st go) fun r s5 ⟨u, hr, h5⟩ => ?_
      subst hr
      refine wpAny_bind (thnE h5 fun _ s6 ⟨x, H6, I6, r6, y6, st6, fr6⟩ => ?_)
      have I6' := I6.pinned (fpok fr6) (Tn.obj _ _ st6)
      refine wpAny_bind (thnE (hg fp C s2 H2 _ s6 _ H6 x u _ I6' r6 (gk _ _ _ _ (step x H6 y6))) fun _ s7 ⟨σ7, H7, I7, q7, kp7⟩ => ?_)
      refine wpAny_bind (thnE (ht fp C s2 H2 _ s7 σ7 H7 _ I7 q7) fun b s8 ⟨H8, I8, q8⟩ => ?_)
      have weak : ∀ {H9 : Hp} {s9 : Shared} {ps : List (Addr × Obj)}, Inv (cxC X scope cl (own ++ cp.map (·.1)) fp C s2 H2) ps σ7 H9 s9 → Inv (cxC X scope cl (own ++ cp.map (·.1)) fp C s2 H2) ps (capS own.length cp σ) H9 s9 := fun {H9 s9 ps} I9 =>
        I9.weak (by rw [I9.len]; exact I'.len) fun j v e => by
          by_cases hj : own.length ≤ j
          · rw [kp7 j hj]
            exact e
          · unfold capS at e
            rw [List.getElem?_append_left (by rw [List.length_replicate]; omega), List.getElem?_replicate] at e
            split at e <;> cases e
      have turned : ∀ {H9 : Hp} {s9 : Shared}, Inv (cxC X scope cl (own ++ cp.map (·.1)) fp C s2 H2) ([(s2.heap.objs.size, lobj its k)] ++ pinsAt fp s6.heap) σ7 H9 s9 → (∀ b ∈ fp, H9 b = none) ∧ ∀ b ∈ fp, ∀ o, s6.heap.get? b = some o → s9.heap.get? b = some o := fun {H9 s9} I9 => by
        refine ⟨fun b hb => ?_, fun b hb o e => ?_⟩
        · obtain ⟨o, e, _⟩ := Tn.obj _ _ st6 b hb
          exact (I9.pin (b, o) (List.mem_append_right _ (List.mem_append_right _ (mem_pinsAt hb e)))).2.1
        · exact (I9.pin (b, o) (List.mem_append_right _ (List.mem_append_right _ (mem_pinsAt hb e)))).1
      cases b with
      | false =>
        obtain ⟨m', hm', w8⟩ := q8
        refine wpAny_pure ⟨rfl, m', hm', i + 1, H8, acc, its, k, weak I8.unpinned, rv, Tn.keep _ _ _ st6 (turned I8).2, (turned I8).1, w8⟩
      | true =>
        refine wpAny_bind (wpAny_bind (thnE (he fp C s2 H2 _ s8 σ7 H8 _ I8 q8) fun uy s9 ⟨y, H9, I9, r9, m', hm', w9⟩ => ?_))
        have pD := I9.pin (s2.heap.objs.size, lobj its k) (List.mem_append_right _ (List.mem_append_left _ (List.mem_singleton.mpr rfl)))
        have lenI := rv.length
        refine wpAny_bind (wpAny_list_append_plain (items := its.toArray) ⟨k, pD.1⟩ (fun h10 pl sb => ?_) (by rw [List.size_toArray]; omega))
        obtain ⟨k', hk'⟩ := pl
        have I10 : Inv (cxC X scope cl (own ++ cp.map (·.1)) fp C s2 H2) (pinsAt fp s6.heap) σ7 H9 { s9 with heap := h10 } := by
          have I9' : Inv (cxC X scope cl (own ++ cp.map (·.1)) fp C s2 H2) (pinsAt fp s6.heap) σ7 H9 s9 := I9.pins_of fun p hp => I9.pin p (List.mem_append_right _ (List.mem_append_right _ hp))
          refine I9'.turned (t' := s9.toks) (it := s2.heap.objs.size) (fun b o hb e => (sb.2 b hb).trans e) pD.2.1 pD.2.2.1 (.inr (Nat.le_refl _)) (fun x c e z => ?_) fun p hp z => ?_
          · obtain ⟨v, o, ho, hd⟩ := I9.cell x c e
            rw [z, pD.1] at ho
            cases ho
            cases hd
          · have hp : p ∈ pinsAt fp s6.heap := hp
            exact Nat.ne_of_lt (hlt p.1 (of_pinsAt hp).1) z
        have kk : ∀ b ∈ fp, ∀ o, s6.heap.get? b = some o → h10.get? b = some o := fun b hb o e => (sb.2 b (Nat.ne_of_lt (hlt b hb))).trans ((turned I9).2 b hb o e)
        have I11 : Inv (cxC X scope cl (own ++ cp.map (·.1)) fp C s2 H2) [(s2.heap.objs.size, lobj (its ++ [uy]) k')] σ7 H9 { s9 with heap := h10 } := I10.pins_of fun p hp => by
          cases List.mem_singleton.mp hp
          refine ⟨?_, pD.2.1, pD.2.2.1, pD.2.2.2.1, fun v z => by cases z⟩
          rw [hk']
          simp
        exact wpAny_pure (wpAny_pure ⟨rfl, m', hm', i + 1, H9, acc ++ [y], its ++ [uy], k', weak I11, rv.append (.cons r9 .nil), Tn.keep _ _ _ st6 kk, (turned I9).1, w9⟩)
  exact codeAny_compStart_list (loop _ rfl) (Tn.self _ 0 _ _ _ (Tn.keep _ _ _ st2 fun b _ o e => old b o e) (loop _ rfl))
end
end L2
set_option maxRecDepth 100000
namespace L2
open PySem PySem.Spec PyProof.Rows
section
variable {X : Cx} {pos : Pos}
noncomputable def trV (K : PySem.W.Frag) (t : TE) : TT := fun σ H Q => t σ H fun x H' => match x with
  | .bl b => Q b H'
  | .int i => Q (i != 0) H'
  | .non => Q false H'
  | .str z => (L z).length ≤ sizeLine ∧ Q (((L z).length : Int) != 0) H'
  | .ref p => ∃ k, TruV K (.ref p) H' k ∧ Q k H'
  | _ => False
theorem pt_tr {a : Expr} {ta : TE} (ha : PE X a ta) (he : ∀ whole, isTrue a X.env whole = (do let v ← whole; standAt a.pos; holding [v] (truthy v)) := by intro _; rfl) : PT X a (trV X.K ta) := by
  intro pins s σ H Q I h
  refine isTrue_plain (thn (ha pins s σ H _ I h) fun v s1 ⟨x, H1, I1, r1, q1⟩ => tru_ok pins s1 σ H1 x v Q I1 r1 ?_) (he _)
  cases x with
  | bl b => exact ⟨b, rfl, q1⟩
  | int i => exact ⟨_, rfl, q1⟩
  | non => exact ⟨false, rfl, q1⟩
  | str z => exact ⟨_, ⟨by rw [← L_len]; exact q1.1, rfl⟩, by rw [← L_len]; exact q1.2⟩
  | ref p => exact q1
  | _ => exact False.elim q1
noncomputable def tB2 (r : R2) (ta tb : TE) : TT := fun σ H Q => ta σ H fun x H1 => tb σ H1 fun y H2 => r x y H2 fun z H3 => match z with
  | .bl b => Q b H3
  | _ => False
theorem pt_c2 {op : CmpOp} {r : R2} {a b : Expr} {ta tb : TE} (ho : OpR X (compareOp op) r) (ha : PE X a ta) (hb : PE X b tb) (hm : behindInMarks op b = false := by first | exact nomark _ | with_unfolding_all rfl) : PT X (.Compare a [op] [b] pos) (tB2 r ta tb) := by
  intro pins s σ H Q I h
  refine wpAny_isTrue_Compare1 (thn (ha pins s σ H _ I h) fun v s1 ⟨x, H1, I1, r1, q1⟩ => thn (hb pins s1 σ H1 _ I1 q1) fun u s2 ⟨y, H2, I2, r2, q2⟩ =>
    thn (ho pins s2 σ H2 x y v u _ I2 r1 r2 q2) fun c s3 ⟨z, H3, I3, r3, q3⟩ => ?_) hm
  cases z with
  | bl k => cases r3; exact wpAny_truthy_bool ⟨H3, I3, q3⟩
  | _ => exact False.elim q3
theorem pe_c2 {op : CmpOp} {r : R2} {a b : Expr} {ta tb : TE} (ho : OpR X (compareOp op) r) (ha : PE X a ta) (hb : PE X b tb) (hm : behindInMarks op b = false := by first | exact nomark _ | with_unfolding_all rfl) : PE X (.Compare a [op] [b] pos) (tOp r ta tb) := pe_cmpR ho ha hb hm
noncomputable def vAnd (ta tb : TE) : TE := fun σ H Q => ta σ H fun x H1 => match x with
  | .bl c => if c = true then tb σ H1 Q else Q (.bl false) H1
  | _ => False
theorem mono_val {a : Expr} {ta : TE} (h : PE X a ta) (pins : List (Addr × Obj)) (s : Shared) (σ : St) (H : Hp) (Q Q' : VK) (I : Inv X pins σ H s) (q : ta σ H Q) (hq : ∀ v H', Q v H' → Q' v H') : wpAny (model X.prog X.w) X.A (eval a X.env) (EP X pins σ Q') X.xe s :=
  thn (h pins s σ H Q I q) fun u s1 ⟨v, H1, I1, r, q⟩ => ⟨v, H1, I1, r, hq v H1 q⟩
theorem PE.imp {e : Expr} {t : TE} (h : PE X e t) {t' : TE} (hi : ∀ σ H Q, t' σ H Q → ∃ Q0, t σ H Q0 ∧ ∀ v H', Q0 v H' → Q v H') : PE X e t' := fun pins s σ H Q I q => by
  obtain ⟨Q0, h0, h1⟩ := hi σ H Q q
  exact mono_val h pins s σ H Q0 Q I h0 h1
theorem pe_and2 {a b : Expr} {rest : List Expr} {ta tb : TE} (ha : PE X a ta) (hb : PE X (.BoolOp .And (b :: rest) pos) tb) : PE X (.BoolOp .And (a :: b :: rest) pos) (vAnd ta tb) := by
  have ha' : PE X a (fun σ H Q => ∃ Q0 : VK, ta σ H Q0 ∧ ∀ v H', Q0 v H' → Q v H') := ha.imp fun σ H Q h => h
  intro pins s σ H Q I h
  refine pe_and (ta := fun σ H Q => ∃ Q0 : VK, ta σ H Q0 ∧ ∀ v H', Q0 v H' → Q v H') ha' hb pins s σ H Q I ?_
  refine ⟨_, h, fun v H' q => ?_⟩
  cases v with
  | bl c => exact ⟨c, rfl, q⟩
  | _ => exact False.elim q
noncomputable def negV : V → Hp → VK → Prop := fun x H Q => match x with
  | .int i => Q (.int (-i)) H
  | _ => False
theorem u_neg : UnR X (unaryOp .USub) negV := by
  intro pins s σ H x v Q I rx h
  cases x with
  | int i => exact un_neg pins s σ H _ v Q I rx ⟨i, rfl, h⟩
  | _ => exact False.elim h
noncomputable def pT (t : TE) : TO := fun σ H Q => t σ H fun x H1 => match x with
  | .int i => Q (some i) H1
  | _ => False
theorem po_t {e : Expr} {te : TE} (h : PE X e te) : PO X (some e) (pT te) := by
  have h' : PE X e (fun σ H Q => ∃ Q0 : VK, te σ H Q0 ∧ ∀ v H', Q0 v H' → Q v H') := h.imp fun σ H Q h => h
  intro pins s σ H Q I hw
  refine po_some h' pins s σ H Q I ?_
  refine ⟨_, hw, fun v H' q => ?_⟩
  cases v with
  | int i => exact ⟨i, rfl, q⟩
  | _ => exact False.elim q
noncomputable def forR (lo : Int) (n : Nat) (i : Nat) (tb : TS) : TS := fun D σ H => ∃ Pv : Nat → St → Hp → Prop, Pv 0 σ H ∧ (∀ k σ H, k < n → Pv k σ H → tb { nx := Pv (k + 1), rt := D.rt, bk := D.nx, ct := Pv (k + 1) } (σ.set i (some (.int (lo + k)))) H) ∧ ∀ σ H, Pv n σ H → D.nx σ H
noncomputable def tRng (ta : TA) (i : Nat) (tb : TS) : TS := fun D σ H => ta σ H fun vs H1 => match vs with
  | [.int j] => (-(2 ^ 62) ≤ j ∧ j < 2 ^ 62) ∧ forR 0 j.toNat i tb D σ H1
  | _ => False
theorem PA.imp {es : List Expr} {t : TA} (h : PA X es t) {t' : TA} (hi : ∀ σ H Q, t' σ H Q → ∃ Q0 : List V → Hp → Prop, t σ H Q0 ∧ ∀ v H', Q0 v H' → Q v H') : PA X es t' := fun p pins s σ H Q I q => by
  obtain ⟨Q0, h0, h1⟩ := hi σ H Q q
  exact thn (h p pins s σ H Q0 I h0) fun us s1 ⟨vs, H1, I1, r, q⟩ => ⟨vs, H1, I1, r, h1 vs H1 q⟩
theorem ps_rng1 {a : Expr} {x : Str} {i : Nat} {p p' pos' : Pos} {body : List Stmt} {ta : TA} {tb : TS} (hp : PassesOwn (model X.prog X.w) X.A X.env X.xe) (hc : X.calm = true) (hm : X.mg "range" = none) (ha : PA X [a] ta)
    (hg : PG X (.Name x pos') (gName i)) (hb : PSs X body tb) (hgl : Gl X "range" := by rfl) (hs : starEach [a] X.env = [(false, eval a X.env)] := by rfl) (hf : ∀ x, foldedSetIterable (.Call (.Name "range" p) [a] [] p') X.env x = pure x := by intro _; rfl) :
    PS X (.For (.Name x pos') (.Call (.Name "range" p) [a] [] p') body [] pos) (tRng ta i tb) := by
  have ha' : PA X [a] (fun σ H Q => ∃ Q0 : List V → Hp → Prop, ta σ H Q0 ∧ ∀ v H', Q0 v H' → Q v H') := ha.imp fun σ H Q h => h
  intro pins s σ H D I h
  refine ps_for hp hc (pi_range1 hgl hm ha' hs) hg hb hf pins s σ H D I ⟨_, h, fun vs H1 q => ?_⟩
  split at q
  · obtain ⟨⟨h1, h2⟩, Pv, h0, hs', hd⟩ := q
    exact ⟨_, rfl, h1, h2, for_range Pv h0 (fun k σ H hk pv => hs' k σ H hk pv) hd⟩
  · exact q.elim
noncomputable def forL (K : PySem.W.Frag) (a : Addr) (xs : List V) (g : TG) (tb : TS) : TS := fun D σ H => ∃ Pv : Nat → St → Hp → Prop, Pv 0 σ H ∧ (∀ i σ H, i ≤ xs.length → Pv i σ H → SqL K H a xs) ∧
  (∀ i x σ H, xs[i]? = some x → Pv i σ H → g x σ H fun σ2 H2 => tb { nx := Pv (i + 1), rt := D.rt, bk := D.nx, ct := Pv (i + 1) } σ2 H2) ∧ ∀ σ H, Pv xs.length σ H → D.nx σ H
noncomputable def tLst1 (K : PySem.W.Frag) (tl : TE) (g : TG) (tb : TS) : TS := fun D σ H => tl σ H fun v H1 => match v with
  | .ref a => ∃ xs, SqL K H1 a xs ∧ forL K a xs g tb D σ H1
  | _ => False
theorem ps_lst {l tg : Expr} {body : List Stmt} {tl : TE} {g : TG} {tb : TS} (hp : PassesOwn (model X.prog X.w) X.A X.env X.xe) (hc : X.calm = true) (hl : PE X l tl) (hg : PG X tg g) (hb : PSs X body tb)
    (hf : ∀ x, foldedSetIterable l X.env x = pure x := by intro _; rfl) : PS X (.For tg l body [] pos) (tLst1 X.K tl g tb) := by
  have hl' : PE X l (fun σ H Q => ∃ Q0 : VK, tl σ H Q0 ∧ ∀ v H', Q0 v H' → Q v H') := hl.imp fun σ H Q h => h
  intro pins s σ H D I h
  refine ps_for hp hc (pi_list hl') hg hb hf pins s σ H D I ⟨_, h, fun v H1 q => ?_⟩
  cases v with
  | ref a =>
    obtain ⟨xs, hx, Pv, h0, hs, h1, hd⟩ := q
    exact ⟨a, rfl, ⟨xs, hx⟩, for_list Pv h0 hs h1 hd⟩
  | _ => exact False.elim q
end
end L2
set_option maxRecDepth 100000
namespace LW
open PySem L2
noncomputable def byL : List Int := [48271, 69621, 16807, 39373, 21401, 60493, 87721, 31337]
noncomputable def primeL : List Int := [99991, 99989, 99971, 99961, 99929, 99923, 99907, 99901]
noncomputable def signs : List Nat := (List.range 5).map (fun k => 32 + k) ++ (List.range 89).map fun k => 38 + k
noncomputable def cellAt (ns : List Int) (k : Int) : Int := if k < ns.length then ns.getD k.toNat 0 else 0
theorem atI_getD {α : Type} {xs : List α} {i : Int} (d : α) (h0 : 0 ≤ i) (h1 : i < xs.length) : atI xs i = some (xs.getD i.toNat d) := by
  unfold atI ixN
  rw [if_pos h0, if_pos h1]
  show xs[i.toNat]? = _
  rw [List.getD_eq_getElem?_getD]
  have : i.toNat < xs.length := by omega
  rw [List.getElem?_eq_getElem this]
  rfl
theorem getD_int (l : List Int) (i : Nat) : (l.map V.int).getD i (V.int 0) = V.int (l.getD i 0) := by
  rw [List.getD_eq_getElem?_getD, List.getD_eq_getElem?_getD, List.getElem?_map]
  cases l[i]? <;> rfl
theorem atI_int {l : List Int} {i : Int} (h0 : 0 ≤ i) (h1 : i < l.length) : atI (l.map V.int) i = some (V.int (l.getD i.toNat 0)) := by
  rw [atI_getD (V.int 0) h0 (by simpa using h1), getD_int]
theorem prime_pos {i : Int} (h0 : 0 ≤ i) (h1 : i < 8) : 0 < primeL.getD i.toNat 0 := by
  have : i.toNat < 8 := by omega
  generalize i.toNat = n at this
  have h : ∀ n : Nat, n < 8 → 0 < primeL.getD n 0 := by decide
  exact h n this
theorem flat1 {α β : Type} (g : α → β) : ∀ l : List α, (l.map fun c => [g c]).flatten = l.map g
  | [] => rfl
  | x :: r => by
    rw [List.map_cons, List.map_cons, List.flatten_cons, flat1 g r]
    rfl
theorem sum1 {α β : Type} (g : α → β) : ∀ l : List α, ((l.map fun c => [g c]).map List.length).sum = l.length
  | [] => rfl
  | x :: r => by
    rw [List.map_cons, List.map_cons, List.sum_cons, sum1 g r, List.length_cons]
    show 1 + r.length = r.length + 1
    omega
theorem cut_map {α β : Type} (f : α → β) (l : List α) (lo hi : Option Int) : cut (l.map f) lo hi = (cut l lo hi).map f := by
  unfold cut
  rw [List.map_take, List.map_drop, List.length_map]
end LW
set_option maxRecDepth 100000
namespace L2
open PySem PySem.Spec PyProof.Rows
section
variable {X : Cx} {pos : Pos}
noncomputable def isS (x : V) (n : String) : Option Bool := match x with
  | .int _ => if n = "int" then some true else if n = "bool" then some false else if n = "str" then some false else if n = "list" then some false else if n = "tuple" then some false else if n = "dict" then some false else none
  | .bl _ => if n = "int" then some true else if n = "bool" then some true else if n = "str" then some false else if n = "list" then some false else if n = "tuple" then some false else if n = "dict" then some false else none
  | .str _ => if n = "int" then some false else if n = "bool" then some false else if n = "str" then some true else if n = "list" then some false else if n = "tuple" then some false else if n = "dict" then some false else none
  | .non => if n = "int" then some false else if n = "bool" then some false else if n = "str" then some false else if n = "list" then some false else if n = "tuple" then some false else if n = "dict" then some false else none
  | _ => none
theorem isS_ok {K : PySem.W.Frag} {H : Hp} {x : V} {n : String} {b : Bool} (h : isS x n = some b) : ∃ t, TyOf K H x t ∧ PySem.W.kitOne K t (.type n) = some b := by
  cases x with
  | int i =>
    refine ⟨_, .int i, ?_⟩
    unfold isS at h
    dsimp only at h
    split at h
    · rename_i e; subst e; cases h; rfl
    split at h
    · rename_i e; subst e; cases h; rfl
    split at h
    · rename_i e; subst e; cases h; rfl
    split at h
    · rename_i e; subst e; cases h; rfl
    split at h
    · rename_i e; subst e; cases h; rfl
    split at h
    · rename_i e; subst e; cases h; rfl
    · cases h
  | bl i =>
    refine ⟨_, .bl i, ?_⟩
    unfold isS at h
    dsimp only at h
    split at h
    · rename_i e; subst e; cases h; rfl
    split at h
    · rename_i e; subst e; cases h; rfl
    split at h
    · rename_i e; subst e; cases h; rfl
    split at h
    · rename_i e; subst e; cases h; rfl
    split at h
    · rename_i e; subst e; cases h; rfl
    split at h
    · rename_i e; subst e; cases h; rfl
    · cases h
  | str i =>
    refine ⟨_, .str i, ?_⟩
    unfold isS at h
    dsimp only at h
    split at h
    · rename_i e; subst e; cases h; rfl
    split at h
    · rename_i e; subst e; cases h; rfl
    split at h
    · rename_i e; subst e; cases h; rfl
    split at h
    · rename_i e; subst e; cases h; rfl
    split at h
    · rename_i e; subst e; cases h; rfl
    split at h
    · rename_i e; subst e; cases h; rfl
    · cases h
  | non =>
    refine ⟨_, .non, ?_⟩
    unfold isS at h
    dsimp only at h
    split at h
    · rename_i e; subst e; cases h; rfl
    split at h
    · rename_i e; subst e; cases h; rfl
    split at h
    · rename_i e; subst e; cases h; rfl
    split at h
    · rename_i e; subst e; cases h; rfl
    split at h
    · rename_i e; subst e; cases h; rfl
    split at h
    · rename_i e; subst e; cases h; rfl
    · cases h
  | _ => cases h
noncomputable def isiV (K : PySem.W.Frag) : List V → Hp → VK → Prop := fun xs H Q => match xs with
  | [.ref p, .ty n] => ∃ b t, TyOf K H (.ref p) t ∧ PySem.W.kitOne K t (.type n) = some b ∧ Q (.bl b) H
  | [x, .ty n] => match isS x n with
    | some b => Q (.bl b) H
    | none => False
  | _ => False
theorem c_isi : CallR X (.builtin "isinstance") (isiV X.K) := by
  intro pins s σ H xs us Q I r h
  unfold isiV at h
  split at h
  · rename_i p n
    obtain ⟨b, t, ty, e, q⟩ := h
    obtain ⟨u, w', rfl, ru, rw'⟩ := vals2 r
    cases rw'
    exact isinst_ok I ru ty e fun tk => fin_bl (I.tok tk) q rfl
  · rename_i x n _
    split at h
    · rename_i b e
      obtain ⟨t, ty, e2⟩ := isS_ok (K := X.K) (H := H) e
      obtain ⟨u, w', rfl, ru, rw'⟩ := vals2 r
      cases rw'
      exact isinst_ok I ru ty e2 fun tk => fin_bl (I.tok tk) h rfl
    · exact h.elim
  · exact h.elim
end
end L2
namespace L2
open PySem PySem.Spec PyProof.Rows
section
variable {X : Cx} {K : PySem.W.Frag} {pos : Pos}
theorem i_ixK (h : X.K = K) : IxR X (ixV K) := h ▸ i_ix
theorem s_slK (h : X.K = K) : SlR X (slV K) := h ▸ s_sl
theorem c_lenK (h : X.K = K) : CallR X (.builtin "len") (lenV K) := h ▸ c_len
theorem c_isiK (h : X.K = K) : CallR X (.builtin "isinstance") (isiV K) := h ▸ c_isi
theorem m_joinK (h : X.K = K) : MtR X "str.join" (joinV K) := h ▸ m_join
theorem pt_trK {a : Expr} {ta : TE} (hK : X.K = K) (ha : PE X a ta) (he : ∀ whole, isTrue a X.env whole = (do let v ← whole; standAt a.pos; holding [v] (truthy v)) := by intro _; rfl) : PT X a (trV K ta) := by
  subst hK
  exact pt_tr ha he
variable {o e : Expr} {es : List Expr} {to : TE} {t : TA} {name : Str} {apos cpos : Pos} {T id : String} {r : V → List V → Hp → VK → Prop}
theorem pe_bmK (hK : X.K = K) (pa : PlainAttrs T) (slot : Slot T name id) (hty : typeOf (.builtin id) = pure (.type "method_descriptor")) (hm : MtR X id r) (ho : PE X o to) (ha : PA X (e :: es) t)
    (hbase : attributeBase o name X.env (eval o X.env) = eval o X.env := by rfl)
    (hfew : ((backTo cpos (starEach (e :: es) X.env)).all (fun x => !x.1) && (backToKw cpos (keywordEach [] X.env)).all (fun x => x.1.isSome)
      && decide ((e :: es).length + ([] : List Keyword).length + (if ([] : List Keyword).isEmpty then 0 else 1) < 30)) = true := by rfl)
    (hline : (apos.endLine == cpos.line) = true := by rfl) (hs : starEach (e :: es) X.env = (false, eval e X.env) :: starEach es X.env := by rfl) (hplain : (backTo cpos (starEach es X.env)).any (·.1) = false := by rfl) :
    PE X (.Call (.Attribute o name apos) (e :: es) [] cpos) (tBM K T r to t) := by
  subst hK
  exact pe_bm pa slot hty hm ho ha hbase hfew hline hs hplain
theorem ps_lstK {l tg : Expr} {body : List Stmt} {tl : TE} {g : TG} {tb : TS} (hK : X.K = K) (hp : PassesOwn (model X.prog X.w) X.A X.env X.xe) (hc : X.calm = true) (hl : PE X l tl) (hg : PG X tg g) (hb : PSs X body tb)
    (hf : ∀ x, foldedSetIterable l X.env x = pure x := by intro _; rfl) : PS X (.For tg l body [] pos) (tLst1 K tl g tb) := by
  subst hK
  exact ps_lst hp hc hl hg hb hf
end
end L2
namespace L2
open PySem
theorem bt_len : bootBuiltins "len" = some (.builtin "len") := by decide +kernel
theorem bt_isinstance : bootBuiltins "isinstance" = some (.builtin "isinstance") := by decide +kernel
theorem bt_int : bootBuiltins "int" = some (.type "int") := by decide +kernel
theorem bt_str : bootBuiltins "str" = some (.type "str") := by decide +kernel
theorem bt_dict : bootBuiltins "dict" = some (.type "dict") := by decide +kernel
theorem bt_zip : bootBuiltins "zip" = some (.type "zip") := by decide +kernel
end L2
set_option maxRecDepth 100000
namespace L2
open PySem PySem.Spec PyProof.Rows
section
variable {X : Cx} {tg : Expr}
end
end L2
set_option maxRecDepth 100000
namespace LW
open PySem L2
noncomputable def com : List Nat → List Nat → Nat
  | a :: x, b :: y => if a = b then com x y + 1 else 0
  | _, _ => 0
theorem com_le : ∀ l p : List Nat, com l p ≤ l.length ∧ com l p ≤ p.length
  | [], p => by cases p <;> exact ⟨Nat.zero_le _, Nat.zero_le _⟩
  | a :: x, [] => ⟨Nat.zero_le _, Nat.zero_le _⟩
  | a :: x, b :: y => by
    unfold com
    split
    · have := com_le x y
      exact ⟨Nat.succ_le_succ this.1, Nat.succ_le_succ this.2⟩
    · exact ⟨Nat.zero_le _, Nat.zero_le _⟩
end LW
set_option maxRecDepth 100000
namespace LS
open PySem PySem.W PyProof.Rows
abbrev gt (p : Array Nat) (k : Nat) : Nat := p.getD k 0
noncomputable def Pm (n : Nat) (p : Array Nat) : Prop := p.toList.Perm (List.range n)
theorem Pm.size {n : Nat} {p : Array Nat} (h : Pm n p) : p.size = n := by
  have := h.length_eq
  simpa using this
theorem Pm.lt {n : Nat} {p : Array Nat} (h : Pm n p) {k : Nat} (hk : k < n) : gt p k < n := by
  have hs := h.size
  have : gt p k ∈ p.toList := by
    have hk' : k < p.size := by omega
    unfold gt
    rw [Array.getD_eq_getD_getElem?, Array.getElem?_eq_getElem hk']
    simp
  have := h.mem_iff.mp this
  simpa using this
section
variable {O : KeyOrd} {key : Nat → O.α} {n : Nat}
noncomputable def Dn (key : Nat → O.α) (p : Array Nat) (k : Nat) : Prop := ∀ i j, i ≤ j → j < k → O.kle (key (gt p j)) (key (gt p i))
structure Asks (key : Nat → O.α) (n : Nat) (J : Shared → Prop) (cmp : Nat → Nat → (Bool → Shared → Prop) → Shared → Prop) : Prop where
  ask : ∀ i j C s, i < n → j < n → J s → (∀ s', J s' → C (O.blt (key i) (key j)) s') → cmp i j C s
variable {J : Shared → Prop} {cmp : Nat → Nat → (Bool → Shared → Prop) → Shared → Prop}
end
end LS
set_option maxRecDepth 100000
namespace LS
open PySem PySem.W PyProof.Rows
theorem Pm.inj {n : Nat} {p : Array Nat} (h : Pm n p) {i j : Nat} (hi : i < n) (hj : j < n) (e : gt p i = gt p j) : i = j := by
  have hs := h.size
  have nd : p.toList.Nodup := h.nodup_iff.mpr List.nodup_range
  have gi : gt p i = p.toList[i]'(by simp; omega) := by
    unfold gt
    rw [Array.getD_eq_getD_getElem?, Array.getElem?_eq_getElem (by omega)]
    simp
  have gj : gt p j = p.toList[j]'(by simp; omega) := by
    unfold gt
    rw [Array.getD_eq_getD_getElem?, Array.getElem?_eq_getElem (by omega)]
    simp
  rw [gi, gj] at e
  rcases Nat.lt_trichotomy i j with h1 | h1 | h1
  · exact absurd e (List.pairwise_iff_getElem.mp nd i j (by simp; omega) (by simp; omega) h1)
  · exact h1
  · exact absurd e.symm (List.pairwise_iff_getElem.mp nd j i (by simp; omega) (by simp; omega) h1)
noncomputable def Fx (n : Nat) (p : Array Nat) (a : Nat) : Prop := ∀ k, a ≤ k → k < n → gt p k = k
theorem Fx.mono {n a b : Nat} {p : Array Nat} (h : Fx n p a) (hab : a ≤ b) : Fx n p b := fun k h1 h2 => h k (Nat.le_trans hab h1) h2
section
variable {O : KeyOrd} {key : Nat → O.α} {n : Nat}
noncomputable def St (key : Nat → O.α) (p : Array Nat) (k : Nat) : Prop := ∀ i j, i < j → j < k → key (gt p i) = key (gt p j) → gt p i < gt p j
noncomputable def Sd (key : Nat → O.α) (p : Array Nat) (k : Nat) : Prop := ∀ i j, i < j → j < k → key (gt p i) = key (gt p j) → gt p j < gt p i
variable {J : Shared → Prop} {cmp : Nat → Nat → (Bool → Shared → Prop) → Shared → Prop}
structure Ds (key : Nat → O.α) (n : Nat) (p : Array Nat) (a q : Nat) : Prop where
  dn : Dn key p a
  sd : Sd key p (a - (q + 1))
  lt : ∀ i j, i < a - (q + 1) → a - (q + 1) ≤ j → j < a → O.klt (key (gt p j)) (key (gt p i))
  up : ∀ i j, a - (q + 1) ≤ i → i < j → j < a → gt p i < gt p j
  fx : Fx n p a
  eq : ∀ i, a - (q + 1) ≤ i → i < a → key (gt p i) = key (gt p (a - 1))
theorem klt_ne {x y : O.α} (h : O.klt x y) : x ≠ y := fun e => by
  subst e
  have : O.blt x x = true := h
  rw [O.irrefl] at this
  cases this
theorem Ds.one {p : Array Nat} {a : Nat} (ha : 1 ≤ a) (d : Ds key n p a 0) : Sd key p a := fun i j hij hj e => by
  by_cases h2 : j < a - 1
  · exact d.sd i j hij (by omega) e
  · exact absurd e.symm (klt_ne (d.lt i j (by omega) (by omega) hj))
end
end LS
set_option maxRecDepth 100000
namespace LO
noncomputable def eLe (l : List Nat) (i j : Nat) : Bool := decide (l.drop i ≤ l.drop j)
noncomputable def ord (l : List Nat) : List Nat := (List.range (l.length + 1)).mergeSort (eLe l)
theorem ord_perm (l : List Nat) : (ord l).Perm (List.range (l.length + 1)) := List.mergeSort_perm _ _
theorem ord_length (l : List Nat) : (ord l).length = l.length + 1 := by
  rw [(ord_perm l).length_eq, List.length_range]
theorem mem_ord {l : List Nat} {i : Nat} : i ∈ ord l ↔ i ≤ l.length := by
  rw [(ord_perm l).mem_iff, List.mem_range]
  omega
theorem ord_nodup (l : List Nat) : (ord l).Nodup := (ord_perm l).symm.nodup List.nodup_range
theorem ord_le (l : List Nat) : (ord l).Pairwise (fun i j => l.drop i ≤ l.drop j) := by
  have h := List.pairwise_mergeSort (le := eLe l) (fun a b c h1 h2 => by
    unfold eLe at *
    simp only [decide_eq_true_eq] at *
    exact List.le_trans h1 h2) (fun a b => by
    unfold eLe
    simp only [Bool.or_eq_true, decide_eq_true_eq]
    exact List.le_total _ _) (List.range (l.length + 1))
  refine h.imp fun h => ?_
  simpa [eLe] using h
theorem drop_inj {l : List Nat} {i j : Nat} (hi : i ≤ l.length) (hj : j ≤ l.length) (h : l.drop i = l.drop j) : i = j := by
  have := congrArg List.length h
  rw [List.length_drop, List.length_drop] at this
  omega
theorem drop_lt_of {l : List Nat} {i j : Nat} (hi : i ≤ l.length) (hj : j ≤ l.length) (hn : i ≠ j) (h : l.drop i ≤ l.drop j) : l.drop i < l.drop j := by
  rcases List.le_iff_lt_or_eq.mp h with h | h
  · exact h
  · exact absurd (drop_inj hi hj h) hn
theorem ord_lt (l : List Nat) : (ord l).Pairwise (fun i j => l.drop i < l.drop j) := by
  have h1 := ord_le l
  have h2 : (ord l).Pairwise (· ≠ ·) := ord_nodup l
  have h3 := h1.and h2
  refine List.Pairwise.imp_of_mem ?_ h3
  intro a b ha hb h
  exact drop_lt_of (mem_ord.mp ha) (mem_ord.mp hb) h.2 h.1
theorem count_before {α : Type} {lt : α → α → Bool} (irr : ∀ a, lt a a = false) (asym : ∀ a b, lt a b = true → lt b a = false) : ∀ {xs : List α}, xs.Pairwise (fun a b => lt a b = true) → ∀ {k : Nat} {x : α}, xs[k]? = some x → xs.countP (fun a => lt a x) = k
  | [], _, k, x, h => by simp at h
  | a :: r, hp, 0, x, h => by
    simp at h
    subst h
    rw [List.countP_cons, irr]
    have : r.countP (fun b => lt b a) = 0 := by
      rw [List.countP_eq_zero]
      intro b hb
      have := (List.pairwise_cons.mp hp).1 b hb
      rw [asym _ _ this]
      simp
    rw [this]
    simp
  | a :: r, hp, k + 1, x, h => by
    have hx : r[k]? = some x := by simpa using h
    have ih := count_before irr asym (List.pairwise_cons.mp hp).2 hx
    have : lt a x = true := (List.pairwise_cons.mp hp).1 x (List.mem_of_getElem? hx)
    rw [List.countP_cons, ih, this]
    simp
noncomputable def rank (l : List Nat) (j : Nat) : Nat := (List.range (l.length + 1)).countP (fun i => decide (l.drop i < l.drop j))
theorem rank_of {l : List Nat} {k j : Nat} (h : (ord l)[k]? = some j) : rank l j = k := by
  have hp : (ord l).Pairwise (fun a b => decide (l.drop a < l.drop b) = true) := (ord_lt l).imp fun h => decide_eq_true h
  have := count_before (lt := fun a b => decide (l.drop a < l.drop b)) (fun a => decide_eq_false (List.lt_irrefl _)) (fun a b h => by
    have h := of_decide_eq_true h
    exact decide_eq_false fun z => List.lt_irrefl _ (List.lt_trans h z)) hp h
  rw [← this]
  exact ((ord_perm l).countP_eq _).symm
theorem ord_rank {l : List Nat} {j : Nat} (hj : j ≤ l.length) : (ord l)[rank l j]? = some j := by
  obtain ⟨k, hk⟩ := List.getElem?_of_mem (mem_ord.mpr hj)
  rw [rank_of hk]
  exact hk
theorem rank_lt {l : List Nat} {j : Nat} (hj : j ≤ l.length) : rank l j < l.length + 1 := by
  have := (List.getElem?_eq_some_iff.mp (ord_rank hj)).1
  rw [ord_length] at this
  exact this
noncomputable def ahead (l : List Nat) (p : Nat) : Option Nat := if p = 0 then none else l[p - 1]?
noncomputable def letters (l : List Nat) : List Nat := (ord l).filterMap (ahead l)
noncomputable def home (l : List Nat) : Nat := rank l 0
noncomputable def lessP (c : Nat) : Option Nat → Bool
  | some d => decide (d < c)
  | none => false
noncomputable def less (rs : List (Option Nat)) (c : Nat) : Nat := rs.countP (lessP c)
noncomputable def before (rs : List (Option Nat)) (c k : Nat) : Nat := (rs.take k).countP (fun o => o == some c)
theorem countP_add {α : Type} (f g h : α → Bool) (xs : List α) (hh : ∀ x ∈ xs, (if h x then 1 else 0) = (if f x then 1 else 0) + (if g x then 1 else 0)) : xs.countP h = xs.countP f + xs.countP g := by
  induction xs with
  | nil => rfl
  | cons x r ih =>
    have h1 := hh x (List.mem_cons_self)
    have h2 := ih fun y hy => hh y (List.mem_cons_of_mem _ hy)
    rw [List.countP_cons, List.countP_cons, List.countP_cons, h2, h1]
    omega
end LO
set_option maxRecDepth 100000
namespace LO
abbrev Rs := List (Option Nat)
noncomputable def bk (rs : Rs) (k : Nat) : Option Nat := match rs[k]? with
  | some (some c) => some (1 + less rs c + before rs c k)
  | _ => none
noncomputable def lets (rs : Rs) : List Nat := rs.filterMap id
noncomputable def rd (rs : Rs) : Nat → Option Nat
  | 0 => some 0
  | k + 1 => (rd rs k).bind (bk rs)
noncomputable def Whole (rs : Rs) : Prop := ∃ r, rd rs ((lets rs).length) = some r
end LO
set_option maxRecDepth 100000
namespace LO
noncomputable def low (l t : List Nat) : Nat := (List.range (l.length + 1)).countP (fun i => decide (l.drop i < t))
noncomputable def hasAt (l t : List Nat) (i : Nat) : Bool := t.isPrefixOf (l.drop i)
noncomputable def many (l t : List Nat) : Nat := (List.range (l.length + 1)).countP (fun i => hasAt l t i)
noncomputable def upto (l t : List Nat) (i : Nat) : Bool := decide (l.drop i < t) || hasAt l t i
noncomputable def high (l t : List Nat) : Nat := low l t + many l t
theorem pre_not_lt : ∀ {t x : List Nat}, t.isPrefixOf x = true → ¬ x < t
  | [], x, _ => List.not_lt_nil _
  | c :: t, [], h => by simp at h
  | c :: t, d :: x, h => by
    simp only [List.isPrefixOf_cons₂, Bool.and_eq_true, beq_iff_eq] at h
    rw [List.cons_lt_cons_iff]
    rintro (z | ⟨_, z⟩)
    · omega
    · exact pre_not_lt h.2 z
theorem high_eq (l t : List Nat) : high l t = (List.range (l.length + 1)).countP (upto l t) := by
  unfold high low many
  refine (countP_add _ _ _ _ fun i _ => ?_).symm
  unfold upto
  cases e : hasAt l t i with
  | false => cases decide (l.drop i < t) <;> rfl
  | true =>
    have : ¬ l.drop i < t := pre_not_lt e
    simp [this]
theorem squeeze : ∀ {t x u : List Nat}, t ≤ x → x ≤ t ++ u → t.isPrefixOf x = true
  | [], x, u, _, _ => by simp
  | c :: t, [], u, h, _ => absurd (List.nil_lt_cons c t) (List.not_lt.mpr h)
  | c :: t, d :: x, u, h1, h2 => by
    rw [List.cons_append] at h2
    have a : ¬ (d :: x < c :: t) := List.not_lt.mpr h1
    have b : ¬ (c :: (t ++ u) < d :: x) := List.not_lt.mpr h2
    rw [List.cons_lt_cons_iff] at a b
    have e : c = d := by omega
    subst e
    simp only [List.isPrefixOf_cons₂, Bool.and_eq_true, beq_self_eq_true, true_and]
    exact squeeze (List.not_lt.mp fun z => a (.inr ⟨rfl, z⟩)) (List.not_lt.mp fun z => b (.inr ⟨rfl, z⟩))
theorem upto_down {l t : List Nat} {i j : Nat} (h : l.drop i ≤ l.drop j) (hj : upto l t j = true) : upto l t i = true := by
  unfold upto hasAt at *
  rw [Bool.or_eq_true, decide_eq_true_eq] at *
  by_cases hx : l.drop i < t
  · exact .inl hx
  · right
    rcases hj with hj | hj
    · exact absurd (List.lt_of_le_of_lt h hj) hx
    · obtain ⟨u, hu⟩ := List.isPrefixOf_iff_prefix.mp hj
      refine squeeze (u := u) (List.not_lt.mp hx) ?_
      rw [hu]
      exact h
theorem low_down {l t : List Nat} {i j : Nat} (h : l.drop i ≤ l.drop j) (hj : decide (l.drop j < t) = true) : decide (l.drop i < t) = true := decide_eq_true (List.lt_of_le_of_lt h (of_decide_eq_true hj))
theorem rank_in {l t : List Nat} {i : Nat} (hi : i ≤ l.length) : hasAt l t i = true ↔ low l t ≤ rank l i ∧ rank l i < high l t := by
  have key : ∀ {D : Nat → Bool}, (∀ i j, l.drop i ≤ l.drop j → D j = true → D i = true) → (D i = true ↔ rank l i < (List.range (l.length + 1)).countP D) := by
    intro D hd
    have hs : (ord l).Pairwise (fun a b => D b = true → D a = true) := (ord_le l).imp fun {i j} h => hd i j h
    have go : ∀ {xs : List Nat} {k x : Nat}, xs.Pairwise (fun a b => D b = true → D a = true) → xs[k]? = some x → (D x = true ↔ k < xs.countP D) := by
      intro xs
      induction xs with
      | nil => intro k x _ h; simp at h
      | cons a r ih =>
        intro k x hp h
        cases ea : D a with
        | true =>
          rw [List.countP_cons_of_pos ea]
          cases k with
          | zero => simp at h; subst h; simp [ea]
          | succ k =>
            have := ih (k := k) (x := x) (List.pairwise_cons.mp hp).2 (by simpa using h)
            rw [this, Nat.add_lt_add_iff_right]
        | false =>
          have z : r.countP D = 0 := by
            rw [List.countP_eq_zero]
            intro b hb hd
            have := (List.pairwise_cons.mp hp).1 b hb hd
            rw [ea] at this
            cases this
          rw [List.countP_cons_of_neg (by rw [ea]; simp), z]
          constructor
          · intro hx
            rcases List.mem_cons.mp (List.mem_of_getElem? h) with e | e
            · rw [e, ea] at hx; cases hx
            · have := (List.pairwise_cons.mp hp).1 x e hx
              rw [ea] at this; cases this
          · intro hx; omega
    have := go hs (ord_rank hi)
    rwa [(ord_perm l).countP_eq] at this
  have k1 := key (D := fun i => decide (l.drop i < t)) fun i j => low_down
  have k2 := key (D := upto l t) fun i j => upto_down
  rw [high_eq]
  have e1 : low l t = (List.range (l.length + 1)).countP (fun i => decide (l.drop i < t)) := rfl
  rw [e1]
  constructor
  · intro h
    have n : ¬ l.drop i < t := pre_not_lt h
    refine ⟨?_, k2.mp (by unfold upto; rw [h, Bool.or_true])⟩
    have : ¬ (decide (l.drop i < t) = true) := by simpa using n
    rw [k1] at this
    omega
  · rintro ⟨h1, h2⟩
    have a := k2.mpr h2
    have b : ¬ (decide (l.drop i < t) = true) := by rw [k1]; omega
    unfold upto at a
    rw [Bool.or_eq_true] at a
    exact a.resolve_left b
end LO
set_option maxRecDepth 100000
namespace L2
open PySem PySem.Spec PyProof.Rows
section
variable {X : Cx} {pins : List (Addr × Obj)} {σ : St} {H : Hp} {s : Shared} {scope : Scope} {cl : List (Str × Addr)} {cp : List (Str × Nat)} {A : Around} {env : Env} {x : Str} {v : V} {u : Value} {h1 : Heap}
end
end L2
namespace L2
open PySem PySem.Spec PyProof.Rows
noncomputable def CodeO (c : Addr) (q : Str) : HO := .ext fun h => h.CodeRec (.ref c) q
noncomputable def Bk (P : Addr) (pos : Pos) (q : Str) (H : Hp) : Prop := H P = some (.tbl #[]) ∨ ∃ c', H P = some (.tbl #[rawInt pos.line, rawInt pos.col, .ref c']) ∧ H c' = some (CodeO c' q)
noncomputable def SameN (H H' : Hp) : Prop := ∀ b o, H b = some o → H' b ≠ none ∧ ((∀ ps, o ≠ .tbl ps) → H' b = some o)
theorem SameN.at {H H' : Hp} (a : SameN H H') {b : Addr} {o : HO} (h : H b = some o) (n : ∀ ps, o ≠ .tbl ps) : H' b = some o := (a b o h).2 n
theorem SameN.free {H H' : Hp} (a : SameN H H') {b : Addr} (h : H' b = none) : H b = none := by
  cases q : H b with
  | none => rfl
  | some o => exact absurd h (a b o q).1
theorem SameN.refl (H : Hp) : SameN H H := fun _ _ h => ⟨by rw [h]; simp, fun _ => h⟩
theorem SameN.trans {H H1 H2 : Hp} (a : SameN H H1) (b : SameN H1 H2) : SameN H H2 := fun c o h => ⟨fun z => (a c o h).1 (b.free z), fun n => b.at ((a c o h).2 n) n⟩
theorem Same.toN {H H' : Hp} (a : Same H H') : SameN H H' := fun c o h => ⟨by rw [a c o h]; simp, fun _ => a c o h⟩
theorem SameN.upd {H H' : Hp} {a : Addr} {o : HO} (e : SameN H H') (n : H' a = none) : SameN H (L2.upd H' a o) := fun b u q => by
  have hb : b ≠ a := by
    rintro rfl
    exact (e b u q).1 n
  rw [upd_ne hb]
  exact e b u q
theorem SameN.seq {K : PySem.W.Frag} {H H' : Hp} {a : Addr} {xs : List V} (e : SameN H H') (h : SqL K H a xs) : SqL K H' a xs := by
  rcases h with (h | ⟨o, h⟩) | h
  · exact .inl (.inl (e.at h (by intro ps z; cases z)))
  · exact .inl (.inr ⟨o, e.at h (by intro ps z; cases z)⟩)
  · exact .inr h
theorem Bk.put {P : Addr} {pos : Pos} {q : Str} {H : Hp} {a : Addr} {o : HO} (h : Bk P pos q H) (n : H a = none) : Bk P pos q (L2.upd H a o) := by
  rcases h with h | ⟨c', h, g⟩
  · exact .inl (by rw [upd_ne (ne_of_none h n)]; exact h)
  · exact .inr ⟨c', by rw [upd_ne (ne_of_none h n)]; exact h, by rw [upd_ne (ne_of_none g n)]; exact g⟩
noncomputable def SameE (P : Addr) (H H' : Hp) : Prop := ∀ b o, b ≠ P → H b = some o → H' b = some o
theorem SameE.refl (P : Addr) (H : Hp) : SameE P H H := fun _ _ _ h => h
theorem SameE.trans {P : Addr} {H H1 H2 : Hp} (a : SameE P H H1) (b : SameE P H1 H2) : SameE P H H2 := fun c o n h => b c o n (a c o n h)
theorem SameE.upd {P : Addr} {H H' : Hp} {a : Addr} {o : HO} (e : SameE P H H') (n : H' a = none) : SameE P H (L2.upd H' a o) := fun b u nb q => by
  have q' := e b u nb q
  rw [upd_ne (ne_of_none q' n)]
  exact q'
theorem Bk.isTbl {P : Addr} {pos : Pos} {q : Str} {H : Hp} (h : Bk P pos q H) : ∃ ps, H P = some (.tbl ps) := by
  rcases h with h | ⟨c', h, _⟩
  · exact ⟨_, h⟩
  · exact ⟨_, h⟩
theorem Bk.keep {P P2 : Addr} {pos pos2 : Pos} {q q2 : Str} {H H' : Hp} (b2 : Bk P2 pos2 q2 H) (b1 : Bk P pos q H) (ne : P2 ≠ P) (se : SameE P H H') : Bk P2 pos2 q2 H' := by
  obtain ⟨ps, hP⟩ := b1.isTbl
  rcases b2 with h | ⟨c', h, g⟩
  · exact .inl (se _ _ ne h)
  · exact .inr ⟨c', se _ _ ne h, se _ _ (ne_of g hP (by intro z; cases z)) g⟩
structure LamAt (X : Cx) (c P : Addr) : Prop where
  code : X.env.code = .ref c
  hd : PySem.W.CodeHd X.base c P
  bm : ∃ bm ob, X.mg "__builtins__" = some (.ref bm) ∧ bm ≠ builtinsNs ∧ X.base.get? bm = some ob ∧ ob.cls = .type "module" ∧ ob.dict = some builtinsNs ∧ ob.data = .plain
section
variable {X : Cx} {pins : List (Addr × Obj)} {σ : St} {H : Hp} {s : Shared} {scope : Scope} {cl : List (Str × Addr)} {A : Around} {c P : Addr} {params : Arguments} {body : Expr} {pos : Pos} {q : Str} {M : Model} {E : Value → Shared → Prop} {Q : Value → Shared → Prop}
end
end L2
set_option maxRecDepth 100000
namespace L2
open PySem PySem.Spec PyProof.Rows
section
variable {X : Cx} {pins : List (Addr × Obj)} {σ : St} {H : Hp} {s : Shared}
structure Own (X : Cx) (pins : List (Addr × Obj)) (H : Hp) (D : Addr) : Prop where
  old : X.s₀.heap.objs.size ≤ D
  free : H D = none
  nl : D ≠ X.env.locals
  np : ∀ p ∈ X.pn ++ pins, p.1 ≠ D
theorem Own.fresh (I : Inv X pins σ H s) {D : Addr} (h : s.heap.objs.size ≤ D) : Own X pins H D :=
  ⟨Nat.le_trans I.sz h, I.hok.fresh h, Nat.ne_of_gt (Nat.lt_of_lt_of_le I.lt h), fun p hp z => absurd (Nat.lt_of_lt_of_le (Heap.lt_size (I.pin p hp).1) h) (by rw [z]; exact Nat.lt_irrefl _)⟩
theorem Own.more {D a : Addr} {o : Obj} (W : Own X pins H D) (h : a ≠ D) : Own X (pins ++ [(a, o)]) H D :=
  ⟨W.old, W.free, W.nl, fun p hp => by
    rcases List.mem_append.mp hp with q | q
    · exact W.np p (List.mem_append_left _ q)
    · rcases List.mem_append.mp q with q | q
      · exact W.np p (List.mem_append_right _ q)
      · cases List.mem_singleton.mp q
        exact h⟩
theorem Inv.cellne (I : Inv X pins σ H s) {D : Addr} {o : Obj} (ho : s.heap.get? D = some o) (hd : ∀ v, o.data ≠ .cell v) : ∀ x c, X.env.cells.lookup x = some c → c ≠ D := fun x c e z => by
  obtain ⟨v, o', ho', hd'⟩ := I.cell x c e
  rw [z, ho] at ho'
  cases ho'
  exact hd v hd'
end
end L2
set_option maxRecDepth 100000
namespace L2
open PySem PySem.Spec PyProof.Rows
noncomputable def rngL (lo hi : Int) : List V := (List.range (hi - lo).toNat).map fun i : Nat => V.int (lo + (i : Int))
noncomputable def Src (K : PySem.W.Frag) (H : Hp) (a : Addr) (xs : List V) : Prop := SqL K H a xs ∨ SqT K H a xs ∨ ∃ lo hi : Int, H a = some (.rng lo hi) ∧ xs = rngL lo hi ∧ -(2 ^ 62) ≤ lo ∧ lo < 2 ^ 62 ∧ -(2 ^ 62) ≤ hi ∧ hi < 2 ^ 62
section
variable {X : Cx} {pins : List (Addr × Obj)} {σ : St} {H : Hp} {s : Shared}
end
end L2
set_option maxRecDepth 100000
namespace L2
open PySem PySem.Spec PyProof.Rows
noncomputable def Ctx0 (e : Addr) (h : Heap) : Prop := ∃ o vs, h.get? e = some o ∧ o.data = .fields vs ∧ vs[2]? = some .none
theorem Ctx0.push {e : Addr} {h : Heap} (x : Ctx0 e h) (o' : Obj) : Ctx0 e (h.push o') := by
  obtain ⟨o, vs, h1, h2, h3⟩ := x
  exact ⟨o, vs, Heap.get?_push_of_some _ h1, h2, h3⟩
theorem Ctx0.upd {e a : Addr} {h : Heap} (x : Ctx0 e h) (f : Obj → Obj) (hf : ∀ o vs, o.data = .fields vs → vs[2]? = some .none → ∃ vs', (f o).data = .fields vs' ∧ vs'[2]? = some .none) : Ctx0 e (h.update a f) := by
  obtain ⟨o, vs, h1, h2, h3⟩ := x
  by_cases q : a = e
  · subst q
    obtain ⟨vs', g1, g2⟩ := hf o vs h2 h3
    exact ⟨f o, vs', Heap.get?_update_self f h1 (Obj.isFreed_of_fields g1), g1, g2⟩
  · exact ⟨o, vs, (Heap.get?_update_other _ _ q).trans h1, h2, h3⟩
noncomputable def Kp {α : Type} (t : Sem α) : Prop := ∀ (M : Model) (Γ : PySem.Ctx) (Q : α → Pos → Shared → Prop) (E : Value → Pos → Shared → Prop) (p : Pos) (s : Shared) (e : Addr), Ctx0 e s.heap → Sem.wp M Γ t Q E p s → Sem.wp M Γ t (fun a p' s' => Q a p' s' ∧ Ctx0 e s'.heap) E p s
section
variable {α β : Type}
theorem Kp.pure (a : α) : Kp (Pure.pure a : Sem α) := fun M Γ Q E p s e x h => by
  rw [Sem.wp_pure'] at h ⊢
  exact ⟨h, x⟩
theorem Kp.bind {m : Sem α} {f : α → Sem β} (hm : Kp m) (hf : ∀ a, Kp (f a)) : Kp (m >>= f) := fun M Γ Q E p s e x h => by
  rw [Sem.wp_bind'] at h ⊢
  exact Sem.wp_mono M Γ m (fun a p' s' z => hf a M Γ Q E p' s' e z.2 z.1) (fun _ _ _ z => z) p s (hm M Γ _ E p s e x h)
theorem Kp.unsupported (w : String) : Kp (PySem.unsupported w : Sem α) := fun M Γ Q E p s e x h => by
  have : Sem.wp M Γ (Sem.unsupported w : Sem α) Q E p s := h
  rw [Sem.wp_unsupported] at this
  exact this.elim
theorem Kp.load (a : Addr) : Kp (PySem.load a) := fun M Γ Q E p s e x h => by
  have h : Sem.wp M Γ (Sem.load a none Sem.pure) Q E p s := h
  show Sem.wp M Γ (Sem.load a none Sem.pure) _ E p s
  rw [Sem.wp_load] at h ⊢
  obtain ⟨o, h1, h2⟩ := h
  refine ⟨o, h1, ?_⟩
  rw [Sem.wp_pure] at h2 ⊢
  exact ⟨h2, x⟩
theorem Kp.update (a : Addr) (f : Obj → Obj) (hf : ∀ o vs, o.data = .fields vs → vs[2]? = some .none → ∃ vs', (f o).data = .fields vs' ∧ vs'[2]? = some .none) : Kp (PySem.update a f) := fun M Γ Q E p s e x h => by
  have h : Sem.wp M Γ (Sem.update a none f Sem.pure) Q E p s := h
  show Sem.wp M Γ (Sem.update a none f Sem.pure) _ E p s
  rw [Sem.wp_update] at h ⊢
  refine ⟨h.1, ?_⟩
  have h2 := h.2
  rw [Sem.wp_pure] at h2 ⊢
  exact ⟨h2, x.upd f hf⟩
theorem Kp.alloc (o : Obj) : Kp (PySem.alloc o) := fun M Γ Q E p s e x h => by
  have h : Sem.wp M Γ (Sem.alloc o Sem.pure) Q E p s := h
  show Sem.wp M Γ (Sem.alloc o Sem.pure) _ E p s
  rw [Sem.wp_alloc] at h ⊢
  rw [Sem.wp_pure] at h ⊢
  exact ⟨h, x.push o⟩
theorem Kp.stack : Kp PySem.stack := fun M Γ Q E p s e x h => ⟨h, x⟩
theorem Kp.ite {c : Prop} [Decidable c] {a b : Sem α} (ha : Kp a) (hb : Kp b) : Kp (if c then a else b) := by
  split
  · exact ha
  · exact hb
theorem Kp.fieldsOf (v : Value) : Kp (PySem.fieldsOf v) := by
  unfold PySem.fieldsOf
  split
  · refine Kp.bind (Kp.load _) fun o => ?_
    split
    · exact Kp.pure _
    · exact Kp.unsupported _
  · exact Kp.unsupported _
theorem Kp.field (v : Value) (i : Nat) : Kp (PySem.field v i) := by
  unfold PySem.field
  refine Kp.bind (Kp.fieldsOf v) fun vs => ?_
  split
  · exact Kp.pure _
  · exact Kp.unsupported _
theorem Kp.setField (v : Value) {i : Nat} (hi : i ≠ 2) (x : Value) : Kp (PySem.setField v i x) := by
  unfold PySem.setField
  split
  · unfold PySem.updateField
    refine Kp.bind (Kp.load _) fun o => ?_
    split
    · refine Kp.ite (Kp.update _ _ fun o vs h1 h2 => ⟨_, Obj.data_mapFields h1 _, ?_⟩) (Kp.unsupported _)
      rw [Array.getElem?_setIfInBounds_ne hi]
      exact h2
    · exact Kp.unsupported _
  · exact Kp.unsupported _
theorem Kp.newFields (ty : String) (vs : List Value) : Kp (PySem.newFields ty vs) := by
  unfold PySem.newFields PySem.newObj
  dsimp only
  have as : Kp (PySem.newObjAsIs (.type ty) (.fields vs.toArray)) := by
    unfold PySem.newObjAsIs
    exact Kp.bind (Kp.alloc _) fun a => Kp.pure _
  exact Kp.ite (Kp.bind (Kp.unsupported _) fun _ => as) as
theorem Kp.readyFrames : ∀ l : List Env, Kp (PySem.readyFrames l)
  | [] => Kp.pure _
  | env :: outer => by
    unfold PySem.readyFrames
    split
    · refine Kp.bind (Kp.load _) fun o => Kp.ite (Kp.pure _) (Kp.bind ?_ fun _ => Kp.bind ?_ fun _ => Kp.bind ?_ fun _ => Kp.readyFrames outer)
      · unfold PySem.behindIsImport
        exact Kp.ite (Kp.pure _) (Kp.ite (Kp.pure _) (Kp.bind (Kp.field _ _) fun _ => Kp.pure _))
      · unfold PySem.keptBack
        split
        · exact Kp.ite (Kp.pure _) (Kp.bind (Kp.bind Kp.stack fun _ => Kp.pure _) fun _ => Kp.pure _)
        · exact Kp.pure _
      · exact Kp.update _ _ fun o vs h1 h2 => ⟨vs, h1, h2⟩
    · exact Kp.unsupported _
theorem Kp.frameOf (env : Env) : Kp (PySem.frameOf env) := by
  unfold PySem.frameOf
  refine Kp.bind (Kp.bind Kp.stack fun _ => Kp.pure _) fun l => Kp.bind ?_ fun r => ?_
  · unfold PySem.frameObject
    split
    · exact Kp.pure _
    · exact Kp.bind (Kp.readyFrames _) fun _ => Kp.pure _
  · split
    · exact Kp.pure _
    · exact Kp.unsupported _
theorem Kp.entryPlaceOf (f : Addr) (b : Bool) : Kp (PySem.entryPlaceOf f b) := by
  unfold PySem.entryPlaceOf
  refine Kp.bind Kp.stack fun acts => ?_
  split
  · exact Kp.pure _
  · exact Kp.pure _
theorem Kp.setFlight (v : Value) (f : Option Addr) : Kp (PySem.setFlight v f) := by
  unfold PySem.setFlight
  refine Kp.bind (Kp.field _ _) fun tb => Kp.ite (Kp.setField _ (by decide) _) (Kp.pure _)
theorem Kp.noteFrame (v : Value) (env : Env) : Kp (PySem.noteFrame v env) := by
  unfold PySem.noteFrame
  split
  · rename_i f _
    refine Kp.bind (Kp.field _ _) fun hd => ?_
    have rest : Kp (do PySem.setField v 1 (← EntryCells.newEntry hd (← PySem.frameOf env) .none (rawInt f) .none (← PySem.entryPlaceOf f (hd != .none)))) :=
      Kp.bind (Kp.frameOf env) fun _ => Kp.bind (Kp.entryPlaceOf _ _) fun _ => Kp.bind (Kp.newFields _ _) fun _ => Kp.setField _ (by decide) _
    refine Kp.ite (Kp.bind (Kp.field _ _) fun _ => Kp.ite (Kp.pure _) (Kp.bind (Kp.setField _ (by decide) _) fun _ => rest)) rest
  · exact Kp.unsupported _
theorem Kp.leaving (env : Env) (v : Value) : Kp (PySem.leaving env v) := by
  unfold PySem.leaving
  exact Kp.bind (Kp.noteFrame _ _) fun _ => Kp.setFlight _ _
theorem Kp.any {t : Sem α} (k : Kp t) {M : Model} {A : Around} {Q : α → Shared → Prop} {E : Value → Shared → Prop} {s : Shared} {e : Addr} (x : Ctx0 e s.heap) (h : wpAny M A t Q E s) : wpAny M A t (fun a s' => Q a s' ∧ Ctx0 e s'.heap) E s := fun Γ p hΓ => k M Γ _ _ p s e x (h Γ p hΓ)
end
noncomputable def FlyX (base : Heap) (l : List Env) (e : Addr) (cls a0 : Value) (h : Heap) : Prop := Heap.FlyingW base l e cls a0 h ∧ Ctx0 e h
section
variable {M : Model} {A : Around} {E : Value → Shared → Prop} {s : Shared} {base : Heap} {env : Env} {outer l : List Env} {L e : Addr} {cls a0 : Value} {Q : Unit → Shared → Prop}
theorem leaves_onX (hfr : A.frames = some (env :: outer)) (hf : env.frame = some L) (hfl : FlyX base (env :: outer) e cls a0 s.heap)
    (hQ : ∀ h', FlyX base outer e cls a0 h' → s.heap.UpToSlots h' → Q () { s with heap := h' }) : wpAny M A (leaving env (.ref e)) Q E s := by
  have w := wpAny_leaves_onW (M := M) (A := A) (E := E) (Q := fun _ s' => ∃ h', s' = { s with heap := h' } ∧ Heap.FlyingW base outer e cls a0 h' ∧ s.heap.UpToSlots h') hfr hf hfl.1 fun h' x1 x2 => ⟨h', rfl, x1, x2⟩
  refine wpAny_mono ((Kp.leaving env (.ref e)).any hfl.2 w) (fun a s' z => ?_) fun _ _ z => z
  obtain ⟨⟨h', rfl, x1, x2⟩, c⟩ := z
  exact hQ h' ⟨x1, c⟩ x2
theorem leaves_madeX {h : Heap} {args : List Value} (hfr : A.frames = some (env :: outer)) (hf : env.frame = some L) (hkb : base.StaysIn h) (hl : h.FunFrames base (env :: outer)) (hx : Heap.MadeExcOf h s.heap e cls args)
    (hQ : ∀ h' t, FlyX base outer e cls (.ref t) h' → h'.TupAt t args → base.get? t = none → s.heap.UpToSlots h' → Q () { s with heap := h' }) : wpAny M A (leaving env (.ref e)) Q E s := by
  have w := wpAny_leaves_madeW (M := M) (A := A) (E := E) (Q := fun _ s' => ∃ h' t, s' = { s with heap := h' } ∧ Heap.FlyingW base outer e cls (.ref t) h' ∧ h'.TupAt t args ∧ base.get? t = none ∧ s.heap.UpToSlots h') hfr hf hkb hl hx fun h' t x1 x2 x3 x4 => ⟨h', t, rfl, x1, x2, x3, x4⟩
  have c0 : Ctx0 e s.heap := by
    obtain ⟨t, h1, _⟩ := hx.there
    exact ⟨_, _, h1, rfl, rfl⟩
  refine wpAny_mono ((Kp.leaving env (.ref e)).any c0 w) (fun a s' z => ?_) fun _ _ z => z
  obtain ⟨⟨h', t, rfl, x1, x2, x3, x4⟩, c⟩ := z
  exact hQ h' t ⟨x1, c⟩ x2 x3 x4
theorem looks_onX (hfr : A.frames = some (env :: outer)) (hf : env.frame = some L) (hfl : FlyX base (env :: outer) e cls a0 s.heap)
    (hQ : ∀ h', Heap.HeldW base (env :: outer) e cls a0 L h' ∧ Ctx0 e h' → s.heap.UpToSlots h' → Q () { s with heap := h' }) : wpAny M A (noteFrame (.ref e) env) Q E s := by
  have w := wpAny_looks_onW (M := M) (A := A) (E := E) (Q := fun _ s' => ∃ h', s' = { s with heap := h' } ∧ Heap.HeldW base (env :: outer) e cls a0 L h' ∧ s.heap.UpToSlots h') hfr hf hfl.1 fun h' x1 x2 => ⟨h', rfl, x1, x2⟩
  refine wpAny_mono ((Kp.noteFrame (.ref e) env).any hfl.2 w) (fun a s' z => ?_) fun _ _ z => z
  obtain ⟨⟨h', rfl, x1, x2⟩, c⟩ := z
  exact hQ h' ⟨x1, c⟩ x2
theorem landsX (hh : Heap.HeldW base l e cls a0 L s.heap ∧ Ctx0 e s.heap) (hQ : ∀ h', FlyX base l e cls a0 h' → s.heap.UpToSlots h' → Q () { s with heap := h' }) : wpAny M A (setFlight (.ref e) none) Q E s := by
  have w := wpAny_landsW (M := M) (A := A) (E := E) (Q := fun _ s' => ∃ h', s' = { s with heap := h' } ∧ Heap.FlyingW base l e cls a0 h' ∧ s.heap.UpToSlots h') hh.1 fun h' x1 x2 => ⟨h', rfl, x1, x2⟩
  refine wpAny_mono ((Kp.setFlight (.ref e) none).any hh.2 w) (fun a s' z => ?_) fun _ _ z => z
  obtain ⟨⟨h', rfl, x1, x2⟩, c⟩ := z
  exact hQ h' ⟨x1, c⟩ x2
theorem lands_againX (hh : FlyX base l e cls a0 s.heap) (hQ : ∀ h', FlyX base l e cls a0 h' → s.heap.UpToSlots h' → Q () { s with heap := h' }) : wpAny M A (setFlight (.ref e) none) Q E s := by
  have w := lands_againW (M := M) (A := A) (E := E) (Q := fun _ s' => ∃ h', s' = { s with heap := h' } ∧ Heap.FlyingW base l e cls a0 h' ∧ s.heap.UpToSlots h') hh.1 fun h' x1 x2 => ⟨h', rfl, x1, x2⟩
  refine wpAny_mono ((Kp.setFlight (.ref e) none).any hh.2 w) (fun a s' z => ?_) fun _ _ z => z
  obtain ⟨⟨h', rfl, x1, x2⟩, c⟩ := z
  exact hQ h' ⟨x1, c⟩ x2
end
end L2
set_option maxRecDepth 100000
namespace L2
open PySem PySem.Spec PyProof.Rows
noncomputable def CX1 (P : Program) (w : World) : CXT := fun outer H s E e s' => ∃ (a C : Addr) (a0 : Value) (B : Heap) (H' : Hp), e = .ref a ∧ s'.os = s.os ∧ AllBare s'.gens ∧ Un (frs outer) [] H H' s.heap s'.heap ∧ HOk P w H' B ∧
  (∀ b o, s.heap.get? b = some o → H b = none → b ∉ frs outer → B.get? b = some o) ∧ (∀ b o, s.heap.get? b = some o → b ∉ frs outer → ∃ o', B.get? b = some o') ∧ FlyX B outer a (.ref C) a0 s'.heap ∧ E (.ref C) none H'
theorem cx1_none {P : Program} {w : World} {outer : List Env} {H : Hp} {s : Shared} {e : Value} {s' : Shared} (h : CX1 P w outer H s (fun _ _ _ => False) e s') : False := by
  obtain ⟨_, _, _, _, _, _, _, _, _, _, _, _, _, q⟩ := h
  exact q
theorem frs_mem {l : List Env} {env : Env} {b : Addr} (h : env ∈ l) (hf : env.frame = some b) : b ∈ frs l := List.mem_filterMap.mpr ⟨env, h, hf⟩
structure Tk (X : Cx) (F : St → XK) : Prop where
  pass : ∀ (pins : List (Addr × Obj)) (σ : St) (H : Hp) (s : Shared) (e : Value) (s' : Shared), Inv X pins σ H s → CX1 X.prog X.w X.stack H s (F σ) e s' → X.xe e s'
  own : PassesOwn (model X.prog X.w) X.A X.env X.xe
structure TkN (X : Cx) (F : St → XK) : Prop extends Tk X F where
  new : ∀ (pins : List (Addr × Obj)) (σ : St) (H : Hp) (s : Shared) (h' : Heap) (a C : Addr) (args : List Value), Inv X pins σ H s → Heap.MadeExcOf s.heap h' a (.ref C) args → F σ (.ref C) none H → X.xe (.ref a) { s with heap := h' }
section
variable {P : Program} {w : World} {K : PySem.W.Frag} {mg : Str → Option Value} {base : Heap} {N : List Str} {qual : Str} {scope : Scope} {f : Addr} {cdv : Value} {A : Around} {outer : List Env} {s : Shared} {H : Hp} {E : XK}
theorem tk_def : TkN (cxOf (CX1 P w) P w K mg base N qual scope f cdv A outer s H E) (fun _ => E) := by
  refine ⟨⟨fun pins σ H1 s1 e s2 I h => ?_, PassesOwn.leaving⟩, fun pins σ H1 s1 h' a C args I hm hE => ?_⟩
  · obtain ⟨a, C, a0, B, H', rfl, h1, h2, h3, h4, h5, h5', h6, h7⟩ := h
    have hfr : (A.deeper (envOfC qual scope s.heap.objs.size f cdv)).frames = some (envOfC qual scope s.heap.objs.size f cdv :: outer) := I.ok.frames
    refine leaves_onX hfr rfl h6 fun h3' hfl hup => ?_
    have nL : ∀ b o, s.heap.get? b = some o → b ≠ s.heap.objs.size := fun b o e => Nat.ne_of_lt (Heap.lt_size e)
    have inB : ∀ b o, s.heap.get? b = some o → H b = none → b ∉ frs outer → B.get? b = some o := fun b o e n hb => by
      refine h5 b o (I.base.keep b o e n hb (by simp [cxOf])) (I.base.free b o e n (by simp [cxOf])) fun z => ?_
      rcases List.mem_cons.mp (I.stkSub b z) with z | z
      · exact nL b o e z
      · exact hb z
    have thB : ∀ b o, s.heap.get? b = some o → b ∉ frs outer → ∃ o', B.get? b = some o' := fun b o e hb => by
      obtain ⟨o1, e1⟩ := I.base.there b o e (by simp [cxOf])
      refine h5' b o1 e1 fun z => ?_
      rcases List.mem_cons.mp (I.stkSub b z) with z | z
      · exact nL b o e z
      · exact hb z
    have frame : ∀ b o, s.heap.get? b = some o → b ∈ frs outer → ∃ sl, h3'.get? b = some { o with slots := sl } := fun b o e hb => by
      have n : H b = none := I.ok.frf b hb
      obtain ⟨sl, e1⟩ := I.base.slot b o e n hb (by simp [cxOf])
      obtain ⟨sl2, e2⟩ := h3.any e1 (I.base.free b o e n (by simp [cxOf])) (by simp)
      have hd : ∀ vs, o.data ≠ .fields vs := by
        obtain ⟨_, o', ho', hd'⟩ := I.ok.funs.mem hb
        have ho' : s.heap.get? b = some o' := ho'
        rw [e] at ho'
        cases ho'
        exact hd'
      obtain ⟨sl3, e3⟩ := hup b _ e2 hd
      exact ⟨sl3, e3⟩
    refine ⟨a, C, a0, B, H', rfl, h1.trans I.os, h2, ⟨fun b o e n hb _ => hfl.1.1 b o (inB b o e n hb), fun b o e n hb _ => frame b o e hb, fun b o e n _ => ?_, fun b o e _ => ?_, fun b xs e => h3.tups b xs (I.base.tups b xs e), fun b o u e => h3.frzs b o u (I.base.frzs b o u e), fun b ps e => ?_⟩, h4, inB, thB, hfl, h7⟩
    · obtain ⟨o', e1⟩ := I.base.there b o e (by simp [cxOf])
      exact h3.free b o' e1 (I.base.free b o e n (by simp [cxOf])) (by simp)
    · by_cases hb : b ∈ frs outer
      · obtain ⟨sl, e1⟩ := frame b o e hb
        exact ⟨_, e1⟩
      · obtain ⟨o', e1⟩ := thB b o e hb
        exact ⟨o', hfl.1.1 b o' e1⟩
    · obtain ⟨m1, e1⟩ := I.base.tbls b ps e
      obtain ⟨m2, e2⟩ := h3.tbls b _ e1
      exact ⟨m1 ++ m2, by rw [e2, Array.append_assoc]⟩
  · have hfr : (A.deeper (envOfC qual scope s.heap.objs.size f cdv)).frames = some (envOfC qual scope s.heap.objs.size f cdv :: outer) := I.ok.frames
    have hin : ∀ env ∈ (envOfC qual scope s.heap.objs.size f cdv :: outer), ∀ b, env.frame = some b → b ∈ frs (envOfC qual scope s.heap.objs.size f cdv :: outer) := fun env he b hb => frs_mem he hb
    have hfun : s1.heap.FunFrames (PySem.W.hideAll s1.heap (frs (envOfC qual scope s.heap.objs.size f cdv :: outer))) (envOfC qual scope s.heap.objs.size f cdv :: outer) := PySem.W.funFrames_hide I.stack hin
    refine leaves_madeX hfr rfl (fun b o e => PySem.W.of_hideAll _ e) hfun hm fun h2 t hfl htup ht hup => ?_
    have nL : ∀ b o, s.heap.get? b = some o → b ≠ s.heap.objs.size := fun b o e => Nat.ne_of_lt (Heap.lt_size e)
    have notf : ∀ b o, s.heap.get? b = some o → b ∉ frs outer → b ∉ frs (envOfC qual scope s.heap.objs.size f cdv :: outer) := fun b o e hb z => by
      rcases List.mem_cons.mp (I.stkSub b z) with z | z
      · exact nL b o e z
      · exact hb z
    have toB : ∀ b o, s1.heap.get? b = some o → b ∉ frs (envOfC qual scope s.heap.objs.size f cdv :: outer) → (PySem.W.hideAll s1.heap (frs (envOfC qual scope s.heap.objs.size f cdv :: outer))).get? b = some o := fun b o e hb => PySem.W.hideAll_get _ e hb
    have inB : ∀ b o, s.heap.get? b = some o → H b = none → b ∉ frs outer → (PySem.W.hideAll s1.heap (frs (envOfC qual scope s.heap.objs.size f cdv :: outer))).get? b = some o := fun b o e n hb => toB b o (I.base.keep b o e n hb (by simp [cxOf])) (notf b o e hb)
    have thB : ∀ b o, s.heap.get? b = some o → b ∉ frs outer → ∃ o', (PySem.W.hideAll s1.heap (frs (envOfC qual scope s.heap.objs.size f cdv :: outer))).get? b = some o' := fun b o e hb => by
      obtain ⟨o1, e1⟩ := I.base.there b o e (by simp [cxOf])
      exact ⟨o1, toB b o1 e1 (notf b o e hb)⟩
    have frame : ∀ b o, s.heap.get? b = some o → b ∈ frs outer → ∃ sl, h2.get? b = some { o with slots := sl } := fun b o e hb => by
      have n : H b = none := I.ok.frf b hb
      obtain ⟨sl, e1⟩ := I.base.slot b o e n hb (by simp [cxOf])
      have hd : ∀ vs, o.data ≠ .fields vs := by
        obtain ⟨_, o', ho', hd'⟩ := I.ok.funs.mem hb
        have ho' : s.heap.get? b = some o' := ho'
        rw [e] at ho'
        cases ho'
        exact hd'
      obtain ⟨sl3, e3⟩ := hup b _ (hm.keeps b _ e1) hd
      exact ⟨sl3, e3⟩
    have hokB : HOk P w H1 (PySem.W.hideAll s1.heap (frs (envOfC qual scope s.heap.objs.size f cdv :: outer))) := fun b o e => by
      refine (I.hok b o e).stay (fun d u hd z => toB d u z fun y => ?_) (fun _ z => z) fun _ _ z => z
      have := I.stkFree d y
      rcases hd with rfl | hd
      · rw [e] at this; cases this
      · rw [hd] at this; cases this
    refine ⟨a, C, .ref t, _, H1, rfl, I.os, I.bare, ⟨fun b o e n hb _ => hfl.1.1 b o (inB b o e n hb), fun b o e n hb _ => frame b o e hb, fun b o e n _ => I.base.free b o e n (by simp [cxOf]), fun b o e _ => ?_, I.base.tups, I.base.frzs, I.base.tbls⟩, hokB, inB, thB, hfl, hE⟩
    by_cases hb : b ∈ frs outer
    · obtain ⟨sl, e1⟩ := frame b o e hb
      exact ⟨_, e1⟩
    · obtain ⟨o', e1⟩ := thB b o e hb
      exact ⟨o', hfl.1.1 b o' e1⟩
end
end L2
namespace L2
open PySem PySem.Spec PyProof.Rows
abbrev VE : List Value := [.type "ValueError", .type "Exception", .type "BaseException", .type "object"]
noncomputable def clsMro (K : PySem.W.Frag) (C : Addr) : List Value := match K.lookup C with
  | some ⟨_, _, .cls cd, _⟩ => cd.mro
  | _ => []
noncomputable def ExC (K : PySem.W.Frag) (C : Addr) : Prop := PySem.W.excIn K C VE "ValueError.__new__" = true
theorem exc_obj {K : PySem.W.Frag} {h : Heap} {C : Addr} (X : K.In h) (q : ExC K C) : ∃ bm N nm qn bs hdct sn sub ab col dd k0 k1 k2 k3 k5 mN, h.get? C = some (excClassObj nm qn C N bs bm hdct sn sub ab col dd k0 k1 k2 k3 k5 "ValueError.__new__") ∧ h.Ns N mN ∧ mN "__init__" = none ∧ OwnTail h VE bm ∧ clsMro K C = .ref C :: bm := by
  unfold ExC PySem.W.excIn at q
  split at q
  · rename_i dd cd sl ho
    split at q
    · rename_i C' bm k0 k1 k2 k3 n k5 hm hs
      simp only [Bool.and_eq_true, beq_iff_eq, Bool.not_eq_true'] at q
      obtain ⟨⟨⟨⟨⟨rfl, rfl⟩, hdel⟩, ht⟩, hok⟩, hni⟩ := q
      obtain ⟨nm, bs, mro, ns, qn, hd, sn, sub, ab, col, del⟩ := cd
      dsimp only at hm hdel hok hni
      subst hm hdel
      have hsl : sl = #[k0, k1, k2, k3, some (.builtin "ValueError.__new__"), k5] := by
        obtain ⟨l⟩ := sl
        simp only at hs
        rw [hs]
      subst hsl
      exact ⟨bm, ns, nm, qn, bs, hd, sn, sub, ab, col, dd, k0, k1, k2, k3, k5, _, X _ _ ho, .of_isNs (PySem.W.isNs_of_in X hok), PySem.W.nsMap_none_of_in X hok hni, PySem.W.tail_of_in X ht, by unfold clsMro; rw [ho]⟩
    · cases q
  · cases q
section
variable {X : Cx} {F : St → XK} {x : Str} {C : Addr} {e : Expr} {es : List Expr} {t : TA} {np cpos pos : Pos}
noncomputable def tRaise (F : St → XK) (C : Addr) (t : TA) : TS := fun _ σ H => t σ H fun vs H1 => vs.length ≤ 1000 ∧ F σ (.ref C) none H1
theorem ps_raise (T : TkN X F) (hc : X.calm = true) (q : ExC X.K C) (hg : Gl X x) (hm : X.mg x = some (.ref C)) (ha : PA X (e :: es) t) (hdb : (x == ("__debug__" : Str)) = false := by decide)
    (he : starEach (e :: es) X.env = (false, eval e X.env) :: starEach es X.env := by rfl) (hpl : (backTo cpos (starEach es X.env)).any (·.1) = false := by rfl) : PS X (.Raise (some (.Call (.Name x np) (e :: es) [] cpos)) none pos) (tRaise F C t) := by
  intro pins s σ H D I h
  obtain ⟨bm, N, nm, qn, bs, hdct, sn, sub, ab, col, dd, k0, k1, k2, k3, k5, mN, hC, hN, hni, TL, _⟩ := exc_obj I.mod.kin q
  refine wpAny_Raise_call_subT (C := C) (nm := nm) (q := qn) (N := N) (bs := bs) (bm := bm) (hdct := hdct) (sn := sn) (sub := sub) (ab := ab) (col := col) (dd := dd) (k0 := k0) (k1 := k1) (k2 := k2) (k3 := k3) (k5 := k5) PySem.F.excBase_ValueError (mN := mN) (TL.hasType PySem.F.excBase_ValueError.hasBase) (I.ok.hd hc) ?_ hni ?_
  · rw [he]
    show (false || (backTo cpos (starEach es X.env)).any (·.1)) = false
    rw [hpl]
    rfl
  · refine ld_glob I hg hm ⟨rfl, ?_⟩ hdb
    have hp := ha cpos pins s σ H _ I h
    rw [he] at hp ⊢
    have hsl : sizeLine = 16777216 := sizeLine_eq
    refine Calls.evalArgs_plain (thn hp fun us s2 ⟨vs, H2, I2, rv, hl, hf⟩ => ⟨rfl, ?_, I2.bk _ _ hC, hN.keeps I2.bk, TL.keeps I2.bk, fun h' a hm => T.new pins σ H2 s2 h' a C us I2 hm hf⟩)
    have := rv.length
    show us.length ≤ sizeLine
    omega
end
section
variable {X : Cx} {pos : Pos}
noncomputable def numL (i : Int) : List Nat := L (toString i : Str)
end
end L2
set_option maxRecDepth 100000
namespace L2
open PySem PySem.Spec PyProof.Rows
structure FnX (P : Program) (w : World) (K : PySem.W.Frag) (mg : Str → Option Value) (base : Heap) (k : Nat) (x : Str) (ps : List Str) (sp : Sp) : Prop where
  ex : ∃ f fd, FnOk P w K mg base (CX1 P w) k f fd ps sp ∧ mg x = some (.ref f) ∧ PySem.W.keepIn K (.ref f) = true ∧ Binds K fd ps []
section
variable {P : Program} {w : World} {K : PySem.W.Frag} {mg : Str → Option Value} {base : Heap}
theorem FnX.mono {j k : Nat} {x : Str} {ps : List Str} {sp : Sp} (F : FnX P w K mg base j x ps sp) (h : j ≤ k) : FnX P w K mg base k x ps sp := by
  obtain ⟨f, fd, F, r⟩ := F.ex
  exact ⟨f, fd, F.mono h, r⟩
theorem FnX.quiet {k : Nat} {x : Str} {ps : List Str} {sp : Sp} (F : FnX P w K mg base k x ps sp) : Fn P w K mg base k x ps (fun vs H Q _ => sp vs H Q E0) := by
  obtain ⟨f, fd, F, r⟩ := F.ex
  refine ⟨f, fd, ⟨fun vs H Q E h => F.len vs H Q E0 h, fun A outer s H args us vs Q E hr e0 hb rv h => ?_⟩, r⟩
  refine codeAny_mono (F.run A outer s H args us vs Q E0 hr e0 hb rv h) fun r s' q => ?_
  cases r with
  | error e => exact (cx1_none q).elim
  | ok fl => cases fl <;> exact q
theorem Fun.okX {x qual : Str} {st : Stmt} {f : Addr} {fd : FuncData} {N ps : List Str} {k : Nat} {sp : Sp} (F : Fun K x qual st f fd) (S : FnScope N ps (defScope st)) (len : ∀ vs H Q E, sp vs H Q E → vs.length = ps.length)
    (hbody : ∀ (cdv : Value) (A : Around) (outer : List Env) (s : Shared) (H : Hp) (vs : List V) (Q : VK) (E : XK), Room k (A.deeper (envOfC qual (defScope st) s.heap.objs.size f cdv)) → sp vs H Q E →
      ∃ t, PSs (cxOf (CX1 P w) P w K mg base N qual (defScope st) f cdv A outer s H E) (defBody st) t ∧ t { nx := fun _ H' => Q .non H', rt := Q } (start N vs) H) : FnOk P w K mg base (CX1 P w) (k + 1) f fd ps sp := by
  obtain ⟨oc, od, kV, doc, pm, an, cdv, ct, osl, rfl, lk, hcd⟩ := F.ex
  exact fn_of lk hcd S len fun A outer s H vs Q E hr hsp => hbody cdv A outer s H vs Q E hr hsp
end
section
variable {X : Cx} {F : St → XK} {k : Nat} {x : Str} {ps : List Str} {sp : Sp} {p pos : Pos} {e : Expr} {es : List Expr} {t : TA}
noncomputable def tFnX (F : St → XK) (sp : Sp) (t : TA) : TE := fun σ H Q => t σ H fun vs H1 => sp vs H1 Q (F σ)
theorem pe_fnX (T : Tk X F) (G : FnX X.prog X.w X.K X.mg X.base k x ps sp) (hr : Room k X.A) (ha : PA X (e :: es) t) (hg : Gl X x := by rfl) (hdb : (x == ("__debug__" : Str)) = false := by decide)
    (he : starEach (e :: es) X.env = (false, eval e X.env) :: starEach es X.env := by rfl) (hpl : (backTo pos (starEach es X.env)).any (·.1) = false := by rfl) : PE X (.Call (.Name x p) (e :: es) [] pos) (tFnX F sp t) := by
  obtain ⟨f, fd, G, hm, hk, hb⟩ := G.ex
  intro pins s σ H Q I h
  refine wpAny_Call_Name_kw (ld_glob I hg hm ?_ hdb)
  refine PySem.W.callWith_K (h₀ := X.base) I.ok.mod.kin hk (thn (ha pos pins s σ H _ I h) fun us s1 ⟨vs, H1, I1, r, q⟩ => ⟨I1.kIn, ?_⟩) he hpl
  have hl : us.length = ps.length := by rw [← r.length]; exact G.len _ _ _ _ q
  refine wpAny_call (codeAny_mono (G.run X.A X.stack s1 H1 ⟨us, []⟩ us vs Q (F σ) hr I1.env0 (by simpa using hb s1 us I1.kIn (by simpa using hl)) r q) fun r s' hq => ?_)
  cases r with
  | error e => exact T.pass pins σ H1 s1 e s' I1 hq
  | ok fl =>
    cases fl with
    | ret u => exact I1.after hq
    | next => exact False.elim hq
    | brk => exact False.elim hq
    | cont => exact False.elim hq
end
structure Caught (X : Cx) (pins : List (Addr × Obj)) (σ : St) (H1 : Hp) (s1 : Shared) (a C : Addr) (a0 : Value) (B : Heap) (H : Hp) (s2 : Shared) : Prop where
  inv1 : Inv X pins σ H1 s1
  os : s2.os = s1.os
  bare : AllBare s2.gens
  un : Un (frs X.stack) [] H1 H s1.heap s2.heap
  hokB : HOk X.prog X.w H B
  keepB : ∀ b o, s1.heap.get? b = some o → H1 b = none → b ∉ frs X.stack → B.get? b = some o
  thB : ∀ b o, s1.heap.get? b = some o → b ∉ frs X.stack → ∃ o', B.get? b = some o'
noncomputable def ExcO (a C : Addr) : HO := .ext fun h => ∃ o vs, h.get? a = some o ∧ o.cls = .ref C ∧ o.data = .fields vs ∧ vs[2]? = some .none
section
variable {X : Cx} {pins : List (Addr × Obj)} {σ : St} {H1 H : Hp} {s1 s2 : Shared} {a C : Addr} {a0 : Value} {B h : Heap}
theorem Caught.inv (c : Caught X pins σ H1 s1 a C a0 B H s2) (hfl : FlyX B X.stack a (.ref C) a0 h) (hup : s2.heap.UpToSlots h) : Inv X pins σ H { s2 with heap := h } := by
  have I := c.inv1
  have fr : ∀ b o, s1.heap.get? b = some o → b ∈ frs X.stack → ∃ sl, h.get? b = some { o with slots := sl } := fun b o e hb => by
    obtain ⟨sl, e1⟩ := c.un.any e (I.stkFree b hb) (by simp)
    have hd : ∀ vs, o.data ≠ .fields vs := by
      obtain ⟨_, o', ho', hd'⟩ := I.stack.mem hb
      rw [e] at ho'
      cases ho'
      exact hd'
    obtain ⟨sl2, e2⟩ := hup b _ e1 hd
    exact ⟨sl2, e2⟩
  refine I.call' (s' := { s2 with heap := h }) (ch := []) c.os ⟨fun b o e n hb _ => hfl.1.1 b o (c.keepB b o e n hb), fun b o e n hb _ => fr b o e hb, c.un.free, fun b o e _ => ?_, c.un.tups, c.un.frzs, c.un.tbls⟩ (c.hokB.kept hfl.1.1) c.bare fun b z => absurd z (by simp)
  by_cases hb : b ∈ frs X.stack
  · obtain ⟨sl, e1⟩ := fr b o e hb
    exact ⟨_, e1⟩
  · obtain ⟨o', e1⟩ := c.thB b o e hb
    exact ⟨o', hfl.1.1 b o' e1⟩
theorem Inv.trackG {s : Shared} (I : Inv X pins σ H s) {D : Addr} {o : HO} (n0 : X.s₀.heap.get? D = none) (free : H D = none) (nl : D ≠ X.env.locals) (hc : ∀ x c, X.env.cells.lookup x = some c → c ≠ D) (np : ∀ p ∈ X.pn ++ pins, p.1 ≠ D) (new : ObjOk X.prog X.w (upd H D o) s.heap D o) : Inv X pins σ (upd H D o) s := by
  have ne : ∀ b u, H b = some u → b ≠ D := fun b u e => ne_of_none e free
  refine ⟨I.ok, I.os, I.bare, ⟨I.base.keep, I.base.slot, fun b u e n hx => ?_, I.base.there, fun b xs e => ?_, fun b u v e => ?_, fun b ps e => ?_⟩, I.loc, I.cell, ?_, fun x c e => ?_, fun p hp => ?_, fun b u e => ?_, I.len⟩
  · have hb : b ≠ D := by
      rintro rfl
      rw [n0] at e
      cases e
    rw [upd_ne hb]
    exact I.base.free b u e n hx
  · have := I.base.tups b xs e
    rw [upd_ne (ne b _ this)]
    exact this
  · have := I.base.frzs b u v e
    rw [upd_ne (ne b _ this)]
    exact this
  · obtain ⟨m, z⟩ := I.base.tbls b ps e
    exact ⟨m, by rw [upd_ne (ne b _ z)]; exact z⟩
  · rw [upd_ne (Ne.symm nl)]
    exact I.free
  · rw [upd_ne (hc x c e)]
    exact I.freeC x c e
  · obtain ⟨a1, a2, a3⟩ := I.pin p hp
    exact ⟨a1, by rw [upd_ne (np p hp)]; exact a2, a3⟩
  · by_cases hb : b = D
    · subst hb
      rw [upd_same] at e
      cases e
      exact new
    · rw [upd_ne hb] at e
      refine (I.hok b u e).stay (fun _ _ _ z => z) (fun d z => ?_) fun d xs z => ?_
      · rw [upd_ne (ne d _ z)]; exact z
      · rw [upd_ne (ne d _ z)]; exact z
theorem Caught.held (hex : X.ex = []) (c : Caught X pins σ H1 s1 a C a0 B H s2) (hfl : FlyX B X.stack a (.ref C) a0 h) (hup : s2.heap.UpToSlots h) : H a = none ∧ Inv X pins σ (upd H a (ExcO a C)) { s2 with heap := h } := by
  have I := c.inv hfl hup
  obtain ⟨oe, vs, T, oT, ts, g1, ⟨g2, _⟩, g3, _⟩ := hfl.1.2.2.2
  have g4 : vs[2]? = some Value.none := by
    obtain ⟨o2, vs2, k1, k2, k3⟩ := hfl.2
    rw [g1] at k1
    cases k1
    rw [g3] at k2
    cases k2
    exact k3
  have hBa : B.get? a = none := hfl.1.2.1
  have hHa : H a = none := by
    cases q : H a with
    | none => rfl
    | some o =>
      have ok := c.hokB a o q
      have l := ok.lt
      have ex : ∃ o', B.get? a = some o' := by
        cases o with
        | lst xs => obtain ⟨_, _, _, _, e⟩ := ok; exact ⟨_, e⟩
        | tup xs => obtain ⟨_, _, _, o', e, _⟩ := ok; exact ⟨_, e⟩
        | dK kvs => obtain ⟨_, _, _, _, o', _, _, e, _⟩ := ok; exact ⟨_, e⟩
        | dT kvs => exact False.elim ok
        | set S n => obtain ⟨o', _, _, _, e, _⟩ := ok; exact ⟨_, e⟩
        | ins C dx fs => obtain ⟨_, _, _, e, _⟩ := ok; exact ⟨_, e⟩
        | own y => exact ok
        | xd fs => obtain ⟨_, ⟨_, _, _, e, _⟩, _⟩ := ok; exact ⟨_, e⟩
        | rng lo hi => obtain ⟨_, _, _, e⟩ := ok; exact ⟨_, e⟩
        | frz ob u => obtain ⟨e, _⟩ := ok; exact ⟨_, e⟩
        | tbl ps => exact ⟨_, show B.get? a = some _ from ok⟩
        | met f y => exact ⟨_, show B.get? a = some _ from ok⟩
        | ext φ => obtain ⟨_, e, _⟩ := ok; exact e
      obtain ⟨o', e⟩ := ex
      rw [hBa] at e
      cases e
  have nstk : a ∉ frs X.stack := fun hb => by
    obtain ⟨_, o', ho', hd'⟩ := hfl.1.2.2.1.mem hb
    rw [g1] at ho'
    cases ho'
    exact hd' vs g3
  have ns1 : s1.heap.get? a = none := by
    cases q : s1.heap.get? a with
    | none => rfl
    | some o =>
      obtain ⟨o', e⟩ := c.thB a o q nstk
      rw [hBa] at e
      cases e
  have ns0 : X.s₀.heap.get? a = none := by
    cases q : X.s₀.heap.get? a with
    | none => rfl
    | some o =>
      obtain ⟨o', e⟩ := c.inv1.base.there a o q (by rw [hex]; simp)
      rw [ns1] at e
      cases e
  refine ⟨hHa, I.trackG ns0 hHa (fun z => ?_) (I.cellne g1 fun v z => by rw [g3] at z; cases z) (fun p hp z => ?_) ⟨⟨oe, vs, g1, g2, g3, g4⟩, ⟨oe, g1⟩, fun h1 h2 ⟨o, ws, e1, e2, e3⟩ k => ⟨o, ws, k o e1, e2, e3⟩⟩⟩
  · obtain ⟨m, ⟨o, es, ep, ho, hd, _⟩, _⟩ := I.loc
    have ho : h.get? X.env.locals = some o := ho
    rw [← z, g1] at ho
    cases ho
    rw [g3] at hd
    cases hd
  · have := (c.inv1.pin p hp).1
    rw [z, ns1] at this
    cases this
end
noncomputable def cxH (X : Cx) (a : Addr) (E : Value → Shared → Prop) : Cx := { X with A := X.A.mark (some (.ref a)), calm := false, xe := E }
section
variable {X : Cx} {pins : List (Addr × Obj)} {σ : St} {H : Hp} {s : Shared} {a : Addr} {E : Value → Shared → Prop}
theorem Inv.marked (I : Inv X pins σ H s) (a : Addr) (E : Value → Shared → Prop) : Inv (cxH X a E) pins σ H s :=
  ⟨⟨I.ok.mod, I.ok.kind, I.ok.glob, I.ok.blt, I.ok.above, I.ok.inj, I.ok.has, I.ok.cab, fun z => absurd (show false = true from z) Bool.false_ne_true, I.ok.frames, I.ok.stk, I.ok.exf, I.ok.bs, I.ok.bsz, I.ok.noex, I.ok.exfs, I.ok.funs, I.ok.frf⟩, I.os, I.bare, I.base, I.loc, I.cell, I.free, I.freeC, I.pin, I.hok, I.len⟩
theorem Inv.unmarked (hd : X.calm = true → X.A.handled = none) (I : Inv (cxH X a E) pins σ H s) : Inv X pins σ H s :=
  ⟨⟨I.ok.mod, I.ok.kind, I.ok.glob, I.ok.blt, I.ok.above, I.ok.inj, I.ok.has, I.ok.cab, hd, I.ok.frames, I.ok.stk, I.ok.exf, I.ok.bs, I.ok.bsz, I.ok.noex, I.ok.exfs, I.ok.funs, I.ok.frf⟩, I.os, I.bare, I.base, I.loc, I.cell, I.free, I.freeC, I.pin, I.hok, I.len⟩
theorem matches_own {M : Model} {A : Around} {E : Value → Shared → Prop} {K : PySem.W.Frag} {C C0 e : Addr} {oe : Obj} {Q : Bool → Shared → Prop} (KX : K.In s.heap) (hC : ExC K C) (hC0 : ExC K C0) (he : s.heap.get? e = some oe) (hcls : oe.cls = .ref C) (hq : Q ((clsMro K C).contains (.ref C0)) s) : wpAny M A (excMatches (.ref e) (.ref C0)) Q E s := by
  obtain ⟨bm, N, nm, qn, bs, hdct, sn, sub, ab, col, dd, k0, k1, k2, k3, k5, mN, g, _, _, TL, em⟩ := exc_obj KX hC
  obtain ⟨bm0, N0, nm0, qn0, bs0, hdct0, sn0, sub0, ab0, col0, dd0, k00, k10, k20, k30, k50, mN0, g0, _, _, TL0, em0⟩ := exc_obj KX hC0
  have hb0 : (Value.ref C0 :: bm0).contains (.type "BaseException") = true := by
    rw [List.contains_cons, TL0.hasType PySem.F.excBase_ValueError.hasBase, Bool.or_true]
  rw [em] at hq
  obtain ⟨hp, gn, d, tk, os⟩ := s
  unfold excMatches
  have nt := tc_notTuple
  repeat (first
    | (with_reducible refine wpAny_loadPart_at he ?_
       rw [hcls])
    | with_reducible refine wpAny_loadPart_at g0 ?_
    | (with_reducible refine wpAny_isSubtype_exc g0 ?_
       rw [hb0])
    | with_reducible refine wpAny_isSubtype_exc g ?_
    | wp_step)
  cases hz : (Value.ref C :: bm).contains (Value.ref C0)
  all_goals (rw [hz] at hq; wp_walk; exact hq)
end
end L2
set_option maxRecDepth 100000
namespace L2
open PySem PySem.Spec PyProof.Rows
noncomputable def PHs (X : Cx) (hs : List ExceptHandler) (th : Ends → St → XK) : Prop :=
  ∀ (pins : List (Addr × Obj)) (σ : St) (H1 : Hp) (s1 : Shared) (a C : Addr) (a0 : Value) (B : Heap) (H : Hp) (s2 : Shared) (h : Heap) (D : Ends), Caught X pins σ H1 s1 a C a0 B H s2 → FlyX B X.stack a (.ref C) a0 h → s2.heap.UpToSlots h → th D σ (.ref C) none H →
    wpAny (model X.prog X.w) X.A (handleBy (.ref a) X.env hs) (SP X pins D) X.xe { s2 with heap := h }
section
variable {X : Cx} {x n : Str} {C0 : Addr} {i : Nat} {np pos : Pos} {b₀ : Stmt} {suite : List Stmt} {rest : List ExceptHandler} {ts : TS} {th : Ends → St → XK}
theorem ph_nil : PHs X [] (fun _ _ _ _ _ => False) := fun _ _ _ _ _ _ _ _ _ _ _ _ _ _ _ z => z.elim
theorem SP.unmarked {X : Cx} {pins : List (Addr × Obj)} {a : Addr} {E : Value → Shared → Prop} {D : Ends} {f : Flow} {s' : Shared} (hd : X.calm = true → X.A.handled = none) (h : SP (cxH X a E) pins D f s') : SP X pins D f s' := by
  cases f with
  | next => obtain ⟨σ', H', I, q⟩ := h; exact ⟨σ', H', I.unmarked hd, q⟩
  | brk => obtain ⟨σ', H', I, q⟩ := h; exact ⟨σ', H', I.unmarked hd, q⟩
  | cont => obtain ⟨σ', H', I, q⟩ := h; exact ⟨σ', H', I.unmarked hd, q⟩
  | ret u => obtain ⟨v, σ', H', I, r, q⟩ := h; exact ⟨v, σ', H', I.unmarked hd, r, q⟩
noncomputable def unb (i : Nat) (D : Ends) : Ends := { nx := fun σ H => D.nx (σ.set i none) H, rt := D.rt, bk := fun σ H => D.bk (σ.set i none) H, ct := fun σ H => D.ct (σ.set i none) H }
theorem goes_ok {pins : List (Addr × Obj)} {σ : St} {H : Hp} {s : Shared} {M : Model} {A : Around} {E : Value → Shared → Prop} {Q : Unit → Shared → Prop} (I : Inv X pins σ H s) (hN : X.N.Nodup) (hi : X.N[i]? = some n) (hk : X.env.kindOf n = some .local)
    (h : ∀ s', Inv X pins (σ.set i none) H s' → Q () s') : wpAny M A (do bindName X.env n .none; unbindBehindTheSuite X.env n pos) Q E s := by
  obtain ⟨m, hn, hl⟩ := id I.loc
  refine wpAny_nameGoes_keeps hk hn (by rw [I.ok.kind]; rfl) fun h' v hn' hs => h _ ?_
  have hiσ : i < σ.length := by rw [I.len]; exact (List.getElem?_eq_some_iff.mp hi).1
  obtain ⟨oL, es, ep, hoL, hdL, _⟩ := id hn
  refine ⟨I.ok, I.os, I.bare, ⟨fun b o e nn hb hx => ?_, fun b o e nn hb hx => ?_, I.base.free, fun b o e hx => ?_, I.base.tups, I.base.frzs, I.base.tbls⟩, ⟨_, hn', fun j y v' e1 e2 e3 => ?_⟩, fun y c e => ?_, I.free, I.freeC, fun p hp => ?_, fun b ob e => ?_, by simpa using I.len⟩
  · exact (hs.2 b (Nat.ne_of_lt (Nat.lt_of_lt_of_le (Heap.lt_size e) I.ok.above))).trans (I.base.keep b o e nn hb hx)
  · obtain ⟨sl, e1⟩ := I.base.slot b o e nn hb hx
    exact ⟨sl, (hs.2 b (Nat.ne_of_lt (Nat.lt_of_lt_of_le (Heap.lt_size e) I.ok.above))).trans e1⟩
  · obtain ⟨o', e1⟩ := I.base.there b o e hx
    exact ⟨o', (hs.2 b (Nat.ne_of_lt (Nat.lt_of_lt_of_le (Heap.lt_size e) I.ok.above))).trans e1⟩
  · have hj : j ≠ i := by
      rintro rfl
      rw [List.getElem?_set_self hiσ] at e2
      cases e2
    rw [List.getElem?_set_ne (Ne.symm hj)] at e2
    obtain ⟨u', r', q⟩ := hl j y v' e1 e2 e3
    refine ⟨u', r', ?_⟩
    rcases q with ⟨k, e⟩ | ⟨k, c, e, z⟩
    · refine .inl ⟨k, ?_⟩
      have : y ≠ n := fun e => hj (nodup_ix hN e1 (e ▸ hi))
      simp [this, e]
    · exact .inr ⟨k, c, e, z.sameBut hs (I.cne y c e)⟩
  · obtain ⟨w', z⟩ := I.cell y c e
    exact ⟨w', z.sameBut hs (I.cne y c e)⟩
  · obtain ⟨e, nn, ne, nf, d⟩ := I.pin p hp
    exact ⟨(hs.2 p.1 ne).trans e, nn, ne, nf, d⟩
  · refine (I.hok b ob e).stay (fun c w' hc z => (hs.2 c ?_).trans z) (fun _ z => z) fun _ _ z => z
    rintro rfl
    rcases hc with z | hc
    · have := I.free
      rw [z, e] at this
      cases this
    · rw [I.free] at hc
      cases hc
noncomputable def tTry (tb : (St → XK) → TS) (th : Ends → St → XK) (te : TS) : TS := fun D σ H => tb (fun σ' => th D σ') { nx := fun σ' H' => te D σ' H', rt := D.rt, bk := D.bk, ct := D.ct } σ H
abbrev Cx.wishP (X : Cx) (pn : List (Addr × Obj)) (E : Value → Shared → Prop) : Cx := { X with pn := pn, xe := E }
theorem Inv.wishP {pins : List (Addr × Obj)} {σ : St} {H : Hp} {s : Shared} (I : Inv X pins σ H s) (E : Value → Shared → Prop) : Inv (X.wishP (X.pn ++ pins) E) [] σ H s :=
  ⟨⟨I.ok.mod, I.ok.kind, I.ok.glob, I.ok.blt, I.ok.above, I.ok.inj, I.ok.has, I.ok.cab, I.ok.hd, I.ok.frames, I.ok.stk, I.ok.exf, I.ok.bs, I.ok.bsz, I.ok.noex, I.ok.exfs, I.ok.funs, I.ok.frf⟩, I.os, I.bare, I.base, I.loc, I.cell, I.free, I.freeC, fun p hp => I.pin p (by simpa using hp), I.hok, I.len⟩
theorem Inv.unwishP {pins ps : List (Addr × Obj)} {σ : St} {H : Hp} {s : Shared} {E : Value → Shared → Prop} (I : Inv (X.wishP (X.pn ++ pins) E) ps σ H s) : Inv X pins σ H s :=
  ⟨⟨I.ok.mod, I.ok.kind, I.ok.glob, I.ok.blt, I.ok.above, I.ok.inj, I.ok.has, I.ok.cab, I.ok.hd, I.ok.frames, I.ok.stk, I.ok.exf, I.ok.bs, I.ok.bsz, I.ok.noex, I.ok.exfs, I.ok.funs, I.ok.frf⟩, I.os, I.bare, I.base, I.loc, I.cell, I.free, I.freeC, fun p hp => I.pin p (List.mem_append_left _ hp), I.hok, I.len⟩
theorem ps_try {body orelse : List Stmt} {h₀ : ExceptHandler} {hs : List ExceptHandler} {tb : (St → XK) → TS} {te : TS} (hst : X.stack = X.env :: X.outer) (hf : X.env.frame = some X.env.locals) (hb : ∀ pn E F, Tk (X.wishP pn E) F → PSs (X.wishP pn E) body (tb F)) (hh : PHs X (h₀ :: hs) th) (he : PSs X orelse te) :
    PS X (.Try body (h₀ :: hs) orelse [] pos) (tTry tb th te) := by
  intro pins s σ H D I q
  refine wpAny_Try_except ?_
  have hfr : X.A.frames = some (X.env :: X.outer) := by rw [← hst]; exact I.ok.frames
  have tk : Tk (X.wishP (X.pn ++ pins) (fun e s₁ => wpAny (model X.prog X.w) X.A (noteFrame e X.env) (fun _ s₂ => wpAny (model X.prog X.w) X.A (setFlight e none) (fun _ s₃ => wpAny (model X.prog X.w) X.A (handleBy e X.env (h₀ :: hs)) (SP X pins D) X.xe s₃) X.xe s₂) X.xe s₁)) (fun σ' => th D σ') := by
    refine ⟨fun ps σ' H1 s1 e s2 I1 hx => ?_, PassesOwn.looking⟩
    obtain ⟨a, C, a0, B, H', rfl, h1, h2, h3, h4, h5, h5', h6, h7⟩ := hx
    have c : Caught X pins σ' H1 s1 a C a0 B H' s2 := ⟨I1.unwishP, h1, h2, h3, h4, h5, h5'⟩
    have h6 : FlyX B (X.env :: X.outer) a (.ref C) a0 s2.heap := by rw [← hst]; exact h6
    refine looks_onX hfr hf h6 fun h4' hheld hup4 => landsX hheld fun h5' hfl5 hup5 => ?_
    refine hh pins σ' H1 s1 a C a0 B H' s2 h5' D c ?_ (hup4.trans hup5) h7
    rw [hst]
    exact hfl5
  refine wpAny_mono (hb _ _ _ tk [] s σ H _ (I.wishP _) q) (fun f s1 z => ?_) fun e s1 z => z
  cases f with
  | next => obtain ⟨σ', H', J, w'⟩ := z; exact he pins s1 σ' H' D J.unwishP w'
  | brk => obtain ⟨σ', H', J, w'⟩ := z; exact ⟨σ', H', J.unwishP, w'⟩
  | cont => obtain ⟨σ', H', J, w'⟩ := z; exact ⟨σ', H', J.unwishP, w'⟩
  | ret u => obtain ⟨v, σ', H', J, r, w'⟩ := z; exact ⟨v, σ', H', J.unwishP, r, w'⟩
end
end L2
set_option maxRecDepth 100000
namespace L2
open PySem PySem.Spec PySem.Calls PyProof.Rows PySem.Builtin PySem.Builtin.ObjectAttr PySem.Builtin.Getset_descriptor
structure ExcG (K : PySem.W.Frag) (C : Addr) : Prop where
  ga : PySem.W.findIn K (.ref C) "__getattribute__" = some (some (.builtin "BaseException.__getattribute__"))
  gh : PySem.W.findIn K (.ref C) "__getattr__" = some none
  cl : PySem.W.findIn K (.ref C) "__class__" = some (some (.builtin "object.__class__"))
  gt : PySem.W.specialIn K (.builtin "object.__class__") "__get__" = some (some (.builtin "getset_descriptor.__get__"))
  tk : PySem.W.takesIn K (.builtin "object.__class__") = some true
  mo : PySem.W.mroIn K C (.type "object") = some true
  mb : PySem.W.mroIn K C (.type "BaseException") = some true
theorem ExcG.is {K : PySem.W.Frag} {C : Addr} (G : ExcG K C) : (PySem.W.clsIn K C).isSome = true := by
  have h := G.mo
  unfold PySem.W.mroIn at h
  cases q : PySem.W.clsIn K C with
  | some _ => rfl
  | none => rw [q] at h; cases h
theorem mro_at {K : PySem.W.Frag} {C : Addr} {v : Value} {b : Bool} (h : PySem.W.mroIn K C v = some b) : (clsMro K C).contains v = b := by
  unfold PySem.W.mroIn PySem.W.clsIn at h
  unfold clsMro
  split at h
  · rename_i e
    rw [e]
    dsimp only [Option.bind_some] at h ⊢
    split at h
    · cases h
    · exact Option.some.inj h
  · cases h
section
variable {prog : Program} {w : World} {A : Around} {E : Value → Shared → Prop} {s : Shared} {K : PySem.W.Frag} {a C : Addr} {oe : Obj}
theorem exc_ty {M : Model} {h : Heap} (he : h.get? a = some oe) (hc : oe.cls = .ref C) : PySem.W.Looks M h (typeOf (.ref a)) (.ref C) := by
  rw [← hc]
  exact (PySem.W.Looks.ld he).andThen .now
theorem exc_find {M : Model} {h : Heap} (KX : K.In h) (G : ExcG K C) : PySem.W.Looks M h (find (.ref a) (.ref C) "__class__") (.bind (.builtin "getset_descriptor.__get__") (.builtin "object.__class__")) := by
  have l1 := PySem.W.looks_findIn (M := M) KX G.cl
  have l2 := PySem.W.looks_specialIn (M := M) KX G.gt
  have l3 := PySem.W.looks_takesIn (M := M) KX G.tk
  refine l1.andThen (PySem.W.Looks.andThen (show PySem.W.Looks M h (getOf (some (.builtin "object.__class__"))) _ from l2) (PySem.W.Looks.andThen (a := some (.builtin "getset_descriptor.__get__", .builtin "object.__class__")) (l3.andThen .now) ?_))
  exact PySem.W.Looks.tag .now
theorem exc_cls {R : Result → Shared → Prop} {tp : Value} (KX : K.In s.heap) (G : ExcG K C) (he : s.heap.get? a = some oe) (hc : oe.cls = .ref C)
    (h : R (.ok (.ret (.ref C))) s) : codeAny (model prog w) A (.call (.builtin "getset_descriptor.__get__") ⟨[.builtin "object.__class__", .ref a, tp], []⟩) R s := by
  obtain ⟨hp, gn, dr, tk, os⟩ := s
  have l0 := exc_ty (M := model prog w) he hc
  have l1 := PySem.W.looks_mroIn (M := model prog w) KX G.mo
  refine codeAny_call_builtin PySem.W.KF.slot_gs.plain PySem.W.KF.entry_gs (PySem.W.KF.slot_gs.check _ _ _ _ _ _ _ _ PySem.W.KF.type_class (PySem.W.KF.args_gs _ _ _) ?_)
  unfold Builtin.«getset_descriptor.__get__» descrGet
  rw [PySem.W.dga_obj]
  refine wpAny_bind (wpAny_pure ?_)
  unfold descrGetter descrCheckInstance descrNameAndClass isInstance
  simp only [PySem.W.KF.owner_class]
  repeat lk
  refine ⟨Code.quiet_builtin _ (by decide +kernel), codeAny_builtin PySem.W.KF.entry_class ?_⟩
  unfold Builtin.«object.__class__» shownTypeOf
  repeat lk
  exact h
theorem exc_check {M : Model} {v : Value} {Q : Unit → Shared → Prop} (KX : K.In s.heap) (G : ExcG K C) (he : s.heap.get? a = some oe) (hc : oe.cls = .ref C) (h : Q () s) :
    wpAny M A (checkBuiltinCall "BaseException.__getattribute__" ⟨[.ref a, v], []⟩) Q E s := by
  obtain ⟨hp, gn, dr, tk, os⟩ := s
  have k1 : builtinKind "BaseException.__getattribute__" = some .slot := by decide +kernel
  have k2 : splitId "BaseException.__getattribute__" = some ("BaseException", "__getattribute__") := by decide +kernel
  have ha := PySem.F.args_bexc_ga (.ref a) v
  have l0 := exc_ty (M := M) he hc
  have l1 := PySem.W.looks_mroIn (M := M) KX G.mb
  simp only [checkBuiltinCall, k1, k2]
  refine wpAny_bind ?_
  unfold isInstance
  refine (PySem.W.Looks.andThen l0 l1).at ?_
  repeat (first | assumption | wp_step)
theorem exc_get {tk : Tok} {Q : Value → Shared → Prop} (KX : K.In s.heap) (G : ExcG K C) (he : s.heap.get? a = some oe) (hc : oe.cls = .ref C) (h : Q (.ref C) s) :
    wpAny (model prog w) A (call (.builtin "BaseException.__getattribute__") [.ref a, .str "__class__" tk]) Q E s := by
  have l0 := exc_ty (M := model prog w) he hc
  have l1 := exc_find (M := model prog w) (a := a) KX G
  refine wpAny_call (codeAny_call_builtin PySem.F.excAttr_ValueError.ga.plain PySem.F.entry_bexc_ga (exc_check KX G he hc ?_))
  unfold Builtin.«object.__getattribute__»
  refine wpAny_bind (wpAny_pure (wpAny_bind (wpAny_pure (wpAny_bind (l0.at (wpAny_bind (l1.at ?_)))))))
  show wpAny _ _ (bindTo (.builtin "getset_descriptor.__get__") (.builtin "object.__class__") (.ref a) (.ref C)) _ _ s
  show wpAny _ _ (holding [Value.builtin "object.__class__"] (call (.builtin "getset_descriptor.__get__") [.builtin "object.__class__", .ref a, .ref C]) >>= ret) _ _ s
  exact wpAny_bind (wpAny_holding (wpAny_call (exc_cls KX G he hc (wpAny_pure h))))
theorem exc_bind (self : Value) : bindSpecial (.builtin "BaseException.__getattribute__") self = pure (.builtin "BaseException.__getattribute__", [self]) := PySem.F.excAttr_ValueError.ga.bind self
theorem exc_ca {Q : Option Value → Shared → Prop} (KX : K.In s.heap) (G : ExcG K C) (he : s.heap.get? a = some oe) (hc : oe.cls = .ref C) (h : Q (some (.ref C)) { s with toks := s.toks + 1 }) :
    wpAny (model prog w) A (getAttr? (.ref a) "__class__") Q E s := by
  obtain ⟨hp, gn, dr, tk, os⟩ := s
  have l0 := exc_ty (M := model prog w) he hc
  have l1 := PySem.W.looks_findIn (M := model prog w) KX G.ga
  have l2 := PySem.W.looks_findIn (M := model prog w) KX G.gh
  unfold getAttr? getAttrBy? getAttrBy
  refine wpAny_bind (wpAny_mkText (wpAny_bind (wpAny_attempt (wpAny_holding (wpAny_bind (l0.at (wpAny_bind (l1.at ?_))))))))
  show wpAny _ _ (getAttrByItsOwn (.ref a) _ (.ref C) (.builtin "BaseException.__getattribute__") false false) _ _ _
  unfold getAttrByItsOwn
  refine wpAny_bind (l2.at (wpAny_bind (wpAny_attempt (wpAny_holding ?_))))
  show wpAny _ _ (boundAndCalled (.builtin "BaseException.__getattribute__") (.ref a) _) _ _ _
  unfold boundAndCalled
  rw [exc_bind]
  refine wpAny_bind (wpAny_pure ?_)
  refine exc_get (s := ⟨hp, gn, dr, tk + 1, os⟩) KX G he hc ?_
  exact PySem.W.handed_on rfl (wpAny_pure h)
theorem kitx_exc (G : ExcG K C) : PySem.W.KitX K (.ref a) (.ref C) (fun h => ∃ o vs, h.get? a = some o ∧ o.cls = .ref C ∧ o.data = .fields vs) where
  ty := fun _ _ _ p => by
    obtain ⟨o, _, h1, h2, _⟩ := p
    exact exc_ty h1 h2
  it := fun M h KX _ => by
    have q := G.is
    unfold PySem.W.clsIn at q
    split at q
    · rename_i ho
      intro A' Q' E' s' k z
      unfold isType loadHead
      exact wpAny_bind (wpAny_loadPart (k _ _ (KX _ _ ho)) (wpAny_pure z))
    · cases q
  ne := fun h tp dd its n sl KX e => by
    have q := G.is
    unfold PySem.W.clsIn at q
    split at q
    · rename_i ho
      cases z : (Value.ref C == Value.ref tp) with
      | false => rfl
      | true =>
        cases Value.ref.inj (eq_of_beq z)
        have := (KX _ _ ho).symm.trans e
        cases this
    · cases q
  ca := fun KX p k => by
    obtain ⟨o, _, h1, h2, _⟩ := p
    exact exc_ca KX G h1 h2 k
end
section
variable {X : Cx} {pins : List (Addr × Obj)} {σ : St} {H : Hp} {s : Shared} {a C : Addr} {c : Value} {b : Bool}
theorem isi_exc {A : Around} {E : Value → Shared → Prop} {Q : Value → Shared → Prop} (I : Inv X pins σ H s) (G : ExcG X.K C) (e : H a = some (ExcO a C)) (q : PySem.W.kitOne X.K (.ref C) c = some b) (h : ∀ tk, Q (.bool b) { s with toks := tk }) :
    wpAny (model X.prog X.w) A (call (.builtin "isinstance") [.ref a, c]) Q E s := by
  obtain ⟨⟨o0, v0, z1, z2, z3, _⟩, _, _⟩ := I.hok a _ e
  have z : ∃ o vs, s.heap.get? a = some o ∧ o.cls = .ref C ∧ o.data = .fields vs := ⟨o0, v0, z1, z2, z3⟩
  exact PySem.W.kia_one (kitx_exc G) I.kIn z q (fun z => nomatch z) h
theorem isi_excs {A : Around} {E : Value → Shared → Prop} {Q : Value → Shared → Prop} {p : Addr} {cs : List Value} (I : Inv X pins σ H s) (G : ExcG X.K C) (e : H a = some (ExcO a C)) (ht : IsTup s.heap p cs.toArray) (q : PySem.W.kitAny X.K (.ref C) cs = some b) (h : ∀ tk, Q (.bool b) { s with toks := tk }) :
    wpAny (model X.prog X.w) A (call (.builtin "isinstance") [.ref a, .ref p]) Q E s := by
  obtain ⟨⟨o0, v0, z1, z2, z3, _⟩, _, _⟩ := I.hok a _ e
  have z : ∃ o vs, s.heap.get? a = some o ∧ o.cls = .ref C ∧ o.data = .fields vs := ⟨o0, v0, z1, z2, z3⟩
  obtain ⟨o, h1, h2, n, h3⟩ := ht
  obtain ⟨oc, od, oda, osl⟩ := o
  dsimp only at h2 h3
  subst h2 h3
  exact PySem.W.kia_tup (kitx_exc G) I.kIn z h1 q (fun z => nomatch z) h
theorem vals_refs : ∀ {ds : List Addr} {us : List Value}, Vals (ds.map V.ref) us → us = ds.map Value.ref
  | [], _, r => by cases r; rfl
  | d :: ds, _, r => by
    cases r with
    | cons r1 r2 =>
      cases r1
      rw [vals_refs r2]
      rfl
noncomputable def isxV (K : PySem.W.Frag) : List V → Hp → VK → Prop := fun xs H Q => match xs with
  | [.ref a, .ty n] => ∃ C b, H a = some (ExcO a C) ∧ ExcG K C ∧ PySem.W.kitOne K (.ref C) (.type n) = some b ∧ Q (.bl b) H
  | [.ref a, .ref c] => ∃ C b, H a = some (ExcO a C) ∧ ExcG K C ∧ Q (.bl b) H ∧ (PySem.W.kitOne K (.ref C) (.ref c) = some b ∨ ∃ ds : List Addr, SqT K H c (ds.map V.ref) ∧ PySem.W.kitAny K (.ref C) (ds.map Value.ref) = some b)
  | _ => False
theorem c_isx : CallR X (.builtin "isinstance") (isxV X.K) := by
  intro pins s σ H xs us Q I r h
  unfold isxV at h
  split at h
  · rename_i a n
    obtain ⟨C, b, e, G, q, h⟩ := h
    obtain ⟨u, w', rfl, ru, rw'⟩ := vals2 r
    cases ru
    cases rw'
    exact isi_exc I G e q fun tk => fin_bl (I.tok tk) h rfl
  · rename_i a c
    obtain ⟨C, b, e, G, h, q⟩ := h
    obtain ⟨u, w', rfl, ru, rw'⟩ := vals2 r
    cases ru
    cases rw'
    rcases q with q | ⟨ds, ht, q⟩
    · exact isi_exc I G e q fun tk => fin_bl (I.tok tk) h rfl
    · obtain ⟨its, rv, t, _⟩ := I.tuple ht
      have := vals_refs rv
      subst this
      exact isi_excs I G e t q fun tk => fin_bl (I.tok tk) h rfl
  · exact h.elim
theorem c_isxK {K : PySem.W.Frag} (h : X.K = K) : CallR X (.builtin "isinstance") (isxV K) := h ▸ c_isx
end
end L2
set_option maxRecDepth 100000
namespace L2
open PySem PySem.Spec PyProof.Rows
section
variable {X : Cx} {es : List Expr} {k : Nat} {tp : Pos}
end
end L2
set_option maxRecDepth 100000
namespace L2
open PySem PySem.Spec PyProof.Rows
section
variable {X : Cx}
noncomputable def putAt {α : Type} (xs : List α) (k : Nat) (y : α) : List α := xs.take k ++ y :: xs.drop k
theorem Vals.put {xs : List V} {us : List Value} {x : V} {u : Value} (h : Vals xs us) (r : RelV x u) (k : Nat) : Vals (putAt xs k x) (putAt us k u) := (h.take k).append (.cons r (h.drop k))
end
theorem bt_ValueError : bootBuiltins "ValueError" = some (.type "ValueError") := by decide +kernel
end L2
set_option maxRecDepth 100000
namespace LP
open PySem L2
noncomputable def Whole (ns : List Int) : Prop := ∀ k : Nat, k < ns.length → ns.count (k : Int) = 1
instance (ns : List Int) : Decidable (Whole ns) := inferInstanceAs (Decidable (∀ k : Nat, k < ns.length → ns.count (k : Int) = 1))
noncomputable def part (ns : List Int) (k : Nat) : List V := (List.range ns.length).map fun v : Nat => if (v : Int) ∈ ns.take k then V.int (ns.idxOf (v : Int)) else V.non
theorem upd_free {H : Hp} {a b : Addr} {o : HO} (h : upd H a o b = none) : H b = none ∧ b ≠ a := by
  by_cases e : b = a
  · subst e; rw [upd_same] at h; cases h
  · rw [upd_ne e] at h; exact ⟨h, e⟩
end LP
set_option maxRecDepth 100000
namespace L2
open PySem PySem.Spec PyProof.Rows
theorem SameN.src {K : PySem.W.Frag} {H H' : Hp} {a : Addr} {xs : List V} (e : SameN H H') (h : Src K H a xs) : Src K H' a xs := by
  rcases h with h | h | ⟨lo, hi, h, r⟩
  · exact .inl (e.seq h)
  · rcases h with (h | ⟨o, h⟩) | h
    · exact .inr (.inl (.inl (.inl (e.at h (by intro ps z; cases z)))))
    · exact .inr (.inl (.inl (.inr ⟨o, e.at h (by intro ps z; cases z)⟩)))
    · exact .inr (.inl (.inr h))
  · exact .inr (.inr ⟨lo, hi, e.at h (by intro ps z; cases z), r⟩)
section
variable {X : Cx} {c P : Addr} {params : Arguments} {body : Expr} {scope : Scope} {cl : List (Str × Addr)} {cp : List (Str × Nat)} {x : Str} {q : Str} {e : Expr} {ta : TA} {te : TE} {np lp kp pos : Pos}
end
end L2
namespace L2
open PySem PySem.Spec PyProof.Rows
structure Lm (mg : Str → Option Value) (base : Heap) (c P : Addr) : Prop where
  hd : PySem.W.CodeHd base c P
  bm : ∃ bm ob, mg "__builtins__" = some (.ref bm) ∧ bm ≠ builtinsNs ∧ base.get? bm = some ob ∧ ob.cls = .type "module" ∧ ob.dict = some builtinsNs ∧ ob.data = .plain
theorem Lm.at {X : Cx} {c P : Addr} (L : Lm X.mg X.base c P) (h : X.env.code = .ref c) : LamAt X c P := ⟨h, L.hd, L.bm⟩
section
variable {P : Program} {w : World} {K : PySem.W.Frag} {mg : Str → Option Value} {base : Heap}
end
end L2
set_option maxRecDepth 100000
namespace L2
open PySem PySem.Spec PyProof.Rows
section
variable {X : Cx} {pins : List (Addr × Obj)} {σ : St} {H : Hp} {s : Shared}
end
end L2
set_option maxRecDepth 100000
namespace L2
open PySem PySem.Spec PyProof.Rows
section
variable {X : Cx}
theorem PFs.imp {ifs : List Expr} {t t' : TT} (h : PFs X ifs t) (hi : ∀ σ H Q, t' σ H Q → ∃ Q0 : Bool → Hp → Prop, t σ H Q0 ∧ ∀ b H', Q0 b H' → Q b H') : PFs X ifs t' := fun pins s σ H Q I q => by
  obtain ⟨Q0, h0, h1⟩ := hi σ H Q q
  exact thn (h pins s σ H Q0 I h0) fun b s1 ⟨H1, I1, q⟩ => ⟨H1, I1, h1 b H1 q⟩
noncomputable def oneC (tc : TT) (te : TE) (σ : St) (acc : List V) (N : Hp → List V → Prop) (H : Hp) : Prop := tc σ H fun b H3 => if b = true then te σ H3 fun y H4 => N H4 (acc ++ [y]) else N H3 acc
noncomputable def cloE (te : TE) : TE := fun σ H Q => ∃ Q0 : VK, te σ H Q0 ∧ ∀ v H', Q0 v H' → Q v H'
noncomputable def cloT (tc : TT) : TT := fun σ H Q => ∃ Q0 : Bool → Hp → Prop, tc σ H Q0 ∧ ∀ b H', Q0 b H' → Q b H'
theorem oneC_clo {tc : TT} {te : TE} {σ : St} {acc : List V} {N N' : Hp → List V → Prop} {H : Hp} (hN : ∀ H a, a.length ≤ acc.length + 1 → N H a → N' H a) (h : oneC tc te σ acc N H) : oneC (cloT tc) (cloE te) σ acc N' H := by
  refine ⟨_, h, fun b H3 q => ?_⟩
  cases b with
  | true => exact ⟨_, q, fun y H4 q4 => hN _ _ (by simp) q4⟩
  | false => exact hN _ _ (by omega) q
noncomputable def tCL (K : PySem.W.Frag) (n : Nat) (cp : List (Str × Nat)) (tl : TE) (tc : TT) (te : TE) : TE := fun σ H Q => tl σ H fun v H1 => match v with
  | .ref a => ∃ xs, SqL K H1 a xs ∧ xs.length < 16777216 ∧ ∃ Pv : Nat → Hp → List V → Prop, Pv 0 H1 [] ∧ (∀ i H2 acc, i ≤ xs.length → Pv i H2 acc → SqL K H2 a xs) ∧ (∀ i y H2 acc, xs[i]? = some y → Pv i H2 acc → oneC tc te ((capS n cp σ).set 0 (some y)) acc (Pv (i + 1)) H2) ∧ ∀ H2 acc, Pv xs.length H2 acc → ∀ l, H2 l = none → Q (.ref l) (upd H2 l (.lst acc))
  | _ => False
theorem pe_compL {K : PySem.W.Frag} {elt iter : Expr} {ifs : List Expr} {x : Str} {px : Pos} {scope : Scope} {pos : Pos} {cl : List (Str × Addr)} {own : List Str} {cp : List (Str × Nat)} {tl : TE} {tc : TT} {te : TE} (hK : X.K = K)
    (hc : X.calm = true) (hcl : closL scope.names X.env.cells [] = some cl) (hk : scope.kind = .function) (hnc : ∀ y ∈ scope.names, y.2 ≠ .cell)
    (hnm : ∀ x ∈ scope.names, x.2 = .local → scope.names.lookup x.1 = some .local) (hcp : CapOk X scope cp) (hl : PE X iter tl) (hn : 0 < own.length)
    (hg : ∀ fp C s H, PG (cxC X scope cl (own ++ cp.map (·.1)) fp C s H) (.Name x px) (gName 0)) (ht : ∀ fp C s H, PFs (cxC X scope cl (own ++ cp.map (·.1)) fp C s H) ifs tc) (he : ∀ fp C s H, PE (cxC X scope cl (own ++ cp.map (·.1)) fp C s H) elt te)
    (hs : ∀ z, foldedSetIterable iter X.env z = pure z := by intro _; rfl) : PE X (.ListComp elt [⟨.Name x px, iter, ifs, 0⟩] scope pos) (tCL K own.length cp tl tc te) := by
  subst hK
  have hl' : PE X iter (fun σ H Q => ∃ Q0 : VK, tl σ H Q0 ∧ ∀ v H', Q0 v H' → Q v H') := hl.imp fun σ H Q h => h
  intro pins s σ H Q I h
  refine pe_comp hc hcl hk hnc hnm hcp (pi_list hl') (gk_name hn) hg (fun fp C s H => (ht fp C s H).imp (t' := cloT tc) fun _ _ _ z => z) (fun fp C s H => (he fp C s H).imp (t' := cloE te) fun _ _ _ z => z) hs pins s σ H Q I ?_
  refine ⟨_, h, fun v H1 q => ?_⟩
  cases v with
  | ref a =>
    obtain ⟨xs, hx, hz, Pv, p0, pl, ps, pe⟩ := q
    have hsl : sizeLine = 16777216 := sizeLine_eq
    refine ⟨a, rfl, ⟨xs, hx⟩, fun i m H2 acc => m = xs.length - i ∧ i ≤ xs.length ∧ acc.length ≤ i ∧ Pv i H2 acc, ⟨xs.length, by omega, Nat.zero_le _, Nat.le_refl _, p0⟩, ?_⟩
    rintro i m H2 acc ⟨rfl, hi, hla, pv'⟩
    refine ⟨by omega, ?_⟩
    have hx2 := pl i H2 acc hi pv'
    by_cases hlt : i < xs.length
    · refine .inr ⟨⟨xs, xs[i], hx2, by simp [hlt]⟩, fun y H3 ⟨e3, ey⟩ => ?_⟩
      subst e3
      exact oneC_clo (N' := fun H a => ∃ m', m' < xs.length - i ∧ (m' = xs.length - (i + 1) ∧ i + 1 ≤ xs.length ∧ a.length ≤ i + 1 ∧ Pv (i + 1) H a)) (fun H a ha z => ⟨xs.length - (i + 1), by omega, rfl, hlt, by omega, z⟩) (ps i y H3 acc (ey xs hx2) pv')
    · have e : i = xs.length := by omega
      subst e
      exact .inl ⟨⟨xs, hx2, Nat.le_refl _⟩, fun l hl' => pe H2 acc pv' l hl'⟩
  | _ => exact False.elim q
end
end L2
set_option maxRecDepth 100000
namespace L2
open PySem PySem.Spec PyProof.Rows
section
variable {P : Program} {w : World} {K : PySem.W.Frag} {tg : Expr}
end
section
variable {X : Cx} {tg : Expr}
end
end L2
set_option maxRecDepth 100000
namespace L2
open PySem PySem.Spec PyProof.Rows
section
variable {κ : Type} [DecidableEq κ]
noncomputable def valV (kvs : List (κ × V)) (k : κ) : Option V := (kvs.find? fun kv => decide (kv.1 = k)).map (·.2)
noncomputable def putK (kvs : List (κ × V)) (k : κ) (v : V) : List (κ × V) :=
  if (kvs.any fun kv => decide (kv.1 = k)) = true then kvs.map (fun kv => if kv.1 = k then (kv.1, v) else kv) else kvs ++ [(k, v)]
noncomputable def dropK (kvs : List (κ × V)) (k : κ) : List (κ × V) := kvs.filter fun kv => decide (kv.1 ≠ k)
theorem valV_pos {p : κ × V} {r : List (κ × V)} {k : κ} (e : p.1 = k) : valV (p :: r) k = some p.2 := by simp [valV, List.find?_cons, e]
theorem valV_neg {p : κ × V} {r : List (κ × V)} {k : κ} (e : ¬ p.1 = k) : valV (p :: r) k = valV r k := by simp [valV, List.find?_cons, e]
theorem valV_any (k : κ) : ∀ kvs : List (κ × V), (kvs.any fun kv => decide (kv.1 = k)) = (valV kvs k).isSome
  | [] => rfl
  | p :: r => by
    rw [List.any_cons]
    by_cases e : p.1 = k
    · simp only [valV_pos e, decide_eq_true e, Bool.true_or, Option.isSome_some]
    · rw [valV_neg e, decide_eq_false e, Bool.false_or]; exact valV_any k r
theorem valV_map (k j : κ) (y : V) : ∀ kvs : List (κ × V), valV (kvs.map fun kv => if kv.1 = k then (kv.1, y) else kv) j = (valV kvs j).map fun x => if j = k then y else x
  | [] => rfl
  | p :: r => by
    have ih := valV_map k j y r
    rw [List.map_cons]
    by_cases h : p.1 = k
    · rw [if_pos h]
      by_cases e : p.1 = j
      · rw [valV_pos (p := (p.1, y)) e, valV_pos e, Option.map_some, if_pos (e.symm.trans h)]
      · rw [valV_neg (p := (p.1, y)) e, valV_neg e, ih]
    · rw [if_neg h]
      by_cases e : p.1 = j
      · rw [valV_pos (p := p) e, valV_pos e, Option.map_some, if_neg (fun z => h (e.trans z))]
      · rw [valV_neg (p := p) e, valV_neg e, ih]
theorem valV_snoc (k j : κ) (y : V) : ∀ kvs : List (κ × V), valV kvs k = none → valV (kvs ++ [(k, y)]) j = if j = k then some y else valV kvs j
  | [], _ => by
    by_cases e : k = j
    · rw [if_pos e.symm]; exact valV_pos (p := (k, y)) e
    · rw [if_neg (fun z => e z.symm)]; exact valV_neg (p := (k, y)) e
  | p :: r, hn => by
    rw [List.cons_append]
    have hk : ¬ p.1 = k := fun z => by rw [valV_pos z] at hn; cases hn
    rw [valV_neg hk] at hn
    have ih := valV_snoc k j y r hn
    by_cases e : p.1 = j
    · rw [valV_pos e, valV_pos e, if_neg (fun z => hk (e.trans z))]
    · rw [valV_neg e, valV_neg e, ih]
theorem valV_put (kvs : List (κ × V)) (k j : κ) (y : V) : valV (putK kvs k y) j = if j = k then some y else valV kvs j := by
  unfold putK
  by_cases a : (kvs.any fun kv => decide (kv.1 = k)) = true
  · rw [if_pos a, valV_map]
    rw [valV_any] at a
    by_cases e : j = k
    · obtain ⟨x, hx⟩ := Option.isSome_iff_exists.mp a
      rw [if_pos e, e, hx, Option.map_some, if_pos rfl]
    · rw [if_neg e]
      cases valV kvs j with
      | none => rfl
      | some x => rw [Option.map_some, if_neg e]
  · rw [if_neg a]
    refine valV_snoc k j y kvs ?_
    rw [valV_any] at a
    cases q : valV kvs k with
    | none => rfl
    | some x => rw [q] at a; exact (a rfl).elim
theorem length_putK (kvs : List (κ × V)) (k : κ) (v : V) : (putK kvs k v).length ≤ kvs.length + 1 := by
  unfold putK
  split
  · rw [List.length_map]; omega
  · rw [List.length_append, List.length_cons, List.length_nil]; omega
theorem RelO.isSome_eq {o : Option V} {u : Option Value} (r : RelO o u) : o.isSome = u.isSome := by
  cases o with
  | none => cases u with
    | none => rfl
    | some _ => exact (show False from r).elim
  | some _ => cases u with
    | none => exact (show False from r).elim
    | some _ => rfl
theorem RelO.getD {o : Option V} {u : Option Value} {d : V} {d' : Value} (r : RelO o u) (rd : RelV d d') : RelV (o.getD d) (u.getD d') := by
  cases o with
  | none => cases u with
    | none => exact rd
    | some _ => exact (show False from r).elim
  | some _ => cases u with
    | none => exact (show False from r).elim
    | some _ => exact r
theorem KV.val {kvs : List (κ × V)} {vs : List (κ × Value)} (r : KV kvs vs) (k : κ) : RelO (valV kvs k) (valueAt vs k) := by
  unfold KV at r
  induction r with
  | nil => exact True.intro
  | @cons p q ps qs h t ih =>
    obtain ⟨h1, h2⟩ := h
    by_cases e : p.1 = k
    · have e' : q.1 = k := h1.symm.trans e
      have b : valueAt (q :: qs) k = some q.2 := by simp [valueAt, List.find?_cons, e']
      rw [valV_pos e, b]; exact h2
    · have e' : ¬ q.1 = k := fun z => e (h1.trans z)
      have b : valueAt (q :: qs) k = valueAt qs k := by simp [valueAt, List.find?_cons, e']
      rw [valV_neg e, b]; exact ih
theorem KV.any {kvs : List (κ × V)} {vs : List (κ × Value)} (r : KV kvs vs) (k : κ) : (kvs.any fun kv => decide (kv.1 = k)) = vs.any fun kv => decide (kv.1 = k) := by
  unfold KV at r
  induction r with
  | nil => rfl
  | cons h t ih => rw [List.any_cons, List.any_cons, ih, h.1]
theorem KV.repl {kvs : List (κ × V)} {vs : List (κ × Value)} (r : KV kvs vs) (k : κ) {y : V} {u : Value} (ry : RelV y u) :
    KV (kvs.map fun kv => if kv.1 = k then (kv.1, y) else kv) (vs.map fun kv => if kv.1 = k then (kv.1, u) else kv) := by
  unfold KV at r ⊢
  induction r with
  | nil => exact .nil
  | @cons p q ps qs h t ih =>
    rw [List.map_cons, List.map_cons]
    refine .cons ?_ ih
    obtain ⟨h1, h2⟩ := h
    by_cases e : p.1 = k
    · rw [if_pos e, if_pos (h1.symm.trans e)]; exact ⟨h1, ry⟩
    · rw [if_neg e, if_neg (fun z => e (h1.trans z))]; exact ⟨h1, h2⟩
theorem KV.put {kvs : List (κ × V)} {vs : List (κ × Value)} (r : KV kvs vs) (k : κ) {y : V} {u : Value} (ry : RelV y u) : KV (putK kvs k y) (stored vs k u) := by
  unfold putK stored
  rw [r.any k]
  by_cases e : (vs.any fun kv => decide (kv.1 = k)) = true
  · rw [if_pos e, if_pos e]; exact r.repl k ry
  · rw [if_neg e, if_neg e]; exact Paired.snoc r ⟨rfl, ry⟩
theorem KV.drop {kvs : List (κ × V)} {vs : List (κ × Value)} (r : KV kvs vs) (k : κ) : KV (dropK kvs k) (without vs k) := by
  unfold KV at r ⊢
  unfold dropK without
  induction r with
  | nil => exact .nil
  | @cons p q ps qs h t ih =>
    obtain ⟨h1, h2⟩ := h
    rw [List.filter_cons, List.filter_cons]
    by_cases e : p.1 = k
    · have a : ¬ decide (p.1 ≠ k) = true := by simp [e]
      have b : ¬ decide (q.1 ≠ k) = true := by simp [h1.symm.trans e]
      rw [if_neg a, if_neg b]; exact ih
    · have e' : ¬ q.1 = k := fun z => e (h1.trans z)
      have a : decide (p.1 ≠ k) = true := by simp [e]
      have b : decide (q.1 ≠ k) = true := by simp [e']
      rw [if_pos a, if_pos b]; exact .cons ⟨h1, h2⟩ ih
theorem KV.length {kvs : List (κ × V)} {vs : List (κ × Value)} (r : KV kvs vs) : kvs.length = vs.length := Paired.length r
end
theorem kV_is {P : Program} {w : World} {k : Key} {u : Value} (r : RelV (kV k) u) : (mixKind P w).is k u = true := by
  cases k with
  | inl i => obtain ⟨t, e⟩ := (show ∃ t, u = Value.int i t from r); subst e; exact mixKind_int P w i t
  | inr x => obtain ⟨t, e⟩ := (show ∃ t, u = Value.str x t from r); subst e; exact mixKind_str P w x t
theorem items_are {P : Program} {w : World} : ∀ {ks : List Key} {us : List Value}, Vals (ks.map kV) us → ItemsAre (mixKind P w) ks us
  | [], _, r => by rw [List.map_nil] at r; cases r; exact .nil
  | k :: ks, _, r => by
    rw [List.map_cons] at r
    cases r with
    | cons h t => exact .cons (kV_is h) (items_are t)
abbrev KT (H : Hp) : List (List Key × V) → List (List Key × Addr × Value) → Prop := Paired fun p q => p.1 = q.1 ∧ H q.2.1 = some (.tup (p.1.map kV)) ∧ RelV p.2 q.2.2
theorem KT.val {H : Hp} {kvs : List (List Key × V)} {xs : List (List Key × Addr × Value)} (r : KT H kvs xs) (k : List Key) : RelO (valV kvs k) ((atKey xs k).map (·.2)) := by
  induction r with
  | nil => exact True.intro
  | @cons p q ps qs h t ih =>
    obtain ⟨h1, _, h2⟩ := h
    by_cases e : p.1 = k
    · have e' : q.1 = k := h1.symm.trans e
      have b : atKey (q :: qs) k = some q.2 := by simp [atKey, List.find?_cons, e']
      rw [valV_pos e, b]; exact h2
    · have e' : ¬ q.1 = k := fun z => e (h1.trans z)
      have b : atKey (q :: qs) k = atKey qs k := by simp [atKey, List.find?_cons, e']
      rw [valV_neg e, b]; exact ih
theorem KT.keeps {H H' : Hp} {kvs : List (List Key × V)} {xs : List (List Key × Addr × Value)} (r : KT H kvs xs) (ht : ∀ b ys, H b = some (.tup ys) → H' b = some (.tup ys)) : KT H' kvs xs :=
  Paired.mapP r fun _ _ z => ⟨z.1, ht _ _ z.2.1, z.2.2⟩
section
variable {P : Program} {w : World} {H : Hp} {h : Heap} {a : Addr}
theorem rd_of {u : HO} (ok : HOk P w H h) (e : Rd H a u) : ObjOk P w H h a u := e.ok ok
theorem dk_rd {kvs : List (Key × V)} (ok : HOk P w H h) (e : Rd H a (.dK kvs)) : kvs.length ≤ sizeLine ∧ (a == sysModules) = false ∧ ∃ vs, KV kvs vs ∧ h.DictOf (mixKind P w) a vs :=
  show ObjOk P w H h a (.dK kvs) from rd_of ok e
theorem dk_of {kvs : List (Key × V)} (ok : HOk P w H h) (e : H a = some (.dK kvs)) : kvs.length ≤ sizeLine ∧ (a == sysModules) = false ∧ ∃ vs, KV kvs vs ∧ h.DictOf (mixKind P w) a vs := dk_rd ok (.inl e)
theorem key_of {ks : List Key} (ok : HOk P w H h) (e : H a = some (.tup (ks.map kV))) : (tupleKind (mixKind P w)).is h ks a := by
  obtain ⟨_, its, r, o, h1, h2, n, h3⟩ := (show ObjOk P w H h a (.tup (ks.map kV)) from ok a _ e)
  exact ⟨o, its.toArray, n, h1, h2, h3, by simpa using items_are r⟩
theorem dt_rd {kvs : List (List Key × V)} (ok : HOk P w H h) (e : Rd H a (.dT kvs)) : kvs.length ≤ sizeLine ∧ (a == sysModules) = false ∧
    ∃ xs, KT H kvs xs ∧ h.DictOfH (tupleKind (mixKind P w)) a xs := by
  exact False.elim (show ObjOk P w H h a (.dT kvs) from rd_of ok e)
end
noncomputable def DGet (H : Hp) (a : Addr) (y : V) (r : Option V) : Prop :=
  (∃ kvs k, Rd H a (.dK kvs) ∧ y = kV k ∧ r = valV kvs k) ∨ ∃ kvs k b, Rd H a (.dT kvs) ∧ y = .ref b ∧ H b = some (.tup (k.map kV)) ∧ r = valV kvs k
noncomputable def DPut (H : Hp) (a : Addr) (y v : V) (H' : Hp) : Prop :=
  (∃ kvs k, H a = some (.dK kvs) ∧ y = kV k ∧ kvs.length < sizeLine ∧ H' = upd H a (.dK (putK kvs k v))) ∨
  ∃ kvs k b, H a = some (.dT kvs) ∧ y = .ref b ∧ H b = some (.tup (k.map kV)) ∧ kvs.length < sizeLine ∧ H' = upd H a (.dT (putK kvs k v))
theorem DGet.k {H : Hp} {a : Addr} {kvs : List (Key × V)} {k : Key} (e : H a = some (.dK kvs)) : DGet H a (kV k) (valV kvs k) := .inl ⟨kvs, k, .inl e, rfl, rfl⟩
theorem DGet.t {H : Hp} {a b : Addr} {kvs : List (List Key × V)} {k : List Key} (e : H a = some (.dT kvs)) (eb : H b = some (.tup (k.map kV))) : DGet H a (.ref b) (valV kvs k) := .inr ⟨kvs, k, b, .inl e, rfl, eb, rfl⟩
theorem DPut.k {H : Hp} {a : Addr} {kvs : List (Key × V)} {k : Key} {v : V} (e : H a = some (.dK kvs)) (hl : kvs.length < sizeLine) : DPut H a (kV k) v (upd H a (.dK (putK kvs k v))) := .inl ⟨kvs, k, e, rfl, hl, rfl⟩
theorem DPut.t {H : Hp} {a b : Addr} {kvs : List (List Key × V)} {k : List Key} {v : V} (e : H a = some (.dT kvs)) (eb : H b = some (.tup (k.map kV))) (hl : kvs.length < sizeLine) :
    DPut H a (.ref b) v (upd H a (.dT (putK kvs k v))) := .inr ⟨kvs, k, b, e, rfl, eb, hl, rfl⟩
section
variable {X : Cx} {pins : List (Addr × Obj)} {σ : St} {H : Hp} {s : Shared} {a : Addr} {y v : V} {u r : Value} {o : Option V} {A : Around} {E : Value → Shared → Prop}
theorem Inv.big (I : Inv X pins σ H s) : sysModules < s.heap.objs.size := by
  have h : mainGlobals < s.heap.objs.size := (I.mod.glob.keeps I.bk).lt
  exact Nat.lt_trans (by decide) h
theorem d_getItem {Q : Value → Shared → Prop} (hu : A.units + 1 < cLine) (I : Inv X pins σ H s) (g : DGet H a y (some v)) (ry : RelV y u) (h : ∀ w' s', Inv X pins σ H s' → RelV v w' → Q w' s') :
    wpAny (model X.prog X.w) A (getItem (.ref a) u) Q E s := by
  rcases g with ⟨kvs, k, e, ey, l⟩ | ⟨kvs, k, b, e, ey, eb, l⟩
  · subst ey
    obtain ⟨z, hd, vs, rel, dd⟩ := dk_rd I.hok e
    obtain ⟨w', hw, rw'⟩ := RelO.some_of (v := v) (o := valueAt vs k) (by rw [l]; exact rel.val k)
    exact wpAny_getItem_of (kV_is ry) dd.mapOf hw (h w' _ (I.tok _) rw')
  · subst ey
    cases (show u = Value.ref b from ry)
    obtain ⟨z, hd, xs, rel, dd⟩ := dt_rd I.hok e
    obtain ⟨w', hw, rw'⟩ := RelO.some_of (v := v) (o := (atKey xs k).map (·.2)) (by rw [l]; exact rel.val k)
    obtain ⟨p, hp, hp2⟩ := Option.map_eq_some_iff.mp hw
    refine wpAny_getItem_heap (tupleKind_room_in1 hu) (key_of I.hok eb) dd hp ?_
    rw [hp2]
    exact h w' _ (I.tok _) rw'
theorem d_in {Q : Value → Shared → Prop} (hu : A.units + 1 < cLine) (I : Inv X pins σ H s) (g : DGet H a y o) (ry : RelV y u) (h : ∀ s', Inv X pins σ H s' → Q (.bool o.isSome) s') :
    wpAny (model X.prog X.w) A (compareOp .In u (.ref a)) Q E s := by
  rcases g with ⟨kvs, k, e, ey, l⟩ | ⟨kvs, k, b, e, ey, eb, l⟩
  · subst ey
    obtain ⟨z, hd, vs, rel, dd⟩ := dk_rd I.hok e
    refine wpAny_in_of (kV_is ry) hd dd.mapOf ?_
    rw [← (rel.val k).isSome_eq, ← l]
    exact h _ (I.tok _)
  · subst ey
    cases (show u = Value.ref b from ry)
    obtain ⟨z, hd, xs, rel, dd⟩ := dt_rd I.hok e
    refine wpAny_in_heap (tupleKind_room_in1 hu) (key_of I.hok eb) hd dd ?_
    have q := (rel.val k).isSome_eq
    rw [Option.isSome_map] at q
    rw [← q, ← l]
    exact h _ (I.tok _)
theorem d_notIn {Q : Value → Shared → Prop} (hu : A.units + 1 < cLine) (I : Inv X pins σ H s) (g : DGet H a y o) (ry : RelV y u) (h : ∀ s', Inv X pins σ H s' → Q (.bool (!o.isSome)) s') :
    wpAny (model X.prog X.w) A (compareOp .NotIn u (.ref a)) Q E s := by
  rcases g with ⟨kvs, k, e, ey, l⟩ | ⟨kvs, k, b, e, ey, eb, l⟩
  · subst ey
    obtain ⟨z, hd, vs, rel, dd⟩ := dk_rd I.hok e
    refine wpAny_notIn_of (kV_is ry) hd dd.mapOf ?_
    rw [← (rel.val k).isSome_eq, ← l]
    exact h _ (I.tok _)
  · subst ey
    cases (show u = Value.ref b from ry)
    obtain ⟨z, hd, xs, rel, dd⟩ := dt_rd I.hok e
    refine wpAny_notIn_heap (tupleKind_room_in1 hu) (key_of I.hok eb) hd dd ?_
    have q := (rel.val k).isSome_eq
    rw [Option.isSome_map] at q
    rw [← q, ← l]
    exact h _ (I.tok _)
theorem d_write {h' : Heap} {t' : Nat} {ob : HO} (I : Inv X pins σ H s) (mu : Mut (H a)) (hs : Heap.SameBut a s.heap h') (he : ∃ q, h'.get? a = some q) (new : ObjOk X.prog X.w (upd H a ob) h' a ob) :
    Inv X pins σ (upd H a ob) { s with heap := h', toks := t' } :=
  I.write (x := a) (e := a) mu (.inl rfl) (fun b q hb z => (hs.2 b hb).trans z) he new
theorem dk_new {P : Program} {w : World} {H' : Hp} {h' : Heap} {kvs : List (Key × V)} {vs : List (Key × Value)} (z : kvs.length ≤ sizeLine) (hd : (a == sysModules) = false) (rel : KV kvs vs) (dd : h'.DictOf (mixKind P w) a vs) :
    ObjOk P w H' h' a (.dK kvs) := ⟨z, hd, vs, rel, dd⟩
theorem d_setItem {H' : Hp} {Q : Unit → Shared → Prop} (hu : A.units + 1 < cLine) (I : Inv X pins σ H s) (g : DPut H a y v H') (ry : RelV y u) (rv : RelV v r) (h : ∀ s', Inv X pins σ H' s' → Q () s') :
    wpAny (model X.prog X.w) A (setItem (.ref a) u r) Q E s := by
  rcases g with ⟨kvs, k, e, ey, l, eH⟩ | ⟨kvs, k, b, e, ey, eb, l, eH⟩
  · subst ey eH
    obtain ⟨z, hd, vs, rel, dd⟩ := dk_of I.hok e
    have hz : vs.length ≤ sizeLine := by rw [← rel.length]; exact z
    have hl : (putK kvs k v).length ≤ sizeLine := by have := length_putK kvs k v; omega
    refine wpAny_setItem_pairs (hsz := hz) (kV_is ry) dd fun h' dd' hs => h _ ?_
    have he : ∃ q, h'.get? a = some q := let ⟨q, _, _, hq, _⟩ := dd'; ⟨q, hq⟩
    exact d_write I (by rw [e]; exact True.intro) hs he (dk_new hl hd (rel.put k rv) dd')
  · exact False.elim (show ObjOk X.prog X.w H s.heap a (.dT kvs) from I.hok a _ e)
end
section
variable {X : Cx} {pins : List (Addr × Obj)} {σ : St} {H : Hp} {s : Shared} {a : Addr} {kvs : List (Key × V)} {k : Key} {u : Value} {A : Around} {E : Value → Shared → Prop}
end
noncomputable def NoSl (i : Expr) : Prop := ∀ ov iv, subscripted i false ov iv = operate [ov, iv] (getItem ov iv)
theorem subD_of {prog : Program} {w : World} {A : Around} {E : Value → Shared → Prop} {s : Shared} {env : Env} {value slice : Expr} {pos : Pos} {T id : String} {Q : Value → Shared → Prop}
    (hl : typeLookup (.type T) "__getitem__" = pure (some (.builtin id))) (hs : NoSl slice)
    (h : wpAny (model prog w) A (eval value env) (fun o s₁ => wpAny (model prog w) A (eval slice env) (fun i s₂ => s₂.TypeIs o T ∧ wpAny (model prog w) A (getItem o i) Q E s₂) E s₁) E s) :
    wpAny (model prog w) A (eval (.Subscript value slice pos) env) Q E s := by
  refine Subscript_ (wpAny_mono h (fun o s₁ h₁ => wpAny_mono h₁ (fun i s₂ h₂ => ?_) fun _ _ x => x) fun _ _ x => x)
  obtain ⟨hT, h₂⟩ := h₂
  unfold subscriptTail
  refine wpAny_bind ?_
  rw [getitemInPython_of_ne hT.not_modules]
  refine wpAny_bind (wpAny_specialOf hT hl ?_)
  have fin : wpAny (model prog w) A (subscripted slice false o i) (fun r s₃ => wpAny (model prog w) A (letTemporaryGo value o r >>= fun _ => pure r) Q E s₃) E s₂ := by
    rw [hs o i]
    exact wpAny_operating (wpAny_mono h₂ (fun r s₃ h₃ => wpAny_bind (wpAny_letTemporaryGo (wpAny_pure h₃))) fun _ _ x => x)
  first
    | exact wpAny_pure (wpAny_bind fin)
    | exact wpAny_bind (wpAny_pure (wpAny_bind fin))
    | exact wpAny_bind fin
theorem dict_typeIs {X : Cx} {pins : List (Addr × Obj)} {σ : St} {H : Hp} {s : Shared} {a : Addr} {y : V} {o : Option V} (I : Inv X pins σ H s) (g : DGet H a y o) : s.TypeIs (.ref a) "dict" := by
  rcases g with ⟨kvs, k, e, _, _⟩ | ⟨kvs, k, b, e, _, _, _⟩
  · obtain ⟨_, _, vs, _, dd⟩ := dk_rd I.hok e
    exact dd.typeIs
  · obtain ⟨_, _, xs, _, dd⟩ := dt_rd I.hok e
    exact dd.typeIs
noncomputable def tDGet (td ty : TE) : TE := fun σ H Q => td σ H fun x H1 => ty σ H1 fun y H2 => ∃ a v, x = .ref a ∧ DGet H2 a y (some v) ∧ Q v H2
noncomputable def tDIn (ty td : TE) : TE := fun σ H Q => ty σ H fun y H1 => td σ H1 fun x H2 => ∃ a o, x = .ref a ∧ DGet H2 a y o ∧ Q (.bl o.isSome) H2
noncomputable def tDNotIn (ty td : TE) : TE := fun σ H Q => ty σ H fun y H1 => td σ H1 fun x H2 => ∃ a o, x = .ref a ∧ DGet H2 a y o ∧ Q (.bl (!o.isSome)) H2
noncomputable def sDPut (td ty tv : TE) : TS := fun D σ H => tv σ H fun v H1 => td σ H1 fun x H2 => ty σ H2 fun y H3 => ∃ a H4, x = .ref a ∧ DPut H3 a y v H4 ∧ D.nx σ H4
section
variable {X : Cx} {o i e value : Expr} {pos pos' tpos : Pos} {td ty tv : TE}
theorem pe_dget (hu : X.A.units + 1 < cLine) (ho : PE X o td) (hi : PE X i ty) (hs : NoSl i) : PE X (.Subscript o i pos) (tDGet td ty) := by
  intro pins s σ H Q I h
  refine subD_of PySem.F.slot_dict_getitem.lookup hs (thn (ho pins s σ H _ I h) fun u s1 ⟨x, H1, I1, rx, q1⟩ => thn (hi pins s1 σ H1 _ I1 q1) fun iv s2 ⟨y, H2, I2, ry, a, v, ex, g, q2⟩ => ?_)
  subst ex
  obtain rfl : u = Value.ref a := rx
  exact ⟨dict_typeIs I2 g, d_getItem hu I2 g ry fun w' s3 I3 rw' => ⟨v, H2, I3, rw', q2⟩⟩
theorem pc_din (hu : X.A.units + 1 < cLine) (hi : PE X i ty) (ho : PE X o td) : PC X .In i o (tDIn ty td) := by
  intro pins s σ H Q I h
  refine thn (hi pins s σ H _ I h) fun iv s1 ⟨y, H1, I1, ry, q1⟩ => thn (ho pins s1 σ H1 _ I1 q1) fun u s2 ⟨x, H2, I2, rx, a, ov, ex, g, q2⟩ => ?_
  subst ex
  obtain rfl : u = Value.ref a := rx
  exact d_in hu I2 g ry fun s3 I3 => ⟨.bl ov.isSome, H2, I3, rfl, q2⟩
theorem pc_dnotin (hu : X.A.units + 1 < cLine) (hi : PE X i ty) (ho : PE X o td) : PC X .NotIn i o (tDNotIn ty td) := by
  intro pins s σ H Q I h
  refine thn (hi pins s σ H _ I h) fun iv s1 ⟨y, H1, I1, ry, q1⟩ => thn (ho pins s1 σ H1 _ I1 q1) fun u s2 ⟨x, H2, I2, rx, a, ov, ex, g, q2⟩ => ?_
  subst ex
  obtain rfl : u = Value.ref a := rx
  exact d_notIn hu I2 g ry fun s3 I3 => ⟨.bl (!ov.isSome), H2, I3, rfl, q2⟩
theorem ps_dput (hu : X.A.units + 1 < cLine) (ho : PE X o td) (hi : PE X i ty) (hv : PE X value tv) (hs : swapsWith value (some (.Subscript o i pos')) pos.line X.env = pure false) :
    PS X (.Assign [.Subscript o i pos'] value pos) (sDPut td ty tv) := by
  intro pins s σ H D I h
  refine wpAny_Assign_Subscript (thn (hv pins s σ H _ I h) fun r s1 ⟨v, H1, I1, rv, q1⟩ => thn (ho pins s1 σ H1 _ I1 q1) fun u s2 ⟨x, H2, I2, rx, q2⟩ => thn (hi pins s2 σ H2 _ I2 q2) fun iv s3 ⟨y, H3, I3, ry, a, H4, ex, g, q3⟩ => ?_) hs
  subst ex
  obtain rfl : u = Value.ref a := rx
  exact d_setItem hu I3 g ry rv fun s4 I4 => ⟨σ, H4, I4, q3⟩
end
theorem dk_empty {P : Program} {w : World} {H : Hp} (h : Heap) (hb : sysModules < h.objs.size) : ObjOk P w H (h.push { cls := .type "dict", data := .dict #[] }) h.objs.size (.dK []) :=
  ⟨Nat.zero_le _, beq_eq_false_iff_ne.mpr (Ne.symm (Nat.ne_of_lt hb)), [], .nil, Heap.DictOf.new h⟩
noncomputable def tDNewK : TE := fun _ H Q => ∀ p, H p = none → Q (.ref p) (upd H p (.dK []))
section
variable {X : Cx} {pos : Pos}
theorem pe_dnewK : PE X (.Dict [] [] pos) tDNewK := fun pins s σ H Q I h =>
  wpAny_Dict_empty ⟨.ref s.heap.objs.size, _, I.laid (a := s.heap.objs.size) (o := .dK []) (t' := s.toks) (fun _ _ q => Heap.get?_push_of_some _ q) (Nat.le_refl _) (dk_empty s.heap I.big), rfl, h _ (I.hok.fresh (Nat.le_refl _))⟩
end
structure M1 (X : Cx) (o : Expr) (m : Str) (apos : Pos) (e : Expr) (cpos : Pos) : Prop where
  base : attributeBase o m X.env (eval o X.env) = eval o X.env
  few : ((backTo cpos (starEach [e] X.env)).all (fun x => !x.1) && (backToKw cpos (keywordEach [] X.env)).all (fun x => x.1.isSome)
    && decide (([e] : List Expr).length + ([] : List Keyword).length + (if ([] : List Keyword).isEmpty then 0 else 1) < 30)) = true
  line : (apos.endLine == cpos.line) = true
  trees : backTo cpos (starEach [e] X.env) = [(false, eval e X.env)]
structure M2 (X : Cx) (o : Expr) (m : Str) (apos : Pos) (e f : Expr) (cpos : Pos) : Prop where
  base : attributeBase o m X.env (eval o X.env) = eval o X.env
  few : ((backTo cpos (starEach [e, f] X.env)).all (fun x => !x.1) && (backToKw cpos (keywordEach [] X.env)).all (fun x => x.1.isSome)
    && decide (([e, f] : List Expr).length + ([] : List Keyword).length + (if ([] : List Keyword).isEmpty then 0 else 1) < 30)) = true
  line : (apos.endLine == cpos.line) = true
  trees : backTo cpos (starEach [e, f] X.env) = [(false, eval e X.env), (false, eval f X.env)]
section
variable {X : Cx} {pins : List (Addr × Obj)} {σ : St} {H : Hp} {s : Shared} {a : Addr} {y d : V} {u r : Value} {o : Option V} {A : Around} {E : Value → Shared → Prop}
end
section
variable {X : Cx} {o e f : Expr} {apos cpos : Pos} {td ty tx : TE}
end
section
variable {X : Cx} {pins : List (Addr × Obj)} {σ : St} {H : Hp} {s : Shared} {a : Addr} {kvs : List (Key × V)} {A : Around} {E : Value → Shared → Prop}
end
section
variable {X : Cx} {pins : List (Addr × Obj)} {σ : St} {H : Hp} {s : Shared} {a : Addr} {y : V} {u : Value} {A : Around} {E : Value → Shared → Prop}
end
end L2
namespace L2
open PySem PySem.Spec PyProof.Rows
section
variable {κ : Type} [DecidableEq κ]
end
end L2
set_option maxRecDepth 100000
namespace LP
open PySem L2
theorem drop_inj {α : Type} {l : List α} {i j : Nat} (hi : i ≤ l.length) (hj : j ≤ l.length) (h : l.drop i = l.drop j) : i = j := by
  have := congrArg List.length h
  rw [List.length_drop, List.length_drop] at this
  omega
end LP
set_option maxRecDepth 100000
namespace L2
open PySem PySem.Spec PyProof.Rows
structure Md (P : Program) (w : World) (K : PySem.W.Frag) (mg : Str → Option Value) (base : Heap) (CX : CXT) (k : Nat) (C : Addr) (m : Str) (ps : List Str) (dvs : List V) (sp : Sp) : Prop where
  ex : ∃ f fd ds, FnOk P w K mg base CX k f fd ps sp ∧ Meth K C m f ∧ Binds K fd ps ds ∧ Vals dvs ds
  cls : Cls K C
structure Mkr (P : Program) (w : World) (K : PySem.W.Frag) (mg : Str → Option Value) (base : Heap) (CX : CXT) (k : Nat) (x : Str) (C : Addr) (ps : List Str) (dvs : List V) (sp : Sp) : Prop where
  ex : ∃ f fd ds, FnOk P w K mg base CX k f fd ps sp ∧ Mk K C f ∧ Binds K fd ps ds ∧ Vals dvs ds
  at_ : mg x = some (.ref C)
section
variable {P : Program} {w : World} {K : PySem.W.Frag} {mg : Str → Option Value} {base : Heap} {CX : CXT} {j k : Nat} {C : Addr} {x m : Str} {ps : List Str} {dvs : List V} {sp : Sp}
theorem Md.mono (M : Md P w K mg base CX j C m ps dvs sp) (h : j ≤ k) : Md P w K mg base CX k C m ps dvs sp := by
  obtain ⟨f, fd, ds, F, r⟩ := M.ex
  exact ⟨⟨f, fd, ds, F.mono h, r⟩, M.cls⟩
theorem Mkr.mono (M : Mkr P w K mg base CX j x C ps dvs sp) (h : j ≤ k) : Mkr P w K mg base CX k x C ps dvs sp := by
  obtain ⟨f, fd, ds, F, r⟩ := M.ex
  exact ⟨⟨f, fd, ds, F.mono h, r⟩, M.at_⟩
theorem quietX {f : Addr} {fd : FuncData} (F : FnOk P w K mg base (CX1 P w) k f fd ps sp) : FnOk P w K mg base CX0 k f fd ps (fun vs H Q _ => sp vs H Q E0) := by
  refine ⟨fun vs H Q E h => F.len vs H Q E0 h, fun A outer s H args us vs Q E hr e0 hb rv h => ?_⟩
  refine codeAny_mono (F.run A outer s H args us vs Q E0 hr e0 hb rv h) fun r s' q => ?_
  cases r with
  | error e => exact (cx1_none q).elim
  | ok fl => cases fl <;> exact q
theorem Md.quiet (M : Md P w K mg base (CX1 P w) k C m ps dvs sp) : Md P w K mg base CX0 k C m ps dvs (fun vs H Q _ => sp vs H Q E0) := by
  obtain ⟨f, fd, ds, F, r⟩ := M.ex
  exact ⟨⟨f, fd, ds, quietX F, r⟩, M.cls⟩
theorem Mkr.quiet (M : Mkr P w K mg base (CX1 P w) k x C ps dvs sp) : Mkr P w K mg base CX0 k x C ps dvs (fun vs H Q _ => sp vs H Q E0) := by
  obtain ⟨f, fd, ds, F, r⟩ := M.ex
  exact ⟨⟨f, fd, ds, quietX F, r⟩, M.at_⟩
end
section
variable {X : Cx} {k : Nat} {C : Addr} {x m : Str} {ps : List Str} {dvs : List V} {sp : Sp} {o e : Expr} {es : List Expr} {ta : TE} {t : TA} {p pos apos : Pos}
variable {F : St → XK}
theorem Tk.at {σ : St} (T : Tk X F) : ∀ (pins : List (Addr × Obj)) (H : Hp) (s : Shared) (e : Value) (s' : Shared), Inv X pins σ H s → CX1 X.prog X.w X.stack H s (F σ) e s' → X.xe e s' := fun pins H s e s' I h => T.pass pins σ H s e s' I h
theorem run_fnX {pins : List (Addr × Obj)} {σ : St} {H : Hp} {s : Shared} {Q : VK} {us : List Value} {vs : List V} {f : Addr} {fd : FuncData} {ds : List Value} (T : Tk X F) (G : FnOk X.prog X.w X.K X.mg X.base (CX1 X.prog X.w) k f fd ps sp) (hr : Room k X.A) (hb : Binds X.K fd ps ds) (hd : Vals dvs ds)
    (I : Inv X pins σ H s) (r : Vals vs us) (h : sp (vs ++ dvs) H Q (F σ)) : wpAny (model X.prog X.w) X.A (call (.ref f) us) (EP X pins σ Q) X.xe s := by
  have r2 : Vals (vs ++ dvs) (us ++ ds) := r.append hd
  have hl : (us ++ ds).length = ps.length := by rw [← r2.length]; exact G.len _ _ _ _ h
  refine wpAny_call (codeAny_mono (G.run X.A X.stack s H ⟨us, []⟩ (us ++ ds) (vs ++ dvs) Q (F σ) hr I.env0 (hb s us I.kIn hl) r2 h) fun r s' hq => ?_)
  cases r with
  | error e => exact T.pass pins σ H s e s' I hq
  | ok fl =>
    cases fl with
    | ret u => exact I.after hq
    | next => exact False.elim hq
    | brk => exact False.elim hq
    | cont => exact False.elim hq
noncomputable def tMethX (F : St → XK) (C : Addr) (m : Str) (sp : Sp) (dvs : List V) (ta : TE) (t : TA) : TE := fun σ H Q => ta σ H fun x H1 => ∃ a dx fs, x = .ref a ∧ H1 a = some (.ins C dx fs) ∧ fs.lookup m = none ∧ t σ H1 fun vs H2 => sp (x :: (vs ++ dvs)) H2 Q (F σ)
theorem pe_mdX {pl : Sem Bool} (T : Tk X F) (M : Md X.prog X.w X.K X.mg X.base (CX1 X.prog X.w) k C m ps dvs sp) (hr : Room k X.A) (he : PE X o ta) (ha : PA X (e :: es) t)
    (hst : starEach (e :: es) X.env = (false, eval e X.env) :: starEach es X.env := by rfl) (hpl : (backTo pos (starEach es X.env)).any (·.1) = false := by rfl)
    (ht : eval (.Call (.Attribute o m apos) (e :: es) [] pos) X.env = (do
      let ov ← eval o X.env
      standAt apos.atName
      let (f, first) ← holding [ov] (getMethod ov m pl)
      callWith pos f first (backTo pos (starEach (e :: es) X.env)) (backToKw pos (keywordEach [] X.env))) := by rfl) : PE X (.Call (.Attribute o m apos) (e :: es) [] pos) (tMethX F C m sp dvs ta t) := by
  obtain ⟨f, fd, ds, G, hm, hb, hd⟩ := M.ex
  intro pins s σ H Q I h
  refine PySem.W.methodCall_KW (pl := pl) (thn (he pins s σ H _ I h) fun u s1 ⟨x, H1, I1, rx, a, dx, fs, ex, ea, l, q⟩ => ?_) ht
  subst ex
  obtain rfl : u = Value.ref a := rx
  refine getmeth_ok I1 ea M.cls hm l ?_
  refine PySem.W.callWith_K (first := [.ref a]) (h₀ := X.base) I.ok.mod.kin hm.kp (thn (ha pos pins s1 σ H1 _ I1 q) fun us s2 ⟨vs, H2, I2, r, q2⟩ => ⟨I2.kIn, ?_⟩) hst hpl
  exact run_fnX (us := .ref a :: us) (vs := .ref a :: vs) T G hr hb hd I2 (.cons rfl r) q2
end
end L2
set_option maxRecDepth 100000
namespace L2
open PySem PySem.Spec PyProof.Rows
structure RoomW (k : Nat) (A : Around) : Prop where
  dp : A.depth + 3 * k + 5 < recursionLimit
  un : A.units + 16 * k + 200 < cLine
theorem Room.toW {k : Nat} {A : Around} (r : Room k A) : RoomW k A := ⟨r.dp, r.un⟩
theorem RoomW.mono {j k : Nat} {A : Around} (r : RoomW k A) (h : j ≤ k) : RoomW j A := ⟨by have := r.dp; omega, by have := r.un; omega⟩
theorem RoomW.deeper {k : Nat} {A : Around} (r : RoomW (k + 1) A) (env : Env) : RoomW k (A.deeper env) :=
  ⟨by have := r.dp; show A.depth + 1 + 3 * k + 5 < _; omega, by have := r.un; show A.units + 3 + 16 * k + 200 < _; omega⟩
theorem RoomW.mark {k : Nat} {A : Around} (r : RoomW k A) (v : Option Value) : RoomW k (A.mark v) := ⟨r.dp, r.un⟩
abbrev still (A : Around) : Around := { A with handled := none }
structure FnW (P : Program) (w : World) (K : PySem.W.Frag) (mg : Str → Option Value) (base : Heap) (k : Nat) (f : Addr) (fd : FuncData) (ps : List Str) (sp : Sp) : Prop where
  len : ∀ vs H Q E, sp vs H Q E → vs.length = ps.length
  run : ∀ (A : Around) (outer : List Env) (s : Shared) (H : Hp) (args : Args) (us : List Value) (vs : List V) (Q : VK), RoomW k A → Env0 P w K mg base A outer s H → BindsTo s fd args (ps.zip us) → Vals vs us → sp vs H Q E0 →
    codeAny (model P w) A (.call (.ref f) args) (CR CX0 outer P w H s Q E0) s
noncomputable def cxW (P : Program) (w : World) (K : PySem.W.Frag) (mg : Str → Option Value) (base : Heap) (N : List Str) (qual : Str) (scope : Scope) (f : Addr) (cd : Value) (A : Around) (outer : List Env) (s : Shared) (H : Hp) : Cx :=
  { cxOf CX0 P w K mg base N qual scope f cd A outer s H E0 with calm := false, xe := fun _ _ => False }
theorem Inv.toW {P : Program} {w : World} {K : PySem.W.Frag} {mg : Str → Option Value} {base : Heap} {N : List Str} {qual : Str} {scope : Scope} {f : Addr} {cd : Value} {A : Around} {outer : List Env} {s : Shared} {H : Hp} {pins : List (Addr × Obj)} {σ : St} {H1 : Hp} {s1 : Shared}
    (I : Inv (cxOf CX0 P w K mg base N qual scope f cd (still A) outer s H E0) pins σ H1 s1) : Inv (cxW P w K mg base N qual scope f cd A outer s H) pins σ H1 s1 :=
  ⟨⟨I.ok.mod, I.ok.kind, I.ok.glob, I.ok.blt, I.ok.above, I.ok.inj, I.ok.has, I.ok.cab, fun z => absurd (show false = true from z) Bool.false_ne_true, I.ok.frames, I.ok.stk, I.ok.exf, I.ok.bs, I.ok.bsz, I.ok.noex, I.ok.exfs, I.ok.funs, I.ok.frf⟩, I.os, I.bare, I.base, I.loc, I.cell, I.free, I.freeC, I.pin, I.hok, I.len⟩
theorem Env0.still {P : Program} {w : World} {K : PySem.W.Frag} {mg : Str → Option Value} {base : Heap} {A : Around} {outer : List Env} {s : Shared} {H : Hp} (e : Env0 P w K mg base A outer s H) : Env0 P w K mg base (still A) outer s H :=
  ⟨e.frames, e.mod, e.bs, e.bsz, e.funs, e.frf, e.hok, e.bare⟩
section
variable {P : Program} {w : World} {K : PySem.W.Frag} {mg : Str → Option Value} {base : Heap}
end
structure FnV (P : Program) (w : World) (K : PySem.W.Frag) (mg : Str → Option Value) (base : Heap) (k : Nat) (x : Str) (ps : List Str) (sp : Sp) : Prop where
  ex : ∃ f fd, FnW P w K mg base k f fd ps sp ∧ mg x = some (.ref f) ∧ PySem.W.keepIn K (.ref f) = true ∧ Binds K fd ps []
section
variable {X : Cx} {k : Nat} {x : Str} {ps : List Str} {sp : Sp} {p pos : Pos} {e : Expr} {es : List Expr} {t : TA}
end
end L2
set_option maxRecDepth 100000
namespace L2
open PySem PySem.Spec PyProof.Rows
noncomputable def tCutS (t : TS) : TS := fun D σ H => ∃ N : St → Hp → Prop, t { nx := N, rt := D.rt, bk := D.bk, ct := D.ct } σ H ∧ ∀ σ' H', N σ' H' → D.nx σ' H'
theorem cutS {t : TS} {D : Ends} {σ : St} {H : Hp} (N : St → Hp → Prop) (h1 : t { nx := N, rt := D.rt, bk := D.bk, ct := D.ct } σ H) (h2 : ∀ σ' H', N σ' H' → D.nx σ' H') : tCutS t D σ H := ⟨N, h1, h2⟩
theorem ps_cut {X : Cx} {st : Stmt} {t : TS} (h : PS X st t) : PS X st (tCutS t) := by
  rintro pins s σ H D I ⟨N, q, hn⟩
  refine thn (h pins s σ H _ I q) fun f s1 z => ?_
  cases f with
  | next => obtain ⟨σ1, H1, I1, q⟩ := z; exact ⟨σ1, H1, I1, hn _ _ q⟩
  | brk => exact z
  | cont => exact z
  | ret u => exact z
end L2
namespace LP
end LP
namespace LP
open PySem L2
end LP
set_option maxRecDepth 100000
namespace L2
open PySem PySem.Spec PyProof.Rows
section
variable {X : Cx}
end
end L2
set_option maxRecDepth 100000
namespace LO
end LO
set_option maxRecDepth 100000
namespace L2
open PySem PySem.Spec PyProof.Rows
inductive EqT (K : PySem.W.Frag) (H : Hp) : Nat → V → V → Prop
  | flat {n : Nat} {x y : V} (hx : flatV x = true) (hy : flatV y = true) (h : eqV x y = true) : EqT K H n x y
  | same {n : Nat} (a : Addr) : EqT K H n (.ref a) (.ref a)
  | tup {n : Nat} {a b : Addr} {xs ys : List V} (ha : SqT K H a xs) (hb : SqT K H b ys) (hl : xs.length = ys.length) (h : ∀ (j : Nat) (x y : V), xs[j]? = some x → ys[j]? = some y → EqT K H n x y) : EqT K H (n + 1) (.ref a) (.ref b)
  | lst {n : Nat} {a b : Addr} {xs ys : List V} (ha : SqL K H a xs) (hb : SqL K H b ys) (hl : xs.length = ys.length) (h : ∀ (j : Nat) (x y : V), xs[j]? = some x → ys[j]? = some y → EqT K H n x y) : EqT K H (n + 1) (.ref a) (.ref b)
section
variable {X : Cx} {pins : List (Addr × Obj)} {σ : St} {H : Hp} {s : Shared}
theorem vals_pair {xs ys : List V} {us vs : List Value} (r1 : Vals xs us) (r2 : Vals ys vs) (j : Nat) (h1 : j < us.length) (h2 : j < vs.length) : ∃ x y, xs[j]? = some x ∧ ys[j]? = some y ∧ RelV x us[j] ∧ RelV y vs[j] := by
  have l1 := r1.length
  have l2 := r2.length
  have e1 : xs[j]? = some xs[j] := by simp [l1, h1]
  have e2 : ys[j]? = some ys[j] := by simp [l2, h2]
  obtain ⟨u, hu, ru⟩ := r1.get e1
  obtain ⟨v, hv, rv⟩ := r2.get e2
  rw [List.getElem?_eq_getElem h1] at hu
  rw [List.getElem?_eq_getElem h2] at hv
  have hu := Option.some.inj hu
  have hv := Option.some.inj hv
  subst hu hv
  exact ⟨_, _, e1, e2, ru, rv⟩
theorem all_true (n : Nat) : (List.range n).all (fun _ => true) = true := by
  rw [List.all_eq_true]
  intro _ _
  rfl
theorem EqT.at (I : Inv X pins σ H s) {n : Nat} {x y : V} (h : EqT X.K H n x y) : ∀ {A : Around} {u v : Value}, RelV x u → RelV y v → A.units + n < cLine → SeqAt.EqAt A s u v true := by
  induction h with
  | flat hx hy h =>
    intro A u v ru rv _
    have := eqAt_V (A := A) (s := s) ru rv hx hy
    rwa [h] at this
  | same a =>
    intro A u v ru rv _
    obtain rfl : u = Value.ref a := ru
    obtain rfl : v = Value.ref a := rv
    exact SeqAt.EqAt.same _
  | @tup n a b xs ys ha hb hl h ih =>
    intro A u v ru rv hu
    obtain rfl : u = Value.ref a := ru
    obtain rfl : v = Value.ref b := rv
    by_cases hab : a = b
    · subst hab
      exact SeqAt.EqAt.same _
    obtain ⟨its, r1, p1, z1⟩ := I.tuple ha
    obtain ⟨ist, r2, p2, z2⟩ := I.tuple hb
    have l1 := r1.length
    have l2 := r2.length
    have := SeqAt.RcAt.tuples (A := A) (e := fun _ => true) p1 p2 (by omega) fun j h1 h2 => by
      obtain ⟨x, y, e1, e2, rx, ry⟩ := vals_pair r1 r2 j (by simpa using h1) (by simpa using h2)
      exact ih j x y e1 e2 rx ry (by rw [Around.in1_units]; omega)
    rw [all_true, show (its.toArray.size == ist.toArray.size) = true by simp; omega] at this
    exact SeqAt.EqAt.of_refs hab this
  | @lst n a b xs ys ha hb hl h ih =>
    intro A u v ru rv hu
    obtain rfl : u = Value.ref a := ru
    obtain rfl : v = Value.ref b := rv
    by_cases hab : a = b
    · subst hab
      exact SeqAt.EqAt.same _
    obtain ⟨its, r1, p1, z1⟩ := I.list ha
    obtain ⟨ist, r2, p2, z2⟩ := I.list hb
    have l1 := r1.length
    have l2 := r2.length
    have := SeqAt.RcAt.lists (A := A) (e := fun _ => true) p1.isList p2.isList (by simp; omega) (by omega) fun j h1 h2 => by
      obtain ⟨x, y, e1, e2, rx, ry⟩ := vals_pair r1 r2 j (by simpa using h1) (by simpa using h2)
      exact ih j x y e1 e2 rx ry (by rw [Around.in1_units]; omega)
    rw [all_true] at this
    exact SeqAt.EqAt.of_refs hab this
end
noncomputable def Alike (K : PySem.W.Frag) (H : Hp) (a b : Addr) : Prop := ∃ xs ys, ((SqL K H a xs ∧ SqL K H b ys) ∨ (SqT K H a xs ∧ SqT K H b ys)) ∧ xs.length = ys.length ∧ ∀ (j : Nat) (x y : V), xs[j]? = some x → ys[j]? = some y → EqT K H 4 x y
noncomputable def alkV (K : PySem.W.Frag) (neg : Bool) : R2 := fun x y H Q => match x, y with
  | .ref a, .ref b => Alike K H a b ∧ Q (.bl (!neg)) H
  | _, _ => False
section
variable {X : Cx}
theorem o_neA {K : PySem.W.Frag} {k : Nat} (hK : X.K = K) (hr : Room k X.A) : OpR X (compareOp .NotEq) (alkV K true) := by
  subst hK
  intro pins s σ H x y v u Q I rx ry h
  unfold alkV at h
  split at h
  · rename_i a b
    obtain ⟨⟨xs, ys, q12, hl, ha⟩, q⟩ := h
    cases rx
    cases ry
    have hu : X.A.units + 20 < cLine := by have := hr.un; omega
    rcases q12 with ⟨q1, q2⟩ | ⟨q1, q2⟩
    · obtain ⟨its, r1, p1, z1⟩ := I.list q1
      obtain ⟨ist, r2, p2, z2⟩ := I.list q2
      have l1 := r1.length
      have l2 := r2.length
      refine SeqAt.RcNeAt.lists (e := fun _ => true) p1.isList p2.isList (by simp; omega) (by omega) (fun j h1 h2 => ?_) _ _ _ _ ?_
      · obtain ⟨x, y, e1, e2, rx, ry⟩ := vals_pair r1 r2 j (by simpa using h1) (by simpa using h2)
        exact (ha j x y e1 e2).at I rx ry (by rw [Around.in1_units]; omega)
      · rw [all_true]
        exact fin_bl I q rfl
    · obtain ⟨its, r1, p1, z1⟩ := I.tuple q1
      obtain ⟨ist, r2, p2, z2⟩ := I.tuple q2
      have l1 := r1.length
      have l2 := r2.length
      refine SeqAt.RcNeAt.tuples (e := fun _ => true) p1 p2 (by omega) (fun j h1 h2 => ?_) _ _ _ _ ?_
      · obtain ⟨x, y, e1, e2, rx, ry⟩ := vals_pair r1 r2 j (by simpa using h1) (by simpa using h2)
        exact (ha j x y e1 e2).at I rx ry (by rw [Around.in1_units]; omega)
      · rw [all_true, show (its.toArray.size == ist.toArray.size) = true by simp; omega]
        exact fin_bl I q rfl
  · exact h.elim
end
end L2
set_option maxRecDepth 100000
namespace LP
open PySem L2
noncomputable def flat (rs : List (Nat × Nat)) : List Nat := (rs.map fun r => List.replicate r.2 r.1).flatten
structure GoodR (rs : List (Nat × Nat)) : Prop where
  pos : ∀ r ∈ rs, 1 ≤ r.2
  ne : ∀ (j : Nat) (a b : Nat × Nat), rs[j]? = some a → rs[j + 1]? = some b → a.1 ≠ b.1
noncomputable def SameT (H H' : Hp) : Prop := ∀ t xs, H t = some (.tup xs) → H' t = some (.tup xs)
theorem SameT.trans {H1 H2 H3 : Hp} (a : SameT H1 H2) (b : SameT H2 H3) : SameT H1 H3 := fun t xs h => b t xs (a t xs h)
end LP
set_option maxRecDepth 100000
namespace L2
open PySem PySem.Spec PyProof.Rows
theorem addr_ne {x y : Nat} (h : x ≠ y) : @Ne Addr x y := h
theorem zip_apart {n a b : Nat} (la : a < n) (lb : b < n) : @ZipApart (n + 4 : Nat) (n + 2 : Nat) (n + 3 : Nat) n (n + 1 : Nat) a b :=
  ⟨addr_ne (by omega), addr_ne (by omega), addr_ne (by omega), addr_ne (by omega), addr_ne (by omega), addr_ne (by omega), addr_ne (by omega), addr_ne (by omega), addr_ne (by omega),
   addr_ne (by omega), addr_ne (by omega), addr_ne (by omega), addr_ne (by omega), addr_ne (by omega), addr_ne (by omega), addr_ne (by omega), addr_ne (by omega), addr_ne (by omega)⟩
section
variable {X : Cx} {es : List Expr} {k : Nat} {tp : Pos}
abbrev g2 (K : PySem.W.Frag) (i j : Nat) : TG := gTup K 2 (gCons (gName i) (gCons (gName j) gNil))
section
variable {elt iter : Expr} {ifs : List Expr} {u v : Str} {pu pv : Pos} {scope : Scope} {pos : Pos} {cl : List (Str × Addr)} {own : List Str} {cp : List (Str × Nat)} {ta : TA} {tl : TE} {tc : TT} {te : TE}
end
end
end L2
set_option maxRecDepth 100000
namespace L2
open PySem PySem.Spec PyProof.Rows
section
variable {X : Cx}
end
end L2
namespace L2
end L2
namespace L2
open PySem
end L2
namespace LO
end LO
set_option maxRecDepth 100000
namespace LO
noncomputable def cms (t : List Nat) : List Nat := 0 :: (List.range t.length).map fun k => LW.com (t.drop ((ord t).getD k 0)) (t.drop ((ord t).getD (k + 1) 0))
theorem com_le (a b : List Nat) : LW.com a b ≤ a.length := by
  induction a generalizing b with
  | nil => exact Nat.zero_le _
  | cons x r ih =>
    cases b with
    | nil => exact Nat.zero_le _
    | cons y q =>
      unfold LW.com
      split
      · have := ih q
        simp only [List.length_cons]
        omega
      · exact Nat.zero_le _
end LO
namespace LO
open LW L2
theorem take_com : ∀ (x y : List Nat) (m : Nat), m ≤ com x y → x.take m = y.take m
  | _, _, 0, _ => by simp
  | [], y, m + 1, h => by have : com [] y = 0 := by cases y <;> rfl
                          omega
  | a :: x, [], m + 1, h => by have : com (a :: x) [] = 0 := rfl
                               omega
  | a :: x, b :: y, m + 1, h => by
    unfold com at h
    by_cases hab : a = b
    · rw [if_pos hab] at h
      rw [List.take_succ_cons, List.take_succ_cons, hab, take_com x y m (by omega)]
    · rw [if_neg hab] at h
      omega
noncomputable def en (t : List Nat) (k : Nat) : List Nat := t.drop ((ord t).getD k 0)
noncomputable def cmx (t : List Nat) (k : Nat) : Nat := (cms t ++ [0]).getD k 0
noncomputable def lone (t : List Nat) (p : Nat) : Option Nat := if p + (1 + max (cmx t (rank t p)) (cmx t (rank t p + 1))) ≤ t.length then some (1 + max (cmx t (rank t p)) (cmx t (rank t p + 1))) else none
end LO
namespace L2
end L2
set_option maxRecDepth 100000
namespace LO
open LW L2
noncomputable def newAt (t : List Nat) (k : Nat) : List (List Nat) := (List.range ((en t k).length - cmx t k)).map fun j => (en t k).take (cmx t k + 1 + j)
noncomputable def pcs (t : List Nat) : List (List Nat) := [] :: (List.range (t.length + 1)).flatMap (newAt t)
noncomputable def kinds (t : List Nat) : Nat := (pcs t).length
end LO
set_option maxRecDepth 100000
namespace L2
open PySem
section
variable {X : Cx}
end
end L2
set_option maxRecDepth 100000
namespace L2
open PySem PySem.Spec PyProof.Rows
noncomputable def TabOk (w : World) (t : SetTable) (n : Nat) : Prop := (w.params.followText "set-order" = false → t.led = true) ∧ (0 < n → t.plain = false)
abbrev sObj (es : Array (Int × Value)) (ep : Nat) (t : SetTable) : Obj := { cls := .type "set", dict := none, data := .set es ep t }
noncomputable def SetStr (prog : Program) (w : World) (h : Heap) (a : Addr) (S : Str → Bool) (n : Nat) : Prop :=
  ∃ es ep t, h.get? a = some (sObj es ep t) ∧ ElemsOf (PySem.strKind prog w) es.toList ∧ (∀ k, S k = true ↔ ∃ e ∈ es.toList, (PySem.strKind prog w).is k e.2 = true) ∧ es.size < scanBound ∧ t.fits es.size = true ∧ es.size = n ∧ TabOk w t es.size
theorem orStand_led (t : SetTable) (n : Nat) : (t.orStandIn n).led = t.led ∧ (t.plain = false → (t.orStandIn n).plain = false) := by
  unfold SetTable.orStandIn
  split
  · exact ⟨rfl, id⟩
  · exact ⟨rfl, fun _ => rfl⟩
theorem lay_led (t : SetTable) (es : Array (Int × Value)) (h : Int) (x : Value) : (layNew t es h x).2.1.led = t.led ∧ (t.plain = false → (layNew t es h x).2.1.plain = false) := by
  unfold layNew
  split
  · rename_i slot wd _
    have := orStand_led (t.put slot).1 (SetTable.insertAt es (t.put slot).2 (h, x)).size
    exact ⟨this.1.trans rfl, fun z => this.2 z⟩
  · exact ⟨rfl, fun _ => rfl⟩
theorem relaid_led {t t' : SetTable} {hs : Array Int} {n : Nat} {order : Array Nat} (h : t.relaid hs n = some (t', order)) : t'.led = t.led ∧ t'.plain = t.plain := by
  unfold SetTable.relaid SetTable.laid at h
  simp only [Option.bind_eq_bind, Option.bind_eq_some_iff, Option.pure_def, Option.some.injEq, Prod.mk.injEq] at h
  obtain ⟨_, _, e, _⟩ := h
  rw [← e]
  exact ⟨rfl, rfl⟩
theorem relay_led (t : SetTable) (es : Array (Int × Value)) (n : Nat) : (relayAll t es n).2.1.led = t.led ∧ (t.plain = false → (relayAll t es n).2.1.plain = false) := by
  unfold relayAll
  split
  · rename_i t' order e
    have := relaid_led e
    dsimp only
    split
    · exact ⟨this.1, fun z => this.2.trans z⟩
    · exact ⟨rfl, fun _ => rfl⟩
  · exact ⟨rfl, fun _ => rfl⟩
section
variable {prog : Program} {w : World} {A : Around} {E : Value → Shared → Prop} {s : Shared}
theorem store_at {h : Heap} {a : Addr} {es es' : Array (Int × Value)} {ep : Nat} {t t' : SetTable} (ho : h.get? a = some (sObj es ep t)) : (h.update a (Obj.putSet es' t')).get? a = some (sObj es' (ep + 1) t') := by
  have e := putSet_of (o := sObj es ep t) es' t' rfl
  have g := Heap.get?_update_self (Obj.putSet es' t') ho (by rw [e]; rfl)
  rw [e] at g
  exact g
theorem tail_str {g : Bool → Sem Unit} (gok : ∀ (b : Bool) (z : Shared) (R : Unit → Shared → Prop), R () z → wpAny (model prog w) A (g b) R E z) {a : Addr} {es : Array (Int × Value)} {ep : Nat} {t : SetTable} (ho : s.heap.get? a = some (sObj es ep t))
    {fs : Array (Int × Value)} {u : SetTable} {S' : Str → Bool} (el : ElemsOf (PySem.strKind prog w) fs.toList) (mem : ∀ k, S' k = true ↔ ∃ e ∈ fs.toList, (PySem.strKind prog w).is k e.2 = true) (small : fs.size < scanBound) (fit : u.fits fs.size = true) (tab : TabOk w u fs.size)
    {wd : Bool} {R : Option Bool → Shared → Prop} (fin : ∀ h', Heap.SameBut a s.heap h' → SetStr prog w h' a S' fs.size → R (some true) { s with heap := h' }) :
    wpAny (model prog w) A (do
        storeSet a fs u
        if (!wd && u.tooFull) = true then do
            g (relayAll u fs (SetTable.grown fs.size)).2.2
            storeSet a (relayAll u fs (SetTable.grown fs.size)).1 (relayAll u fs (SetTable.grown fs.size)).2.1
            pure (some true)
          else pure (some true)) R E s := by
  refine wpAny_bind (wpAny_storeSet_of ho rfl ?_ (fits_of_scanBound small))
  have o1 := store_at (es' := fs) (t' := u) ho
  have b1 := Heap.SameBut.update s.heap a (Obj.putSet fs u)
  split
  · have pm := relayAll_perm u fs (SetTable.grown fs.size)
    have ft := relayAll_fits u fs (SetTable.grown fs.size)
    have ld := relay_led u fs (SetTable.grown fs.size)
    generalize relayAll u fs (SetTable.grown fs.size) = rl at pm ft ld ⊢
    obtain ⟨gs, v, gv⟩ := rl
    dsimp only at pm ft ld ⊢
    have sz : gs.size = fs.size := by rw [← Array.length_toList, pm.length_eq, Array.length_toList]
    refine wpAny_bind (gok _ _ _ (wpAny_bind (wpAny_storeSet_of o1 rfl ?_ (fits_of_scanBound (by rw [sz]; exact small)))))
    have o2 := store_at (es' := gs) (t' := v) o1
    refine wpAny_pure (fin _ (b1.trans (Heap.SameBut.update _ a _)) ⟨gs, _, v, o2, el.perm pm, fun k => (mem k).trans ⟨fun ⟨e, he, q⟩ => ⟨e, pm.mem_iff.mpr he, q⟩, fun ⟨e, he, q⟩ => ⟨e, pm.mem_iff.mp he, q⟩⟩, by rw [sz]; exact small, ft, sz, ?_⟩)
    rw [sz]
    exact ⟨fun z => ld.1.trans (tab.1 z), fun z => ld.2 (tab.2 z)⟩
  · exact wpAny_pure (fin _ b1 ⟨fs, _, u, o1, el, mem, small, fit, rfl, tab⟩)
theorem add_str {a : Addr} {S : Str → Bool} {n : Nat} {x : Str} {tk : Tok} {Q : Bool → Shared → Prop} (st : SetStr prog w s.heap a S n) (room : n + 1 < scanBound)
    (fin : ∀ h', Heap.SameBut a s.heap h' → SetStr prog w h' a (fun k => S k || decide (k = x)) (if S x then n else n + 1) → Q (!S x) { s with heap := h' }) :
    wpAny (model prog w) A (setAddHashed a (.str x tk) ((PySem.strKind prog w).hash x)) Q E s := by
  obtain ⟨es, ep, t, ho, el, mem, small, fit, rfl, tab⟩ := st
  have key : (PySem.strKind prog w).is x (.str x tk) = true := by
    show Value.isStrOf x (.str x tk) = true
    simp [Value.isStrOf, Value.isStr]
  unfold setAddHashed setAddHashedIn
  refine wpAny_holding (wpAny_bind (wpAny_setState_of ho rfl fit ?_))
  dsimp only
  rw [byScan_of (knd := PySem.strKind prog w) (x := .str x tk) rfl small el]
  simp only [↓reduceIte]
  unfold setAddByScan
  refine wpAny_bind (wpAny_bind (wpAny_rule (wpAny_bind (wpAny_setScan_of (knd := PySem.strKind prog w) key ho rfl fit el ?_))))
  cases found : List.findIdx? (fun e => (PySem.strKind prog w).is x e.2) es.toList with
  | some j =>
    dsimp only
    obtain ⟨hj, at_, _⟩ := List.findIdx?_eq_some_iff_getElem.mp found
    have yes : S x = true := (mem x).mpr ⟨es.toList[j], List.getElem_mem hj, at_⟩
    refine wpAny_pure (wpAny_pure ?_)
    have f := fin s.heap (Heap.SameBut.refl a s.heap) ⟨es, ep, t, ho, el, fun k => ?_, small, fit, by rw [yes]; rfl, tab⟩
    · rw [yes] at f
      exact f
    · rw [Bool.or_eq_true, decide_eq_true_eq, ← mem k]
      exact ⟨fun z => z.elim id fun e => e ▸ yes, .inl⟩
  | none =>
    dsimp only
    have no : S x = false := by
      cases hx : S x with
      | false => rfl
      | true =>
        obtain ⟨e, he, q⟩ := (mem x).mp hx
        have := List.findIdx?_eq_none_iff.mp found e he
        rw [q] at this
        cases this
    have pm := layNew_perm t es ((PySem.strKind prog w).hash x) (.str x tk)
    have ft := layNew_fits t es ((PySem.strKind prog w).hash x) (.str x tk)
    have ld := lay_led t es ((PySem.strKind prog w).hash x) (.str x tk)
    generalize layNew t es ((PySem.strKind prog w).hash x) (.str x tk) = ly at pm ft ld ⊢
    obtain ⟨fs, u, wd, gave⟩ := ly
    dsimp only at pm ft ld ⊢
    rw [Array.toList_push] at pm
    have el' : ElemsOf (PySem.strKind prog w) fs.toList := (el.push key rfl).perm pm
    have mem' := mem_push_iff (knd := PySem.strKind prog w) key mem pm
    have sz : fs.size = es.size + 1 := by rw [← Array.length_toList, pm.length_eq, List.length_append, Array.length_toList]; rfl
    have gok : ∀ (b : Bool) (z : Shared) (R : Unit → Shared → Prop), R () z → wpAny (model prog w) A (match b with | true => rule "set.scan.the-table-gave-way" | false => pure ()) R E z := fun b z R q => by
      cases b
      · exact wpAny_pure q
      · exact wpAny_rule q
    refine wpAny_bind (gok _ _ _ ?_)
    have last : ∀ h', Heap.SameBut a s.heap h' → SetStr prog w h' a (fun k => S k || decide (k = x)) fs.size → Q true { s with heap := h' } := fun h' sb q => by
      have f := fin h' sb
      rw [no, if_neg Bool.false_ne_true] at f
      rw [sz] at q
      exact f q
    split
    · rename_i pl
      refine wpAny_bind ?_
      rw [hashByValue_scannable 8 (x := .str x tk) rfl]
      refine wpAny_pure ?_
      show wpAny _ _ _ _ _ _
      refine tail_str (w := w) (fun b z R q => gok b z R q) ho el' mem' (by omega) (u := { u with plain := false }) (SetTable.fits_plain_off ft) ⟨fun z => ld.1.trans (tab.1 z), fun _ => rfl⟩ fun h' sb q => ?_
      exact wpAny_pure (last h' sb q)
    · rename_i pl
      refine wpAny_bind (wpAny_pure ?_)
      simp only [↓reduceIte]
      refine tail_str (w := w) (fun b z R q => gok b z R q) ho el' mem' (by omega) ft ⟨fun z => ld.1.trans (tab.1 z), fun _ => by simpa using pl⟩ fun h' sb q => ?_
      exact wpAny_pure (last h' sb q)
end
section
variable {prog : Program} {w : World} {A : Around} {E : Value → Shared → Prop} {s : Shared}
end
end L2
set_option maxRecDepth 100000
namespace L2
open PySem PySem.Spec PyProof.Rows
section
variable {prog : Program} {w : World} {A : Around} {E : Value → Shared → Prop} {s : Shared}
end
end L2
set_option maxRecDepth 100000
namespace L2
open PySem PySem.Spec PyProof.Rows
section
variable {X : Cx}
end
end L2
set_option maxRecDepth 100000
namespace L2
open PySem PySem.Spec PyProof.Rows
section
variable {prog : Program} {w : World} {A : Around} {E : Value → Shared → Prop} {s : Shared} {I Fr a : Addr} {i n ep : Nat} {es : Array (Int × Value)} {t : SetTable}
end
end L2
set_option maxRecDepth 100000
namespace L2
open PySem PySem.Spec PyProof.Rows
section
variable {prog : Program} {w : World} {A : Around} {E : Value → Shared → Prop}
end
section
variable {prog : Program} {w : World} {A : Around} {E : Value → Shared → Prop} {s : Shared} {I a : Addr} {i n ep sl : Nat} {es : Array (Int × Value)} {t : SetTable}
end
end L2
set_option maxRecDepth 100000
namespace L2
open PySem PySem.Spec PyProof.Rows
abbrev vals (es : Array (Int × Value)) : List Value := es.toList.map (·.2)
section
variable {prog : Program} {w : World} {A : Around} {I Fr a : Addr} {es : Array (Int × Value)} {t : SetTable} {ep : Nat}
end
section
variable {prog : Program} {w : World} {A : Around} {E : Value → Shared → Prop} {s : Shared} {a : Addr} {es : Array (Int × Value)} {t : SetTable} {ep : Nat}
end
section
variable {prog : Program} {w : World} {A : Around} {E : Value → Shared → Prop} {s : Shared} {a : Addr}
end
section
variable {X : Cx}
end
end L2
set_option maxRecDepth 100000
namespace L2
open PySem PySem.Spec PyProof.Rows
section
variable {X : Cx}
end
end L2
set_option maxRecDepth 100000
namespace L2
open PySem PySem.Spec PyProof.Rows
noncomputable def clsBody : Stmt → List Stmt
  | .ClassDef _ _ _ b _ _ _ _ _ _ _ => b
  | _ => []
section
variable {P : Program} {w : World} {K : PySem.W.Frag} {mg : Str → Option Value} {base : Heap}
end
section
variable {X : Cx} {K : PySem.W.Frag} {o e value : Expr} {f : Str} {pos pos' : Pos} {ta tv : TE}
noncomputable def rFld (C : Addr) (ta : TE) (f : Str) : TE := fun σ H Q => ta σ H fun x H1 => match x with
  | .ref a => ∃ dx fs v, H1 a = some (.ins C dx fs) ∧ fs.lookup f = some v ∧ Q v H1
  | _ => False
theorem pe_fldC {C : Addr} (hK : X.K = K) (c : Cls K C) (n : NoAttr K C f) (he : PE X e ta) (hb : attributeBase e f X.env (eval e X.env) = eval e X.env := by rfl) : PE X (.Attribute e f pos) (rFld C ta f) := by
  subst hK
  have he' : PE X e (fun σ H Q => ∃ Q0 : VK, ta σ H Q0 ∧ ∀ v H', Q0 v H' → Q v H') := he.imp fun σ H Q h => h
  intro pins s σ H Q I h
  refine pe_fld (pos := pos) he' hb pins s σ H Q I ⟨_, h, fun v H' q => ?_⟩
  cases v with
  | ref a =>
    obtain ⟨dx, fs, v, q1, q2, q3⟩ := q
    exact ⟨a, C, dx, fs, v, rfl, q1, c, n, q2, q3⟩
  | _ => exact False.elim q
noncomputable def wFld (C : Addr) (ta tv : TE) (f : Str) : TS := fun D σ H => tv σ H fun y H1 => ta σ H1 fun x H2 => match x with
  | .ref a => ∃ dx fs, H2 a = some (.ins C dx fs) ∧ fs.length < 1000 ∧ D.nx σ (upd H2 a (.ins C dx (putF f y fs)))
  | _ => False
theorem ps_fldC {C : Addr} (hK : X.K = K) (c : Cls K C) (n : NoAttr K C f) (ha : PE X o ta) (hv : PE X value tv) (hs : swapsWith value (some (.Attribute o f pos')) pos.line X.env = pure false) : PS X (.Assign [.Attribute o f pos'] value pos) (wFld C ta tv f) := by
  subst hK
  have ha' : PE X o (fun σ H Q => ∃ Q0 : VK, ta σ H Q0 ∧ ∀ v H', Q0 v H' → Q v H') := ha.imp fun σ H Q h => h
  have hv' : PE X value (fun σ H Q => ∃ Q0 : VK, tv σ H Q0 ∧ ∀ v H', Q0 v H' → Q v H') := hv.imp fun σ H Q h => h
  intro pins s σ H D I h
  refine ps_fld (pos' := pos') (pos := pos) ha' hv' hs pins s σ H D I ⟨_, h, fun y H1 q1 => ⟨_, q1, fun x H2 q => ?_⟩⟩
  cases x with
  | ref a =>
    obtain ⟨dx, fs, q1, q2, q3⟩ := q
    exact ⟨a, C, dx, fs, rfl, q1, c, n, q2, q3⟩
  | _ => exact False.elim q
end
section
variable {X : Cx} {x : Str} {pos : Pos}
theorem pe_globI {z : Int} (hg : Gl X x) (hm : ∃ t, X.mg x = some (.int z t)) (hd : (x == ("__debug__" : Str)) = false := by decide) : PE X (.Name x pos) (tC (.int z)) := by
  obtain ⟨t, hm⟩ := hm
  exact pe_glob hg hm ⟨t, rfl⟩ hd
end
end L2
set_option maxRecDepth 100000
namespace L2
open PySem
noncomputable def colL (cs : List Nat) (h : Nat) : List Nat := cs.take h ++ 10 :: cs.drop h
noncomputable def fsL (cs : List Nat) (h : Nat) (tot fo : Addr) : List (Str × V) := [("column", .str (T (colL cs h))), ("home", .int h), ("last", .int cs.length), ("totals", .ref tot), ("forths", .ref fo)]
noncomputable def Tot (H : Hp) (tot : Addr) (cs : List Nat) : Prop := ∃ (ts : List Addr) (ds : List Nat), H tot = some (.lst (ts.map V.ref)) ∧ ts.length = ds.length ∧ (∀ (j d : Nat), ds[j]? = some d → ∃ t, ts[j]? = some t ∧ H t = some (.tup [.str (T [d]), .int (cs.count d : Nat)])) ∧ ds.Nodup ∧ (∀ c, c ∈ ds ↔ c ∈ cs)
noncomputable def Fo (H : Hp) (fo : Addr) (cs : List Nat) (h : Nat) : Prop := ∃ p : List Nat, H fo = some (.lst (p.map fun i : Nat => V.int i)) ∧ p.Perm (List.range (cs.length + 1)) ∧ p.Pairwise (fun i j => [(colL cs h).getD i 0] ≤ [(colL cs h).getD j 0] ∧ ([(colL cs h).getD i 0] = [(colL cs h).getD j 0] → i < j))
noncomputable def IsLet (C : Addr) (H : Hp) (a : Addr) (cs : List Nat) (h : Nat) : Prop := ∃ dx tot fo, H a = some (.ins C dx (fsL cs h tot fo)) ∧ (Tot H tot cs ∧ Fo H fo cs h) ∧ h ≤ cs.length
theorem Tot.same {H H' : Hp} {tot : Addr} {cs : List Nat} (x : Tot H tot cs) (sm : ∀ b o, H b = some o → (∀ ps, o ≠ .tbl ps) → H' b = some o) : Tot H' tot cs := by
  obtain ⟨ts, ds, h1, h2, h3, h4⟩ := x
  refine ⟨ts, ds, sm _ _ h1 (by intro ps z; cases z), h2, fun j d e => ?_, h4⟩
  obtain ⟨t, e1, e2⟩ := h3 j d e
  exact ⟨t, e1, sm _ _ e2 (by intro ps z; cases z)⟩
theorem IsLet.same {C : Addr} {H H' : Hp} {a : Addr} {cs : List Nat} {h : Nat} (x : IsLet C H a cs h) (sm : ∀ b o, H b = some o → (∀ ps, o ≠ .tbl ps) → H' b = some o) : IsLet C H' a cs h := by
  obtain ⟨dx, tot, fo, h1, h2, h3⟩ := x
  obtain ⟨p, p1, p2⟩ := h2.2
  exact ⟨dx, tot, fo, sm _ _ h1 (by intro ps z; cases z), ⟨h2.1.same sm, p, sm _ _ p1 (by intro ps z; cases z), p2⟩, h3⟩
noncomputable def Prs (H : Hp) (ts : List Addr) (ds cs : List Nat) : Prop := ts.length = ds.length ∧ ∀ (j d : Nat), ds[j]? = some d → ∃ t, ts[j]? = some t ∧ H t = some (.tup [.str (T [d]), .int (cs.count d : Nat)])
theorem Prs.same {H H' : Hp} {ts : List Addr} {ds cs : List Nat} (x : Prs H ts ds cs) (sm : LP.SameT H H') : Prs H' ts ds cs := ⟨x.1, fun j d e => by
  obtain ⟨t, e1, e2⟩ := x.2 j d e
  exact ⟨t, e1, sm _ _ e2⟩⟩
theorem Prs.snoc {H : Hp} {ts : List Addr} {ds cs : List Nat} {t : Addr} {d : Nat} (x : Prs H ts ds cs) (ht : H t = some (.tup [.str (T [d]), .int (cs.count d : Nat)])) : Prs H (ts ++ [t]) (ds ++ [d]) cs := by
  refine ⟨by simp [x.1], fun j e hj => ?_⟩
  by_cases h : j < ds.length
  · rw [List.getElem?_append_left h] at hj
    obtain ⟨u, e1, e2⟩ := x.2 j e hj
    exact ⟨u, by rw [List.getElem?_append_left (by rw [x.1]; exact h)]; exact e1, e2⟩
  · have hl := (List.getElem?_eq_some_iff.mp hj).1
    rw [List.length_append, List.length_singleton] at hl
    have ej : j = ds.length := by omega
    subst ej
    rw [List.getElem?_append_right (Nat.le_refl _), Nat.sub_self] at hj
    have hj : d = e := by simpa using hj
    subst hj
    exact ⟨t, by rw [← x.1, List.getElem?_append_right (Nat.le_refl _), Nat.sub_self]; rfl, ht⟩
end L2
set_option maxRecDepth 100000
namespace L2
open PySem PySem.Spec PyProof.Rows Builtin Builtin.Str
section
variable {prog : Program} {w : World} {A : Around} {E : Value → Shared → Prop} {s : Shared} {I l : Addr}
end
section
variable {X : Cx} {K : PySem.W.Frag}
end
end L2
set_option maxRecDepth 100000
namespace LO
open L2
end LO
namespace L2
open PySem
theorem Same.nn {H H' : Hp} (s : Same H H') {b : Addr} (h : H b ≠ none) : H' b ≠ none := by
  cases e : H b with
  | none => exact absurd e h
  | some o => rw [s b o e]; simp
theorem SameN.nn {H H' : Hp} (s : SameN H H') {b : Addr} (h : H b ≠ none) : H' b ≠ none := by
  cases e : H b with
  | none => exact absurd e h
  | some o => exact (s b o e).1
end L2
set_option maxRecDepth 100000
namespace L2
open PySem
noncomputable def encV (ps : List (Int × V)) : List (Key × V) := ps.map fun p => (.inl p.1, p.2)
theorem lookup_snoc (k j : Int) (v : V) : ∀ ps : List (Int × V), (ps ++ [(k, v)]).lookup j = (ps.lookup j).or (if j = k then some v else none)
  | [] => by
    rw [List.nil_append, List.lookup_cons]
    by_cases e : j = k
    · rw [if_pos e, show (j == k) = true by simpa using e]
      rfl
    · rw [if_neg e, show (j == k) = false by simpa using e]
      rfl
  | x :: r => by
    rw [List.cons_append, List.lookup_cons, List.lookup_cons]
    cases (j == x.1) with
    | true => rfl
    | false => exact lookup_snoc k j v r
end L2
namespace LO
end LO
namespace LO
end LO
namespace L2
open PySem
end L2
set_option maxRecDepth 100000
namespace L2
open PySem PySem.Spec PyProof.Rows
section
variable {X : Cx} {pos : Pos} {K : PySem.W.Frag}
noncomputable def b2i (b : Bool) : Int := if b then 1 else 0
noncomputable def intV : List V → Hp → VK → Prop := fun xs H Q => match xs with
  | [.bl b] => Q (.int (b2i b)) H
  | [.int i] => Q (.int i) H
  | _ => False
theorem c_int : CallR X (.type "int") intV := by
  intro pins s σ H xs us Q I r h
  unfold intV at h
  split at h
  · rename_i b
    obtain ⟨u, rfl, rfl⟩ := vals1 r
    exact call_int_bool ⟨.int (b2i b), H, I.tok _, ⟨_, rfl⟩, h⟩
  · rename_i i
    obtain ⟨u, rfl, t, rfl⟩ := vals1 r
    exact call_int_int ⟨.int i, H, I, ⟨_, rfl⟩, h⟩
  · exact h.elim
noncomputable def forT (K : PySem.W.Frag) (a : Addr) (xs : List V) (g : TG) (tb : TS) : TS := fun D σ H => ∃ Pv : Nat → St → Hp → Prop, Pv 0 σ H ∧ (∀ i σ H, i ≤ xs.length → Pv i σ H → SqT K H a xs) ∧
  (∀ i x σ H, xs[i]? = some x → Pv i σ H → g x σ H fun σ2 H2 => tb { nx := Pv (i + 1), rt := D.rt, bk := D.nx, ct := Pv (i + 1) } σ2 H2) ∧ ∀ σ H, Pv xs.length σ H → D.nx σ H
noncomputable def tTupF (K : PySem.W.Frag) (tl : TE) (g : TG) (tb : TS) : TS := fun D σ H => tl σ H fun v H1 => match v with
  | .ref a => ∃ xs, SqT K H1 a xs ∧ forT K a xs g tb D σ H1
  | _ => False
theorem ps_tupF {l tg : Expr} {body : List Stmt} {tl : TE} {g : TG} {tb : TS} (hK : X.K = K) (hp : PassesOwn (model X.prog X.w) X.A X.env X.xe) (hc : X.calm = true) (hl : PE X l tl) (hg : PG X tg g) (hb : PSs X body tb)
    (hf : ∀ x, foldedSetIterable l X.env x = pure x := by intro _; rfl) : PS X (.For tg l body [] pos) (tTupF K tl g tb) := by
  subst hK
  have hl' : PE X l (fun σ H Q => ∃ Q0 : VK, tl σ H Q0 ∧ ∀ v H', Q0 v H' → Q v H') := hl.imp fun σ H Q h => h
  intro pins s σ H D I h
  refine ps_for hp hc (pi_tup hl') hg hb hf pins s σ H D I ⟨_, h, fun v H1 q => ?_⟩
  cases v with
  | ref a =>
    obtain ⟨xs, hx, Pv, h0, hs, h1, hd⟩ := q
    exact ⟨a, rfl, ⟨xs, hx⟩, for_tup Pv h0 hs h1 hd⟩
  | _ => exact False.elim q
end
end L2
namespace LO
end LO
namespace L2
open PySem
theorem EqT.int {K : PySem.W.Frag} {H : Hp} {n : Nat} (i : Int) : EqT K H n (.int i) (.int i) := .flat rfl rfl (by simp [eqV])
theorem EqT.str {K : PySem.W.Frag} {H : Hp} {n : Nat} (z : Str) : EqT K H n (.str z) (.str z) := .flat rfl rfl (by simp [eqV])
end L2
namespace LO
end LO
set_option maxRecDepth 100000
namespace L2
open PySem PySem.Spec PyProof.Rows
section
variable {X : Cx} {K : PySem.W.Frag}
end
noncomputable def Bd (i : Int) (m : Nat) : Prop := 0 ≤ i ∧ i ≤ m
theorem Bd.mul {i j : Int} {m n : Nat} (h : Bd i m) (g : Bd j n) : Bd (i * j) (m * n) := by
  refine ⟨Int.mul_nonneg h.1 g.1, ?_⟩
  rw [Int.natCast_mul]
  exact Int.mul_le_mul h.2 g.2 g.1 (Int.natCast_nonneg _)
theorem Bd.add {i j : Int} {m n : Nat} (h : Bd i m) (g : Bd j n) : Bd (i + j) (m + n) := by
  refine ⟨Int.add_nonneg h.1 g.1, ?_⟩
  rw [Int.natCast_add]
  exact Int.add_le_add h.2 g.2
theorem Bd.mod (i : Int) {m : Nat} (h : 0 < m) : Bd (i % (m : Int)) m := ⟨Int.emod_nonneg _ (by omega), Int.le_of_lt (Int.emod_lt_of_pos _ (by omega))⟩
theorem eqV_self : ∀ {x : V}, flatV x = true → eqV x x = true := by
  intro x h
  cases x <;> first | (simp [eqV]; done) | (simp [flatV] at h; done)
theorem alike_same {K : PySem.W.Frag} {H : Hp} {a b : Addr} {xs : List V} (hf : ∀ x ∈ xs, flatV x = true) (h1 : H a = some (.tup xs)) (h2 : H b = some (.tup xs)) : Alike K H a b := by
  refine ⟨_, _, .inr ⟨SqT.of h1, SqT.of h2⟩, rfl, fun j x y ex ey => ?_⟩
  rw [ex] at ey
  cases Option.some.inj ey
  have := hf x (List.mem_of_getElem? ex)
  exact .flat this this (eqV_self this)
theorem flat2 {x y : V} (hx : flatV x = true) (hy : flatV y = true) : ∀ v ∈ [x, y], flatV v = true := by
  intro v hv
  rcases List.mem_cons.mp hv with rfl | hv
  · exact hx
  · cases List.mem_singleton.mp hv
    exact hy
end L2
set_option maxRecDepth 100000
namespace L2
open PySem PySem.Spec PyProof.Rows
noncomputable def IsRvS (h : Heap) (a : Addr) (z : Str) (t : Tok) (i : Int) : Prop := ∃ o, h.get? a = some o ∧ o.cls = .type "reversed" ∧ o.data = .fields #[.str z t, rawInt i]
section
variable {prog : Program} {w : World} {A : Around} {E : Value → Shared → Prop} {s : Shared}
theorem IsRvS.typeIs {a : Addr} {z : Str} {t : Tok} {i : Int} (x : IsRvS s.heap a z t i) : s.TypeIs (.ref a) "reversed" := let ⟨o, ho, hc, _⟩ := x; ⟨o, ho, hc⟩
end
section
variable {P : Program} {w : World} {K : PySem.W.Frag} {tg : Expr}
end
section
variable {X : Cx} {tg : Expr}
end
end L2
set_option maxRecDepth 100000
namespace L2
open PySem PySem.Spec PyProof.Rows
structure FunD (K : PySem.W.Frag) (x qual : Str) (st : Stmt) (f T : Addr) (fd : FuncData) : Prop where
  ex : ∃ (oc : Value) (od : Option Addr) (kV doc pm : Value) (an : Option Addr) (cdv ct : Value) (osl : Array (Option Value)),
    fd = PySem.W.fnOf x qual (defArgs st) (defBody st) (defScope st) (.ref T) kV doc pm an cdv ct ∧ K.lookup f = some ⟨oc, od, .func fd, osl⟩ ∧ PySem.W.codeIn K cdv qual = true
  kp : PySem.W.keepIn K (.ref f) = true
section
variable {P : Program} {w : World} {K : PySem.W.Frag} {mg : Str → Option Value} {base : Heap} {x qual : Str} {st : Stmt} {f T : Addr} {fd : FuncData} {N ps : List Str} {k : Nat} {sp : Sp}
theorem FunD.okX (F : FunD K x qual st f T fd) (S : FnScope N ps (defScope st)) (len : ∀ vs H Q E, sp vs H Q E → vs.length = ps.length)
    (hbody : ∀ (cdv : Value) (A : Around) (outer : List Env) (s : Shared) (H : Hp) (vs : List V) (Q : VK) (E : XK), Room k (A.deeper (envOfC qual (defScope st) s.heap.objs.size f cdv)) → sp vs H Q E →
      ∃ t, PSs (cxOf (CX1 P w) P w K mg base N qual (defScope st) f cdv A outer s H E) (defBody st) t ∧ t { nx := fun _ H' => Q .non H', rt := Q } (start N vs) H) : FnOk P w K mg base (CX1 P w) (k + 1) f fd ps sp := by
  obtain ⟨oc, od, kV, doc, pm, an, cdv, ct, osl, rfl, lk, hcd⟩ := F.ex
  exact fn_of lk hcd S len fun A outer s H vs Q E hr hsp => hbody cdv A outer s H vs Q E hr hsp
theorem FunD.ok (F : FunD K x qual st f T fd) (S : FnScope N ps (defScope st)) (len : ∀ vs H Q E, sp vs H Q E → vs.length = ps.length)
    (hbody : ∀ (cdv : Value) (A : Around) (outer : List Env) (s : Shared) (H : Hp) (vs : List V) (Q : VK) (E : XK), Room k (A.deeper (envOfC qual (defScope st) s.heap.objs.size f cdv)) → sp vs H Q E →
      ∃ t, PSs (cxOf CX0 P w K mg base N qual (defScope st) f cdv A outer s H E).nox (defBody st) t ∧ t { nx := fun _ H' => Q .non H', rt := Q } (start N vs) H) : FnOk P w K mg base CX0 (k + 1) f fd ps sp := by
  obtain ⟨oc, od, kV, doc, pm, an, cdv, ct, osl, rfl, lk, hcd⟩ := F.ex
  refine fn_of lk hcd S len fun A outer s H vs Q E hr hsp => ?_
  obtain ⟨t, h, q⟩ := hbody cdv A outer s H vs Q E hr hsp
  exact ⟨t, h.nox, q⟩
theorem FunD.binds {ds : List Value} {items : Array Value} {n : Nat} {qc : Value} {qo : Option Addr} {qs : Array (Option Value)} (F : FunD K x qual st f T fd) (hT : K.lookup T = some ⟨qc, qo, .seq items n, qs⟩)
    (h : ∀ (kV doc pm : Value) (an : Option Addr) (cdv ct : Value) (us : List Value), us.length + ds.length = ps.length →
      ∃ g : Option (Array Value) → Sem (List (Str × Value)), bindArgs (PySem.W.fnOf x qual (defArgs st) (defBody st) (defScope st) (.ref T) kV doc pm an cdv ct) ⟨us, []⟩ = seqItems? (.ref T) >>= g ∧ g (some items) = pure (ps.zip (us ++ ds))) : Binds K fd ps ds := by
  obtain ⟨oc, od, kV, doc, pm, an, cdv, ct, osl, rfl, lk, hcd⟩ := F.ex
  intro s us hin hl
  obtain ⟨g, h1, h2⟩ := h kV doc pm an cdv ct us (by rw [← List.length_append]; exact hl)
  exact PySem.W.binds_K hin rfl hT rfl h1 h2
end
end L2
namespace L2
open PySem PySem.Spec PyProof.Rows
section
variable {X : Cx}
end
end L2
set_option maxRecDepth 100000
namespace L2
open PySem PySem.Spec PyProof.Rows
noncomputable def KeepX (x d : Addr) (H H' : Hp) : Prop := (∀ b o, b ≠ x → b ≠ d → H b = some o → (∀ ps, o ≠ .tbl ps) → H' b = some o) ∧ ∀ b, H b ≠ none → H' b ≠ none
theorem KeepX.ofN {x d : Addr} {H H' : Hp} (s : SameN H H') : KeepX x d H H' := ⟨fun _ _ _ _ e n => s.at e n, fun _ e => s.nn e⟩
theorem KeepX.trans {x d : Addr} {H H1 H2 : Hp} (a : KeepX x d H H1) (b : KeepX x d H1 H2) : KeepX x d H H2 := ⟨fun c o h1 h2 e n => b.1 c o h1 h2 (a.1 c o h1 h2 e n) n, fun c e => b.2 c (a.2 c e)⟩
theorem KeepX.refl (x d : Addr) (H : Hp) : KeepX x d H H := ⟨fun _ _ _ _ e _ => e, fun _ e => e⟩
noncomputable def ordAt (l : List Nat) (r : Nat) : Nat := (LO.ord l).getD r 0
noncomputable def KnownTo (ps : List (Int × V)) (l : List Nat) (g : Int) (k : Nat) : Prop := ∀ r : Int, ps.lookup r = if 0 ≤ r ∧ r < k ∧ (ordAt l r.toNat : Int) % g = 0 then some (.int (ordAt l r.toNat : Nat)) else none
noncomputable def fsF (h d : Addr) (g : Int) : List (Str × V) := [("held", .ref h), ("gap", .int g), ("known", .ref d)]
noncomputable def IsFin (C CL : Addr) (H : Hp) (x : Addr) (l : List Nat) (g : Int) : Prop := ∃ dx h d ps, H x = some (.ins C dx (fsF h d g)) ∧ IsLet CL H h (LO.letters l) (LO.home l) ∧ H d = some (.dK (encV ps)) ∧ KnownTo ps l g (l.length + 1) ∧ 1 ≤ g
theorem IsFin.same {C CL : Addr} {H H' : Hp} {x : Addr} {l : List Nat} {g : Int} (f : IsFin C CL H x l g) (sm : ∀ b o, H b = some o → (∀ ps, o ≠ .tbl ps) → H' b = some o) : IsFin C CL H' x l g := by
  obtain ⟨dx, h, d, ps, h1, h2, h3, h4⟩ := f
  exact ⟨dx, h, d, ps, sm _ _ h1 (by intro ps z; cases z), h2.same sm, sm _ _ h3 (by intro ps z; cases z), h4⟩
theorem KnownTo.step {ps : List (Int × V)} {l : List Nat} {g : Int} {k j : Nat} (h : KnownTo ps l g k) (e : (LO.ord l)[k]? = some j) : ((j : Int) % g = 0 → ps.lookup (k : Int) = none ∧ KnownTo (ps ++ [((k : Int), .int (j : Int))]) l g (k + 1)) ∧ (¬ (j : Int) % g = 0 → KnownTo ps l g (k + 1)) := by
  have ej : ordAt l k = j := by
    unfold ordAt
    rw [List.getD_eq_getElem?_getD, e]
    rfl
  refine ⟨fun hz => ⟨by rw [h, if_neg fun z => by omega], fun r => ?_⟩, fun hz r => ?_⟩
  · rw [lookup_snoc, h r]
    by_cases er : r = (k : Int)
    · subst er
      rw [if_neg fun z => by omega, if_pos rfl, Int.toNat_natCast, ej, if_pos ⟨by omega, by omega, hz⟩]
      rfl
    · rw [if_neg er, Option.or_none]
      by_cases hr : 0 ≤ r ∧ r < k ∧ (ordAt l r.toNat : Int) % g = 0
      · rw [if_pos hr, if_pos ⟨hr.1, by omega, hr.2.2⟩]
      · rw [if_neg hr, if_neg fun z => hr ⟨z.1, by omega, z.2.2⟩]
  · rw [h r]
    by_cases er : r = (k : Int)
    · subst er
      rw [if_neg fun z => by omega, if_neg fun z => hz (by rw [Int.toNat_natCast, ej] at z; exact z.2.2)]
    · by_cases hr : 0 ≤ r ∧ r < k ∧ (ordAt l r.toNat : Int) % g = 0
      · rw [if_pos hr, if_pos ⟨hr.1, by omega, hr.2.2⟩]
      · rw [if_neg hr, if_neg fun z => hr ⟨z.1, by omega, z.2.2⟩]
end L2
namespace LO
end LO
namespace L2
open PySem
end L2
namespace L2
open PySem
end L2
namespace L2
open PySem
theorem ordAt_rank {l : List Nat} {j : Nat} (h : j ≤ l.length) : ordAt l (LO.rank l j) = j := by
  unfold ordAt
  rw [List.getD_eq_getElem?_getD, LO.ord_rank h]
  rfl
theorem ordAt_le {l : List Nat} {r : Nat} (h : r ≤ l.length) : ordAt l r ≤ l.length ∧ LO.rank l (ordAt l r) = r := by
  have hl := LO.ord_length l
  have e : (LO.ord l)[r]? = some (LO.ord l)[r] := List.getElem?_eq_getElem (by omega)
  have e2 : ordAt l r = (LO.ord l)[r] := by
    unfold ordAt
    rw [List.getD_eq_getElem?_getD, e]
    rfl
  rw [e2]
  exact ⟨LO.mem_ord.mp (List.getElem_mem _), LO.rank_of e⟩
theorem KnownTo.at {ps : List (Int × V)} {l : List Nat} {g : Int} {j : Nat} (h : KnownTo ps l g (l.length + 1)) (hj : j ≤ l.length) : ps.lookup ((LO.rank l j : Nat) : Int) = if (j : Int) % g = 0 then some (.int (j : Int)) else none := by
  have hr := LO.rank_lt (l := l) (j := j) hj
  rw [h, Int.toNat_natCast, ordAt_rank hj]
  by_cases z : (j : Int) % g = 0
  · rw [if_pos ⟨by omega, by omega, z⟩, if_pos z]
  · rw [if_neg fun w => z w.2.2, if_neg z]
end L2
set_option maxRecDepth 100000
namespace L2
open PySem PySem.Spec PyProof.Rows
structure MkrK (P : Program) (w : World) (K : PySem.W.Frag) (mg : Str → Option Value) (base : Heap) (CX : CXT) (k : Nat) (x : Str) (C : Addr) (ps : List Str) (kw : Str) (sp : Sp) : Prop where
  ex : ∃ f fd, FnOk P w K mg base CX k f fd ps sp ∧ Mk K C f ∧ ∀ (s : Shared) (a b c : Value), K.In s.heap → BindsTo s fd ⟨[a, b], [(kw, c)]⟩ (ps.zip [a, b, c])
  at_ : mg x = some (.ref C)
theorem MkrK.mono {P : Program} {w : World} {K : PySem.W.Frag} {mg : Str → Option Value} {base : Heap} {CX : CXT} {j k : Nat} {C : Addr} {x kw : Str} {ps : List Str} {sp : Sp} (M : MkrK P w K mg base CX j x C ps kw sp) (h : j ≤ k) : MkrK P w K mg base CX k x C ps kw sp := by
  obtain ⟨f, fd, F, r⟩ := M.ex
  exact ⟨⟨f, fd, F.mono h, r⟩, M.at_⟩
theorem MkrK.quiet {P : Program} {w : World} {K : PySem.W.Frag} {mg : Str → Option Value} {base : Heap} {k : Nat} {C : Addr} {x kw : Str} {ps : List Str} {sp : Sp} (M : MkrK P w K mg base (CX1 P w) k x C ps kw sp) : MkrK P w K mg base CX0 k x C ps kw (fun vs H Q _ => sp vs H Q E0) := by
  obtain ⟨f, fd, F, r⟩ := M.ex
  exact ⟨⟨f, fd, quietX F, r⟩, M.at_⟩
section
variable {X : Cx} {k : Nat} {C : Addr} {x kw : Str} {ps : List Str} {sp : Sp} {e e2 : Expr} {ta tb : TE} {p pos kpos : Pos}
end
section
variable {K : PySem.W.Frag} {x qual : Str} {st : Stmt} {f T : Addr} {fd : FuncData} {ps : List Str}
end
end L2
namespace L2
open PySem
end L2
set_option maxRecDepth 100000
namespace L2
open PySem PySem.Spec PyProof.Rows
noncomputable def KeepY (x d t1 t2 : Addr) (H H' : Hp) : Prop := KeepX x d H H' ∧ ∀ b o, b ≠ x → b ≠ d → b ≠ t1 → b ≠ t2 → H b = some o → H' b = some o
theorem KeepY.of {x d t1 t2 : Addr} {H H' : Hp} (s : SameN H H') (e : ∀ b o, b ≠ t1 → b ≠ t2 → H b = some o → H' b = some o) : KeepY x d t1 t2 H H' := ⟨KeepX.ofN s, fun b o _ _ n1 n2 h => e b o n1 n2 h⟩
theorem KeepY.trans {x d t1 t2 : Addr} {H H1 H2 : Hp} (a : KeepY x d t1 t2 H H1) (b : KeepY x d t1 t2 H1 H2) : KeepY x d t1 t2 H H2 := ⟨a.1.trans b.1, fun c o h1 h2 h3 h4 e => b.2 c o h1 h2 h3 h4 (a.2 c o h1 h2 h3 h4 e)⟩
end L2
set_option maxRecDepth 100000
namespace L2
open PySem PySem.Spec PyProof.Rows
section
variable {X : Cx}
end
end L2
namespace LO
open L2
theorem has_take {l t : List Nat} {i : Nat} : hasAt l t i = true ↔ (l.drop i).take t.length = t := by
  unfold hasAt
  rw [List.isPrefixOf_iff_prefix, List.prefix_iff_eq_take]
  exact ⟨fun h => h.symm, fun h => h.symm⟩
end LO
set_option maxRecDepth 100000
namespace L2
open PySem PySem.Spec PyProof.Rows
structure FnD (P : Program) (w : World) (K : PySem.W.Frag) (mg : Str → Option Value) (base : Heap) (k : Nat) (x : Str) (ps : List Str) (dvs : List V) (sp : Sp) : Prop where
  ex : ∃ f fd ds, FnOk P w K mg base CX0 k f fd ps sp ∧ mg x = some (.ref f) ∧ PySem.W.keepIn K (.ref f) = true ∧ Binds K fd ps ds ∧ Vals dvs ds
structure FnK (P : Program) (w : World) (K : PySem.W.Frag) (mg : Str → Option Value) (base : Heap) (k : Nat) (x : Str) (ps : List Str) (kw : Str) (sp : Sp) : Prop where
  ex : ∃ f fd, FnOk P w K mg base CX0 k f fd ps sp ∧ mg x = some (.ref f) ∧ PySem.W.keepIn K (.ref f) = true ∧ ∀ (s : Shared) (a c : Value), K.In s.heap → BindsTo s fd ⟨[a], [(kw, c)]⟩ (ps.zip [a, c])
section
variable {X : Cx} {k : Nat} {x kw : Str} {ps : List Str} {sp : Sp} {p pos kpos : Pos} {e e2 : Expr} {es : List Expr} {t : TA} {ta tb : TE} {dvs : List V}
end
section
variable {K : PySem.W.Frag} {x qual : Str} {st : Stmt} {f T : Addr} {fd : FuncData} {ps : List Str}
end
end L2
set_option maxRecDepth 100000
namespace LO
open LW L2
theorem take_up : ∀ {x y : List Nat} (k : Nat), x ≤ y → x.take k ≤ y.take k
  | _, _, 0, _ => by simp
  | [], y, k + 1, _ => by simp
  | c :: x, [], k + 1, h => absurd (List.nil_lt_cons c x) (List.not_lt.mpr h)
  | c :: x, d :: y, k + 1, h => by
    rw [List.take_succ_cons, List.take_succ_cons]
    have h : ¬ (d :: y < c :: x) := List.not_lt.mpr h
    refine List.not_lt.mp fun z => h ?_
    rw [List.cons_lt_cons_iff] at z ⊢
    rcases z with z | ⟨z1, z2⟩
    · exact .inl z
    · refine .inr ⟨z1, ?_⟩
      rcases Decidable.em (y < x) with w | w
      · exact w
      · exact absurd z2 (List.not_lt.mpr (take_up k (List.not_lt.mp w)))
theorem row_up {l : List Nat} {i j : Nat} (h : i ≤ j) (hj : j ≤ l.length) : l.drop (ordAt l i) ≤ l.drop (ordAt l j) := by
  have ol := ord_length l
  rcases Nat.lt_or_ge i j with w | w
  · have := List.pairwise_iff_getElem.mp (ord_le l) i j (by omega) (by omega) w
    unfold ordAt
    rw [List.getD_eq_getElem?_getD, List.getD_eq_getElem?_getD, List.getElem?_eq_getElem (by omega), List.getElem?_eq_getElem (by omega)]
    exact this
  · have : i = j := by omega
    subst this
    exact List.le_refl _
noncomputable def sz (l : List Nat) (m r : Nat) : Nat := com (l.drop (ordAt l r)) (l.drop (ordAt l (r + (m - 1))))
noncomputable def pc (l : List Nat) (m r : Nat) : List Nat := (l.drop (ordAt l r)).take (sz l m r)
theorem pc_len (l : List Nat) (m r : Nat) : (pc l m r).length = sz l m r := by
  unfold pc
  rw [List.length_take]
  have := (LW.com_le (l.drop (ordAt l r)) (l.drop (ordAt l (r + (m - 1))))).1
  unfold sz
  omega
theorem pc_many {l : List Nat} {m r : Nat} (h1 : 1 ≤ m) (hr : r + (m - 1) ≤ l.length) : m ≤ many l (pc l m r) := by
  have hp : pc l m r = (l.drop (ordAt l (r + (m - 1)))).take (sz l m r) := take_com _ _ _ (Nat.le_refl _)
  obtain ⟨a1, a2⟩ := ordAt_le (l := l) (r := r) (by omega)
  obtain ⟨b1, b2⟩ := ordAt_le (l := l) (r := r + (m - 1)) (by omega)
  have c1 := (rank_in (t := pc l m r) a1).mp (has_take.mpr (by rw [pc_len]; rfl))
  have c2 := (rank_in (t := pc l m r) b1).mp (has_take.mpr (by rw [pc_len]; exact hp.symm))
  unfold high at c1 c2
  omega
structure Lng (l : List Nat) (m i : Nat) (c : List Nat) : Prop where
  one : m ≤ many l c
  most : ∀ r, r < i → sz l m r ≤ c.length
  first : ∀ r, r < i → sz l m r = c.length → ¬ pc l m r < c
  src : ∀ j, i ≤ j → j ≤ l.length → ¬ (l.drop (ordAt l j)).take c.length < c
theorem Lng.keep {l c : List Nat} {m i : Nat} (h : Lng l m i c) (hi : i ≤ l.length) (hs : sz l m i ≤ c.length) : Lng l m (i + 1) c := by
  refine ⟨h.one, fun r hr => ?_, fun r hr e => ?_, fun j hj hj2 => h.src j (by omega) hj2⟩
  · rcases Nat.lt_or_ge r i with w | w
    · exact h.most r w
    · have : r = i := by omega
      subst this
      exact hs
  · rcases Nat.lt_or_ge r i with w | w
    · exact h.first r w e
    · have : r = i := by omega
      subst this
      unfold pc
      rw [e]
      exact h.src r (Nat.le_refl _) hi
theorem Lng.take {l c : List Nat} {m i : Nat} (h : Lng l m i c) (h1 : 1 ≤ m) (hi : i + (m - 1) ≤ l.length) (hs : c.length < sz l m i) : Lng l m (i + 1) (pc l m i) := by
  refine ⟨pc_many h1 hi, fun r hr => ?_, fun r hr e => ?_, fun j hj hj2 => ?_⟩
  · rw [pc_len]
    rcases Nat.lt_or_ge r i with w | w
    · have := h.most r w
      omega
    · have : r = i := by omega
      subst this
      exact Nat.le_refl _
  · rw [pc_len] at e
    rcases Nat.lt_or_ge r i with w | w
    · have := h.most r w
      omega
    · have : r = i := by omega
      subst this
      exact List.lt_irrefl _
  · rw [pc_len]
    exact List.not_lt.mpr (take_up _ (row_up (by omega) hj2))
end LO
set_option maxRecDepth 100000
namespace L2
open PySem PySem.Spec PyProof.Rows
section
variable {prog : Program} {w : World} {A : Around} {E : Value → Shared → Prop} {s : Shared}
structure Zap (z TI TO i1 i2 : Addr) : Prop where
  TIz : TI ≠ z
  TOz : TO ≠ z
  i1z : i1 ≠ z
  i2z : i2 ≠ z
  TITO : TI ≠ TO
  TIi1 : TI ≠ i1
  TIi2 : TI ≠ i2
  TOi1 : TO ≠ i1
  TOi2 : TO ≠ i2
  i12 : i1 ≠ i2
variable {z TI TO i1 i2 : Addr} {n1 n2 k : Nat} {P1 P2 : Nat → Value → Prop} {S1 S2 : Nat → Heap → Prop} {a b : Value}
end
section
variable {prog : Program} {w : World} {A : Around} {E : Value → Shared → Prop} {s : Shared}
end
section
variable {X : Cx} {es : List Expr} {k : Nat} {tp : Pos}
end
end L2
set_option maxRecDepth 100000
namespace L2
open PySem PySem.Spec PyProof.Rows
section
variable {X : Cx} {elt : Expr} {ifs : List Expr} {u v : Str} {pu pv : Pos} {scope : Scope} {pos tp : Pos} {k : Nat} {cl : List (Str × Addr)} {own : List Str} {cp : List (Str × Nat)} {ta : TA} {tc : TT} {te : TE}
end
end L2
set_option maxRecDepth 100000
namespace L2
open PySem PySem.Spec PyProof.Rows Builtin Builtin.Str
section
variable {prog : Program} {w : World} {A : Around} {E : Value → Shared → Prop} {s : Shared} {I l : Addr}
end
section
variable {X : Cx} {K : PySem.W.Frag}
end
end L2
namespace LG
open LO
theorem has_iff {l t : List Nat} {i : Nat} : hasAt l t i = true ↔ ∃ u, l.drop i = t ++ u := by
  unfold hasAt
  rw [List.isPrefixOf_iff_prefix]
  exact ⟨fun ⟨u, h⟩ => ⟨u, h.symm⟩, fun ⟨u, h⟩ => ⟨u, h.symm⟩⟩
theorem many_pos {l t : List Nat} : many l t ≠ 0 ↔ ∃ a b, l = a ++ t ++ b := by
  unfold many
  constructor
  · intro h
    obtain ⟨i, hi, h1⟩ := List.countP_pos_iff.mp (Nat.pos_of_ne_zero h)
    obtain ⟨u, hu⟩ := has_iff.mp h1
    exact ⟨l.take i, u, by rw [List.append_assoc, ← hu, List.take_append_drop]⟩
  · rintro ⟨a, b, rfl⟩
    refine Nat.pos_iff_ne_zero.mp (List.countP_pos_iff.mpr ⟨a.length, List.mem_range.mpr (by simp; omega), has_iff.mpr ⟨b, ?_⟩⟩)
    rw [List.append_assoc, List.drop_left]
theorem many_in {l x y z : List Nat} (h : many l (x ++ y ++ z) ≠ 0) : many l y ≠ 0 := by
  obtain ⟨a, b, e⟩ := many_pos.mp h
  exact many_pos.mpr ⟨a ++ x, z ++ b, by rw [e]; simp⟩
theorem many_end {l x y : List Nat} (h : many l (x ++ y) ≠ 0) : many l y ≠ 0 := many_in (z := []) (by simpa using h)
theorem many_nil (l : List Nat) : many l [] ≠ 0 := many_pos.mpr ⟨[], l, rfl⟩
noncomputable def suf (u : List Nat) (k : Nat) : List Nat := u.drop (u.length - k)
theorem suf_app {u : List Nat} {j k : Nat} (h : j ≤ k) : ∃ x, suf u k = x ++ suf u j := by
  unfold suf
  refine ⟨(u.drop (u.length - k)).take (k - j - (k - u.length)), ?_⟩
  conv => lhs; rw [← List.take_append_drop (k - j - (k - u.length)) (u.drop (u.length - k)), List.drop_drop]
  by_cases hk : k ≤ u.length
  · rw [show u.length - k + (k - j - (k - u.length)) = u.length - j by omega]
  · rw [show u.length - k + (k - j - (k - u.length)) = u.length - j by omega]
noncomputable def lg (l u : List Nat) : Nat := ((List.range u.length).takeWhile fun k => decide (many l (suf u (k + 1)) ≠ 0)).length
theorem tw_len {n m : Nat} {p : Nat → Bool} (hm : m ≤ n) (h1 : ∀ k, k < m → p k = true) (h2 : m = n ∨ p m = false) : ((List.range n).takeWhile p).length = m := by
  have e : List.range n = List.range m ++ (List.range (n - m)).map (m + ·) := by
    conv => lhs; rw [show n = m + (n - m) by omega, List.range_add]
  rw [e, List.takeWhile_append_of_pos fun a ha => h1 a (List.mem_range.mp ha), List.length_append, List.length_range]
  have z : ((List.range (n - m)).map (m + ·)).takeWhile p = [] := by
    cases hk : n - m with
    | zero => rfl
    | succ k =>
      rw [List.range_succ_eq_map, List.map_cons, List.takeWhile_cons, if_neg]
      rcases h2 with h2 | h2
      · omega
      · rw [Nat.add_zero, h2]
        exact Bool.false_ne_true
  rw [z]
  rfl
theorem lg_is {l u : List Nat} {n : Nat} (hn : n ≤ u.length) (h1 : many l (suf u n) ≠ 0) (h2 : n = u.length ∨ many l (suf u (n + 1)) = 0) : lg l u = n := by
  refine tw_len hn (fun k hk => decide_eq_true ?_) (h2.imp id fun z => decide_eq_false fun y => y z)
  obtain ⟨x, e⟩ := suf_app (u := u) (j := k + 1) (k := n) hk
  rw [e] at h1
  exact many_end h1
theorem lg_ex (l u : List Nat) : ∃ n, n ≤ u.length ∧ many l (suf u n) ≠ 0 ∧ (n = u.length ∨ many l (suf u (n + 1)) = 0) := by
  have key : ∀ k n, u.length - n = k → n ≤ u.length → many l (suf u n) ≠ 0 → ∃ n, n ≤ u.length ∧ many l (suf u n) ≠ 0 ∧ (n = u.length ∨ many l (suf u (n + 1)) = 0) := by
    intro k
    induction k with
    | zero => intro n h0 h1 h2; exact ⟨n, h1, h2, .inl (by omega)⟩
    | succ k ih =>
      intro n h0 h1 h2
      by_cases h3 : many l (suf u (n + 1)) = 0
      · exact ⟨n, h1, h2, .inr h3⟩
      · exact ih (n + 1) (by omega) (by omega) h3
  refine key u.length 0 (by omega) (Nat.zero_le _) ?_
  unfold suf
  rw [Nat.sub_zero, List.drop_length]
  exact many_nil l
theorem lg_st (l u : List Nat) : many l (suf u (lg l u)) ≠ 0 := by
  obtain ⟨n, h1, h2, h3⟩ := lg_ex l u
  rw [lg_is h1 h2 h3]
  exact h2
theorem take_suf {u : List Nat} {k : Nat} : u.take (u.length - k) ++ suf u k = u := List.take_append_drop ..
structure Row (l u : List Nat) (ps : List (List Nat)) : Prop where
  flat : ps.flatten = u
  each : ∀ a x b, ps = a ++ x :: b → x ≠ [] ∧ (many l x = 0 → x.length = 1) ∧ (many l x ≠ 0 → a.flatten ≠ [] → many l (suf (a.flatten ++ x) (x.length + 1)) = 0)
end LG
namespace LG
open LO
end LG
namespace LG
open LO
structure Best (z y c : List Nat) : Prop where
  one : many z c ≠ 0
  two : many y c ≠ 0
  most : ∀ w, many z w ≠ 0 → many y w ≠ 0 → w.length < c.length ∨ w.length = c.length ∧ ¬ w < c
theorem Best.symm {z y c : List Nat} (h : Best z y c) : Best y z c := ⟨h.two, h.one, fun w h1 h2 => h.most w h2 h1⟩
noncomputable def cand (z y : List Nat) (i : Nat) : List Nat := suf (y.take i) (lg z (y.take i))
theorem cand_one (z y : List Nat) (i : Nat) : many z (cand z y i) ≠ 0 := lg_st _ _
theorem many_suf {y u : List Nat} {k : Nat} (h : many y u ≠ 0) : many y (suf u k) ≠ 0 := by
  have : u = u.take (u.length - k) ++ suf u k := take_suf.symm
  rw [this] at h
  exact many_end h
theorem many_take (y : List Nat) (i : Nat) : many y (y.take i) ≠ 0 := many_pos.mpr ⟨[], y.drop i, by simp⟩
theorem cand_two (z y : List Nat) (i : Nat) : many y (cand z y i) ≠ 0 := many_suf (many_take y i)
structure Upto (z y : List Nat) (i : Nat) (c : List Nat) : Prop where
  one : many z c ≠ 0
  two : many y c ≠ 0
  most : ∀ j, j < i → (cand z y j).length < c.length ∨ (cand z y j).length = c.length ∧ ¬ cand z y j < c
theorem Upto.keep {z y c : List Nat} {i : Nat} (h : Upto z y i c) (hk : ¬ (c.length < (cand z y i).length ∨ (cand z y i).length = c.length ∧ cand z y i < c)) : Upto z y (i + 1) c :=
  ⟨h.one, h.two, fun j hj => by
    rcases Nat.lt_or_ge j i with h1 | h1
    · exact h.most j h1
    · have : j = i := by omega
      subst this
      rcases Nat.lt_or_ge (cand z y j).length c.length with h2 | h2
      · exact .inl h2
      · refine .inr ⟨?_, fun w => hk (.inr ⟨?_, w⟩)⟩
        · rcases Nat.lt_or_ge c.length (cand z y j).length with h3 | h3
          · exact absurd (.inl h3) hk
          · omega
        · rcases Nat.lt_or_ge c.length (cand z y j).length with h3 | h3
          · exact absurd (.inl h3) hk
          · omega⟩
theorem Upto.take {z y c : List Nat} {i : Nat} (h : Upto z y i c) (hk : c.length < (cand z y i).length ∨ (cand z y i).length = c.length ∧ cand z y i < c) : Upto z y (i + 1) (cand z y i) :=
  ⟨cand_one z y i, cand_two z y i, fun j hj => by
    rcases Nat.lt_or_ge j i with h1 | h1
    · rcases h.most j h1 with h2 | ⟨h2, h3⟩
      · rcases hk with hk | ⟨hk, _⟩
        · exact .inl (by omega)
        · exact .inl (by omega)
      · rcases hk with hk | ⟨hk, hk2⟩
        · exact .inl (by omega)
        · exact .inr ⟨by omega, fun w => h3 (List.lt_trans w hk2)⟩
    · have : j = i := by omega
      subst this
      exact .inr ⟨rfl, List.lt_irrefl _⟩⟩
end LG
namespace LG
open LO L2
end LG
namespace LG
theorem len_flat : ∀ {ps : List (List Nat)}, (∀ x ∈ ps, x ≠ []) → ps.length ≤ ps.flatten.length
  | [], _ => Nat.le_refl _
  | x :: r, h => by
    have h1 := len_flat (ps := r) fun y hy => h y (List.mem_cons_of_mem _ hy)
    have h2 := List.length_pos_iff.mpr (h x (List.mem_cons_self ..))
    rw [List.flatten_cons, List.length_append, List.length_cons]
    omega
theorem Row.len {l u : List Nat} {ps : List (List Nat)} (h : Row l u ps) : ps.length ≤ u.length := by
  rw [← h.flat]
  refine len_flat fun x hx => ?_
  obtain ⟨a, b, e⟩ := List.append_of_mem hx
  exact (h.each a x b e).1
end LG
namespace L2
open PySem
end L2
set_option maxRecDepth 100000
namespace L2
open PySem PySem.Spec PyProof.Rows
theorem one_sign {y : Str} {c : Nat} (h : L y = [c]) : y = ⟨#[c]⟩ := by
  have := T_L y
  rw [h] at this
  exact this.symm
theorem sub_L (z : Str) (i j : Nat) : Builtin.Str.strSub z i j = T (((L z).take j).drop i) := by
  have e : L (Builtin.Str.strSub z i j) = ((L z).take j).drop i := by
    show (z.cps.extract i j).toList = _
    rw [Array.toList_extract]
    show ((z.cps.toList).drop i).take (j - i) = _
    rw [List.drop_take]
    rfl
  rw [← e, T_L]
theorem take_while_all {f : Nat → Bool} : ∀ {l : List Nat}, (∀ c ∈ l, f c = true) → l.takeWhile f = l
  | [], _ => rfl
  | c :: r, h => by rw [List.takeWhile_cons_of_pos (h c (List.mem_cons_self ..)), take_while_all fun d hd => h d (List.mem_cons_of_mem _ hd)]
theorem take_while_lt {f : Nat → Bool} : ∀ {l : List Nat} {c : Nat}, c ∈ l → f c = false → (l.takeWhile f).length < l.length
  | d :: r, c, hc, h => by
    rw [List.takeWhile_cons]
    split
    · rename_i hd
      rcases List.mem_cons.mp hc with e | hc
      · rw [e, hd] at h
        cases h
      · have := take_while_lt hc h
        rw [List.length_cons, List.length_cons]
        omega
    · rw [List.length_cons, List.length_nil]
      omega
theorem drop_while_head {f : Nat → Bool} : ∀ {l : List Nat} {c : Nat}, c ∈ l → f c = false → ∃ d ∈ l.drop (l.takeWhile f).length, f d = false
  | d :: r, c, hc, h => by
    rw [List.takeWhile_cons]
    split
    · rename_i hd
      rcases List.mem_cons.mp hc with e | hc
      · rw [e, hd] at h
        cases h
      · obtain ⟨x, h1, h2⟩ := drop_while_head hc h
        exact ⟨x, by rw [List.length_cons, List.drop_succ_cons]; exact h1, h2⟩
    · rename_i hd
      exact ⟨d, List.mem_cons_self .., by simpa using hd⟩
theorem strip_nil (z y : Str) : L (Txt.stripChars z y) = [] ↔ ∀ c ∈ L z, y.cps.contains c = true := by
  have e0 : Txt.stripChars z y = T (((L z).take (stripHi y.cps.contains true z (stripLo y.cps.contains true z))).drop (stripLo y.cps.contains true z)) := by
    unfold Txt.stripChars Txt.stripBy
    by_cases hs : stripSame y.cps.contains true true z = true
    · rw [if_pos hs]
      unfold stripSame at hs
      rw [Bool.and_eq_true] at hs
      rw [eq_of_beq hs.1]
      have h2 := eq_of_beq hs.2
      rw [eq_of_beq hs.1] at h2
      rw [h2, ← L_len, List.take_length]
      exact (T_L z).symm
    · rw [if_neg hs]
      unfold stripped
      exact sub_L ..
  have elo : stripLo y.cps.contains true z = ((L z).takeWhile y.cps.contains).length := rfl
  have ehi : ∀ lo, stripHi y.cps.contains true z lo = (L z).length - (((L z).drop lo).reverse.takeWhile y.cps.contains).length := fun lo => by rw [L_len]; rfl
  rw [e0, L_T, ehi, elo]
  constructor
  · intro h c hc
    cases hg : y.cps.contains c with
    | true => rfl
    | false =>
      exfalso
      obtain ⟨d, hd, hd2⟩ := drop_while_head hc hg
      have l1 := take_while_lt hc hg
      have l2 := take_while_lt (f := y.cps.contains) (List.mem_reverse.mpr hd) hd2
      rw [List.length_reverse, List.length_drop] at l2
      have := congrArg List.length h
      rw [List.length_drop, List.length_take, List.length_nil] at this
      omega
  · intro h
    rw [take_while_all h, List.drop_eq_nil_of_le]
    rw [List.length_take]
    omega
section
variable {X : Cx}
noncomputable def strV : List V → Hp → VK → Prop := fun xs H Q => match xs with
  | [.int i] => i.natAbs.log2 < 1920 ∧ Q (.str (T (numL i))) H
  | _ => False
theorem c_str : CallR X (.type "str") strV := by
  intro pins s σ H xs us Q I r h
  unfold strV at h
  split at h
  · rename_i i
    obtain ⟨hi, q⟩ := h
    obtain ⟨u, rfl, t, rfl⟩ := vals1 r
    have e : T (numL i) = (toString i : Str) := T_L _
    rw [e] at q
    exact PySem.P.str_of_int hi ⟨.str _, H, I.tok _, ⟨_, rfl⟩, q⟩
  · exact h.elim
noncomputable def intW : List V → Hp → VK → Prop := fun xs H Q => match xs with
  | [.bl b] => Q (.int (b2i b)) H
  | [.int i] => Q (.int i) H
  | [.str z] => (L z).length ≤ 640 ∧ L z ≠ [] ∧ (∀ c ∈ L z, 48 ≤ c ∧ c ≤ 57) ∧ Q (.int (NumText.digitsVal (L z) : Nat)) H
  | _ => False
theorem c_intW : CallR X (.type "int") intW := by
  intro pins s σ H xs us Q I r h
  unfold intW at h
  split at h
  · exact c_int pins s σ H _ us Q I r h
  · exact c_int pins s σ H _ us Q I r h
  · rename_i z
    obtain ⟨hl, h0, hd, q⟩ := h
    obtain ⟨u, rfl, t, rfl⟩ := vals1 r
    rw [L_len] at hl
    exact PySem.W.KIN.call_text (intText_digits (x := z) hd h0 (by omega)) hl ⟨.int _, H, I.tok _, ⟨_, rfl⟩, q⟩
  · exact h.elim
noncomputable def prtV : V → List V → Hp → VK → Prop := fun x vs H Q => match x, vs with
  | .str z, [.str y] => ∃ c, L y = [c] ∧ (L z).length ≤ sizeLine ∧ (∀ k : Nat, (L z)[k]? = some c → (∀ v, v < k → (L z)[v]? ≠ some c) → ∀ p, H p = none → Q (.ref p) (upd H p (.tup [.str (T ((L z).take k)), .str (T [c]), .str (T ((L z).drop (k + 1)))]))) ∧
    ((∀ v : Nat, (L z)[v]? ≠ some c) → ∀ p, H p = none → Q (.ref p) (upd H p (.tup [.str z, .str (T []), .str (T [])])))
  | _, _ => False
theorem m_partition : MtR X "str.partition" prtV := by
  intro pins s σ H x vs v us Q I rx rv h
  unfold prtV at h
  split at h
  · rename_i z y
    obtain ⟨c, hy, hl, q1, q2⟩ := h
    obtain ⟨t, rfl⟩ := rx
    obtain ⟨u, rfl, t', rfl⟩ := vals1 rv
    have hy2 := one_sign hy
    subst hy2
    rw [L_len] at hl
    have hn := I.hok.fresh (Nat.le_refl s.heap.objs.size)
    refine call_meets F.slot_str_partition (typeIs_str _ _ _) F.entry_str_partition (F.args_str_partition_2 _ _) (meets_str_partition z ⟨#[c]⟩ t t' rfl hl) ?_
    rcases StrLaws.occ_head z ⟨#[c]⟩ 1 (Nat.le_refl 1) with ⟨h0, h1⟩ | ⟨k, r, h0, hk, h1⟩
    · rw [h0]
      refine ⟨.ref s.heap.objs.size, _, ?_, rfl, q2 (fun v e => h1 v ((StrLaws.subAt_one z c v).mpr e)) _ hn⟩
      refine I.laid (fun b o e => Heap.get?_push_of_some _ e) (Nat.le_refl _) ⟨by simp only [List.length_cons, List.length_nil]; rw [sizeLine_eq]; decide, [.str z t, .str Str.empty s.toks, .str Str.empty s.toks], .cons ⟨_, rfl⟩ (.cons ⟨_, rfl⟩ (.cons ⟨_, rfl⟩ .nil)), ?_⟩
      exact ⟨_, Heap.get?_push_size s.heap rfl, rfl, 0, rfl⟩
    · rw [h0]
      have hm := (StrLaws.subAt_one z c k).mp hk
      refine ⟨.ref s.heap.objs.size, _, ?_, rfl, q1 k hm (fun v h2 e => h1 v h2 ((StrLaws.subAt_one z c v).mpr e)) _ hn⟩
      refine I.laid (fun b o e => Heap.get?_push_of_some _ e) (Nat.le_refl _) ⟨by simp only [List.length_cons, List.length_nil]; rw [sizeLine_eq]; decide, [.str (Builtin.Str.strSub z 0 k) s.toks, .str ⟨#[c]⟩ t', .str (Builtin.Str.strSub z (k + 1) z.length) (s.toks + 1)], .cons ⟨s.toks, ?_⟩ (.cons ⟨_, rfl⟩ (.cons ⟨s.toks + 1, ?_⟩ .nil)), ?_⟩
      · rw [sub_L]
        rfl
      · rw [sub_L, ← L_len, List.take_length]
      · exact ⟨_, Heap.get?_push_size s.heap rfl, rfl, 0, rfl⟩
  · exact h.elim
noncomputable def stpV : V → List V → Hp → VK → Prop := fun x vs H Q => match x, vs with
  | .str z, [.str y] => (L z).length ≤ sizeLine ∧ ∀ l : List Nat, (l = [] ↔ ∀ c ∈ L z, c ∈ L y) → Q (.str (T l)) H
  | _, _ => False
theorem m_strip : MtR X "str.strip" stpV := by
  intro pins s σ H x vs v us Q I rx rv h
  unfold stpV at h
  split at h
  · rename_i z y
    obtain ⟨hl, q⟩ := h
    obtain ⟨t, rfl⟩ := rx
    obtain ⟨u, rfl, t', rfl⟩ := vals1 rv
    rw [L_len] at hl
    refine SC.stripChars (fun t2 k => ⟨.str (T (L (Txt.stripChars z y))), H, I.tok _, ⟨_, by rw [T_L]⟩, q _ ?_⟩) hl
    rw [strip_nil]
    refine forall_congr' fun c => forall_congr' fun _ => ?_
    show (y.cps.contains c = true) ↔ c ∈ y.cps.toList
    rw [Array.contains_iff, Array.mem_toList_iff]
  · exact h.elim
end
section
variable {X : Cx}
variable {elt iter : Expr} {ifs : List Expr} {u v : Str} {pu pv : Pos} {scope : Scope} {pos : Pos} {cl : List (Str × Addr)} {own : List Str} {cp : List (Str × Nat)} {ta : TA} {tl : TE} {tc : TT} {te : TE}
end
end L2
set_option maxRecDepth 100000
namespace LP
open PySem L2
end LP
set_option maxRecDepth 100000
namespace L2
open PySem PySem.Spec PyProof.Rows
section
variable {X : Cx}
end
end L2
namespace LP
open PySem L2 NumText
noncomputable def GoodN (l : List Nat) : Prop := 1 ≤ l.length ∧ l.length ≤ 9 ∧ (∀ c ∈ l, 48 ≤ c ∧ c ≤ 57) ∧ (l.getD 0 0 = 48 → l = [48])
theorem numL_digits (n : Nat) : numL (n : Int) = (Nat.toDigits 10 n).map Char.toNat := PySem.W.KIN.signs_num n
theorem numL_dig (n : Nat) : ∀ c ∈ numL (n : Int), 48 ≤ c ∧ c ≤ 57 := by
  intro c hc
  rw [numL_digits] at hc
  obtain ⟨ch, hch, e⟩ := List.mem_map.mp hc
  have r := PyProof.Rows.digit_range (Nat.isDigit_of_mem_toDigits (by decide) (by decide) hch)
  rw [← e]
  exact r
noncomputable def RAt (H : Hp) (a : Addr) : Prop := ∃ ts : List Addr, H a = some (.lst (ts.map V.ref)) ∧ ts.length ≤ 25 ∧ ∀ t ∈ ts, ∃ c n : Nat, H t = some (.tup [.str (T [c]), .int (n : Int)]) ∧ 1 ≤ n ∧ n ≤ 300
theorem RAt.same {H H' : Hp} {a : Addr} (h : RAt H a) (sm : Same H H') : RAt H' a := by
  obtain ⟨ts, h1, h2, h3⟩ := h
  refine ⟨ts, sm _ _ h1, h2, fun t ht => ?_⟩
  obtain ⟨c, n, e, r⟩ := h3 t ht
  exact ⟨c, n, sm _ _ e, r⟩
noncomputable def TAt (m : Nat) (H : Hp) (a : Addr) : Prop := ∃ ts : List Addr, H a = some (.lst (ts.map V.ref)) ∧ ts.length ≤ m ∧ ∀ t ∈ ts, ∃ x y : List Nat, H t = some (.tup [.str (T x), .str (T y)]) ∧ x.length ≤ 1 ∧ y.length ≤ 2500
theorem TAt.same {m : Nat} {H H' : Hp} {a : Addr} (h : TAt m H a) (sm : Same H H') : TAt m H' a := by
  obtain ⟨ts, h1, h2, h3⟩ := h
  refine ⟨ts, sm _ _ h1, h2, fun t ht => ?_⟩
  obtain ⟨x, y, e, r⟩ := h3 t ht
  exact ⟨x, y, sm _ _ e, r⟩
noncomputable def Tu (H : Hp) (us : List Addr) : Prop := ∀ t ∈ us, ∃ x y : List Nat, H t = some (.tup [.str (T x), .str (T y)]) ∧ x.length ≤ 1 ∧ y.length ≤ 2000
theorem Tu.same {H H' : Hp} {us : List Addr} (h : Tu H us) (sm : Same H H') : Tu H' us := fun t ht => by
  obtain ⟨x, y, e, r⟩ := h t ht
  exact ⟨x, y, sm _ _ e, r⟩
end LP
set_option maxRecDepth 100000
namespace L2
open PySem PySem.Spec PyProof.Rows
section
variable {X : Cx} {pins : List (Addr × Obj)} {σ : St} {H : Hp} {s : Shared}
end
end L2
set_option maxRecDepth 100000
namespace L2
open PySem PySem.Spec PyProof.Rows
section
variable {X : Cx} {pins : List (Addr × Obj)} {σ : St} {H : Hp} {s : Shared} {d : Addr} {kvs : List (Key × V)} {ob : Obj}
end
end L2
set_option maxRecDepth 100000
set_option maxHeartbeats 1000000
namespace L2
open PySem PySem.Spec PyProof.Rows
end L2
set_option maxRecDepth 100000
set_option maxHeartbeats 1000000
namespace L2
open PySem PySem.Spec PyProof.Rows
theorem entry_dict_update_loop : entryFor table "dict.update.loop" = some Builtin.«dict.update.loop» := entryFor_of_tree (by kernel_rfl)
theorem plain_dict_update_loop : plainId "dict.update.loop" = true := by decide +kernel
noncomputable def fillU (vs : List (Key × Value)) (ps : List (Key × Value)) : List (Key × Value) := ps.foldl (fun acc p => stored acc p.1 p.2) vs
section
variable {prog : Program} {w : World} {A : Around} {R : Result → Shared → Prop} {I o D : Addr} {its : List Value} {ps : List (Key × Value)}
theorem len_stored (vs : List (Key × Value)) (k : Key) (u : Value) : (stored vs k u).length ≤ vs.length + 1 := by
  unfold stored
  split
  · rw [List.length_map]; omega
  · rw [List.length_append, List.length_singleton]; omega
end
noncomputable def fillV (ps : List (Key × V)) (acc : List (Key × V)) : List (Key × V) := ps.foldl (fun acc p => putK acc p.1 p.2) acc
theorem KV.fill : ∀ {ps : List (Key × V)} {us : List (Key × Value)} {acc : List (Key × V)} {bcc : List (Key × Value)}, KV ps us → KV acc bcc → KV (fillV ps acc) (fillU bcc us)
  | _, _, _, _, .nil, h => h
  | p :: ps, q :: us, _, _, .cons e t, h => by
    obtain ⟨e1, e2⟩ := e
    show KV (fillV ps (putK _ p.1 p.2)) (fillU (stored _ q.1 q.2) us)
    refine KV.fill t ?_
    rw [← e1]
    exact KV.put h _ e2
theorem len_fill : ∀ (ps : List (Key × V)) (acc : List (Key × V)), (fillV ps acc).length ≤ acc.length + ps.length
  | [], acc => Nat.le_refl _
  | p :: ps, acc => by
    have h1 := len_fill ps (putK acc p.1 p.2)
    have h2 := length_putK acc p.1 p.2
    rw [List.length_cons]
    show (fillV ps (putK acc p.1 p.2)).length ≤ _
    omega
section
variable {X : Cx}
end
end L2
set_option maxRecDepth 100000
set_option maxHeartbeats 1000000
namespace L2
open PySem PySem.Spec PyProof.Rows
section
variable {X : Cx} {tg : Expr}
end
end L2
namespace L2
open PySem PySem.Spec PyProof.Rows
noncomputable def MkAt (H : Hp) (m : Addr) (ds : List Nat) (f : Nat → Nat) : Prop := ∃ ts : List Addr, H m = some (.lst (ts.map V.ref)) ∧ ts.length = ds.length ∧ ∀ (j : Nat) t d, ts[j]? = some t → ds[j]? = some d → H t = some (.tup [.str (T [d]), .int (f d : Nat)])
theorem MkAt.keep {H H' : Hp} {m : Addr} {ds : List Nat} {f : Nat → Nat} (h : MkAt H m ds f) (s1 : ∀ b xs, H b = some (.tup xs) → H' b = some (.tup xs)) (s2 : ∀ xs, H m = some (.lst xs) → H' m = some (.lst xs)) : MkAt H' m ds f := by
  obtain ⟨ts, h1, h2, h3⟩ := h
  exact ⟨ts, s2 _ h1, h2, fun j t d e1 e2 => s1 _ _ (h3 j t d e1 e2)⟩
noncomputable def fsM (a m : Addr) (g : Int) : List (Str × V) := [("held", .ref a), ("gap", .int g), ("marks", .ref m)]
noncomputable def MksAt (H : Hp) (ms : List Addr) (ds cs : List Nat) (h : Nat) (g : Int) : Prop := ∀ (k : Nat) mk, ms[k]? = some mk → MkAt H mk ds fun d => ((colL cs h).take ((k : Int) * g).toNat).count d
noncomputable def IsMks (C CL : Addr) (H : Hp) (x : Addr) (cs : List Nat) (h : Nat) (g : Int) : Prop := ∃ dx a m ms ds, H x = some (.ins C dx (fsM a m g)) ∧ IsLet CL H a cs h ∧ 1 ≤ g ∧ (ds.Nodup ∧ (∀ c, c ∈ ds ↔ c ∈ cs) ∧ ds.Pairwise (· ≤ ·)) ∧ H m = some (.lst (ms.map V.ref)) ∧ (ms.length : Int) = ((cs.length : Int) + 1) / g + 1 ∧ MksAt H ms ds cs h g
theorem IsMks.same {C CL : Addr} {H H' : Hp} {x : Addr} {cs : List Nat} {h : Nat} {g : Int} (f : IsMks C CL H x cs h g) (sm : ∀ b o, H b = some o → (∀ ps, o ≠ .tbl ps) → H' b = some o) : IsMks C CL H' x cs h g := by
  obtain ⟨dx, a, m, ms, ds, h1, h2, h3, h4, h5, h6, h7⟩ := f
  refine ⟨dx, a, m, ms, ds, sm _ _ h1 (by intro ps z; cases z), h2.same sm, h3, h4, sm _ _ h5 (by intro ps z; cases z), h6, fun k mk e => (h7 k mk e).keep (fun b xs e => sm _ _ e (by intro ps z; cases z)) fun xs e => sm _ _ e (by intro ps z; cases z)⟩
end L2
namespace L2
open PySem PySem.Spec PyProof.Rows
section
variable {X : Cx}
end
end L2
namespace L2
open PySem PySem.Spec PyProof.Rows
section
variable {X : Cx}
end
end L2
namespace L2
open PySem PySem.Spec PyProof.Rows
section
variable {X : Cx}
end
end L2
namespace L2
open PySem PySem.Spec PyProof.Rows
theorem o_inL {X : Cx} {K : PySem.W.Frag} (hK : X.K = K) : OpR X (compareOp .In) (rIn K false) := by
  subst hK
  exact op_in_seq
end L2
set_option maxRecDepth 100000
set_option maxHeartbeats 1000000
namespace L2
open PySem PySem.Spec PyProof.Rows
theorem entry_unchain : entryFor table "proto.unchain" = some Builtin.«proto.unchain» := entryFor_of_tree (by kernel_rfl)
theorem plain_unchain : plainId "proto.unchain" = true := by decide +kernel
section
variable {prog : Program} {w : World} {A : Around} {E : Value → Shared → Prop} {s : Shared}
theorem unchain0 {e a : Addr} {Q : Value → Shared → Prop} (c : Ctx0 a s.heap) (q : Q .none s) : wpAny (model prog w) A (runValue (.builtin "proto.unchain" ⟨[.ref e, .ref a, .ref a, .bool false], []⟩)) Q E s := by
  obtain ⟨o, vs, h1, h2, h3⟩ := c
  refine wpAny_runValue (codeAny_builtin entry_unchain ?_)
  rw [Around.under_plainId plain_unchain _]
  show wpAny _ _ (field (.ref a) 2 >>= _) _ _ s
  refine wpAny_bind (wpAny_field h1 h2 h3 ?_)
  exact wpAny_pure q
theorem list_endH {it l xa : Addr} {i : Nat} {its : Array Value} {Q : Option Value → Shared → Prop} (hh : A.handled = some (.ref xa)) (c : Ctx0 xa s.heap) (hit : s.heap.IsListIter it l i) (hl : s.heap.IsList l its) (hx : its[i]? = none) (hne : xa ≠ it)
    (hQ : ∀ h', Heap.ExtBut it s.heap h' → Q none { s with heap := h' }) : wpAny (model prog w) A (pyNext (.ref it)) Q E s := by
  obtain ⟨o1, k1, kc, kd⟩ := id hit
  obtain ⟨o2, l1, lc, n2, l2⟩ := hl
  unfold pyNext
  refine wpAny_bind (wpAny_attempt (wpAny_callSpecial?_slot (name := Str.ofString "__next__") hit.typeIs slot_listiter_next (wpAny_call_entry slot_listiter_next hit.typeIs entry_listiter_next ?_ (args_listiter_next _))))
  show wpAny _ _ (field (.ref it) 0 >>= _) _ _ s; refine wpAny_bind (wpAny_field k1 kd (x := .ref l) rfl ?_)
  show wpAny _ _ (if (Value.ref l == Value.none) = true then _ else _) _ _ s; rw [if_neg (by exact Bool.false_ne_true)]
  show wpAny _ _ (field (.ref it) 1 >>= _) _ _ s; refine wpAny_bind (wpAny_field k1 kd (x := .int i 0) rfl ?_)
  show wpAny _ _ (seqItems? (.ref l) >>= _) _ _ s; refine wpAny_bind (wpAny_seqItems l1 l2 ?_)
  dsimp only; rw [Int.toNat_natCast, hx]; refine wpAny_bind (wpAny_rule (wpAny_bind (wpAny_setField k1 kd (by simp) ?_)))
  have c1 : Ctx0 xa (s.heap.update it (Obj.mapFields (·.setIfInBounds 0 Value.none))) := by
    obtain ⟨o, vs, h1, h2, h3⟩ := c
    exact ⟨o, vs, (Heap.get?_update_other _ _ (Ne.symm hne)).trans h1, h2, h3⟩
  show wpAny _ _ (newExc (.type "StopIteration") [] >>= _) _ _ _; refine wpAny_bind ?_
  simp only [newExc, newTuple]
  refine wpAny_bind (wpAny_newObj_type ?_ (by size_fits)); refine wpAny_bind (m := firstArgMember _ _) (wpAny_of_eq (a := Value.none) (by first | rfl | (simp only [firstArgMember]; rfl)) ?_)
  refine wpAny_newObj_type ?_ (by size_fits)
  simp only [raiseNew]
  refine wpAny_bind (wpAny_handled ?_)
  rw [show A.in1.handled = some (.ref xa) from hh]
  have l0 : xa < (s.heap.update it (Obj.mapFields (·.setIfInBounds 0 Value.none))).objs.size := by
    obtain ⟨o, vs, h1, _⟩ := c1
    exact Heap.lt_size h1
  have ek : ∀ b o, b ≠ it → s.heap.get? b = some o → (s.heap.update it (Obj.mapFields (·.setIfInBounds 0 Value.none))).get? b = some o := fun b o hb e => (Heap.get?_update_other _ _ (Ne.symm hb)).trans e
  generalize s.heap.update it (Obj.mapFields (·.setIfInBounds 0 Value.none)) = hA at c1 l0 ek ⊢
  have c2 := c1.push { cls := .type "tuple", dict := none, data := .seq ([] : List Value).toArray }
  have l1 : xa < (hA.push { cls := .type "tuple", dict := none, data := .seq ([] : List Value).toArray }).objs.size := by rw [Heap.size_push]; exact Nat.lt_succ_of_lt l0
  have ek2 : ∀ b o, b ≠ it → s.heap.get? b = some o → (hA.push { cls := .type "tuple", dict := none, data := .seq ([] : List Value).toArray }).get? b = some o := fun b o hb e => Heap.get?_push_of_some _ (ek b o hb e)
  generalize hA.push { cls := .type "tuple", dict := none, data := .seq ([] : List Value).toArray } = hB at c2 l1 ek2 ⊢
  show wpAny _ _ (if (Value.ref xa != Value.ref hB.objs.size) = true then _ else _) _ _ _
  have nx : (Value.ref xa != Value.ref hB.objs.size) = true := by
    rw [bne_iff_ne]
    intro z
    injection z with z
    exact Nat.lt_irrefl _ (z ▸ l1)
  rw [if_pos nx]
  refine wpAny_bind (wpAny_holding (unchain0 (c2.push _) ?_))
  show wpAny _ _ (setField (.ref hB.objs.size) 2 (.ref xa) >>= _) _ _ _
  refine wpAny_bind (wpAny_setField (Heap.get?_push_size _ rfl) rfl (by simp; omega) ?_)
  refine wpAny_throw ?_
  refine wpAny_bind (wpAny_isInstance (T := "StopIteration") (b := true) ⟨_, Heap.get?_update_self _ (Heap.get?_push_size _ rfl) (Obj.isFreed_of_fields (Obj.data_mapFields rfl _)), rfl⟩ isSubtype_stop ?_)
  refine wpAny_pure (hQ _ fun b o hb e => ?_)
  have e2 := ek2 b o hb e
  rw [Heap.get?_update_other _ _ (fun z => Nat.lt_irrefl _ (z ▸ Heap.lt_size e2))]
  exact Heap.get?_push_of_some _ e2
end
structure TurnH (xa : Addr) (P : Program) (w : World) (K : PySem.W.Frag) (tg : Expr) (J : It) (fp : List Addr) (it : Addr) (tn : Nat → Heap → Prop) : Prop where
  mem : it ∈ fp
  obj : ∀ i h, tn i h → ∀ b ∈ fp, ∃ o, h.get? b = some o ∧ ∀ v, o.data ≠ .cell v
  keep : ∀ i h h', tn i h → (∀ b ∈ fp, ∀ o, h.get? b = some o → h'.get? b = some o) → tn i h'
  item : ∀ (X : Cx), X.prog = P → X.w = w → X.K = K → X.A.handled = some (.ref xa) → ∀ (i : Nat) (pins : List (Addr × Obj)) (s : Shared) (σ : St) (H : Hp) (E : Value → Shared → Prop), Inv X pins σ H s → (∀ b ∈ fp, FpOk X pins H b) → tn i s.heap → J.go i H →
    wpAny (model P w) X.A (pyNext (.ref it)) (fun r s1 => ∃ u, r = some u ∧ wpAny (model P w) X.A (letOwnedTupleGo tg (.ref it) u) (fun _ s2 => ∃ x H', Inv X pins σ H' s2 ∧ RelV x u ∧ J.yld i H x H' ∧ tn (i + 1) s2.heap ∧ ∀ b ∈ fp, H' b = none) E s1) E s
  done : ∀ (X : Cx), X.prog = P → X.w = w → X.K = K → X.A.handled = some (.ref xa) → ∀ (i : Nat) (pins : List (Addr × Obj)) (s : Shared) (σ : St) (H : Hp) (E : Value → Shared → Prop), Inv X pins σ H s → (∀ b ∈ fp, FpOk X pins H b) → tn i s.heap → J.stop i H → wpAny (model P w) X.A (pyNext (.ref it)) (fun r s1 => r = none ∧ Inv X pins σ H s1) E s
  self : ∀ (A : Around) (i : Nat) (s : Shared) (Q : Value → Shared → Prop) (E : Value → Shared → Prop), tn i s.heap → Q (.ref it) s → wpAny (model P w) A (pyIter (.ref it)) Q E s
noncomputable def PIEH (xa : Addr) (X : Cx) (pins : List (Addr × Obj)) (σ : St) (tg : Expr) (R : It → Hp → Prop) (itv : Value) (s2 : Shared) : Prop :=
  ∃ (it : Addr) (fp : List Addr) (tn : Nat → Heap → Prop) (J : It) (H' : Hp), itv = .ref it ∧ Inv X pins σ H' s2 ∧ TurnH xa X.prog X.w X.K tg J fp it tn ∧ tn 0 s2.heap ∧ (∀ b ∈ fp, FpOk X pins H' b) ∧ R J H'
noncomputable def PIH (xa : Addr) (X : Cx) (tg iter : Expr) (wi : TI) : Prop := ∀ (pins : List (Addr × Obj)) (s : Shared) (σ : St) (H : Hp) (R : It → Hp → Prop), Inv X pins σ H s → wi σ H R → wpAny (model X.prog X.w) X.A (eval iter X.env) (fun v s1 => wpAny (model X.prog X.w) X.A (pyIter v) (PIEH xa X pins σ tg R) X.xe s1) X.xe s
noncomputable def ItlH (xa : Addr) (K : PySem.W.Frag) (a : Addr) : It := ⟨(Itl K a).go, (Itl K a).yld, fun i H => (∃ C, H xa = some (ExcO xa C)) ∧ (Itl K a).stop i H⟩
theorem turn_listH {xa : Addr} {P : Program} {w : World} {K : PySem.W.Frag} {tg : Expr} (a it : Addr) : TurnH xa P w K tg (ItlH xa K a) [it] it (fun i h => h.IsListIter it a i) where
  mem := (turn_list (P := P) (w := w) (K := K) (tg := tg) a it).mem
  obj := (turn_list (P := P) (w := w) (K := K) (tg := tg) a it).obj
  keep := (turn_list (P := P) (w := w) (K := K) (tg := tg) a it).keep
  item := by
    intro X hP hw hK hh i pins s σ H E I hf st hg
    subst hP hw hK
    obtain ⟨xs, x, hq, hx⟩ := hg
    obtain ⟨its, rv, p, hz⟩ := I.list hq
    obtain ⟨u, hu, ru⟩ := rv.get hx
    obtain ⟨f0, f1, f2, f3, f4, f5⟩ := hf it (by simp)
    refine wpAny_pyNext_list_item st p.isList (x := u) (by simpa using hu) fun h1 st1 sb => ?_
    obtain ⟨o, e, c, d⟩ := id st1
    exact ⟨u, rfl, go_of (s := { s with heap := h1 }) e c d (by decide) ⟨x, H, I.turned (t' := s.toks) (fun b o hb e => (sb.2 b hb).trans e) f0 f1 f3 f4 f5, ru, ⟨rfl, fun ys hy => by rw [I.list_inj hy hq]; exact hx⟩, st1, fun b hb => (hf b hb).1⟩⟩
  done := by
    intro X hP hw hK hh i pins s σ H E I hf st hg
    subst hP hw hK
    obtain ⟨⟨C, hxa⟩, xs, hq, hx⟩ := hg
    obtain ⟨its, rv, p, hz⟩ := I.list hq
    obtain ⟨f0, f1, f2, f3, f4, f5⟩ := hf it (by simp)
    have hl := rv.length
    obtain ⟨⟨o0, v0, z1, z2, z3, z4⟩, _, _⟩ := I.hok xa _ hxa
    exact list_endH hh ⟨o0, v0, z1, z3, z4⟩ st p.isList (by simp; omega) (fun z => by rw [z, f0] at hxa; cases hxa) fun h1 eb => ⟨rfl, I.turned (t' := s.toks) (fun b o hb e => eb b o hb e) f0 f1 f3 f4 f5⟩
  self := (turn_list (P := P) (w := w) (K := K) (tg := tg) a it).self
noncomputable def iListH (xa : Addr) (K : PySem.W.Frag) (tl : TE) : TI := fun σ H R => tl σ H fun v H1 => ∃ a, v = .ref a ∧ (∃ xs, SqL K H1 a xs) ∧ R (ItlH xa K a) H1
section
variable {X : Cx}
theorem pi_listH {tg l : Expr} {tl : TE} (xa : Addr) (hl : PE X l tl) : PIH xa X tg l (iListH xa X.K tl) := by
  intro pins s σ H R I h
  refine thn (hl pins s σ H _ I h) fun v s1 ⟨x, H1, I1, r1, q1⟩ => ?_
  obtain ⟨a, e, ⟨xs, hq⟩, q⟩ := q1
  subst e
  cases r1
  obtain ⟨its, rv, p, hz⟩ := I1.list hq
  refine wpAny_pyIter_list p.isList ?_
  have hb : ∀ b ∈ [s1.heap.objs.size], FpOk X pins H1 b := fun b hb => by
    cases List.mem_singleton.mp hb
    exact I1.fpOk (Nat.le_refl _) (I1.hok.fresh (Nat.le_refl _))
  exact ⟨s1.heap.objs.size, [s1.heap.objs.size], _, _, H1, rfl, I1.kept (t' := s1.toks) fun b o e => Heap.get?_push_of_some _ e, turn_listH a _, ⟨_, Heap.get?_push_size _ rfl, rfl, rfl⟩, hb, q⟩
theorem ps_compH {elt iter target : Expr} {i₀ : Nat} {y₀ : Str} {p₀ p₁ : Pos} {ifs : List Expr} {scope : Scope} {pos : Pos} {cl : List (Str × Addr)} {own : List Str} {cp : List (Str × Nat)} {wi : TI} {g : TG} {tc : TT} {te : TE}
    {xa : Addr} (hh : X.A.handled = some (.ref xa)) (hcl : closL scope.names X.env.cells [] = some cl) (hk : scope.kind = .function) (hnc : ∀ y ∈ scope.names, y.2 ≠ .cell)
    (hnm : ∀ x ∈ scope.names, x.2 = .local → scope.names.lookup x.1 = some .local) (hcp : CapOk X scope cp) (hi : PIH xa X target iter wi) (gk : GKeep own.length g)
    (hg : ∀ fp C s H, PG (cxC X scope cl (own ++ cp.map (·.1)) fp C s H) target g) (ht : ∀ fp C s H, PFs (cxC X scope cl (own ++ cp.map (·.1)) fp C s H) ifs tc) (he : ∀ fp C s H, PE (cxC X scope cl (own ++ cp.map (·.1)) fp C s H) elt te)
    (hN : X.N.Nodup) (hi₀ : X.N[i₀]? = some y₀) (hx₀ : X.env.scope.names.lookup y₀ = some .local) (hsw : swapsWith (.ListComp elt [⟨target, iter, ifs, 0⟩] scope pos) (some (.Name y₀ p₀)) p₁.line X.env = pure true)
    (hs : ∀ x, foldedSetIterable iter X.env x = pure x := by intro _; rfl) : PS X (.Assign [.Name y₀ p₀] (.ListComp elt [⟨target, iter, ifs, 0⟩] scope pos) p₁) (tAsg (tComp own.length cp wi g tc te) (gName i₀)) := by
  intro pins s σ H D I h
  rw [exec_Assign_Name_used _ _ _ _ hsw]
  refine wpAny_bind (wpAny_standAt (wpAny_bind ?_))
  show wpAny _ _ (comprehension (.ListComp elt [⟨target, iter, ifs, 0⟩] scope pos) scope X.env (firstIterPos [⟨target, iter, ifs, 0⟩] pos) (newList []) false (eval iter X.env) (some (assign (.Name y₀ p₀) X.env)) >>= fun _ => pure ()) _ _ s
  refine wpAny_bind ?_
  refine wpAny_comprehension_free (use := some (assign (.Name y₀ p₀) X.env)) rfl hs (closureFor_L hcl) hk hnm (thn (hi pins s σ H _ I h) fun xv s1 h1 => thn h1 fun itv s2 h2 => ?_)
  obtain ⟨it, fp, tn, J, H2, e, I2, Tn, st2, f2, W, ⟨m0, w0⟩, turn⟩ := h2
  subst e
  have hlt : ∀ b ∈ fp, b < s2.heap.objs.size := fun b hb => by
    obtain ⟨o, e, _⟩ := Tn.obj _ _ st2 b hb
    exact Heap.lt_size e
  refine wpAny_newObj_type (wpAny_newFunctionEnv hnc (by intro y hy; simp at hy) (fun h1 hns hsb => ?_) hk)
  dsimp only at hns hsb ⊢
  generalize hP : s2.heap.push { cls := .type "list", dict := none, data := .seq ([] : List Value).toArray } = h0 at hns hsb ⊢
  have hCs : h0.objs.size = s2.heap.objs.size + 1 := by rw [← hP, Heap.size_push]
  generalize hCg : h0.objs.size = C at hns hsb hCs ⊢
  have hC : s2.heap.objs.size < C := by omega
  have neC : ∀ b : Addr, b < s2.heap.objs.size → b ≠ C := fun b h => Nat.ne_of_lt (Nat.lt_trans h hC)
  have old : ∀ b o, s2.heap.get? b = some o → h1.get? b = some o := fun b o e =>
    (hsb.2 b (neC b (Heap.lt_size e))).trans (by rw [Heap.get?_push_of_some _ (by rw [← hP]; exact Heap.get?_push_of_some _ e)])
  have hD : h1.get? s2.heap.objs.size = some (lobj [] 0) :=
    (hsb.2 _ (Nat.ne_of_lt hC)).trans (by rw [Heap.get?_push_of_some _ (by rw [← hP]; exact Heap.get?_push_size _ rfl)])
  have fpok : ∀ {its : List Value} {k : Nat} {H' : Hp}, (∀ b ∈ fp, H' b = none) → ∀ b ∈ fp, FpOk (cxC X scope cl (own ++ cp.map (·.1)) fp C s2 H2) [(s2.heap.objs.size, lobj its k)] H' b := fun {its k H'} fr b hb => by
    refine ⟨fr b hb, neC b (hlt b hb), fun hf => ?_, .inl hb, fun x c e => ?_, fun p hp => ?_⟩
    · have hf : b ∈ frs X.stack := hf
      rcases List.mem_cons.mp (I2.stkSub b hf) with z | z
      · exact (f2 b hb).2.1 z
      · exact (f2 b hb).2.2.1 z
    · exact (f2 b hb).2.2.2.2.1 x c ((closL_in scope.names [] hcl (fun x c h => by simp at h)).1 x c e)
    · have hp : p ∈ [(s2.heap.objs.size, lobj its k)] := hp
      cases List.mem_singleton.mp hp
      exact Nat.ne_of_gt (hlt b hb)
  have loop : ∀ s4 : Shared, s4 = { s2 with heap := h1, toks := s2.toks + ([] : List (Str × Value)).length } →
      codeAny (model X.prog X.w) X.A (.compLoop (.ListComp elt [⟨target, iter, ifs, 0⟩] scope pos) 0 (.ref it) (.ref s2.heap.objs.size) (compEnvC scope cl C X.env))
        (compPost (model X.prog X.w) X.A X.xe (some (assign (.Name y₀ p₀) X.env)) (fun _ s' => wpAny (model X.prog X.w) X.A (pure ()) (fun _ s'' => wpAny (model X.prog X.w) X.A (pure Flow.next) (SP X pins D) X.xe s'') X.xe s') (.ref s2.heap.objs.size) C) s4 := by
    intro s4 e4
    have I4 : Inv (cxC X scope cl (own ++ cp.map (·.1)) fp C s2 H2) [(s2.heap.objs.size, lobj [] 0)] (capS own.length cp σ) H2 s4 := by
      rw [e4]
      exact comp_start I2 hcl hk hnc hcp f2 hC hlt (by simpa using hns) old hD
    have st4 : tn 0 s4.heap := by
      rw [e4]
      exact Tn.keep _ _ _ st2 fun b _ o e => old b o e
    refine codeAny_loop rfl (fun n s' => ∃ i H' acc its k, Inv (cxC X scope cl (own ++ cp.map (·.1)) fp C s2 H2) [(s2.heap.objs.size, lobj its k)] (capS own.length cp σ) H' s' ∧ Vals acc its ∧ tn i s'.heap ∧ (∀ b ∈ fp, H' b = none) ∧ W i n H' acc)
      (fun n s' hI => ?_) m0 ⟨0, H2, [], [], 0, I4, .nil, st4, fun b hb => (f2 b hb).1, w0⟩
    obtain ⟨i, H', acc, its, k, I', rv, st, fr, w⟩ := hI
    show wpAny _ X.A ((compTurn (.ListComp elt [⟨target, iter, ifs, 0⟩] scope pos) 0 (.ref it) (.ref s2.heap.objs.size) (compEnvC scope cl C X.env)).onRaise (fun x => do noteFrame x (compEnvC scope cl C X.env); theTreesLotGoes x)) _ _ s'
    refine wpAny_noted ?_
    rw [compTurn_list]
    refine wpAny_bind (wpAny_standAt (wpAny_bind ?_))
    obtain ⟨hz, ⟨stop, fin⟩ | ⟨go, step⟩⟩ := turn i n H' acc w
    · refine thnE (Tn.done (cxC X scope cl (own ++ cp.map (·.1)) fp C s2 H2) rfl rfl rfl hh i _ s' _ H' (fun _ _ => False) I' (fpok fr) st stop) fun r s5 ⟨hr, I5⟩ => ?_
      subst hr
      refine wpAny_pure ?_
      obtain ⟨mm, hmm, _⟩ := I5.loc
      have hmm : s5.heap.Ns C mm := hmm
      obtain ⟨hn, I6⟩ := comp_end (h'' := s5.heap) I2 f2 rfl hC I5 rv (Nat.le_of_lt hz) ⟨rfl, fun _ _ => rfl⟩
      obtain ⟨oC, eC, pC, g1, g2, g3⟩ := id hmm
      have hC2 : s2.heap.objs.size ≤ C := Nat.le_of_lt hC
      have fC : FpOk X pins (upd H' s2.heap.objs.size (.lst acc)) C := I2.fpOk hC2 (by rw [upd_ne (Nat.ne_of_gt hC)]; exact I5.free)
      have I7 : Inv X (pins ++ [(C, oC)]) σ (upd H' s2.heap.objs.size (.lst acc)) s5 := I6.pins_of fun p hp => by
        rcases List.mem_append.mp hp with hp | hp
        · exact I6.pin p (List.mem_append_right _ hp)
        · cases List.mem_singleton.mp hp
          exact ⟨g1, fC.1, fC.2.1, fC.2.2.1, fun v z => by rw [g2] at z; cases z⟩
      refine wpAny_assign_Name (store_ok I7 hN hi₀ (.inl hx₀) (show RelV (.ref s2.heap.objs.size) (.ref s2.heap.objs.size) from rfl) (fun s6 I8 => ?_) (.inr hx₀))
      have e6 := (I8.pin (C, oC) (List.mem_append_right _ (List.mem_append_right _ (List.mem_singleton.mpr rfl)))).1
      refine ⟨mm, ⟨oC, eC, pC, e6, g2, g3⟩, fun h'' hs'' => wpAny_pure (wpAny_pure ⟨_, _, I8.unpinned.turned (t' := s6.toks) (it := C) (fun b o hb e => (hs''.2 b hb).trans e) fC.1 fC.2.1 fC.2.2.2.1 fC.2.2.2.2.1 fC.2.2.2.2.2, fin _ hn⟩)⟩
    · refine thnE (Tn.item (cxC X scope cl (own ++ cp.map (·.1)) fp C s2 H2) rfl rfl rfl hh i _ s' _ H' (fun _ _ => False) I' (fpok fr) st go) fun r s5 ⟨u, hr, h5⟩ => ?_
      subst hr
      refine wpAny_bind (thnE h5 fun _ s6 ⟨x, H6, I6, r6, y6, st6, fr6⟩ => ?_)
      have I6' := I6.pinned (fpok fr6) (Tn.obj _ _ st6)
      refine wpAny_bind (thnE (hg fp C s2 H2 _ s6 _ H6 x u _ I6' r6 (gk _ _ _ _ (step x H6 y6))) fun _ s7 ⟨σ7, H7, I7, q7, kp7⟩ => ?_)
      refine wpAny_bind (thnE (ht fp C s2 H2 _ s7 σ7 H7 _ I7 q7) fun b s8 ⟨H8, I8, q8⟩ => ?_)
      have weak : ∀ {H9 : Hp} {s9 : Shared} {ps : List (Addr × Obj)}, Inv (cxC X scope cl (own ++ cp.map (·.1)) fp C s2 H2) ps σ7 H9 s9 → Inv (cxC X scope cl (own ++ cp.map (·.1)) fp C s2 H2) ps (capS own.length cp σ) H9 s9 := fun {H9 s9 ps} I9 =>
        I9.weak (by rw [I9.len]; exact I'.len) fun j v e => by
          by_cases hj : own.length ≤ j
          · rw [kp7 j hj]
            exact e
          · unfold capS at e
            rw [List.getElem?_append_left (by rw [List.length_replicate]; omega), List.getElem?_replicate] at e
            split at e <;> cases e
      have turned : ∀ {H9 : Hp} {s9 : Shared}, Inv (cxC X scope cl (own ++ cp.map (·.1)) fp C s2 H2) ([(s2.heap.objs.size, lobj its k)] ++ pinsAt fp s6.heap) σ7 H9 s9 → (∀ b ∈ fp, H9 b = none) ∧ ∀ b ∈ fp, ∀ o, s6.heap.get? b = some o → s9.heap.get? b = some o := fun {H9 s9} I9 => by
        refine ⟨fun b hb => ?_, fun b hb o e => ?_⟩
        · obtain ⟨o, e, _⟩ := Tn.obj _ _ st6 b hb
          exact (I9.pin (b, o) (List.mem_append_right _ (List.mem_append_right _ (mem_pinsAt hb e)))).2.1
        · exact (I9.pin (b, o) (List.mem_append_right _ (List.mem_append_right _ (mem_pinsAt hb e)))).1
      cases b with
      | false =>
        obtain ⟨m', hm', w8⟩ := q8
        refine wpAny_pure ⟨rfl, m', hm', i + 1, H8, acc, its, k, weak I8.unpinned, rv, Tn.keep _ _ _ st6 (turned I8).2, (turned I8).1, w8⟩
      | true =>
        refine wpAny_bind (wpAny_bind (thnE (he fp C s2 H2 _ s8 σ7 H8 _ I8 q8) fun uy s9 ⟨y, H9, I9, r9, m', hm', w9⟩ => ?_))
        have pD := I9.pin (s2.heap.objs.size, lobj its k) (List.mem_append_right _ (List.mem_append_left _ (List.mem_singleton.mpr rfl)))
        have lenI := rv.length
        refine wpAny_bind (wpAny_list_append_plain (items := its.toArray) ⟨k, pD.1⟩ (fun h10 pl sb => ?_) (by rw [List.size_toArray]; omega))
        obtain ⟨k', hk'⟩ := pl
        have I10 : Inv (cxC X scope cl (own ++ cp.map (·.1)) fp C s2 H2) (pinsAt fp s6.heap) σ7 H9 { s9 with heap := h10 } := by
          have I9' : Inv (cxC X scope cl (own ++ cp.map (·.1)) fp C s2 H2) (pinsAt fp s6.heap) σ7 H9 s9 := I9.pins_of fun p hp => I9.pin p (List.mem_append_right _ (List.mem_append_right _ hp))
          refine I9'.turned (t' := s9.toks) (it := s2.heap.objs.size) (fun b o hb e => (sb.2 b hb).trans e) pD.2.1 pD.2.2.1 (.inr (Nat.le_refl _)) (fun x c e z => ?_) fun p hp z => ?_
          · obtain ⟨v, o, ho, hd⟩ := I9.cell x c e
            rw [z, pD.1] at ho
            cases ho
            cases hd
          · have hp : p ∈ pinsAt fp s6.heap := hp
            exact Nat.ne_of_lt (hlt p.1 (of_pinsAt hp).1) z
        have kk : ∀ b ∈ fp, ∀ o, s6.heap.get? b = some o → h10.get? b = some o := fun b hb o e => (sb.2 b (Nat.ne_of_lt (hlt b hb))).trans ((turned I9).2 b hb o e)
        have I11 : Inv (cxC X scope cl (own ++ cp.map (·.1)) fp C s2 H2) [(s2.heap.objs.size, lobj (its ++ [uy]) k')] σ7 H9 { s9 with heap := h10 } := I10.pins_of fun p hp => by
          cases List.mem_singleton.mp hp
          refine ⟨?_, pD.2.1, pD.2.2.1, pD.2.2.2.1, fun v z => by cases z⟩
          rw [hk']
          simp
        exact wpAny_pure (wpAny_pure ⟨rfl, m', hm', i + 1, H9, acc ++ [y], its ++ [uy], k', weak I11, rv.append (.cons r9 .nil), Tn.keep _ _ _ st6 kk, (turned I9).1, w9⟩)
  exact codeAny_compStart_list (loop _ rfl) (Tn.self _ 0 _ _ _ (Tn.keep _ _ _ st2 fun b _ o e => old b o e) (loop _ rfl))
noncomputable def tCLH (K : PySem.W.Frag) (xa : Addr) (n : Nat) (cp : List (Str × Nat)) (tl : TE) (tc : TT) (te : TE) : TE := fun σ H Q => tl σ H fun v H1 => match v with
  | .ref a => ∃ xs, SqL K H1 a xs ∧ xs.length < 16777216 ∧ ∃ Pv : Nat → Hp → List V → Prop, Pv 0 H1 [] ∧ (∀ i H2 acc, i ≤ xs.length → Pv i H2 acc → SqL K H2 a xs ∧ ∃ C, H2 xa = some (ExcO xa C)) ∧ (∀ i y H2 acc, xs[i]? = some y → Pv i H2 acc → oneC tc te ((capS n cp σ).set 0 (some y)) acc (Pv (i + 1)) H2) ∧ ∀ H2 acc, Pv xs.length H2 acc → ∀ l, H2 l = none → Q (.ref l) (upd H2 l (.lst acc))
  | _ => False
theorem ps_compLH {i₀ : Nat} {y₀ : Str} {p₀ p₁ : Pos} {K : PySem.W.Frag} {elt iter : Expr} {ifs : List Expr} {x : Str} {px : Pos} {scope : Scope} {pos : Pos} {cl : List (Str × Addr)} {own : List Str} {cp : List (Str × Nat)} {tl : TE} {tc : TT} {te : TE} (hK : X.K = K)
    {xa : Addr} (hh : X.A.handled = some (.ref xa)) (hcl : closL scope.names X.env.cells [] = some cl) (hk : scope.kind = .function) (hnc : ∀ y ∈ scope.names, y.2 ≠ .cell)
    (hnm : ∀ x ∈ scope.names, x.2 = .local → scope.names.lookup x.1 = some .local) (hcp : CapOk X scope cp) (hl : PE X iter tl) (hn : 0 < own.length)
    (hg : ∀ fp C s H, PG (cxC X scope cl (own ++ cp.map (·.1)) fp C s H) (.Name x px) (gName 0)) (ht : ∀ fp C s H, PFs (cxC X scope cl (own ++ cp.map (·.1)) fp C s H) ifs tc) (he : ∀ fp C s H, PE (cxC X scope cl (own ++ cp.map (·.1)) fp C s H) elt te)
    (hN : X.N.Nodup) (hi₀ : X.N[i₀]? = some y₀) (hx₀ : X.env.scope.names.lookup y₀ = some .local) (hsw : swapsWith (.ListComp elt [⟨.Name x px, iter, ifs, 0⟩] scope pos) (some (.Name y₀ p₀)) p₁.line X.env = pure true := by rfl)
    (hs : ∀ z, foldedSetIterable iter X.env z = pure z := by intro _; rfl) : PS X (.Assign [.Name y₀ p₀] (.ListComp elt [⟨.Name x px, iter, ifs, 0⟩] scope pos) p₁) (tAsg (tCLH K xa own.length cp tl tc te) (gName i₀)) := by
  subst hK
  have hl' : PE X iter (fun σ H Q => ∃ Q0 : VK, tl σ H Q0 ∧ ∀ v H', Q0 v H' → Q v H') := hl.imp fun σ H Q h => h
  intro pins s σ H D I h
  refine ps_compH hh hcl hk hnc hnm hcp (pi_listH xa hl') (gk_name hn) hg (fun fp C s H => (ht fp C s H).imp (t' := cloT tc) fun _ _ _ z => z) (fun fp C s H => (he fp C s H).imp (t' := cloE te) fun _ _ _ z => z) hN hi₀ hx₀ hsw hs pins s σ H D I ?_
  refine ⟨_, h, fun v H1 q => ?_⟩
  cases v with
  | ref a =>
    obtain ⟨xs, hx, hz, Pv, p0, pl, ps, pe⟩ := q
    have hsl : sizeLine = 16777216 := sizeLine_eq
    refine ⟨a, rfl, ⟨xs, hx⟩, fun i m H2 acc => m = xs.length - i ∧ i ≤ xs.length ∧ acc.length ≤ i ∧ Pv i H2 acc, ⟨xs.length, by omega, Nat.zero_le _, Nat.le_refl _, p0⟩, ?_⟩
    rintro i m H2 acc ⟨rfl, hi, hla, pv'⟩
    refine ⟨by omega, ?_⟩
    obtain ⟨hx2, hxa⟩ := pl i H2 acc hi pv'
    by_cases hlt : i < xs.length
    · refine .inr ⟨⟨xs, xs[i], hx2, by simp [hlt]⟩, fun y H3 ⟨e3, ey⟩ => ?_⟩
      subst e3
      exact oneC_clo (N' := fun H a => ∃ m', m' < xs.length - i ∧ (m' = xs.length - (i + 1) ∧ i + 1 ≤ xs.length ∧ a.length ≤ i + 1 ∧ Pv (i + 1) H a)) (fun H a ha z => ⟨xs.length - (i + 1), by omega, rfl, hlt, by omega, z⟩) (ps i y H3 acc (ey xs hx2) pv')
    · have e : i = xs.length := by omega
      subst e
      exact .inl ⟨⟨hxa, xs, hx2, Nat.le_refl _⟩, fun l hl' => pe H2 acc pv' l hl'⟩
  | _ => exact False.elim q
end
end L2
set_option maxRecDepth 100000
set_option maxHeartbeats 1000000
namespace LP
noncomputable def ahd (p : List Nat) : List (List Nat) → List (List Nat)
  | [] => [p]
  | w :: r => (p ++ w) :: r
noncomputable def spl (c : Nat) : Nat → List Nat → List (List Nat)
  | _, [] => [[]]
  | 0, x :: r => [x :: r]
  | n + 1, x :: r => if x = c then [] :: spl c n r else ahd [x] (spl c (n + 1) r)
noncomputable def plcS (c : Nat) : Nat → List Nat → List Nat
  | _, [] => []
  | i, x :: r => if x = c then i :: plcS c (i + 1) r else plcS c (i + 1) r
theorem spl_ne (c n : Nat) : ∀ l, spl c n l ≠ []
  | [] => by simp [spl]
  | x :: r => by
    cases n with
    | zero => simp [spl]
    | succ n =>
      unfold spl
      split
      · simp
      · cases spl c (n + 1) r <;> simp [ahd]
theorem ahd_ahd (p q : List Nat) : ∀ {ws : List (List Nat)}, ws ≠ [] → ahd p (ahd q ws) = ahd (p ++ q) ws
  | [], h => absurd rfl h
  | w :: r, _ => by simp [ahd]
theorem spl_zero (c : Nat) : ∀ l, spl c 0 l = [l]
  | [] => rfl
  | _ :: _ => rfl
theorem spl_cons {c : Nat} (n : Nat) (r : List Nat) : ∀ {p : List Nat}, c ∉ p → spl c (n + 1) (p ++ c :: r) = p :: spl c n r
  | [], _ => by simp [spl]
  | x :: p, h => by
    have hx : x ≠ c := fun e => h (by simp [e])
    have hp : c ∉ p := fun e => h (by simp [e])
    show (if x = c then _ else ahd [x] (spl c (n + 1) (p ++ c :: r))) = _
    rw [if_neg hx, spl_cons n r hp]
    rfl
theorem spl_none {c : Nat} (n : Nat) : ∀ {p : List Nat}, c ∉ p → spl c n p = [p]
  | [], _ => rfl
  | x :: p, h => by
    cases n with
    | zero => rfl
    | succ n =>
      have hx : x ≠ c := fun e => h (by simp [e])
      have hp : c ∉ p := fun e => h (by simp [e])
      show (if x = c then _ else ahd [x] (spl c (n + 1) p)) = _
      rw [if_neg hx, spl_none (n + 1) hp]
      rfl
theorem spl_len (c : Nat) : ∀ (n : Nat) (l : List Nat), (spl c n l).length ≤ l.length + 1
  | n, [] => by simp [spl]
  | 0, x :: r => by simp [spl]
  | n + 1, x :: r => by
    unfold spl
    split
    · have := spl_len c n r
      simp only [List.length_cons]
      omega
    · have := spl_len c (n + 1) r
      have e : (ahd [x] (spl c (n + 1) r)).length = (spl c (n + 1) r).length := by
        have := spl_ne c (n + 1) r
        cases h : spl c (n + 1) r with
        | nil => exact absurd h this
        | cons w ws => rfl
      rw [e]
      simp only [List.length_cons]
      omega
end LP
namespace L2
open PySem PySem.Spec PyProof.Rows Builtin.Str LP
theorem occ_from (z : Str) (c : Nat) (lim : Nat) : ∀ (l : List Nat) (i : Nat) (acc : Array Nat) (free : Nat), (L z).drop i = l → free ≤ i → i ≤ z.length →
    (forIn (List.range' i (l.length + 1)) (acc, free) (StrLaws.occBody z ⟨#[c]⟩ z.length lim)).run.fst.toList = acc.toList ++ (plcS c i l).take (lim - acc.size)
  | [], i, acc, free, hl, hf, hi => by
    rw [List.length_nil, List.range'_succ, List.forIn_cons]
    unfold StrLaws.occBody
    have hn : (L z)[i]? = none := by
      have := congrArg (·[0]?) hl
      simpa using this
    rw [if_neg (fun h => by
      have := (StrLaws.subAt_one z c i).mp ⟨h.1.2, h.2⟩
      have h2 : (L z)[i]? = some c := this
      rw [hn] at h2
      cases h2)]
    show (forIn (List.range' (i + 1) 0) (acc, free) (StrLaws.occBody z ⟨#[c]⟩ z.length lim)).run.fst.toList = _
    simp [plcS]
  | x :: r, i, acc, free, hl, hf, hi => by
    have hx : (L z)[i]? = some x := by
      have := congrArg (·[0]?) hl
      simpa using this
    have hlt : i < z.length := by
      have := (List.getElem?_eq_some_iff.mp hx).1
      rw [L_len] at this
      exact this
    have hr : (L z).drop (i + 1) = r := by
      rw [← List.drop_drop, hl]
      rfl
    rw [List.length_cons, List.range'_succ, List.forIn_cons]
    unfold StrLaws.occBody
    by_cases e : x = c
    · by_cases hs : acc.size < lim
      · have st := (StrLaws.subAt_one z c i).mpr (show (L z)[i]? = some c by rw [hx, e])
        rw [if_pos ⟨⟨⟨hs, hf⟩, st.1⟩, st.2⟩]
        show (forIn (List.range' (i + 1) (r.length + 1)) (acc.push i, i + 1) (StrLaws.occBody z ⟨#[c]⟩ z.length lim)).run.fst.toList = _
        rw [occ_from z c lim r (i + 1) _ _ hr (Nat.le_refl _) hlt]
        rw [show plcS c i (x :: r) = i :: plcS c (i + 1) r from if_pos e, Array.size_push]
        obtain ⟨d, hd⟩ : ∃ d, lim - acc.size = d + 1 := ⟨lim - acc.size - 1, by omega⟩
        rw [hd, show lim - (acc.size + 1) = d by omega, List.take_succ_cons]
        simp
      · rw [if_neg (fun h => hs h.1.1.1)]
        show (forIn (List.range' (i + 1) (r.length + 1)) (acc, free) (StrLaws.occBody z ⟨#[c]⟩ z.length lim)).run.fst.toList = _
        rw [occ_from z c lim r (i + 1) _ _ hr (Nat.le_succ_of_le hf) hlt, show lim - acc.size = 0 by omega]
        simp
    · rw [if_neg (fun h => by
        have := (StrLaws.subAt_one z c i).mp ⟨h.1.2, h.2⟩
        have h2 : (L z)[i]? = some c := this
        rw [hx] at h2
        exact e (Option.some.inj h2))]
      show (forIn (List.range' (i + 1) (r.length + 1)) (acc, free) (StrLaws.occBody z ⟨#[c]⟩ z.length lim)).run.fst.toList = _
      rw [occ_from z c lim r (i + 1) _ _ hr (Nat.le_succ_of_le hf) hlt]
      rw [show plcS c i (x :: r) = plcS c (i + 1) r from if_neg e]
theorem occ_one (z : Str) (c lim : Nat) : occurrences z ⟨#[c]⟩ 0 z.length lim = (plcS c 0 (L z)).take lim := by
  rw [StrLaws.occ_eq]
  have := occ_from z c lim (L z) 0 #[] 0 rfl (Nat.le_refl _) (Nat.zero_le _)
  rw [L_len] at this
  simpa using this
theorem parts_one (z : Str) (c : Nat) : ∀ (l : List Nat) (n : Nat) (A P : List Nat), L z = A ++ P ++ l → StrLaws.partsFrom z 1 A.length ((plcS c (A.length + P.length) l).take n) = (ahd P (spl c n l)).map T
  | [], n, A, P, h => by
    have e : strSub z A.length z.length = T P := by
      rw [sub_L, ← L_len, List.take_length, h]
      simp
    show StrLaws.partsFrom z 1 A.length (([] : List Nat).take n) = _
    rw [List.take_nil]
    show [strSub z A.length z.length] = _
    rw [e]
    simp [spl, ahd]
  | x :: r, 0, A, P, h => by
    rw [List.take_zero, spl_zero]
    show [strSub z A.length z.length] = _
    rw [sub_L, ← L_len, List.take_length, h]
    simp [ahd]
  | x :: r, n + 1, A, P, h => by
    by_cases e : x = c
    · rw [show plcS c (A.length + P.length) (x :: r) = (A.length + P.length) :: plcS c (A.length + P.length + 1) r from if_pos e, show spl c (n + 1) (x :: r) = [] :: spl c n r from if_pos e, List.take_succ_cons]
      show strSub z A.length (A.length + P.length) :: StrLaws.partsFrom z 1 (A.length + P.length + 1) _ = _
      have ih := parts_one z c r n (A ++ P ++ [x]) [] (by rw [h]; simp)
      simp only [List.length_append, List.length_singleton, List.length_nil, Nat.add_zero] at ih
      rw [ih, sub_L, h]
      have e2 : List.drop A.length (List.take (A.length + P.length) (A ++ P ++ x :: r)) = P := by
        rw [List.take_append_of_le_length (by simp), List.take_of_length_le (by simp)]
        simp
      rw [e2]
      cases hs : spl c n r with
      | nil => exact absurd hs (spl_ne c n r)
      | cons w ws => simp [ahd]
    · rw [show plcS c (A.length + P.length) (x :: r) = plcS c (A.length + P.length + 1) r from if_neg e, show spl c (n + 1) (x :: r) = ahd [x] (spl c (n + 1) r) from if_neg e]
      have ih := parts_one z c r (n + 1) A (P ++ [x]) (by rw [h]; simp)
      rw [List.length_append, List.length_singleton, ← Nat.add_assoc] at ih
      rw [ih, ahd_ahd _ _ (spl_ne c (n + 1) r)]
theorem parts_spl (z : Str) (c lim : Nat) : partsBetween z (occurrences z ⟨#[c]⟩ 0 z.length lim) 1 = (spl c lim (L z)).map T := by
  rw [StrLaws.partsBetween_eq, occ_one]
  have := parts_one z c (L z) lim [] [] rfl
  simp only [List.length_nil, Nat.add_zero] at this
  rw [this]
  cases hs : spl c lim (L z) with
  | nil => exact absurd hs (spl_ne c lim (L z))
  | cons w ws => simp [ahd]
theorem itself_spl {z : Str} {c lim : Nat} (h : (occurrences z ⟨#[c]⟩ 0 z.length lim).isEmpty = true) : (spl c lim (L z)).map T = [z] := by
  rw [← parts_spl, List.isEmpty_iff.mp h]
  show [strSub z 0 z.length] = _
  rw [sub_L, ← L_len, List.take_length, List.drop_zero, T_L]
theorem vals_strs : ∀ (xs : List Str) (tk : Nat), Vals (xs.map V.str) (strsFrom tk xs)
  | [], _ => .nil
  | x :: r, tk => .cons ⟨tk, rfl⟩ (vals_strs r (tk + 1))
theorem kind_pos (z : Str) : 1 ≤ Builtin.Str.strKind z := by
  unfold Builtin.Str.strKind
  split
  · exact Nat.le_refl _
  · split <;> decide
section
variable {X : Cx}
noncomputable def splV : V → List V → Hp → VK → Prop := fun x vs H Q => match x, vs with
  | .str z, [.str y] => ∃ c, L y = [c] ∧ c < 256 ∧ (L z).length + 2 ≤ sizeLine ∧ ∀ a, H a = none → Q (.ref a) (upd H a (.lst ((spl c ((L z).length + 1) (L z)).map fun w => V.str (T w))))
  | .str z, [.str y, .int k] => ∃ c, L y = [c] ∧ c < 256 ∧ (L z).length + 2 ≤ sizeLine ∧ 0 ≤ k ∧ k < 1000 ∧ ∀ a, H a = none → Q (.ref a) (upd H a (.lst ((spl c k.toNat (L z)).map fun w => V.str (T w))))
  | _, _ => False
theorem m_split : MtR X "str.split" splV := by
  intro pins s σ H x vs v us Q I rx rv h
  have fin : ∀ (c lim : Nat) (z : Str) (tk : Nat) (its : List Value), (L z).length + 2 ≤ sizeLine → Vals (((spl c lim (L z)).map T).map V.str) its → (∀ a, H a = none → Q (.ref a) (upd H a (.lst ((spl c lim (L z)).map fun w => V.str (T w))))) →
      EP X pins σ Q (.ref s.heap.objs.size) { s with toks := tk, heap := s.heap.push { cls := .type "list", data := .seq its.toArray } } := fun c lim z tk its hz r q => by
    have hn := I.hok.fresh (Nat.le_refl s.heap.objs.size)
    have em : ((spl c lim (L z)).map T).map V.str = (spl c lim (L z)).map fun w => V.str (T w) := by rw [List.map_map]; rfl
    have hl := spl_len c lim (L z)
    refine ⟨.ref s.heap.objs.size, _, I.laid (o := .lst ((spl c lim (L z)).map fun w => V.str (T w))) (t' := tk) (fun b o e => Heap.get?_push_of_some _ e) (Nat.le_refl _) ⟨by rw [List.length_map]; omega, its, 0, em ▸ r, Heap.get?_push_size _ rfl⟩, rfl, q _ hn⟩
  have kd : ∀ (z : Str) (c : Nat), c < 256 → z.length ≠ 0 → (decide (z.length < (⟨#[c]⟩ : Str).length) || decide (Builtin.Str.strKind z < Builtin.Str.strKind ⟨#[c]⟩)) = false := fun z c hc hz => by
    have h1 : Builtin.Str.strKind ⟨#[c]⟩ = 1 := by
      unfold Builtin.Str.strKind
      rw [if_pos (by simpa using hc)]
    have h2 := kind_pos z
    rw [h1, show (⟨#[c]⟩ : Str).length = 1 from rfl, decide_eq_false (by omega), decide_eq_false (by omega)]
    rfl
  have mt : ∀ (z : Str) (c : Nat), z.length = 0 → (decide (z.length < (⟨#[c]⟩ : Str).length) || decide (Builtin.Str.strKind z < Builtin.Str.strKind ⟨#[c]⟩)) = true := fun z c hz => by
    rw [hz]
    rfl
  have one : ∀ (z : Str) (c lim : Nat) (t : Tok), (spl c lim (L z)).map T = [z] → Vals (((spl c lim (L z)).map T).map V.str) [.str z t] := fun z c lim t e => by
    rw [e]
    exact .cons ⟨t, rfl⟩ .nil
  have nil : ∀ (z : Str) (c lim : Nat), z.length = 0 → (spl c lim (L z)).map T = [z] := fun z c lim hz => by
    have e : L z = [] := by
      rw [← L_len] at hz
      exact List.length_eq_zero_iff.mp hz
    rw [e]
    have := T_L z
    rw [e] at this
    simp [spl, this]
  unfold splV at h
  split at h
  · rename_i z y
    obtain ⟨c, hy, hc, hz, q⟩ := h
    obtain ⟨t, rfl⟩ := rx
    obtain ⟨u, rfl, t', rfl⟩ := vals1 rv
    have hy2 := one_sign hy
    subst hy2
    have hl := spl_len c ((L z).length + 1) (L z)
    by_cases h0 : z.length = 0
    · exact call_meets F.slot_str_split (typeIs_str _ _ _) F.entry_str_split (F.args_str_split_2 _ _) (meets_str_split_cannot_occur z ⟨#[c]⟩ t t' (mt z c h0)) (fin c _ z _ _ hz (one z c _ t (nil z c _ h0)) q)
    · cases hf : (occurrences z ⟨#[c]⟩ 0 z.length (z.length + 1)).isEmpty with
      | true => exact call_meets F.slot_str_split (typeIs_str _ _ _) F.entry_str_split (F.args_str_split_2 _ _) (meets_str_split_not_found z ⟨#[c]⟩ t t' (kd z c hc h0) rfl hf) (fin c _ z _ _ hz (one z c _ t (by rw [L_len]; exact itself_spl hf)) q)
      | false =>
        have e := parts_spl z c (z.length + 1)
        refine call_meets F.slot_str_split (typeIs_str _ _ _) F.entry_str_split (F.args_str_split_2 _ _) (meets_str_split_sep z ⟨#[c]⟩ t t' (kd z c hc h0) rfl hf (by rw [← L_len]; omega) (by show (partsBetween z _ 1).length ≤ _; rw [e, List.length_map, ← L_len]; omega)) ?_
        exact fin c _ z _ _ hz (by show Vals _ (strsFrom _ (partsBetween z _ 1)); rw [e, L_len]; exact vals_strs _ _) q
  · rename_i z y k
    obtain ⟨c, hy, hc, hz, k0, k1, q⟩ := h
    obtain ⟨t, rfl⟩ := rx
    obtain ⟨u, u2, rfl, ⟨t', rfl⟩, ⟨t2, rfl⟩⟩ := vals2 rv
    have hy2 := one_sign hy
    subst hy2
    have hk : (decide (k < -(2 ^ 63 : Int)) || decide (k ≥ 2 ^ 63)) = false := by
      rw [decide_eq_false (by omega), decide_eq_false (by omega)]
      rfl
    have hlim : limitOf z k = k.toNat := if_neg (by omega)
    have hl := spl_len c k.toNat (L z)
    by_cases h0 : z.length = 0
    · exact call_meets F.slot_str_split (typeIs_str _ _ _) F.entry_str_split (F.args_str_split_3 _ _ _) (meets_str_split_max_cannot_occur z ⟨#[c]⟩ k t t' t2 hk (mt z c h0)) (fin c _ z _ _ hz (one z c _ t (nil z c _ h0)) q)
    · cases hf : (occurrences z ⟨#[c]⟩ 0 z.length (limitOf z k)).isEmpty with
      | true => exact call_meets F.slot_str_split (typeIs_str _ _ _) F.entry_str_split (F.args_str_split_3 _ _ _) (meets_str_split_max_not_found z ⟨#[c]⟩ k t t' t2 hk (kd z c hc h0) rfl hf) (fin c _ z _ _ hz (one z c _ t (by rw [hlim] at hf; exact itself_spl hf)) q)
      | false =>
        have e := parts_spl z c (limitOf z k)
        have e' : partsBetween z (occurrences z ⟨#[c]⟩ 0 z.length (limitOf z k)) (⟨#[c]⟩ : Str).length = (spl c k.toNat (L z)).map T := by rw [hlim] at e ⊢; exact e
        refine call_meets F.slot_str_split (typeIs_str _ _ _) F.entry_str_split (F.args_str_split_3 _ _ _) (meets_str_split_sep_max z ⟨#[c]⟩ k t t' t2 hk (kd z c hc h0) rfl hf (by rw [← L_len]; omega) (by rw [e', List.length_map]; omega)) ?_
        exact fin c _ z _ _ hz (by rw [e']; exact vals_strs _ _) q
  · exact h.elim
end
end L2
set_option maxRecDepth 100000
set_option maxHeartbeats 1000000
namespace L2
open PySem PySem.Spec PyProof.Rows
section
variable {X : Cx}
noncomputable def vChain (r1 r2 : R2) (ta tb tc : TE) : TE := fun σ H Q => ta σ H fun x H1 => tb σ H1 fun y H2 => r1 x y H2 fun z H3 => match z with
  | .bl k => if k = true then tc σ H3 fun u H4 => r2 y u H4 Q else Q (.bl false) H3
  | _ => False
theorem pe_chain2 {op1 op2 : CmpOp} {r1 r2 : R2} {a b c : Expr} {ta tb tc : TE} {pos : Pos} (h1 : OpR X (compareOp op1) r1) (h2 : OpR X (compareOp op2) r2) (ha : PE X a ta) (hb : PE X b tb) (hc : PE X c tc) (hm : lastMarks [op1, op2] [b, c] = false := by with_unfolding_all rfl) : PE X (.Compare a [op1, op2] [b, c] pos) (vChain r1 r2 ta tb tc) := by
  intro pins s σ H Q I h
  refine Compare_chain (thn (ha pins s σ H _ I h) fun v s1 ⟨x, H1, I1, rx, q1⟩ => chain_link (thn (hb pins s1 σ H1 _ I1 q1) fun u s2 ⟨y, H2, I2, ry, q2⟩ => thn (h1 pins s2 σ H2 x y v u _ I2 rx ry q2) fun k s3 ⟨z, H3, I3, rz, q3⟩ => ?_)) hm
  cases z with
  | bl k =>
    cases rz
    refine wpAny_truthy_bool ?_
    cases k with
    | true => exact chain_last (thn (hc pins s3 σ H3 _ I3 q3) fun t s4 ⟨w', H4, I4, rw', q4⟩ => h2 pins s4 σ H4 y w' u t _ I4 ry rw' q4)
    | false => exact ⟨.bl false, H3, I3, rfl, q3⟩
  | _ => exact False.elim q3
noncomputable def Ents : List DictEntry → List (Str × V) → Prop
  | [], [] => True
  | e :: es, p :: ps => (∃ t, e.key = .str p.1 t) ∧ RelV p.2 e.val ∧ Ents es ps
  | _, _ => False
noncomputable def topV : List (Str × V) → Str → Option V
  | [], _ => none
  | p :: r, z => if p.1 = z then some p.2 else topV r z
structure TopD (K : PySem.W.Frag) (P : Params) (a : Addr) (kvs : List (Str × V)) : Prop where
  ex : ∃ es n, K.lookup a = some ⟨.type "dict", none, .dict es n, #[]⟩ ∧ PySem.W.KeysLit P es.toList ∧ Ents es.toList kvs
  ns : (a == sysModules) = false
theorem ents_find {z : Str} : ∀ {es : List DictEntry} {kvs : List (Str × V)}, Ents es kvs → (∃ u v, (es.find? fun d => Value.isStrOf z d.key).map (·.val) = some u ∧ topV kvs z = some v ∧ RelV v u) ∨ ((es.find? fun d => Value.isStrOf z d.key).map (·.val) = none ∧ topV kvs z = none)
  | [], [], _ => .inr ⟨rfl, rfl⟩
  | e :: es, p :: ps, ⟨⟨t, hk⟩, hv, r⟩ => by
    unfold topV
    rw [List.find?_cons, hk]
    by_cases q : p.1 = z
    · have : Value.isStrOf z (.str p.1 t) = true := by
        subst q
        simp [Value.isStrOf]
      rw [this, if_pos q]
      exact .inl ⟨_, _, rfl, rfl, hv⟩
    · have : Value.isStrOf z (.str p.1 t) = false := by
        simp [Value.isStrOf, q]
      rw [this, if_neg q]
      exact ents_find r
  | [], _ :: _, h => h.elim
  | _ :: _, [], h => h.elim
theorem TopD.map {P : Program} {w : World} {K : PySem.W.Frag} {a : Addr} {kvs : List (Str × V)} {h : Heap} (D : TopD K w.params a kvs) (KX : K.In h) : ∃ f, h.MapOf (strKind P w) a f ∧ ∀ z, (∃ u v, f z = some u ∧ topV kvs z = some v ∧ RelV v u) ∨ (f z = none ∧ topV kvs z = none) := by
  obtain ⟨es, n, hl, hk, he⟩ := D.ex
  refine ⟨_, PySem.W.mapOf_K (prog := P) KX hl hk, fun z => ?_⟩
  have := ents_find (z := z) he
  obtain ⟨l⟩ := es
  unfold findBy
  rw [List.find?_toArray]
  exact this
noncomputable def rTopIn (neg : Bool) (A : Addr) (kvs : List (Str × V)) : R2 := fun x y H Q => match x, y with
  | .str z, .ref a => a = A ∧ Q (.bl (neg != (topV kvs z).isSome)) H
  | _, _ => False
noncomputable def rTopIx (A : Addr) (kvs : List (Str × V)) : R2 := fun x y H Q => match x, y with
  | .ref a, .str z => a = A ∧ ∃ v, topV kvs z = some v ∧ Q v H
  | _, _ => False
theorem o_ninTop {A : Addr} {kvs : List (Str × V)} (D : TopD X.K X.w.params A kvs) : OpR X (compareOp .NotIn) (rTopIn true A kvs) := by
  intro pins s σ H x y v u Q I rx ry h
  unfold rTopIn at h
  split at h
  · rename_i z a
    obtain ⟨rfl, q⟩ := h
    obtain ⟨t, rfl⟩ := rx
    cases ry
    obtain ⟨f, hm, hf⟩ := D.map (P := X.prog) (w := X.w) I.kIn
    refine wpAny_notIn_of (strKind_is X.prog X.w z t) D.ns hm ⟨.bl _, H, I.kept (t' := s.toks + 1) fun b o e => e, rfl, ?_⟩
    have e : (f z).isSome = (topV kvs z).isSome := by
      rcases hf z with ⟨_, _, e1, e2, _⟩ | ⟨e1, e2⟩ <;> rw [e1, e2] <;> rfl
    rw [e]
    simpa using q
  · exact h.elim
theorem i_top {A : Addr} {kvs : List (Str × V)} (D : TopD X.K X.w.params A kvs) : IxR X (rTopIx A kvs) := by
  intro value slice pins s σ H x y v u Q I rx ry h hs
  unfold rTopIx at h
  split at h
  · rename_i a z
    obtain ⟨rfl, v', hv, q⟩ := h
    obtain ⟨t, rfl⟩ := ry
    cases rx
    obtain ⟨f, hm, hf⟩ := D.map (P := X.prog) (w := X.w) I.kIn
    rcases hf z with ⟨u', v2, e1, e2, r⟩ | ⟨_, e2⟩
    · rw [hv] at e2
      cases e2
      exact tail_any hm.typeIs slot_dict_getitem.lookup (wpAny_getItem_of (strKind_is X.prog X.w z t) hm e1 ⟨v', H, I.kept (t' := s.toks + 1) fun b o e => e, r, q⟩) hs
    · rw [hv] at e2
      cases e2
  · exact h.elim
structure TopT (K : PySem.W.Frag) (a : Addr) (xs : List V) : Prop where
  ex : ∃ (o : Obj) (its : Array Value) (n : Nat), K.lookup a = some o ∧ o.cls = .type "tuple" ∧ o.data = .seq its n ∧ its.size ≤ sizeLine ∧ Vals xs its.toList
theorem TopT.sq {K : PySem.W.Frag} {a : Addr} {xs : List V} (T : TopT K a xs) (H : Hp) : SqT K H a xs := .inr T.ex
structure TopF (K : PySem.W.Frag) (P : Params) (mg : Str → Option Value) (a : Addr) (kns : List (Str × Str)) : Prop where
  ex : ∃ kvs, TopD K P a kvs ∧ ∀ z nm, (kns.find? fun p => p.1 = z).map (·.2) = some nm → ∃ f, mg nm = some (.ref f) ∧ topV kvs z = some (.ref f)
noncomputable def tAns (kns : List (Str × Str)) (G : Str → Sp → Prop) (F : St → XK) (tk : TE) (t : TA) : TE := fun σ H Q => tk σ H fun kv H1 => match kv with
  | .str z => ∃ nm sp, (kns.find? fun p => p.1 = z).map (·.2) = some nm ∧ G nm sp ∧ t σ H1 fun vs H2 => sp vs H2 Q (F σ)
  | _ => False
theorem pe_ansX {F : St → XK} {A : Addr} {kns : List (Str × Str)} {G : Str → Sp → Prop} {k : Nat} {x : Str} {ke e : Expr} {es : List Expr} {tk : TE} {t : TA} {p p' pos : Pos} (T : Tk X F) (D : TopF X.K X.w.params X.mg A kns) (hA : X.mg x = some (.ref A)) (hG : ∀ nm sp, G nm sp → ∃ j ps, j ≤ k ∧ FnX X.prog X.w X.K X.mg X.base j nm ps sp) (hr : Room k X.A) (hk : PE X ke tk) (ha : PA X (e :: es) t) (hs : PlainIx ke) (hg : Gl X x := by rfl) (hdb : (x == ("__debug__" : Str)) = false := by decide)
    (he : starEach (e :: es) X.env = (false, eval e X.env) :: starEach es X.env := by rfl) (hpl : (backTo pos (starEach es X.env)).any (·.1) = false := by rfl)
    (hev : eval (.Call (.Subscript (.Name x p) ke p') (e :: es) [] pos) X.env = (do callWith pos (← eval (.Subscript (.Name x p) ke p') X.env) [] (backTo pos (starEach (e :: es) X.env)) (backToKw pos (keywordEach [] X.env))) := by rfl) :
    PE X (.Call (.Subscript (.Name x p) ke p') (e :: es) [] pos) (tAns kns G F tk t) := by
  intro pins s σ H Q I h
  obtain ⟨kvs, D, hD⟩ := D.ex
  refine Call_ ?_ hev
  have hsub : PE X (.Subscript (.Name x p) ke p') (tOp (rTopIx A kvs) (tC (.ref A)) tk) := pe_ix (i_top D) (pe_glob (v := .ref A) hg hA rfl hdb) hk hs
  have h0 : ∃ Q0 : VK, tk σ H Q0 ∧ ∀ kv H1, Q0 kv H1 → match kv with
      | .str z => ∃ nm sp, (kns.find? fun p => p.1 = z).map (·.2) = some nm ∧ G nm sp ∧ t σ H1 fun vs H2 => sp vs H2 Q (F σ)
      | _ => False := ⟨_, h, fun _ _ z => z⟩
  have hk' : PE X ke (fun σ H Q => ∃ Q0 : VK, tk σ H Q0 ∧ ∀ v H', Q0 v H' → Q v H') := hk.imp fun σ H Q h => h
  have hsub : PE X (.Subscript (.Name x p) ke p') (tOp (rTopIx A kvs) (tC (.ref A)) (fun σ H Q => ∃ Q0 : VK, tk σ H Q0 ∧ ∀ v H', Q0 v H' → Q v H')) := pe_ix (i_top D) (pe_glob (v := .ref A) hg hA rfl hdb) hk' hs
  refine thn (hsub pins s σ H (fun v H1 => ∃ nm sp f, v = .ref f ∧ X.mg nm = some (.ref f) ∧ G nm sp ∧ t σ H1 fun vs H2 => sp vs H2 Q (F σ)) I ?_) fun v s1 ⟨v', H1, I1, rv, nm, sp, f, ev, hf, hg1, q1⟩ => ?_
  · obtain ⟨Q0, a1, a2⟩ := h0
    refine ⟨Q0, a1, fun kv H1 q => ?_⟩
    have q := a2 kv H1 q
    cases kv with
    | str z =>
      obtain ⟨nm, sp, e1, e2, e3⟩ := q
      obtain ⟨f, f1, f2⟩ := hD z nm e1
      exact ⟨rfl, _, f2, nm, sp, f, rfl, f1, e2, e3⟩
    | _ => exact q.elim
  · subst ev
    cases rv
    obtain ⟨j, ps, hj, G1⟩ := hG nm sp hg1
    obtain ⟨f', fd, G1, hm, hkp, hb⟩ := G1.ex
    rw [hf] at hm
    cases hm
    refine PySem.W.callWith_K (h₀ := X.base) I1.ok.mod.kin hkp (thn (ha pos pins s1 σ H1 _ I1 q1) fun us s2 ⟨vs, H2, I2, r, q⟩ => ⟨I2.kIn, ?_⟩) he hpl
    have hl : us.length = ps.length := by rw [← r.length]; exact G1.len _ _ _ _ q
    refine wpAny_call (codeAny_mono (G1.run X.A X.stack s2 H2 ⟨us, []⟩ us vs Q (F σ) (hr.mono hj) I2.env0 (by simpa using hb s2 us I2.kIn (by simpa using hl)) r q) fun r s' hq => ?_)
    cases r with
    | error e => exact T.pass pins σ H2 s2 e s' I2 hq
    | ok fl =>
      cases fl with
      | ret u => exact I2.after hq
      | next => exact False.elim hq
      | brk => exact False.elim hq
      | cont => exact False.elim hq
end
structure FnZ0 (P : Program) (w : World) (K : PySem.W.Frag) (mg : Str → Option Value) (base : Heap) (k : Nat) (f : Addr) (fd : FuncData) (ps : List Str) (sp : Addr → Sp) : Prop where
  len : ∀ xa vs H Q E, sp xa vs H Q E → vs.length = ps.length
  run : ∀ (A : Around) (outer : List Env) (s : Shared) (H : Hp) (args : Args) (us : List Value) (vs : List V) (Q : VK) (xa : Addr), A.handled = some (.ref xa) → RoomW k A → Env0 P w K mg base A outer s H → BindsTo s fd args (ps.zip us) → Vals vs us → sp xa vs H Q E0 →
    codeAny (model P w) A (.call (.ref f) args) (CR CX0 outer P w H s Q E0) s
structure FnZ (P : Program) (w : World) (K : PySem.W.Frag) (mg : Str → Option Value) (base : Heap) (k : Nat) (x : Str) (ps : List Str) (sp : Addr → Sp) : Prop where
  ex : ∃ f fd, FnZ0 P w K mg base k f fd ps sp ∧ mg x = some (.ref f) ∧ PySem.W.keepIn K (.ref f) = true ∧ Binds K fd ps []
section
variable {P : Program} {w : World} {K : PySem.W.Frag} {mg : Str → Option Value} {base : Heap}
theorem Fun.okZ {x qual : Str} {st : Stmt} {f : Addr} {fd : FuncData} {N ps : List Str} {k : Nat} {sp : Addr → Sp} (F : Fun K x qual st f fd) (S : FnScope N ps (defScope st)) (len : ∀ xa vs H Q E, sp xa vs H Q E → vs.length = ps.length)
    (hbody : ∀ (xa : Addr) (cdv : Value) (A : Around) (outer : List Env) (s : Shared) (H : Hp) (vs : List V) (Q : VK), (A.deeper (envOfC qual (defScope st) s.heap.objs.size f cdv)).handled = some (.ref xa) → RoomW k (A.deeper (envOfC qual (defScope st) s.heap.objs.size f cdv)) → sp xa vs H Q E0 →
      ∃ t, PSs (cxW P w K mg base N qual (defScope st) f cdv A outer s H) (defBody st) t ∧ t { nx := fun _ H' => Q .non H', rt := Q } (start N vs) H) : FnZ0 P w K mg base (k + 1) f fd ps sp := by
  obtain ⟨oc, od, kV, doc, pm, an, cdv, ct, osl, rfl, lk, hcd⟩ := F.ex
  refine ⟨len, fun A outer s H args us vs Q xa hh hr e0 hb r hsp => ?_⟩
  have hl := len _ _ _ _ _ hsp
  have KX : K.In s.heap := e0.mod.kin.keeps fun b o e => (e0.bs b o e).1
  have lim : s.heap.NoLimit := e0.mod.nolimit.keeps fun b o e => (e0.bs b o e).1
  have hkind : ∀ y ∈ ps.zip us, (defScope st).names.lookup y.1 = some .local ∨ ((defScope st).names.lookup y.1 = some .cell ∧ ((cellsFrom (s.heap.objs.size + 1) (defScope st).names []).lookup y.1).isSome = true) := fun ⟨n, v⟩ hy => by
    rcases S.par n (List.of_mem_zip hy).1 with q | q
    · exact .inl q
    · exact .inr ⟨q, PySem.W.cellsFrom_some _ _ _ (.inl q)⟩
  refine codeAny_call_function (by have := hr.dp; omega) (KX _ _ lk) rfl S.co S.gen rfl (PySem.W.codeRec_of KX hcd) (hb _ _ _ _ ?_)
  refine wpAny_newFunctionEnv_cells S.kind hkind fun env he s1 x => ?_
  subst he
  refine ⟨lim.keeps x.toInCall.keep, codeAny_func ?_⟩
  obtain ⟨t, ht, hq⟩ := hbody xa cdv A outer s H vs Q hh (hr.deeper _) hsp
  have I0 : Inv (cxOf CX0 P w K mg base N qual (defScope st) f cdv (still A) outer s H E0) [] (start N vs) H s1 := inv_start S rfl e0.still hl r x
  refine wpAny_mono (ht [] s1 (start N vs) H _ I0.toW hq) (fun fl s' hs => ?_) fun e s' hs => False.elim hs
  have fin : ∀ {σ' : St} {H' : Hp} {v : V} {u : Value}, Inv (cxW P w K mg base N qual (defScope st) f cdv A outer s H) [] σ' H' s' → RelV v u → Q v H' → CE outer P w H s Q u s' :=
    fun {σ' H' v u} J rv q => ⟨v, H', J.os, J.bare, J.base, J.hok, rv, q⟩
  cases fl with
  | ret u =>
    obtain ⟨v, σ', H', J, rv, q⟩ := hs
    exact fin J rv q
  | next =>
    obtain ⟨σ', H', J, q⟩ := hs
    exact fin (v := V.non) (u := Value.none) J rfl q
  | brk =>
    obtain ⟨_, _, _, q⟩ := hs
    exact False.elim q
  | cont =>
    obtain ⟨_, _, _, q⟩ := hs
    exact False.elim q
end
section
variable {X : Cx} {k : Nat} {x : Str} {ps : List Str} {sp : Addr → Sp} {p pos : Pos} {e : Expr} {es : List Expr} {t : TA}
noncomputable def tFnZ (xa : Addr) (sp : Addr → Sp) (t : TA) : TE := fun σ H Q => t σ H fun vs H1 => sp xa vs H1 Q E0
theorem pe_fnZ {xa : Addr} (hh : X.A.handled = some (.ref xa)) (G : FnZ X.prog X.w X.K X.mg X.base k x ps sp) (hr : RoomW k X.A) (ha : PA X (e :: es) t) (hg : Gl X x := by rfl) (hdb : (x == ("__debug__" : Str)) = false := by decide)
    (he : starEach (e :: es) X.env = (false, eval e X.env) :: starEach es X.env := by rfl) (hpl : (backTo pos (starEach es X.env)).any (·.1) = false := by rfl) : PE X (.Call (.Name x p) (e :: es) [] pos) (tFnZ xa sp t) := by
  obtain ⟨f, fd, G, hm, hk, hb⟩ := G.ex
  intro pins s σ H Q I h
  refine wpAny_Call_Name_kw (ld_glob I hg hm ?_ hdb)
  refine PySem.W.callWith_K (h₀ := X.base) I.ok.mod.kin hk (thn (ha pos pins s σ H _ I h) fun us s1 ⟨vs, H1, I1, r, q⟩ => ⟨I1.kIn, ?_⟩) he hpl
  have hl : us.length = ps.length := by rw [← r.length]; exact G.len _ _ _ _ _ q
  refine wpAny_call (codeAny_mono (G.run X.A X.stack s1 H1 ⟨us, []⟩ us vs Q xa hh hr I1.env0 (by simpa using hb s1 us I1.kIn (by simpa using hl)) r q) fun r s' hq => ?_)
  cases r with
  | error e => exact False.elim hq
  | ok fl =>
    cases fl with
    | ret u => exact I1.after hq
    | next => exact False.elim hq
    | brk => exact False.elim hq
    | cont => exact False.elim hq
end
noncomputable def tH1Z (K : PySem.W.Frag) (C0 : Addr) (i : Nat) (ts : Addr → TS) (th : Ends → St → XK) : Ends → St → XK := fun D σ cls d H => match cls with
  | .ref C => ExC K C ∧ if (clsMro K C).contains (.ref C0) = true then ∀ a, H a = none → ts a (unb i D) (σ.set i (some (.ref a))) (upd H a (ExcO a C)) else th D σ (.ref C) d H
  | _ => False
theorem ph_cons1Z {X : Cx} {x n : Str} {C0 : Addr} {i : Nat} {np pos : Pos} {b₀ : Stmt} {suite : List Stmt} {rest : List ExceptHandler} {ts : Addr → TS} {th : Ends → St → XK} (hex : X.ex = []) (hC0 : ExC X.K C0) (hg : Gl X x) (hm : X.mg x = some (.ref C0)) (hN : X.N.Nodup) (hi : X.N[i]? = some n) (hk : X.env.kindOf n = some .local) (hb : ∀ a, PSs (cxH X a (fun _ _ => False)) (b₀ :: suite) (ts a)) (hr : PHs X rest th) (hdb : (x == ("__debug__" : Str)) = false := by decide) :
    PHs X (.ExceptHandler (some (.Name x np)) (some n) (b₀ :: suite) pos :: rest) (tH1Z X.K C0 i ts th) := by
  intro pins σ H1 s1 a C a0 B H s2 h D c hfl hup q
  have I := c.inv hfl hup
  have hd : X.calm = true → X.A.handled = none := c.inv1.ok.hd
  obtain ⟨hC, q⟩ := q
  obtain ⟨ob, hob, hobc⟩ := hfl.1.there
  refine wpAny_handleBy_cons (codeAny_handlers_test (ld_glob (X := cxH X a (notedBy (model X.prog X.w) (X.A.mark (some (.ref a))) X.env (cameBackBy (model X.prog X.w) X.A X.env X.xe))) (I.marked a _) hg hm ?_ hdb)) (by intro z; cases z)
  refine matches_own (s := { s2 with heap := h }) I.kIn hC hC0 hob hobc ?_
  cases e : (clsMro X.K C).contains (.ref C0) with
  | true =>
    rw [e] at q
    refine codeAny_handlers_suite_as (lands_againX hfl fun h3 hfl3 hup3 => ?_)
    obtain ⟨ha, I3⟩ := c.held hex hfl3 (hup.trans hup3)
    refine store_ok I3 hN hi (.inl hk) (show RelV (.ref a) (.ref a) from rfl) (fun s4 I4 => ?_) (.inr hk)
    refine wpAny_mono (hb a pins _ _ _ _ (I4.marked a _) (q a ha)) (fun f s' z => ?_) fun _ _ z => False.elim z
    have z := z.unmarked hd
    cases f with
    | next => obtain ⟨σ', H', J, w'⟩ := z; exact goes_ok J hN hi hk fun s5 J5 => ⟨_, H', J5, w'⟩
    | brk => obtain ⟨σ', H', J, w'⟩ := z; exact goes_ok J hN hi hk fun s5 J5 => ⟨_, H', J5, w'⟩
    | cont => obtain ⟨σ', H', J, w'⟩ := z; exact goes_ok J hN hi hk fun s5 J5 => ⟨_, H', J5, w'⟩
    | ret u => obtain ⟨v, σ', H', J, r, w'⟩ := z; exact goes_ok J hN hi hk fun s5 J5 => ⟨v, _, H', J5, r, w'⟩
  | false =>
    rw [e] at q
    exact hr pins σ H1 s1 a C a0 B H s2 h D c hfl hup q
end L2
set_option maxRecDepth 100000
set_option maxHeartbeats 1000000
namespace L2
open PySem PySem.Spec PyProof.Rows
noncomputable def ZipB (h : Heap) (z TI TO : Addr) : Prop := ∃ (t : Addr) (b : Bool) (o : Obj), h.get? z = some { cls := .type "zip", dict := none, data := .fields #[rawInt t, .bool b, .bool false, .ref TI, .ref TO], slots := #[] } ∧ h.get? t = some o ∧ t ≠ z
section
variable {prog : Program} {w : World} {A : Around} {E : Value → Shared → Prop} {s : Shared} {z TI TO i1 i2 l1 l2 : Addr} {k1 k2 : Nat} {xs ys : Array Value}
theorem busy_of {Q : Bool → Shared → Prop} (hz : ZipB s.heap z TI TO) (hQ : ∀ h', ZipB h' z TI TO → Heap.SameBut z s.heap h' → Q false { s with heap := h' }) : wpAny (model prog w) A (Builtin.SmallTypes.ownedTupleIsFree (.ref z)) Q E s := by
  obtain ⟨t, b, o, g, ht, ne⟩ := hz
  unfold Builtin.SmallTypes.ownedTupleIsFree
  refine wpAny_bind (wpAny_field g rfl (x := rawInt t) rfl ?_)
  show wpAny _ _ (loadIfAlive ((t : Int).toNat) >>= _) _ _ _
  rw [Int.toNat_natCast]
  refine wpAny_bind ?_
  have la : ∀ (Q' : Option Obj → Shared → Prop), Q' (s.heap.get? t) s → wpAny (model prog w) A (loadIfAlive t) Q' E s := fun Q' q Γ p hΓ => by
    show Sem.wp _ _ (Sem.loadIfAlive t Sem.pure) _ _ _ _
    rw [Sem.wp_loadIfAlive, Sem.wp_pure]
    exact q
  refine la _ ?_
  rw [ht]
  show wpAny _ _ (field (.ref z) 1 >>= _) _ _ _
  refine wpAny_bind (wpAny_field g rfl (x := .bool b) rfl ?_)
  cases b with
  | true => 
    refine wpAny_pure (hQ s.heap ⟨t, true, o, g, ht, ne⟩ ⟨rfl, fun _ _ => rfl⟩)
  | false =>
    show wpAny _ _ (setField (.ref z) 1 (.bool true) >>= _) _ _ _
    refine wpAny_bind (wpAny_setField_rec g (by simp) fun h' hz' hs' => wpAny_pure (hQ h' ⟨t, true, o, hz', (hs'.2 t ne).trans ht, ne⟩ hs'))
theorem zb_item {x y : Value} {Q : Option Value → Shared → Prop} (D : ZipApart z TI TO i1 i2 l1 l2) (hz : ZipB s.heap z TI TO) (hTI : IsPair s.heap TI (.ref i1) (.ref i2))
    (h1 : s.heap.IsListIter i1 l1 k1) (h2 : s.heap.IsListIter i2 l2 k2) (hl1 : s.heap.IsList l1 xs) (hl2 : s.heap.IsList l2 ys) (hx : xs[k1]? = some x) (hy : ys[k2]? = some y)
    (hQ : ∀ h', ZipB h' z TI TO → h'.IsListIter i1 l1 (k1 + 1) → h'.IsListIter i2 l2 (k2 + 1) → IsPair h' s.heap.objs.size x y → (∀ c o, c ≠ z → c ≠ i1 → c ≠ i2 → s.heap.get? c = some o → h'.get? c = some o) → Q (some (.ref s.heap.objs.size)) { s with heap := h' }) :
    wpAny (model prog w) A (pyNext (.ref z)) Q E s := by
  have hT : s.TypeIs (.ref z) "zip" := by
    obtain ⟨t, b, o, g, _⟩ := hz
    exact ⟨_, g, rfl⟩
  obtain ⟨t, b, o, g, ht, ne⟩ := id hz
  unfold pyNext
  refine wpAny_bind (wpAny_attempt (wpAny_callSpecial?_slot (name := Str.ofString "__next__") hT F.slot_zip_next (wpAny_call_entry F.slot_zip_next hT F.entry_zip_next ?_ (F.args_zip_next_1 _))))
  show wpAny _ _ (field (.ref z) 2 >>= _) _ _ _
  refine wpAny_bind (wpAny_field g rfl (x := .bool false) rfl ?_)
  show wpAny _ _ (field (.ref z) 3 >>= _) _ _ _
  refine wpAny_bind (wpAny_field g rfl (x := .ref TI) rfl (wpAny_bind (wpAny_seqItems hTI rfl ?_)))
  show wpAny _ _ (Builtin.SmallTypes.ownedTupleIsFree (.ref z) >>= _) _ _ _
  refine wpAny_bind (busy_of hz fun ha hza hsa => ?_)
  rw [if_neg Bool.false_ne_true]
  dsimp only
  refine wpAny_bind ?_
  rw [← Array.forIn_toList]
  show wpAny _ _ (forIn [Value.ref i1, Value.ref i2] _ _) _ _ _
  rw [List.forIn_cons]
  refine wpAny_bind (wpAny_bind (wpAny_holding ?_))
  show wpAny _ _ (Builtin.SmallTypes.nextOf (.ref i1) >>= _) _ _ _
  refine wpAny_bind (wpAny_nextOf_list_item (h1.extBut hsa.extBut D.i1z) (hl1.extBut hsa.extBut D.l1z) hx fun hb b1 hsb => wpAny_pure (wpAny_pure ?_))
  dsimp only
  rw [List.forIn_cons]
  refine wpAny_bind (wpAny_bind (wpAny_holding ?_))
  show wpAny _ _ (Builtin.SmallTypes.nextOf (.ref i2) >>= _) _ _ _
  refine wpAny_bind (wpAny_nextOf_list_item ((h2.extBut hsa.extBut D.i2z).extBut hsb.extBut D.i12.symm) ((hl2.extBut hsa.extBut D.l2z).extBut hsb.extBut D.l2i1) hy fun hc c1 hsc => wpAny_pure (wpAny_pure ?_))
  dsimp only
  rw [List.forIn_nil]
  refine wpAny_pure ?_
  dsimp only
  refine wpAny_bind (wpAny_newTuple ?_ (by show 2 ≤ sizeLine; rw [sizeLine_eq]; decide))
  have esz : hc.objs.size = s.heap.objs.size := by rw [hsc.1, hsb.1, hsa.1]
  refine wpAny_pure ⟨_, rfl, wpAny_pure ?_⟩
  have up : ∀ c o, c ≠ i1 → c ≠ i2 → ha.get? c = some o → hc.get? c = some o := fun c o n1 n2 e => (hsc.2 c n2).trans ((hsb.2 c n1).trans e)
  have hzc : ZipB hc z TI TO := by
    obtain ⟨t', b', o', g', ht', ne'⟩ := hza
    have : ∃ o2, hc.get? t' = some o2 := by
      by_cases n1 : t' = i1
      · subst n1
        obtain ⟨oo, e, _⟩ := b1
        exact ⟨oo, (hsc.2 _ D.i12).trans e⟩
      · by_cases n2 : t' = i2
        · subst n2
          obtain ⟨oo, e, _⟩ := c1
          exact ⟨oo, e⟩
        · exact ⟨o', up t' o' n1 n2 ht'⟩
    obtain ⟨o2, e2⟩ := this
    exact ⟨t', b', o2, up z _ D.i1z.symm D.i2z.symm g', e2, ne'⟩
  have r := hQ (hc.push { cls := .type "tuple", data := .seq #[x, y] }) ?_ ?_ ?_ ?_ ?_
  · rw [← esz] at r
    exact r
  · obtain ⟨t', b', o', g', ht', ne'⟩ := hzc
    exact ⟨t', b', o', Heap.get?_push_of_some _ g', Heap.get?_push_of_some _ ht', ne'⟩
  · exact (b1.at fun o e => (hsc.2 _ D.i12).trans e).at fun o e => Heap.get?_push_of_some _ e
  · exact c1.at fun o e => Heap.get?_push_of_some _ e
  · rw [← esz]
    exact Heap.get?_push_size _ rfl
  · exact fun c o n0 n1 n2 e => Heap.get?_push_of_some _ (up c o n1 n2 ((hsa.2 c n0).trans e))
theorem zb_end {Q : Option Value → Shared → Prop} (hh : A.handled = none) (D : ZipApart z TI TO i1 i2 l1 l2) (hz : ZipB s.heap z TI TO) (hTI : IsPair s.heap TI (.ref i1) (.ref i2))
    (h1 : s.heap.IsListIter i1 l1 k1) (hl1 : s.heap.IsList l1 xs) (hx : xs[k1]? = none)
    (hQ : ∀ h', (∀ c o, c ≠ z → c ≠ i1 → c ≠ i2 → s.heap.get? c = some o → h'.get? c = some o) → Q none { s with heap := h' }) :
    wpAny (model prog w) A (pyNext (.ref z)) Q E s := by
  have hT : s.TypeIs (.ref z) "zip" := by
    obtain ⟨t, b, o, g, _⟩ := hz
    exact ⟨_, g, rfl⟩
  obtain ⟨t, b, o, g, ht, ne⟩ := id hz
  unfold pyNext
  refine wpAny_bind (wpAny_attempt (wpAny_callSpecial?_slot (name := Str.ofString "__next__") hT F.slot_zip_next (wpAny_call_entry F.slot_zip_next hT F.entry_zip_next ?_ (F.args_zip_next_1 _))))
  show wpAny _ _ (field (.ref z) 2 >>= _) _ _ _
  refine wpAny_bind (wpAny_field g rfl (x := .bool false) rfl ?_)
  show wpAny _ _ (field (.ref z) 3 >>= _) _ _ _
  refine wpAny_bind (wpAny_field g rfl (x := .ref TI) rfl (wpAny_bind (wpAny_seqItems hTI rfl ?_)))
  show wpAny _ _ (Builtin.SmallTypes.ownedTupleIsFree (.ref z) >>= _) _ _ _
  refine wpAny_bind (busy_of hz fun ha hza hsa => ?_)
  rw [if_neg Bool.false_ne_true]
  dsimp only
  refine wpAny_bind ?_
  rw [← Array.forIn_toList]
  show wpAny _ _ (forIn [Value.ref i1, Value.ref i2] _ _) _ _ _
  rw [List.forIn_cons]
  refine wpAny_bind (wpAny_bind (wpAny_holding ?_))
  show wpAny _ _ (Builtin.SmallTypes.nextOf (.ref i1) >>= _) _ _ _
  refine wpAny_bind (wpAny_nextOf_list_end hh (h1.extBut hsa.extBut D.i1z) (hl1.extBut hsa.extBut D.l1z) hx fun hb e hsb he => ?_)
  obtain ⟨oe, hoe, hce⟩ := he
  refine wpAny_bind (wpAny_isInstance (T := "StopIteration") (b := true) ⟨oe, hoe, hce⟩ isSubtype_stop ?_)
  exact wpAny_pure (hQ _ fun c o n0 n1 n2 q => hsb _ _ n1 ((hsa.2 c n0).trans q))
noncomputable def ZipS (h : Heap) (z TI TO : Addr) : Prop := (IsZip h z TI TO .none ∧ ∃ a b, IsPair h TO a b) ∨ ZipB h z TI TO
theorem zs_item {x y : Value} {Q : Option Value → Shared → Prop} (D : ZipApart z TI TO i1 i2 l1 l2) (hz : ZipS s.heap z TI TO) (hTI : IsPair s.heap TI (.ref i1) (.ref i2))
    (h1 : s.heap.IsListIter i1 l1 k1) (h2 : s.heap.IsListIter i2 l2 k2) (hl1 : s.heap.IsList l1 xs) (hl2 : s.heap.IsList l2 ys) (hx : xs[k1]? = some x) (hy : ys[k2]? = some y)
    (hQ : ∀ h', ZipB h' z TI TO → h'.IsListIter i1 l1 (k1 + 1) → h'.IsListIter i2 l2 (k2 + 1) → IsPair h' s.heap.objs.size x y → (∀ c o, c ≠ z → c ≠ TO → c ≠ i1 → c ≠ i2 → s.heap.get? c = some o → h'.get? c = some o) → Q (some (.ref s.heap.objs.size)) { s with heap := h' }) :
    wpAny (model prog w) A (pyNext (.ref z)) Q E s := by
  rcases hz with ⟨g, a, b, gT⟩ | hz
  · have lz := Heap.lt_size g
    exact wpAny_pyNext_zip_item D g hTI gT h1 h2 hl1 hl2 hx hy fun h' a1 a2 a3 a4 a5 a6 a7 => hQ h' ⟨_, false, _, a1, a5, Nat.ne_of_gt lz⟩ a3 a4 a5 a7
  · exact zb_item D hz hTI h1 h2 hl1 hl2 hx hy fun h' a1 a2 a3 a4 a5 => hQ h' a1 a2 a3 a4 fun c o n0 _ n1 n2 e => a5 c o n0 n1 n2 e
theorem zs_end {Q : Option Value → Shared → Prop} (hh : A.handled = none) (D : ZipApart z TI TO i1 i2 l1 l2) (hz : ZipS s.heap z TI TO) (hTI : IsPair s.heap TI (.ref i1) (.ref i2))
    (h1 : s.heap.IsListIter i1 l1 k1) (h2 : s.heap.IsListIter i2 l2 k2) (hl1 : s.heap.IsList l1 xs) (hl2 : s.heap.IsList l2 ys) (hx : xs[k1]? = none)
    (hQ : ∀ h', (∀ c o, c ≠ z → c ≠ TO → c ≠ i1 → c ≠ i2 → s.heap.get? c = some o → h'.get? c = some o) → Q none { s with heap := h' }) :
    wpAny (model prog w) A (pyNext (.ref z)) Q E s := by
  rcases hz with ⟨g, a, b, gT⟩ | hz
  · exact wpAny_pyNext_zip_end hh D g hTI gT h1 h2 hl1 hl2 (.inl hx) hQ
  · exact zb_end hh D hz hTI h1 hl1 hx fun h' a => hQ h' fun c o n0 _ n1 n2 e => a c o n0 n1 n2 e
theorem loop_zip {R : Result → Shared → Prop} {Dd : Addr} {its ist : List Value} {ps : List (Key × Value)} (hh : A.handled = none) (D : ZipApart z TI TO i1 i2 l1 l2) (nz : Dd ≠ z) (nTI : Dd ≠ TI) (nTO : Dd ≠ TO) (n1 : Dd ≠ i1) (n2 : Dd ≠ i2) (nl1 : Dd ≠ l1) (nl2 : Dd ≠ l2)
    (e1 : its.length = ps.length) (e2 : ist.length = ps.length) (hz : ps.length ≤ sizeLine) (hk : ∀ (j : Nat) u (p : Key × Value), its[j]? = some u → ps[j]? = some p → keyIs p.1 u = true) (hv : ∀ (j : Nat) v (p : Key × Value), ist[j]? = some v → ps[j]? = some p → v = p.2) :
    ∀ (n i : Nat) (s : Shared) (vs : List (Key × Value)), ps.length - i = n → i ≤ ps.length → vs.length ≤ i → ZipS s.heap z TI TO → IsPair s.heap TI (.ref i1) (.ref i2) → s.heap.IsListIter i1 l1 i → s.heap.IsListIter i2 l2 i → s.heap.IsList l1 its.toArray → s.heap.IsList l2 ist.toArray → s.heap.DictOf (mixKind prog w) Dd vs →
      (∀ h' tk, (∀ c o, c ≠ Dd → c ≠ z → c ≠ TO → c ≠ i1 → c ≠ i2 → s.heap.get? c = some o → h'.get? c = some o) → h'.DictOf (mixKind prog w) Dd (fillU vs (ps.drop i)) → R (.ok (.ret .none)) { s with heap := h', toks := tk }) →
      codeAny (model prog w) A (.builtin "dict.update.loop" ⟨[.ref Dd, .ref z, rawInt (i : Int), .none], []⟩) R s := by
  intro n
  induction n with
  | zero =>
    intro i s vs hn hi hvs zs pTI q1 q2 g1 g2 dd fin
    refine codeAny_builtin entry_dict_update_loop ?_
    rw [Around.under_plainId plain_dict_update_loop _]
    show wpAny _ A.in1 (pyNext (.ref z) >>= _) _ _ s
    refine wpAny_bind (zs_end hh D zs pTI q1 q2 g1 g2 (by simp; omega) fun h' eb => wpAny_bind (wpAny_pure (wpAny_pure (fin h' s.toks (fun c o _ c1 c2 c3 c4 e => eb c o c1 c2 c3 c4 e) ?_))))
    rw [List.drop_of_length_le (by omega)]
    obtain ⟨ob, es, ep, e, r⟩ := dd
    exact ⟨ob, es, ep, eb _ _ nz nTO n1 n2 e, r⟩
  | succ n ih =>
    intro i s vs hn hi hvs zs pTI q1 q2 g1 g2 dd fin
    have lt : i < ps.length := by omega
    have hx : its[i]? = some (its[i]'(by omega)) := List.getElem?_eq_getElem _
    have hy : ist[i]? = some (ist[i]'(by omega)) := List.getElem?_eq_getElem _
    have ep : ps[i]? = some ps[i] := List.getElem?_eq_getElem _
    have ku := hk i _ _ hx ep
    have ev := hv i _ _ hy ep
    generalize its[i]'(by omega) = u at hx ku
    generalize ist[i]'(by omega) = v at hy ev
    subst ev
    generalize hp : ps[i] = p at ep ku hy
    refine codeAny_builtin entry_dict_update_loop ?_
    rw [Around.under_plainId plain_dict_update_loop _]
    show wpAny _ A.in1 (pyNext (.ref z) >>= _) _ _ s
    refine wpAny_bind (zs_item D zs pTI q1 q2 g1 g2 (x := u) (y := p.2) (by simpa using hx) (by simpa using hy) fun h' a1 a2 a3 a4 a5 => ?_)
    show wpAny _ A.in1 (holding [Value.ref s.heap.objs.size] _ >>= _) _ _ _
    refine wpAny_bind (wpAny_holding (wpAny_bind ?_))
    have hpi : ∀ (Q : List Value → Shared → Prop) (E : Value → Shared → Prop), Q [u, p.2] { s with heap := h' } → wpAny (model prog w) A.in1 (Builtin.Dict.pairItems (Value.ref s.heap.objs.size)) Q E { s with heap := h' } := fun Q E q => by
      have hT : ({ s with heap := h' } : Shared).TypeIs (.ref s.heap.objs.size) "tuple" := ⟨_, a4, rfl⟩
      unfold Builtin.Dict.pairItems
      refine wpAny_bind (wpAny_typeOf hT ?_)
      rw [if_pos (by decide)]
      exact wpAny_bind (wpAny_seqItems a4 rfl (wpAny_pure q))
    refine wpAny_tryCatch (hpi _ _ ?_)
    show wpAny _ _ (holding [u, p.2] (dictSet Dd u p.2)) _ _ _
    have dd' : h'.DictOf (mixKind prog w) Dd vs := by
      obtain ⟨ob, es, epp, e, r⟩ := dd
      exact ⟨ob, es, epp, a5 _ _ nz nTO n1 n2 e, r⟩
    refine wpAny_holding (wpAny_dictSet_pairs (s := { s with heap := h' }) (knd := mixKind prog w) ku dd' (fun h2 dd2 sb2 => ?_) (by omega))
    refine wpAny_pure ⟨plainId_quiet plain_dict_update_loop _, ?_⟩
    have er : rawInt ((i : Int) + 1) = rawInt ((i + 1 : Nat) : Int) := by rw [Int.natCast_add]; rfl
    rw [er]
    have keep : ∀ c o, c ≠ Dd → c ≠ z → c ≠ TO → c ≠ i1 → c ≠ i2 → s.heap.get? c = some o → h2.get? c = some o := fun c o c0 c1 c2 c3 c4 e => (sb2.2 c c0).trans (a5 c o c1 c2 c3 c4 e)
    refine ih (i + 1) { s with heap := h2, toks := s.toks + 1 } _ (by omega) (by omega) (by have := len_stored vs p.1 p.2; omega) (.inr ?_) ?_ (a2.at fun o e => (sb2.2 _ (Ne.symm n1)).trans e) (a3.at fun o e => (sb2.2 _ (Ne.symm n2)).trans e) (g1.at fun o e => keep _ o (Ne.symm nl1) D.l1z D.l1TO D.l1i1 D.l1i2 e) (g2.at fun o e => keep _ o (Ne.symm nl2) D.l2z D.l2TO D.l2i1 D.l2i2 e) dd2 fun h3 tk keep3 dd3 => ?_
    · obtain ⟨t, b, o, w1, w2, w3⟩ := a1
      by_cases c0 : t = Dd
      · subst c0
        obtain ⟨ob, es, epp, e, r⟩ := dd2
        exact ⟨t, b, ob, (sb2.2 _ (Ne.symm nz)).trans w1, e, w3⟩
      · exact ⟨t, b, o, (sb2.2 _ (Ne.symm nz)).trans w1, (sb2.2 _ c0).trans w2, w3⟩
    · exact keep _ _ (Ne.symm nTI) D.TIz D.TITO D.TIi1 D.TIi2 pTI
    · refine fin h3 tk (fun c o c0 c1 c2 c3 c4 e => keep3 c o c0 c1 c2 c3 c4 (keep c o c0 c1 c2 c3 c4 e)) ?_
      rw [List.drop_eq_getElem_cons lt, hp]
      exact dd3
end
theorem keys_miss_zip : typeLookup (.type "zip") "keys" = pure none := am_miss_of_fast (by decide +kernel)
theorem zip_getattr_no : typeLookup (.type "zip") "__getattr__" = pure none := by rw [typeLookup_type, builtinLookup_eq_fast]; kernel_rfl
theorem zip_getattribute_at : entryFor table "zip.__getattribute__" = some Builtin.«object.__getattribute__» := entryFor_alias (id' := "object.__getattribute__") (by kernel_rfl) (by decide +kernel) (by decide +kernel) (by kernel_rfl)
theorem zip_no_attr (z : Addr) (ws : Array Value) (name : Str) (u : Tok) (hmiss : typeLookup (.type "zip") name = pure none) (hname : (["__module__", "__name__", "__qualname__", "__doc__", "__annotations__"] : List Str).contains name = false) (hsz : name.length + 100 ≤ sizeLine) :
    Meets (Builtin.«object.__getattribute__» ⟨[.ref z, .str name u], []⟩) (fun A R s => s.heap.get? z = some { cls := .type "zip", dict := none, data := .fields ws, slots := #[] } ∧ raisesAttr (.ref z) name A R s) :=
  Meets.of_wp fun prog w A R s hs => by
    obtain ⟨hp, g, d, tk, os⟩ := s; obtain ⟨hx, hs⟩ := hs
    have hT : (⟨hp, g, d, tk, os⟩ : Shared).TypeIs (.ref z) "zip" := ⟨_, hx, rfl⟩
    unfold Builtin.«object.__getattribute__»
    repeat (any_goals (first | assumption | wp_step))
    simp only [hname, Bool.false_eq_true, if_false]; repeat (any_goals (first | assumption | wp_step))
    exact wpAny_raiseAttrError hs.1 hs.2 (attrMsg_fits (by decide +kernel) hsz)
theorem zip_keys_none {prog : Program} {w : World} {A : Around} {E : Value → Shared → Prop} {s : Shared} {z : Addr} {ws : Array Value} {Q : Option Value → Shared → Prop}
    (hx : s.heap.get? z = some { cls := .type "zip", dict := none, data := .fields ws, slots := #[] }) (hA : A.handled = none) (h : ∀ h' tk, (∀ b ob, s.heap.get? b = some ob → h'.get? b = some ob) → Q none { s with heap := h', toks := tk }) :
    wpAny (model prog w) A (getAttr? (.ref z) "keys") Q E s := by
  obtain ⟨hp, g, d, tk, os⟩ := s
  have hT : ∀ tk', (⟨hp, g, d, tk', os⟩ : Shared).TypeIs (.ref z) "zip" := fun _ => ⟨_, hx, rfl⟩
  have f1 := sub_AttributeError; have f3 := F.slot_zip_getattribute.lookup; have f4 := F.slot_zip_getattribute.bind (.ref z); have f5 := zip_getattr_no
  unfold getAttr? getAttrBy? getAttrBy
  repeat (any_goals (first | assumption | exact hT _ | ((with_reducible show wpAny _ _ (call (Value.builtin "zip.__getattribute__") _ _) _ _ _); refine call_meets F.slot_zip_getattribute (hT _) zip_getattribute_at (F.args_zip_getattribute_2 _ _) (zip_no_attr z ws _ _ keys_miss_zip (by decide +kernel) (by size_fits)) ⟨hx, hA, fun h' tk' e hx' => ?_⟩) | wp_step))
  obtain ⟨t', u', he⟩ := hx'.there; show wpAny _ _ (getattributeRaised _ _ _ _ _ _ _) _ _ _
  unfold getattributeRaised; repeat (any_goals (first | assumption | wp_step))
  exact h _ _ hx'.keeps
end L2
set_option maxRecDepth 100000
set_option maxHeartbeats 1000000
namespace L2
open PySem PySem.Spec PyProof.Rows
section
variable {prog : Program} {w : World} {A : Around} {E : Value → Shared → Prop} {s : Shared} {z TI TO i1 i2 l1 l2 : Addr} {its ist : List Value} {ps : List (Key × Value)} {Q : Value → Shared → Prop}
theorem call_dictZip (hh : A.handled = none) (D : ZipApart z TI TO i1 i2 l1 l2) (hz : IsZip s.heap z TI TO .none) (hTI : IsPair s.heap TI (.ref i1) (.ref i2)) (hTO : ∃ a b, IsPair s.heap TO a b) (h1 : s.heap.IsListIter i1 l1 0) (h2 : s.heap.IsListIter i2 l2 0) (hl1 : s.heap.IsList l1 its.toArray) (hl2 : s.heap.IsList l2 ist.toArray)
    (e1 : its.length = ps.length) (e2 : ist.length = ps.length) (hsz : ps.length ≤ sizeLine) (hk : ∀ (j : Nat) u (p : Key × Value), its[j]? = some u → ps[j]? = some p → keyIs p.1 u = true) (hv : ∀ (j : Nat) v (p : Key × Value), ist[j]? = some v → ps[j]? = some p → v = p.2)
    (fin : ∀ h' tk, (∀ c o, c ≠ z → c ≠ TO → c ≠ i1 → c ≠ i2 → s.heap.get? c = some o → h'.get? c = some o) → h'.DictOf (mixKind prog w) s.heap.objs.size (fillU [] ps) → Q (.ref s.heap.objs.size) { s with heap := h', toks := tk }) :
    wpAny (model prog w) A (call (.type "dict") [.ref z]) Q E s := by
  refine callType_codes (Q₁ := fun obj s₁ => obj = .ref s.heap.objs.size ∧ s₁ = { s with heap := s.heap.push { cls := .type "dict", data := .dict #[] } }) F.kt_called_dict (F.kt_typeCall_dict_1 _) F.entry_dict_init (kt_code_dict_new _ ⟨rfl, rfl⟩) ?_
  rintro obj s₁ ⟨rfl, rfl⟩
  have hnew : (s.heap.push { cls := .type "dict", data := .dict #[] }).DictOf (mixKind prog w) s.heap.objs.size [] := Heap.DictOf.new s.heap
  have kp0 : ∀ c o, s.heap.get? c = some o → (s.heap.push { cls := .type "dict", data := .dict #[] }).get? c = some o := fun c o e => Heap.get?_push_of_some _ e
  refine ⟨hnew.typeIs, F.args_dict_init_2 _ _, ?_⟩
  unfold Builtin.«dict.__init__»
  refine wpAny_bind ?_
  unfold Builtin.Dict.selfAndRest
  refine wpAny_bind (wpAny_notOrdered_dict hnew.typeIs ?_)
  show wpAny _ _ (pure (s.heap.objs.size, [Value.ref z])) _ _ _
  refine wpAny_pure ?_
  show wpAny _ _ (Builtin.Dict.updateFrom "dict.__init__" s.heap.objs.size (.ref z) [] .none) _ _ _
  unfold Builtin.Dict.updateFrom
  refine wpAny_bind (wpAny_typeOf (show ({ s with heap := s.heap.push { cls := .type "dict", data := .dict #[] } } : Shared).TypeIs (.ref z) "zip" from ⟨_, kp0 _ _ hz, rfl⟩) ?_)
  rw [if_pos (by decide)]
  refine wpAny_bind (zip_keys_none (s := { s with heap := s.heap.push { cls := .type "dict", data := .dict #[] } }) (kp0 _ _ hz) hh fun h1' tk1 keep1 => ?_)
  rw [show (none : Option Value).isNone = true from rfl, if_pos rfl]
  refine wpAny_bind (wpAny_rule ?_)
  have keep0 : ∀ c o, s.heap.get? c = some o → h1'.get? c = some o := fun c o e => keep1 c o (kp0 c o e)
  have dd1 : h1'.DictOf (mixKind prog w) s.heap.objs.size [] := by
    obtain ⟨ob, es, ep, e, r⟩ := hnew
    exact ⟨ob, es, ep, keep1 _ _ e, r⟩
  have ne : ∀ {b : Addr} {ob : Obj}, s.heap.get? b = some ob → s.heap.objs.size ≠ b := fun e => Nat.ne_of_gt (Heap.lt_size e)
  obtain ⟨a, b, hTO⟩ := hTO
  refine wpAny_bind (wpAny_pyIter_zip (s := { s with heap := h1', toks := tk1 }) (keep0 _ _ hz) ?_)
  refine wpAny_pure ⟨plainId_quiet plain_dict_update_loop _, ?_⟩
  have n1 : s.heap.objs.size ≠ i1 := by obtain ⟨o, e, _⟩ := h1; exact ne e
  have n2 : s.heap.objs.size ≠ i2 := by obtain ⟨o, e, _⟩ := h2; exact ne e
  have m1 : s.heap.objs.size ≠ l1 := by obtain ⟨o, e, _⟩ := hl1; exact ne e
  have m2 : s.heap.objs.size ≠ l2 := by obtain ⟨o, e, _⟩ := hl2; exact ne e
  refine loop_zip (A := A.in1) hh D (ne hz) (ne hTI) (ne hTO) n1 n2 m1 m2 e1 e2 hsz hk hv ps.length 0 { s with heap := h1', toks := tk1 } [] rfl (Nat.zero_le _) (Nat.le_refl _) (.inl ⟨keep0 _ _ hz, a, b, keep0 _ _ hTO⟩) (keep0 _ _ hTI) (h1.at fun o e => keep0 _ o e) (h2.at fun o e => keep0 _ o e) (hl1.at fun o e => keep0 _ o e) (hl2.at fun o e => keep0 _ o e) dd1 fun h3 tk keep3 dd3 => ?_
  exact ⟨rfl, fin h3 tk (fun c o c1 c2 c3 c4 e => keep3 c o (Ne.symm (ne e)) c1 c2 c3 c4 (keep0 c o e)) dd3⟩
end
section
variable {X : Cx}
noncomputable def zipK (ks : List (List Nat)) (xs : List V) : List (Key × V) := (ks.map fun q => (Sum.inr (T q) : Key)).zip xs
theorem kv_zip : ∀ (ks : List (List Nat)) (xs : List V) (us : List Value), ks.length = xs.length → Vals xs us → KV (zipK ks xs) ((ks.map fun q => (Sum.inr (T q) : Key)).zip us)
  | [], [], _, _, .nil => .nil
  | k :: ks, x :: xs, u :: us, h, .cons r rr => .cons ⟨rfl, r⟩ (kv_zip ks xs us (Nat.succ.inj h) rr)
noncomputable def qDictZ (K : PySem.W.Frag) (Q : VK) : List V → Hp → Prop := fun vs H1 => match vs with
  | [.ref a, .ref b] => ∃ (ks : List (List Nat)) (xs : List V), SqL K H1 a (ks.map fun q => V.str (T q)) ∧ SqL K H1 b xs ∧ ks.length = xs.length ∧ ∀ d, H1 d = none → Q (.ref d) (upd H1 d (.dK (fillV (zipK ks xs) [])))
  | _ => False
noncomputable def tDictZ (K : PySem.W.Frag) (ta : TA) : TE := fun σ H Q => ta σ H (qDictZ K Q)
theorem pe_dictZ {K : PySem.W.Frag} {x y : Expr} {ta : TA} {p0 p p' pos : Pos} (hK : X.K = K) (hc : X.calm = true) (hmd : X.mg "dict" = none) (hmz : X.mg "zip" = none) (ha : PA X [x, y] ta)
    (hg0 : Gl X "dict" := by rfl) (hgl : Gl X "zip" := by rfl) (hs : starEach [x, y] X.env = [(false, eval x X.env), (false, eval y X.env)] := by rfl) (hs2 : starEach [y] X.env = [(false, eval y X.env)] := by rfl)
    (hsd : starEach [.Call (.Name "zip" p) [x, y] [] p'] X.env = [(false, eval (.Call (.Name "zip" p) [x, y] [] p') X.env)] := by rfl) :
    PE X (.Call (.Name "dict" p0) [.Call (.Name "zip" p) [x, y] [] p'] [] pos) (tDictZ K ta) := by
  subst hK
  intro pins s σ H Q I h
  refine wpAny_Call_Name_kw (ld_blt I hg0 hmd bt_dict ?_)
  refine PyProof.Rows.callWith_type1 ?_ hsd rfl
  rw [hsd]
  show wpAny _ _ (spliced ((false, _) :: [])) _ _ s
  refine Calls.spliced_cons ?_
  refine Call_ (ld_blt I hgl hmz bt_zip (PyProof.Rows.callWith_type1 (thn (ha p' pins s σ H _ I h) fun us s1 ⟨vs, H1, I1, r1, q1⟩ => ?_) (by rw [hs, hs2]) (by rw [hs2]; rfl)))
  unfold qDictZ at q1
  split at q1
  · rename_i a b
    obtain ⟨ks, xs, hq1, hq2, el, q⟩ := q1
    obtain ⟨u1, u2, rfl, r, r'⟩ := vals2 r1
    cases r
    cases r'
    obtain ⟨its, rv1, p1, z1⟩ := I1.list hq1
    obtain ⟨ist, rv2, p2, z2⟩ := I1.list hq2
    refine call_zip_2 p1.isList p2.isList fun h' k1 k2 k3 k4 k5 k6 k7 => ?_
    refine Calls.spliced_nil ?_
    have la : a < s1.heap.objs.size := by obtain ⟨o, q, _⟩ := p1.isList; exact Heap.lt_size q
    have lb : b < s1.heap.objs.size := by obtain ⟨o, q, _⟩ := p2.isList; exact Heap.lt_size q
    have D := zip_apart la lb
    have l1 := rv1.length
    have l2 := rv2.length
    rw [List.length_map] at l1
    have lp : ((ks.map fun q => (Sum.inr (T q) : Key)).zip ist).length = ks.length := by
      rw [List.length_zip, List.length_map]
      omega
    have hz2 : h'.objs.size = s1.heap.objs.size + 5 := k6
    refine call_dictZip (s := { s1 with heap := h' }) (ps := (ks.map fun q => (Sum.inr (T q) : Key)).zip ist) (I1.ok.hd hc) D k1 k2 ⟨_, _, k3⟩ k4 k5 (p1.isList.at fun o e => k7 _ o e) (p2.isList.at fun o e => k7 _ o e) (by rw [lp]; omega) (by rw [lp]; omega) (by rw [lp]; omega) (fun j u p g1 g2 => ?_) (fun j v p g1 g2 => ?_) fun h3 tk keep dd => ?_
    · obtain ⟨g3, g4⟩ := List.getElem?_zip_eq_some.mp g2
      rw [List.getElem?_map] at g3
      obtain ⟨q', hq', e'⟩ := Option.map_eq_some_iff.mp g3
      have rk : RelV (V.str (T q')) u := by
        obtain ⟨u', hu, ru⟩ := rv1.get (i := j) (x := V.str (T q')) (by rw [List.getElem?_map, hq']; rfl)
        rw [g1] at hu
        cases hu
        exact ru
      rw [← e']
      exact kV_is (P := X.prog) (w := X.w) (k := Sum.inr (T q')) rk
    · obtain ⟨g3, g4⟩ := List.getElem?_zip_eq_some.mp g2
      rw [g1] at g4
      exact Option.some.inj g4
    · have lf := len_fill (zipK ks xs) []
      have lzk : (zipK ks xs).length = ks.length := by
        unfold zipK
        rw [List.length_zip, List.length_map]
        omega
      rw [List.length_nil] at lf
      have big := I1.big
      have hsz : sizeLine = 16777216 := sizeLine_eq
      have up : ∀ c o, s1.heap.get? c = some o → h3.get? c = some o := fun c o e => by
        have lc := Heap.lt_size e
        have nk : ∀ k : Nat, c ≠ (s1.heap.objs.size + k : Nat) := fun k => Nat.ne_of_lt (Nat.lt_of_lt_of_le lc (Nat.le_add_right _ _))
        exact keep c o (nk 4) (nk 3) (nk 0) (nk 1) (k7 c o e)
      have hsn : s1.heap.objs.size ≤ h'.objs.size := by omega
      refine ⟨.ref h'.objs.size, _, I1.laid (a := h'.objs.size) (o := .dK (fillV (zipK ks xs) [])) (t' := tk) up hsn ⟨by omega, beq_false_of_ne (Nat.ne_of_gt (Nat.lt_of_lt_of_le big hsn)), _, KV.fill (kv_zip ks xs ist el rv2) .nil, dd⟩, rfl, q _ (I1.hok.fresh hsn)⟩
  · exact q1.elim
theorem o_ninTopK {K : PySem.W.Frag} {P : Params} {A : Addr} {kvs : List (Str × V)} (hK : X.K = K) (hP : X.w.params = P) (D : TopD K P A kvs) : OpR X (compareOp .NotIn) (rTopIn true A kvs) := by
  subst hK hP
  exact o_ninTop D
theorem i_topK {K : PySem.W.Frag} {P : Params} {A : Addr} {kvs : List (Str × V)} (hK : X.K = K) (hP : X.w.params = P) (D : TopD K P A kvs) : IxR X (rTopIx A kvs) := by
  subst hK hP
  exact i_top D
end
theorem topF_mk {K : PySem.W.Frag} {P : Params} {mg : Str → Option Value} {a : Addr} {kvs : List (Str × V)} {kns : List (Str × Str)} (D : TopD K P a kvs) (h : ∀ p ∈ kns, ∃ f, mg p.2 = some (.ref f) ∧ topV kvs p.1 = some (.ref f)) : TopF K P mg a kns := by
  refine ⟨kvs, D, fun z nm e => ?_⟩
  obtain ⟨p, hp, rfl⟩ := Option.map_eq_some_iff.mp e
  obtain ⟨f, f1, f2⟩ := h p (List.mem_of_find?_eq_some hp)
  have hz : p.1 = z := by simpa using List.find?_some hp
  exact ⟨f, f1, hz ▸ f2⟩
end L2
set_option maxRecDepth 100000
set_option maxHeartbeats 1000000
namespace LD
open PySem L2 LP NumText
noncomputable def cd (s : String) : List Nat := L (Str.ofString s)
theorem T_cd (s : String) : T (cd s) = Str.ofString s := T_L _
noncomputable def fstr : Nat → String
  | 0 => "word name rest"
  | 1 => "word name"
  | 2 => "word name number"
  | 3 => "word name number rest"
  | _ => "word name other"
noncomputable def formT : List (String × Nat) := [("keep", 0), ("load", 0), ("ahead", 0), ("drop", 1), ("off", 2), ("text", 1), ("pack", 1), ("count", 0), ("find", 0), ("near", 3), ("often", 2), ("kinds", 1), ("lone", 1), ("cut", 0), ("both", 4)]
noncomputable def fparts : Nat → List (List Nat)
  | 0 => [cd "word", cd "name", cd "rest"]
  | 1 => [cd "word", cd "name"]
  | 2 => [cd "word", cd "name", cd "number"]
  | 3 => [cd "word", cd "name", cd "number", cd "rest"]
  | _ => [cd "word", cd "name", cd "other"]
noncomputable def frmIx (w : List Nat) : Option Nat := (formT.find? fun p => cd p.1 = w).map (·.2)
theorem top_map (w : List Nat) : ∀ l : List (String × Nat), topV (l.map fun p => (Str.ofString p.1, V.str (Str.ofString (fstr p.2)))) (T w) = ((l.find? fun p => cd p.1 = w).map (·.2)).map fun i => V.str (Str.ofString (fstr i))
  | [] => rfl
  | p :: r => by
    rw [List.map_cons, List.find?_cons]
    unfold topV
    by_cases h : cd p.1 = w
    · have e : Str.ofString p.1 = T w := by rw [← h, T_cd]
      rw [if_pos e, decide_eq_true h]
      rfl
    · have e : ¬ Str.ofString p.1 = T w := fun z => h (by show L (Str.ofString p.1) = w; rw [z, L_T])
      rw [if_neg e, decide_eq_false h]
      exact top_map w r
theorem frm_lt {w : List Nat} {i : Nat} (h : frmIx w = some i) : i < 5 := by
  obtain ⟨p, hp, rfl⟩ := Option.map_eq_some_iff.mp h
  have m := List.mem_of_find?_eq_some hp
  have all : ∀ p ∈ formT, p.2 < 5 := by decide
  exact all p m
theorem spl_fstr : ∀ i, i < 5 → spl 32 ((cd (fstr i)).length + 1) (cd (fstr i)) = fparts i := by decide +kernel
theorem fparts_len : ∀ i, i < 5 → (fparts i).length = if i = 1 then 2 else if i = 3 then 4 else 3 := by decide +kernel
noncomputable def lastP : Nat → List Nat
  | 0 => cd "rest"
  | 1 => cd "name"
  | 2 => cd "number"
  | 3 => cd "rest"
  | _ => cd "other"
theorem last_part {i : Nat} (hi : i < 5) : atI ((fparts i).map fun w => V.str (T w)) (-1) = some (V.str (T (lastP i))) := by
  match i, hi with
  | 0, _ => rfl
  | 1, _ => rfl
  | 2, _ => rfl
  | 3, _ => rfl
  | 4, _ => rfl
theorem lastP_rest : ∀ i, i < 5 → decide (lastP i = cd "rest") = decide (i = 0 ∨ i = 3) := by decide +kernel
noncomputable def fw (r : List Nat) : List Nat := r.takeWhile fun c => decide (c ≠ 32)
theorem fw_cons {p : List Nat} (r : List Nat) (h : 32 ∉ p) : fw (p ++ 32 :: r) = p := by
  unfold fw
  rw [List.takeWhile_append_of_pos (by intro c hc; simp; rintro rfl; exact h hc)]
  simp
theorem fw_none : ∀ {p : List Nat}, 32 ∉ p → fw p = p
  | [], _ => rfl
  | x :: p, h => by
    have hx : x ≠ 32 := fun e => h (by simp [e])
    have hp : 32 ∉ p := fun e => h (by simp [e])
    unfold fw
    rw [List.takeWhile_cons_of_pos (by simpa using hx)]
    exact congrArg (x :: ·) (fw_none hp)
theorem fw_at {r : List Nat} {k : Nat} (h : r[k]? = some 32) (hn : ∀ v, v < k → r[v]? ≠ some 32) : fw r = r.take k := by
  have e : r = r.take k ++ 32 :: r.drop (k + 1) := by
    have hk := (List.getElem?_eq_some_iff.mp h)
    obtain ⟨hk, e⟩ := hk
    rw [← e, ← List.drop_eq_getElem_cons hk, List.take_append_drop]
  rw [e]
  have nm : 32 ∉ r.take k := fun m => by
    obtain ⟨v, hv, ev⟩ := List.mem_iff_getElem.mp m
    rw [List.length_take] at hv
    rw [List.getElem_take] at ev
    exact hn v (by omega) (by rw [List.getElem?_eq_getElem (by omega), ev])
  rw [fw_cons _ nm]
  have hk := (List.getElem?_eq_some_iff.mp h).1
  rw [List.take_append_of_le_length (by rw [List.length_take]; omega), List.take_take, Nat.min_self]
theorem fw_no {r : List Nat} (hn : ∀ v : Nat, r[v]? ≠ some 32) : fw r = r := fw_none fun m => by
  obtain ⟨v, hv, ev⟩ := List.mem_iff_getElem.mp m
  exact hn v (by rw [List.getElem?_eq_getElem hv, ev])
theorem spl_mem (c : Nat) : ∀ (n : Nat) (l : List Nat), ∀ w ∈ spl c n l, w.length ≤ l.length
  | n, [], w, h => by
    have : w = [] := by simpa [spl] using h
    simp [this]
  | 0, x :: r, w, h => by
    have : w = x :: r := by simpa [spl] using h
    simp [this]
  | n + 1, x :: r, w, h => by
    unfold spl at h
    split at h
    · rcases List.mem_cons.mp h with rfl | h
      · simp
      · have := spl_mem c n r w h
        simp only [List.length_cons]
        omega
    · cases hs : spl c (n + 1) r with
      | nil => exact absurd hs (spl_ne c (n + 1) r)
      | cons v vs =>
        rw [hs] at h
        have ih := spl_mem c (n + 1) r
        rw [hs] at ih
        rcases List.mem_cons.mp h with rfl | h
        · have := ih v (List.mem_cons_self ..)
          simp only [List.length_cons, List.cons_append, List.nil_append]
          omega
        · have := ih w (List.mem_cons_of_mem _ h)
          simp only [List.length_cons]
          omega
noncomputable def rowWs (i : Nat) (r : List Nat) : List (List Nat) := if i = 0 ∨ i = 3 then spl 32 ((fparts i).length - 1) r else spl 32 (r.length + 1) r
theorem row_mem {i : Nat} {r w : List Nat} (h : w ∈ rowWs i r) : w.length ≤ r.length := by
  unfold rowWs at h
  split at h
  · exact spl_mem _ _ _ _ h
  · exact spl_mem _ _ _ _ h
theorem row_get (i : Nat) (r : List Nat) (k : Nat) : ((rowWs i r).getD k []).length ≤ r.length := by
  rw [List.getD_eq_getElem?_getD]
  cases h : (rowWs i r)[k]? with
  | none => simp
  | some w => exact row_mem (List.mem_of_getElem? h)
noncomputable def GoodRow (r : List Nat) (i : Nat) (ws : List (List Nat)) : Prop := frmIx (fw r) = some i ∧ ws = rowWs i r ∧ ws.length = (fparts i).length ∧ ((i = 2 ∨ i = 3) → GoodN (ws.getD 2 []))
theorem GoodRow.uniq {r : List Nat} {i j : Nat} {ws vs : List (List Nat)} (a : GoodRow r i ws) (b : GoodRow r j vs) : i = j ∧ ws = vs := by
  have e : i = j := Option.some.inj (a.1.symm.trans b.1)
  subst e
  exact ⟨rfl, a.2.1.trans b.2.1.symm⟩
abbrev ky (s : String) : Key := .inr (T (cd s))
noncomputable def toldK (i : Nat) (ws : List (List Nat)) : List (Key × V) := (ky "word", V.str (T (ws.getD 0 []))) :: (ky "name", V.str (T (ws.getD 1 []))) ::
  (if i = 0 then [(ky "rest", V.str (T (ws.getD 2 [])))] else if i = 1 then [] else if i = 2 then [(ky "number", V.int (digitsVal (ws.getD 2 []) : Nat))] else if i = 3 then [(ky "number", V.int (digitsVal (ws.getD 2 []) : Nat)), (ky "rest", V.str (T (ws.getD 3 [])))] else [(ky "other", V.str (T (ws.getD 2 [])))])
noncomputable def told0 (i : Nat) (ws : List (List Nat)) : List (Key × V) := (ky "word", V.str (T (ws.getD 0 []))) :: (ky "name", V.str (T (ws.getD 1 []))) ::
  (if i = 0 then [(ky "rest", V.str (T (ws.getD 2 [])))] else if i = 1 then [] else if i = 2 then [(ky "number", V.str (T (ws.getD 2 [])))] else if i = 3 then [(ky "number", V.str (T (ws.getD 2 []))), (ky "rest", V.str (T (ws.getD 3 [])))] else [(ky "other", V.str (T (ws.getD 2 [])))])
noncomputable def keyNs : List String := ["word", "name", "rest", "number", "other"]
theorem ky_ne : ∀ a ∈ keyNs, ∀ b ∈ keyNs, a ≠ b → cd a ≠ cd b := by decide +kernel
theorem ky_inj {a b : String} (h : cd a ≠ cd b) : (ky a = ky b) = False := by
  rw [eq_iff_iff, iff_false]
  intro z
  exact h (T_inj.mp (Sum.inr.inj z))
theorem fill_told {i : Nat} (hi : i < 5) {ws : List (List Nat)} (hl : ws.length = (fparts i).length) : fillV (zipK (fparts i) (ws.map fun w => V.str (T w))) [] = told0 i ws := by
  have q : ∀ a ∈ keyNs, ∀ b ∈ keyNs, a ≠ b → (ky a = ky b) = False := fun a ha b hb n => ky_inj (ky_ne a ha b hb n)
  have q1 := q "word" (by decide) "name" (by decide) (by decide)
  have q2 := q "word" (by decide) "rest" (by decide) (by decide)
  have q3 := q "word" (by decide) "number" (by decide) (by decide)
  have q4 := q "word" (by decide) "other" (by decide) (by decide)
  have q5 := q "name" (by decide) "rest" (by decide) (by decide)
  have q6 := q "name" (by decide) "number" (by decide) (by decide)
  have q7 := q "name" (by decide) "other" (by decide) (by decide)
  have q8 := q "number" (by decide) "rest" (by decide) (by decide)
  match i, hi, ws, hl with
  | 0, _, [a, b, c], _ => simp [fparts, zipK, fillV, putK, told0, q1, q2, q5]
  | 1, _, [a, b], _ => simp [fparts, zipK, fillV, putK, told0, q1]
  | 2, _, [a, b, c], _ => simp [fparts, zipK, fillV, putK, told0, q1, q3, q6]
  | 3, _, [a, b, c, d], _ => simp [fparts, zipK, fillV, putK, told0, q1, q2, q3, q5, q6, q8]
  | 4, _, [a, b, c], _ => simp [fparts, zipK, fillV, putK, told0, q1, q4, q7]
theorem val_number {i : Nat} (hi : i < 5) (ws : List (List Nat)) : valV (told0 i ws) (ky "number") = if i = 2 ∨ i = 3 then some (V.str (T (ws.getD 2 []))) else none := by
  have q : ∀ a ∈ keyNs, ∀ b ∈ keyNs, a ≠ b → (ky a = ky b) = False := fun a ha b hb n => ky_inj (ky_ne a ha b hb n)
  have q1 := q "word" (by decide) "number" (by decide) (by decide)
  have q2 := q "name" (by decide) "number" (by decide) (by decide)
  have q3 := q "rest" (by decide) "number" (by decide) (by decide)
  have q4 := q "other" (by decide) "number" (by decide) (by decide)
  match i, hi with
  | 0, _ => simp [told0, valV, q1, q2, q3]
  | 1, _ => simp [told0, valV, q1, q2, q3]
  | 2, _ => simp [told0, valV, q1, q2, q3]
  | 3, _ => simp [told0, valV, q1, q2, q3]
  | 4, _ => simp [told0, valV, q1, q2, q4]
theorem put_number {i : Nat} (hi : i < 5) (h2 : i = 2 ∨ i = 3) (ws : List (List Nat)) : putK (told0 i ws) (ky "number") (V.int (digitsVal (ws.getD 2 []) : Nat)) = toldK i ws := by
  have q : ∀ a ∈ keyNs, ∀ b ∈ keyNs, a ≠ b → (ky a = ky b) = False := fun a ha b hb n => ky_inj (ky_ne a ha b hb n)
  have q1 := q "word" (by decide) "number" (by decide) (by decide)
  have q2 := q "name" (by decide) "number" (by decide) (by decide)
  have q3 := q "rest" (by decide) "number" (by decide) (by decide)
  rcases h2 with rfl | rfl
  · simp [told0, toldK, putK, q1, q2, q3]
  · simp [told0, toldK, putK, q1, q2, q3]
theorem told_no {i : Nat} (h2 : ¬ (i = 2 ∨ i = 3)) (ws : List (List Nat)) : told0 i ws = toldK i ws := by
  unfold told0 toldK
  rw [if_neg (c := i = 2) fun z => h2 (.inl z), if_neg (c := i = 3) fun z => h2 (.inr z), if_neg (c := i = 2) fun z => h2 (.inl z), if_neg (c := i = 3) fun z => h2 (.inr z)]
theorem told_len (i : Nat) (ws : List (List Nat)) : (told0 i ws).length ≤ 4 := by
  unfold told0
  repeat' split
  all_goals simp
theorem val_word (i : Nat) (ws : List (List Nat)) : valV (toldK i ws) (ky "word") = some (V.str (T (ws.getD 0 []))) := valV_pos (p := (ky "word", _)) rfl
theorem val_name (i : Nat) (ws : List (List Nat)) : valV (toldK i ws) (ky "name") = some (V.str (T (ws.getD 1 []))) := by
  have q1 := ky_inj (ky_ne "word" (by decide) "name" (by decide) (by decide))
  exact (valV_neg (p := (ky "word", _)) (by rw [q1]; exact id)).trans (valV_pos (p := (ky "name", _)) rfl)
theorem val_rest (ws : List (List Nat)) : valV (toldK 0 ws) (ky "rest") = some (V.str (T (ws.getD 2 []))) := by
  have q1 := ky_inj (ky_ne "word" (by decide) "rest" (by decide) (by decide))
  have q2 := ky_inj (ky_ne "name" (by decide) "rest" (by decide) (by decide))
  simp [toldK, valV, q1, q2]
theorem val_other {i : Nat} (hi : i < 5) (ws : List (List Nat)) : valV (toldK i ws) (ky "other") = if i = 4 then some (V.str (T (ws.getD 2 []))) else none := by
  have q : ∀ a ∈ keyNs, ∀ b ∈ keyNs, a ≠ b → (ky a = ky b) = False := fun a ha b hb n => ky_inj (ky_ne a ha b hb n)
  have q1 := q "word" (by decide) "other" (by decide) (by decide)
  have q2 := q "name" (by decide) "other" (by decide) (by decide)
  have q3 := q "rest" (by decide) "other" (by decide) (by decide)
  have q4 := q "number" (by decide) "other" (by decide) (by decide)
  match i, hi with
  | 0, _ => simp [toldK, valV, q1, q2, q3]
  | 1, _ => simp [toldK, valV, q1, q2, q3]
  | 2, _ => simp [toldK, valV, q1, q2, q4]
  | 3, _ => simp [toldK, valV, q1, q2, q3, q4]
  | 4, _ => simp [toldK, valV, q1, q2, q3]
theorem _root_.L2.DGet.kys {H : Hp} {d : Addr} {kvs : List (Key × V)} (h : H d = some (.dK kvs)) (s : String) : DGet H d (V.str (Str.ofString s)) (valV kvs (ky s)) := by
  have e : V.str (Str.ofString s) = kV (ky s) := by
    show _ = V.str (T (cd s))
    rw [T_cd]
  rw [e]
  exact DGet.k h
abbrev KeptT := List (List Nat × List Nat)
noncomputable def txK (kept : KeptT) : List (Key × V) := kept.map fun p => ((.inr (T p.1) : Key), V.str (T p.2))
noncomputable def lookT (kept : KeptT) (n : List Nat) : Option (List Nat) := (kept.find? fun p => p.1 = n).map (·.2)
noncomputable def putT (kept : KeptT) (n x : List Nat) : KeptT := if (lookT kept n).isSome then kept.map (fun p => if p.1 = n then (p.1, x) else p) else kept ++ [(n, x)]
theorem val_txK (n : List Nat) : ∀ kept : KeptT, valV (txK kept) (.inr (T n)) = (lookT kept n).map fun x => V.str (T x)
  | [] => rfl
  | p :: r => by
    by_cases h : p.1 = n
    · have e1 : valV (txK (p :: r)) (.inr (T n)) = some (V.str (T p.2)) := valV_pos (p := ((.inr (T p.1) : Key), V.str (T p.2))) (r := txK r) (by rw [h])
      rw [e1]
      unfold lookT
      rw [List.find?_cons, decide_eq_true h]
      rfl
    · have e1 : valV (txK (p :: r)) (.inr (T n)) = valV (txK r) (.inr (T n)) := valV_neg (p := ((.inr (T p.1) : Key), V.str (T p.2))) (r := txK r) fun z => h (T_inj.mp (Sum.inr.inj z))
      rw [e1, val_txK n r]
      unfold lookT
      rw [List.find?_cons, decide_eq_false h]
theorem put_txK (kept : KeptT) (n x : List Nat) : putK (txK kept) (.inr (T n)) (V.str (T x)) = txK (putT kept n x) := by
  unfold putK putT
  rw [valV_any, val_txK, Option.isSome_map]
  cases (lookT kept n).isSome with
  | true =>
    rw [if_pos rfl, if_pos rfl]
    unfold txK
    rw [List.map_map, List.map_map]
    refine List.map_congr_left fun p _ => ?_
    show (if (Sum.inr (T p.1) : Key) = .inr (T n) then _ else _) = _
    by_cases h : p.1 = n
    · rw [if_pos (by rw [h])]
      show _ = ((Sum.inr (T (if p.1 = n then (p.1, x) else p).1) : Key), V.str (T (if p.1 = n then (p.1, x) else p).2))
      rw [if_pos h]
    · rw [if_neg fun z => h (T_inj.mp (Sum.inr.inj z))]
      show _ = ((Sum.inr (T (if p.1 = n then (p.1, x) else p).1) : Key), V.str (T (if p.1 = n then (p.1, x) else p).2))
      rw [if_neg h]
  | false =>
    rw [if_neg (by decide), if_neg (by decide)]
    unfold txK
    rw [List.map_append]
    rfl
theorem len_putT (kept : KeptT) (n x : List Nat) : (putT kept n x).length ≤ kept.length + 1 := by
  unfold putT
  split
  · rw [List.length_map]; omega
  · rw [List.length_append, List.length_singleton]; omega
theorem look_put (kept : KeptT) (n x m : List Nat) : lookT (putT kept n x) m = if m = n then some x else lookT kept m := by
  have h := congrArg (fun q => valV q (.inr (T m))) (put_txK kept n x)
  simp only [valV_put, val_txK] at h
  by_cases e : m = n
  · rw [if_pos e]
    rw [if_pos (by rw [e])] at h
    cases q : lookT (putT kept n x) m with
    | none => rw [q] at h; cases h
    | some y =>
      rw [q] at h
      have := Option.some.inj h
      injection this with this
      rw [T_inj.mp this]
  · rw [if_neg e]
    rw [if_neg fun z => e (T_inj.mp (Sum.inr.inj z))] at h
    cases q : lookT (putT kept n x) m with
    | none =>
      rw [q] at h
      cases q2 : lookT kept m with
      | none => rfl
      | some y => rw [q2] at h; cases h
    | some y =>
      rw [q] at h
      cases q2 : lookT kept m with
      | none => rw [q2] at h; cases h
      | some y2 =>
        rw [q2] at h
        have := Option.some.inj h
        injection this with this
        rw [T_inj.mp this]
noncomputable def IsName (n : List Nat) : Prop := 1 ≤ n.length ∧ n.length ≤ 8 ∧ ∀ c ∈ n, 97 ≤ c ∧ c ≤ 122
noncomputable def NameOk (kept : KeptT) (i : Nat) (ws : List (List Nat)) : Prop := ((ws.getD 0 [] = cd "keep" ∨ ws.getD 0 [] = cd "load") → IsName (ws.getD 1 [])) ∧ (¬ (ws.getD 0 [] = cd "keep" ∨ ws.getD 0 [] = cd "load") → (lookT kept (ws.getD 1 [])).isSome = true ∧ (i = 4 → (lookT kept (ws.getD 2 [])).isSome = true))
theorem same_upd2 {H H' : Hp} {t : Addr} {o : HO} (s : Same H H') : Same (upd H t o) (upd H' t o) := fun b u h => by
  by_cases e : b = t
  · subst e
    rw [upd_same] at h ⊢
    exact h
  · rw [upd_ne e] at h ⊢
    exact s b u h
theorem same_upd0 {H H' : Hp} {t : Addr} {o : HO} (h : H t = some o) (s : Same H H') : Same (upd H t o) H' := fun b u e => by
  by_cases z : b = t
  · subst z
    rw [upd_same] at e
    rw [← e]
    exact s b o h
  · rw [upd_ne z] at e
    exact s b u e
noncomputable def fsD (t : Addr) : List (Str × V) := [("texts", .ref t)]
noncomputable def IsDesk (C : Addr) (H : Hp) (o : Addr) (t : Addr) (kept : KeptT) : Prop := (∃ dx, H o = some (.ins C dx (fsD t))) ∧ H t = some (.dK (txK kept))
theorem IsDesk.same {C : Addr} {H H' : Hp} {o t : Addr} {kept : KeptT} (d : IsDesk C H o t kept) (s : SameN H H') : IsDesk C H' o t kept := by
  obtain ⟨⟨dx, h1⟩, h2⟩ := d
  exact ⟨⟨dx, s.at h1 (by intro ps z; cases z)⟩, s.at h2 (by intro ps z; cases z)⟩
end LD
set_option maxRecDepth 100000
set_option maxHeartbeats 1000000
namespace LD
open PySem L2 LP NumText
noncomputable def jn : List (List Nat) → List Nat
  | [] => []
  | [w] => w
  | w :: v :: r => w ++ 32 :: jn (v :: r)
noncomputable def NoB (ws : List (List Nat)) : Prop := ∀ w ∈ ws, 32 ∉ w
theorem fw_jn : ∀ {w : List Nat} {r : List (List Nat)}, 32 ∉ w → fw (jn (w :: r)) = w
  | w, [], h => fw_none h
  | w, v :: r, h => fw_cons _ h
theorem spl_jn_len : ∀ (n : Nat) (ws : List (List Nat)), ws ≠ [] → NoB ws → (spl 32 n (jn ws)).length = min (n + 1) ws.length
  | _, [], h, _ => absurd rfl h
  | 0, w :: r, _, _ => by
    rw [spl_zero]
    simp only [List.length_cons, List.length_nil]
    omega
  | n + 1, [w], _, h => by
    rw [show jn [w] = w from rfl, spl_none _ (h w (by simp))]
    simp only [List.length_singleton]
    omega
  | n + 1, w :: v :: r, _, h => by
    rw [show jn (w :: v :: r) = w ++ 32 :: jn (v :: r) from rfl, spl_cons n _ (h w (by simp)), List.length_cons, spl_jn_len n (v :: r) (by simp) fun u hu => h u (List.mem_cons_of_mem _ hu)]
    simp only [List.length_cons]
    omega
theorem spl_jn_get : ∀ (n : Nat) (ws : List (List Nat)), NoB ws → ∀ k, k < n → k < ws.length → (spl 32 n (jn ws)).getD k [] = ws.getD k []
  | _, [], _, k, _, h => absurd h (by simp)
  | 0, _, _, k, h, _ => absurd h (by omega)
  | n + 1, [w], h, k, _, hk => by
    rw [show jn [w] = w from rfl, spl_none _ (h w (by simp))]
  | n + 1, w :: v :: r, h, k, h1, h2 => by
    rw [show jn (w :: v :: r) = w ++ 32 :: jn (v :: r) from rfl, spl_cons n _ (h w (by simp))]
    cases k with
    | zero => rfl
    | succ k =>
      rw [List.getD_cons_succ, List.getD_cons_succ]
      exact spl_jn_get n (v :: r) (fun u hu => h u (List.mem_cons_of_mem _ hu)) k (by omega) (by simpa using h2)
theorem len_jn : ∀ (ws : List (List Nat)), ws ≠ [] → ws.length ≤ (jn ws).length + 1
  | [], h => absurd rfl h
  | [w], _ => by simp
  | w :: v :: r, _ => by
    have := len_jn (v :: r) (by simp)
    rw [show jn (w :: v :: r) = w ++ 32 :: jn (v :: r) from rfl]
    simp only [List.length_cons, List.length_append] at this ⊢
    omega
noncomputable def badW (i : Nat) (n : Nat) (num : Prop) : Prop := (i = 0 ∧ n < 3) ∨ (i = 1 ∧ n ≠ 2) ∨ (i = 2 ∧ (n ≠ 3 ∨ num)) ∨ (i = 3 ∧ (n < 4 ∨ num)) ∨ (4 ≤ i ∧ n ≠ 3)
theorem bad_row {ws : List (List Nat)} (hne : ws ≠ []) (hb : NoB ws) (h : ∀ i, frmIx (ws.getD 0 []) = some i → badW i ws.length (¬ GoodN (ws.getD 2 []))) : ¬ ∃ i vs, GoodRow (jn ws) i vs := by
  rintro ⟨i, vs, g1, g2, g3, g4⟩
  obtain ⟨w, r, rfl⟩ : ∃ w r, ws = w :: r := by
    cases ws with
    | nil => exact absurd rfl hne
    | cons w r => exact ⟨w, r, rfl⟩
  rw [fw_jn (hb w (by simp))] at g1
  have hi := frm_lt g1
  have hw := h i g1
  have hl := len_jn (w :: r) hne
  have e1 : (spl 32 ((jn (w :: r)).length + 1) (jn (w :: r))).length = (w :: r).length := by
    rw [spl_jn_len ((jn (w :: r)).length + 1) (w :: r) hne hb]
    omega
  have e2 := spl_jn_len ((fparts i).length - 1) (w :: r) hne hb
  have fl := fparts_len i hi
  subst g2
  rcases hw with ⟨rfl, hn⟩ | ⟨rfl, hn⟩ | ⟨rfl, hn⟩ | ⟨rfl, hn⟩ | ⟨h4, hn⟩
  · rw [show rowWs 0 (jn (w :: r)) = spl 32 ((fparts 0).length - 1) (jn (w :: r)) from rfl, e2, fl] at g3
    simp at g3
    simp at hn
    omega
  · rw [show rowWs 1 (jn (w :: r)) = spl 32 ((jn (w :: r)).length + 1) (jn (w :: r)) from rfl, e1, fl] at g3
    simp at g3
    simp at hn
    omega
  · rw [show rowWs 2 (jn (w :: r)) = spl 32 ((jn (w :: r)).length + 1) (jn (w :: r)) from rfl, e1, fl] at g3
    have g4 := g4 (.inl rfl)
    rw [show rowWs 2 (jn (w :: r)) = spl 32 ((jn (w :: r)).length + 1) (jn (w :: r)) from rfl] at g4
    rcases hn with hn | hn
    · simp at g3
      simp at hn
      omega
    · rw [spl_jn_get _ _ hb 2 (by simp at g3; simp only [List.length_cons] at hl; omega) (by simp at g3; simp only [List.length_cons]; omega)] at g4
      exact hn g4
  · rw [show rowWs 3 (jn (w :: r)) = spl 32 ((fparts 3).length - 1) (jn (w :: r)) from rfl, e2, fl] at g3
    have g4 := g4 (.inr rfl)
    rw [show rowWs 3 (jn (w :: r)) = spl 32 ((fparts 3).length - 1) (jn (w :: r)) from rfl] at g4
    rcases hn with hn | hn
    · simp at g3
      simp at hn
      omega
    · rw [spl_jn_get _ _ hb 2 (by rw [fl]; decide) (by simp at g3; simp only [List.length_cons]; omega)] at g4
      exact hn g4
  · obtain rfl : i = 4 := by omega
    rw [show rowWs 4 (jn (w :: r)) = spl 32 ((jn (w :: r)).length + 1) (jn (w :: r)) from rfl, e1, fl] at g3
    simp at g3
    simp at hn
    omega
theorem good_keep {n x : List Nat} (hn : 32 ∉ n) : GoodRow (jn [cd "keep", n] ++ 32 :: x) 0 [cd "keep", n, x] := by
  have hk : 32 ∉ cd "keep" := by decide +kernel
  have e : jn [cd "keep", n] ++ 32 :: x = cd "keep" ++ 32 :: (n ++ 32 :: x) := by simp [jn]
  rw [e]
  refine ⟨by rw [fw_cons _ hk]; decide +kernel, ?_, rfl, fun h => absurd h (by decide)⟩
  show _ = spl 32 2 _
  rw [spl_cons 1 _ hk, spl_cons 0 _ hn, spl_zero]
theorem good_text {n : List Nat} (hn : 32 ∉ n) : GoodRow (jn [cd "text", n]) 1 [cd "text", n] := by
  have hk : 32 ∉ cd "text" := by decide +kernel
  refine ⟨by rw [fw_jn hk]; decide +kernel, ?_, rfl, fun h => absurd h (by decide)⟩
  show _ = spl 32 ((jn [cd "text", n]).length + 1) (cd "text" ++ 32 :: n)
  rw [spl_cons _ _ hk, spl_none _ hn]
theorem atI_map_get {α β : Type} (f : α → β) (l : List α) {r : Int} (h0 : 0 ≤ r) (h1 : r < l.length) : ∃ x ∈ l, atI (l.map f) r = some (f x) := by
  have hk : r.toNat < l.length := by omega
  refine ⟨l[r.toNat], List.getElem_mem hk, ?_⟩
  have hm : r < ((l.map f).length : Int) := by rw [List.length_map]; exact h1
  rw [LW.atI_getD (f l[r.toNat]) h0 hm, List.getD_eq_getElem?_getD, List.getElem?_map, List.getElem?_eq_getElem hk]
  rfl
theorem numL_le (n : Nat) {k : Nat} (hk : 0 < k) : (numL (n : Int)).length ≤ k ↔ n < 10 ^ k := by
  rw [numL_digits, List.length_map]
  exact Nat.length_toDigits_le_iff (by decide) hk
theorem numL_pos (n : Nat) : 0 < (numL (n : Int)).length := by
  rw [numL_digits, List.length_map]
  exact Nat.length_toDigits_pos
theorem log_small {n : Nat} (h : n < 2 ^ 200) : n.log2 < 1920 := by
  by_cases h0 : n = 0
  · subst h0
    decide
  · exact (Nat.log2_lt h0).mpr (Nat.lt_of_lt_of_le h (Nat.pow_le_pow_right (by decide) (by decide)))
theorem sameN_updT {H H2 H' : Hp} {t : Addr} {X : HO} (s : SameN H H2) (ht : H t = none) (s' : SameN (upd H2 t X) H') : SameN H H' := by
  refine SameN.trans (fun b o h => ?_) s'
  rw [upd_ne (ne_of_none h ht)]
  exact s b o h
theorem IsDesk.put {C : Addr} {H H' : Hp} {o t : Addr} {kept kept' : KeptT} (d : IsDesk C H o t kept) (s : SameN (upd H t (.dK (txK kept'))) H') : IsDesk C H' o t kept' := by
  obtain ⟨⟨dx, h1⟩, h2⟩ := d
  have ne : o ≠ t := fun z => by
    rw [z, h2] at h1
    cases h1
  exact ⟨⟨dx, s.at ((upd_ne ne).trans h1) (by intro ps z; cases z)⟩, s.at upd_same (by intro ps z; cases z)⟩
theorem IsDesk.ne {C : Addr} {H : Hp} {o t b : Addr} {kept : KeptT} {u : HO} (d : IsDesk C H o t kept) (h : H b = some u) (hu : ∀ kvs, u ≠ .dK kvs) : b ≠ t := fun z => by
  rw [z, d.2] at h
  exact hu _ (Option.some.inj h).symm
noncomputable def NameF (n : List Nat) : Prop := ∃ p q b s, n = List.replicate p b ++ s :: List.replicate q b ∧ p + q < 8 ∧ 97 ≤ b ∧ b ≤ 122 ∧ 97 ≤ s ∧ s ≤ 122
theorem NameF.is {n : List Nat} (h : NameF n) : IsName n := by
  obtain ⟨p, q, b, s, rfl, h1, h2, h3, h4, h5⟩ := h
  refine ⟨by simp; omega, by simp; omega, fun c hc => ?_⟩
  simp only [List.mem_append, List.mem_cons, List.mem_replicate] at hc
  rcases hc with ⟨_, rfl⟩ | rfl | ⟨_, rfl⟩ <;> omega
theorem IsName.noB {n : List Nat} (h : IsName n) : 32 ∉ n := fun m => by
  have := h.2.2 32 m
  omega
theorem IsName.noN {n : List Nat} (h : IsName n) : ¬ GoodN n := fun g => by
  cases n with
  | nil => exact absurd h.1 (by simp)
  | cons x r =>
    have a := h.2.2 x (by simp)
    have b := g.2.2.1 x (by simp)
    omega
noncomputable def nameB (n : List Nat) : Bool := decide (n.length ≤ 1) || n.any fun b => decide ((n.filter fun c => decide (c ≠ b)).length ≤ 1)
theorem NameF.b {n : List Nat} (h : NameF n) : nameB n = true := by
  obtain ⟨p, q, b, s, rfl, h1, h2⟩ := h
  unfold nameB
  by_cases e : p + q = 0
  · have hp : p = 0 := by omega
    have hq : q = 0 := by omega
    subst hp hq
    rfl
  · rw [Bool.or_eq_true, List.any_eq_true]
    refine .inr ⟨b, ?_, ?_⟩
    · simp only [List.mem_append, List.mem_cons, List.mem_replicate]
      by_cases hp : p = 0
      · exact .inr (.inr ⟨by omega, trivial⟩)
      · exact .inl ⟨hp, trivial⟩
    · rw [decide_eq_true_eq, List.filter_append, List.filter_cons]
      have f : ∀ m, (List.replicate m b).filter (fun c => decide (c ≠ b)) = [] := fun m => by
        rw [List.filter_eq_nil_iff]
        intro c hc
        simp [List.eq_of_mem_replicate hc]
      rw [f, f]
      split <;> simp
theorem form_name : ∀ p ∈ formT, nameB (cd p.1) = true → p.2 = 2 := by decide +kernel
theorem NameF.frm {n : List Nat} (h : NameF n) {i : Nat} (hi : frmIx n = some i) : i = 2 := by
  obtain ⟨p, hp, rfl⟩ := Option.map_eq_some_iff.mp hi
  have e : cd p.1 = n := by simpa using List.find?_some hp
  exact form_name p (List.mem_of_find?_eq_some hp) (by rw [e]; exact h.b)
end LD
namespace L2
open PySem
theorem o_catT {X : Cx} {K : PySem.W.Frag} (hK : X.K = K) : OpR X (binaryOp .Add) (rCatT K) := by
  subst hK
  exact op_catT
theorem pe_mk0 {X : Cx} {k : Nat} {x : Str} {C : Addr} {ps : List Str} {dvs : List V} {sp : Sp} {p pos : Pos} (M : Mkr X.prog X.w X.K X.mg X.base CX0 k x C ps dvs sp) (hr : Room (k + 1) X.A) (hg : Gl X x := by rfl) (hdb : (x == ("__debug__" : Str)) = false := by decide) : PE X (.Call (.Name x p) [] [] pos) (tMake C sp dvs E0 tNil) := by
  obtain ⟨f, fd, ds, F, hm, hb, hd⟩ := M.ex
  exact pe_make0 hm F hr hg M.at_ hb hd pass0 hdb
end L2
-- GEN prune
-- GEN raising: number_in read_row check_names keep_text answer_keep answer_text Desk.say
-- GEN handz: _law_which
-- GEN tops: FORMS KEEPING ANSWERS
-- GEN ans: answer_keep answer_text
-- GEN dicts: texts told
-- GEN objs: _law_desk=Desk
-- GEN alike: _law_said
-- GEN comps: _law_which law
-- GEN cuts: read_row:0 read_row:2 read_row:3 read_row:4 read_row:6 read_row:7 _law_mixed:0 _law_mixed:1 _law_which:0 _law_which:1 _law_which:2 _law_which:3 _law_which:4 _law_which:5 _law_names_by:4 _law_names_by:5.0 _law_bare:0 _law_bare:1 _law_bare:2 _law_bare:3 _law_bare:4 _law_bare:5 _law_bare:6 _law_numbered:0 _law_numbered:1 _law_numbered:2 _law_numbered:3 _law_numbered:4 _law_row_by:2.0 law:0 law:1 law:2 law:3 law:4 law:5
set_option maxRecDepth 100000
set_option maxHeartbeats 4000000
namespace My
open PySem L2 LW LP LD NumText
noncomputable def top (i : Nat) : Stmt := PySem.Challenge.pw_backindex_k93_no_rows.main.body.getD i (.Pass ⟨0, 0, 0, 0⟩)
abbrev s_p_number_in : Stmt := top 16
abbrev P_p_number_in : List Str := ["word"]
theorem sc_p_number_in : FnScope ["word"] P_p_number_in (defScope s_p_number_in) := ⟨rfl, rfl, rfl, by decide +kernel, rfl, by decide +kernel, by decide +kernel⟩
abbrev s_p_read_row : Stmt := top 54
abbrev P_p_read_row : List Str := ["row"]
theorem sc_p_read_row : FnScope ["row", "word", "parts", "words", "told"] P_p_read_row (defScope s_p_read_row) := ⟨rfl, rfl, rfl, by decide +kernel, rfl, by decide +kernel, by decide +kernel⟩
abbrev s_p_is_name : Stmt := top 55
abbrev P_p_is_name : List Str := ["word"]
theorem sc_p_is_name : FnScope ["word"] P_p_is_name (defScope s_p_is_name) := ⟨rfl, rfl, rfl, by decide +kernel, rfl, by decide +kernel, by decide +kernel⟩
abbrev s_p_check_names : Stmt := top 56
abbrev P_p_check_names : List Str := ["texts", "told"]
theorem sc_p_check_names : FnScope ["texts", "told", "part"] P_p_check_names (defScope s_p_check_names) := ⟨rfl, rfl, rfl, by decide +kernel, rfl, by decide +kernel, by decide +kernel⟩
abbrev s_p_keep_text : Stmt := top 57
abbrev P_p_keep_text : List Str := ["texts", "name", "text"]
theorem sc_p_keep_text : FnScope ["texts", "name", "text"] P_p_keep_text (defScope s_p_keep_text) := ⟨rfl, rfl, rfl, by decide +kernel, rfl, by decide +kernel, by decide +kernel⟩
abbrev s_p_answer_keep : Stmt := top 59
abbrev P_p_answer_keep : List Str := ["texts", "told"]
theorem sc_p_answer_keep : FnScope ["texts", "told"] P_p_answer_keep (defScope s_p_answer_keep) := ⟨rfl, rfl, rfl, by decide +kernel, rfl, by decide +kernel, by decide +kernel⟩
abbrev s_p_answer_text : Stmt := top 64
abbrev P_p_answer_text : List Str := ["texts", "told"]
theorem sc_p_answer_text : FnScope ["texts", "told"] P_p_answer_text (defScope s_p_answer_text) := ⟨rfl, rfl, rfl, by decide +kernel, rfl, by decide +kernel, by decide +kernel⟩
abbrev s_w_cell_at : Stmt := top 77
abbrev P_w_cell_at : List Str := ["_law_script", "_law_k"]
theorem sc_w_cell_at : FnScope ["_law_script", "_law_k"] P_w_cell_at (defScope s_w_cell_at) := ⟨rfl, rfl, rfl, by decide +kernel, rfl, by decide +kernel, by decide +kernel⟩
abbrev s_w_mixed : Stmt := top 78
abbrev P_w_mixed : List Str := ["_law_cell", "_law_turn", "_law_many"]
theorem sc_w_mixed : FnScope ["_law_cell", "_law_turn", "_law_many", "_law_by", "_law_prime"] P_w_mixed (defScope s_w_mixed) := ⟨rfl, rfl, rfl, by decide +kernel, rfl, by decide +kernel, by decide +kernel⟩
abbrev s_w_signs : Stmt := top 79
abbrev P_w_signs : List Str := []
theorem sc_w_signs : FnScope ["_law_some"] P_w_signs (defScope s_w_signs) := ⟨rfl, rfl, rfl, by decide +kernel, rfl, by decide +kernel, by decide +kernel⟩
abbrev s_w_names_by : Stmt := top 80
abbrev P_w_names_by : List Str := ["_law_cell"]
theorem sc_w_names_by : FnScope ["_law_cell", "_law_some", "_law_size", "_law_spot", "_law_base", "_law_names", "_law_k", "_law_sign"] P_w_names_by (defScope s_w_names_by) := ⟨rfl, rfl, rfl, by decide +kernel, rfl, by decide +kernel, by decide +kernel⟩
abbrev s_w_which : Stmt := top 81
abbrev P_w_which : List Str := ["_law_e"]
theorem sc_w_which : FnScope ["_law_e", "_law_kinds", "_law_met"] P_w_which (defScope s_w_which) := ⟨rfl, rfl, rfl, by decide +kernel, rfl, by decide +kernel, by decide +kernel⟩
abbrev s_w_said : Stmt := top 82
abbrev P_w_said : List Str := ["_law_desk", "_law_row"]
theorem sc_w_said : FnScope ["_law_desk", "_law_row", "_law_e"] P_w_said (defScope s_w_said) := ⟨rfl, rfl, rfl, by decide +kernel, rfl, by decide +kernel, by decide +kernel⟩
abbrev s_w_is_said : Stmt := top 83
abbrev P_w_is_said : List Str := ["_law_told", "_law_text"]
theorem sc_w_is_said : FnScope ["_law_told", "_law_text"] P_w_is_said (defScope s_w_is_said) := ⟨rfl, rfl, rfl, by decide +kernel, rfl, by decide +kernel, by decide +kernel⟩
abbrev s_w_bare : Stmt := top 84
abbrev P_w_bare : List Str := ["_law_name", "_law_cell"]
theorem sc_w_bare : FnScope ["_law_name", "_law_cell", "_law_rows"] P_w_bare (defScope s_w_bare) := ⟨rfl, rfl, rfl, by decide +kernel, rfl, by decide +kernel, by decide +kernel⟩
abbrev s_w_numbered : Stmt := top 85
abbrev P_w_numbered : List Str := ["_law_name", "_law_cell"]
theorem sc_w_numbered : FnScope ["_law_name", "_law_cell", "_law_figures", "_law_odd", "_law_number", "_law_words"] P_w_numbered (defScope s_w_numbered) := ⟨rfl, rfl, rfl, by decide +kernel, rfl, by decide +kernel, by decide +kernel⟩
abbrev s_w_row_by : Stmt := top 86
abbrev P_w_row_by : List Str := ["_law_name", "_law_cell"]
theorem sc_w_row_by : FnScope ["_law_name", "_law_cell", "_law_kind", "_law_good"] P_w_row_by (defScope s_w_row_by) := ⟨rfl, rfl, rfl, by decide +kernel, rfl, by decide +kernel, by decide +kernel⟩
abbrev s_law : Stmt := top 87
abbrev P_law : List Str := ["_law_script"]
theorem sc_law : FnScope ["_law_script", "_law_names", "_law_text", "_law_desk", "_law_name", "_law_cell"] P_law (defScope s_law) := ⟨rfl, rfl, rfl, by decide +kernel, rfl, by decide +kernel, by decide +kernel⟩
abbrev s_m_Desk_init : Stmt := (clsBody (top 75)).getD 0 (.Pass ⟨0, 0, 0, 0⟩)
abbrev P_m_Desk_init : List Str := ["self"]
theorem sc_m_Desk_init : FnScope ["self"] P_m_Desk_init (defScope s_m_Desk_init) := ⟨rfl, rfl, rfl, by decide +kernel, rfl, by decide +kernel, by decide +kernel⟩
abbrev s_m_Desk_say : Stmt := (clsBody (top 75)).getD 1 (.Pass ⟨0, 0, 0, 0⟩)
abbrev P_m_Desk_say : List Str := ["self", "row"]
theorem sc_m_Desk_say : FnScope ["self", "row", "told"] P_m_Desk_say (defScope s_m_Desk_say) := ⟨rfl, rfl, rfl, by decide +kernel, rfl, by decide +kernel, by decide +kernel⟩
structure Cs where
  BackError : Addr
  NoOrder : Addr
  NoPlace : Addr
  NoGap : Addr
  NoText : Addr
  NoTimes : Addr
  Empty : Addr
  TooLong : Addr
  NoName : Addr
  NoRow : Addr
structure Er (K : PySem.W.Frag) (mg : Str → Option Value) (c : Cs) : Prop where
  m_BackError : mg "BackError" = some (.ref c.BackError)
  x_BackError : ExC K c.BackError
  m_NoOrder : mg "NoOrder" = some (.ref c.NoOrder)
  m_NoPlace : mg "NoPlace" = some (.ref c.NoPlace)
  m_NoGap : mg "NoGap" = some (.ref c.NoGap)
  m_NoText : mg "NoText" = some (.ref c.NoText)
  m_NoTimes : mg "NoTimes" = some (.ref c.NoTimes)
  m_Empty : mg "Empty" = some (.ref c.Empty)
  m_TooLong : mg "TooLong" = some (.ref c.TooLong)
  x_TooLong : ExC K c.TooLong
  m_NoName : mg "NoName" = some (.ref c.NoName)
  x_NoName : ExC K c.NoName
  m_NoRow : mg "NoRow" = some (.ref c.NoRow)
  x_NoRow : ExC K c.NoRow
  g_NoRow : ExcG K c.NoRow
  v_NoRow : PySem.W.kitOne K (.ref c.NoRow) (.type "ValueError") = some true
  r_NoRow_BackError : (clsMro K c.NoRow).contains (.ref c.BackError) = true
  t_NoRow_NoOrder : PySem.W.kitOne K (.ref c.NoRow) (.ref c.NoOrder) = some false
  t_NoRow_NoPlace : PySem.W.kitOne K (.ref c.NoRow) (.ref c.NoPlace) = some false
  t_NoRow_NoGap : PySem.W.kitOne K (.ref c.NoRow) (.ref c.NoGap) = some false
  t_NoRow_NoText : PySem.W.kitOne K (.ref c.NoRow) (.ref c.NoText) = some false
  t_NoRow_NoTimes : PySem.W.kitOne K (.ref c.NoRow) (.ref c.NoTimes) = some false
  t_NoRow_Empty : PySem.W.kitOne K (.ref c.NoRow) (.ref c.Empty) = some false
  t_NoRow_TooLong : PySem.W.kitOne K (.ref c.NoRow) (.ref c.TooLong) = some false
  t_NoRow_NoName : PySem.W.kitOne K (.ref c.NoRow) (.ref c.NoName) = some false
  t_NoRow_NoRow : PySem.W.kitOne K (.ref c.NoRow) (.ref c.NoRow) = some true
structure Cf (K : PySem.W.Frag) (C_Desk : Addr) : Prop where
  cl_Desk : Cls K C_Desk
  na_Desk_texts : NoAttr K C_Desk "texts"
noncomputable def kv_FORMS : List (Str × V) := [("keep", .str "word name rest"), ("load", .str "word name rest"), ("ahead", .str "word name rest"), ("drop", .str "word name"), ("off", .str "word name number"), ("text", .str "word name"), ("pack", .str "word name"), ("count", .str "word name rest"), ("find", .str "word name rest"), ("near", .str "word name number rest"), ("often", .str "word name number"), ("kinds", .str "word name"), ("lone", .str "word name"), ("cut", .str "word name rest"), ("both", .str "word name other")]
noncomputable def xs_KEEPING : List V := [.str "keep", .str "load"]
noncomputable def kn_ANSWERS : List (Str × Str) := [("keep", "answer_keep"), ("text", "answer_text")]
structure Tp (K : PySem.W.Frag) (P : Params) (mg : Str → Option Value) (A_FORMS A_KEEPING A_ANSWERS : Addr) : Prop where
  m_FORMS : mg "FORMS" = some (.ref A_FORMS)
  d_FORMS : TopD K P A_FORMS kv_FORMS
  m_KEEPING : mg "KEEPING" = some (.ref A_KEEPING)
  d_KEEPING : TopT K A_KEEPING xs_KEEPING
  m_ANSWERS : mg "ANSWERS" = some (.ref A_ANSWERS)
  d_ANSWERS : TopF K P mg A_ANSWERS kn_ANSWERS
structure Gc (mg : Str → Option Value) : Prop where
  MOST_SIGNS : ∃ t, mg "MOST_SIGNS" = some (.int 300 t)
  NO_LETTER : ∃ t, mg "NO_LETTER" = some (.str "\n" t)
structure Bn (mg : Str → Option Value) : Prop where
  ValueError : mg "ValueError" = none
  dict : mg "dict" = none
  int : mg "int" = none
  isinstance : mg "isinstance" = none
  len : mg "len" = none
  range : mg "range" = none
  str : mg "str" = none
  zip : mg "zip" = none
section
variable {P : Program} {w : World} {K : PySem.W.Frag} {mg : Str → Option Value} {base : Heap}
noncomputable def sp_p_number_in (K : PySem.W.Frag) (c : Cs) : Sp := fun vs H Q E => match vs with
  | [.str z] => (L z).length ≤ sizeLine ∧ (GoodN (L z) → Q (.int (digitsVal (L z) : Nat)) H) ∧ (¬ GoodN (L z) → E (.ref c.NoRow) none H)
  | _ => False
theorem ok_p_number_in {f : Addr} {fd : FuncData} (F : Fun K "number_in" "number_in" s_p_number_in f fd) (B : Bn mg) {c : Cs} (ER : Er K mg c) {A_FORMS A_KEEPING A_ANSWERS : Addr} (TP : Tp K w.params mg A_FORMS A_KEEPING A_ANSWERS) {C_Desk : Addr} (CF : Cf K C_Desk) (GC : Gc mg)  : FnOk P w K mg base (CX1 P w) 1 f fd P_p_number_in (sp_p_number_in K c) := by
  refine F.okX sc_p_number_in (fun vs H Q E h => ?_) (fun cdv A outer s H vs Q E hr h => ?_) <;> unfold sp_p_number_in at h <;> split at h <;> first | exact h.elim | skip
  · rfl
  · rename_i z
    obtain ⟨hl, q, e⟩ := h
    refine ⟨_, (pss_cons (ps_if (PW.pt (pw_or (pt_c2 o_lt (pe_callB (c_lenK (K := K) rfl) (by rfl) B.len bt_len (pa_cons (qv 0) pa_nil)) pe_int) (pw_or (pt_c2 o_gt (pe_callB (c_lenK (K := K) rfl) (by rfl) B.len bt_len (pa_cons (qv 0) pa_nil)) pe_int) (pw_or1 (pt_c2 o_ne (pe_bmK (K := K) rfl PySem.F.plainAttrs_str PySem.F.slot_str_strip PySem.F.type_str_strip m_strip (qv 0) (pa_cons pe_str pa_nil)) pe_str))))) (pss_one (ps_raise tk_def rfl ER.x_NoRow rfl ER.m_NoRow (pa_cons pe_str pa_nil))) pss_nil)
        (pss_cons (ps_if (PW.pt (pw_and (pt_c2 o_eq (pe_ix (i_ixK (K := K) rfl) (qv 0) pe_int (fun _ _ => rfl)) pe_str) (pw_and1 (pt_c2 o_ne (qv 0) pe_str)))) (pss_one (ps_raise tk_def rfl ER.x_NoRow rfl ER.m_NoRow (pa_cons pe_str pa_nil))) pss_nil)
        (pss_one (ps_ret (pe_callTy c_intW (by rfl) B.int bt_int (pa_cons (qv 0) pa_nil)))))), ?_⟩
    have hsz : sizeLine = 16777216 := sizeLine_eq
    have e1 : L (Str.ofString "0123456789") = [48, 49, 50, 51, 52, 53, 54, 55, 56, 57] := by decide +kernel
    have e2 : L (Str.ofString "") = [] := by decide +kernel
    have e3 : L (Str.ofString "0") = [48] := by decide +kernel
    have dg : (∀ c ∈ L z, c ∈ [48, 49, 50, 51, 52, 53, 54, 55, 56, 57]) ↔ ∀ c ∈ L z, 48 ≤ c ∧ c ≤ 57 := by
      refine forall_congr' fun c => forall_congr' fun _ => ?_
      simp only [List.mem_cons, List.not_mem_nil, or_false]
      omega
    simp only [L2.start, List.map_cons, List.map_nil, List.length_cons, List.length_nil, List.replicate_zero, Nat.reduceAdd, Nat.reduceSub, true_and, decide_eq_true_eq, if_true, if_false, Bool.false_eq_true, gS, rVar, tC, tSeq, tNext, tRet, tIfS, tOp, tCB, tCons, tNil, tB2, tAnd, tOr, int2', ltV, eqR, neR, sc, ixV, lenV, tBM, tyV, L_T, tRaise, intW, stpV, List.append_nil, gtV, e1, e2, e3]
    refine ⟨hl, ite2 (fun w => ⟨by decide, e fun g => by have := g.1; omega⟩) fun w1 => ⟨hl, ite2 (fun w => ⟨by decide, e fun g => by have := g.2.1; omega⟩) fun w2 => ⟨hl, fun l hll => ?_⟩⟩⟩
    have h0 : L z ≠ [] := fun w => by
      rw [w] at w1
      exact w1 (by decide)
    by_cases l0 : l = []
    · have d := dg.mp (hll.mp l0)
      rw [decide_eq_true l0]
      refine iteF ⟨hl, _, atI_getD 0 (by omega) (by omega), ite2 (fun w => ?_) fun w => ⟨by omega, h0, d, q ⟨by omega, by omega, d, fun v => absurd (by rw [show ((0 : Int)).toNat = 0 from rfl, v]) w⟩⟩⟩
      have e0 : (L z).getD 0 0 = 48 := List.head_eq_of_cons_eq w
      by_cases e4 : L z = [48]
      · rw [decide_eq_true e4]
        exact iteF ⟨by omega, h0, d, q ⟨by omega, by omega, d, fun _ => e4⟩⟩
      · rw [decide_eq_false e4]
        exact iteT ⟨by decide, e fun g => e4 (g.2.2.2 e0)⟩
    · rw [decide_eq_false l0]
      exact iteT ⟨by decide, e fun g => l0 (hll.mpr (dg.mpr g.2.2.1))⟩
theorem kv_forms : kv_FORMS = formT.map fun p => (Str.ofString p.1, V.str (Str.ofString (fstr p.2))) := rfl
theorem top_forms (w : List Nat) : topV kv_FORMS (T w) = (frmIx w).map fun i => V.str (Str.ofString (fstr i)) := by
  rw [kv_forms]
  exact top_map w formT
noncomputable def sp_p_read_row (K : PySem.W.Frag) (c : Cs) : Sp := fun vs H Q E => match vs with
  | [.str z] => (L z).length ≤ 5000 ∧ (∀ i ws, GoodRow (L z) i ws → ∀ H' d, Same H H' → H d = none → H' d = some (.dK (toldK i ws)) → Q (.ref d) H') ∧ ((¬ ∃ i ws, GoodRow (L z) i ws) → ∀ H', Same H H' → E (.ref c.NoRow) none H')
  | _ => False
theorem ok_p_read_row {f : Addr} {fd : FuncData} (F : Fun K "read_row" "read_row" s_p_read_row f fd) (B : Bn mg) {c : Cs} (ER : Er K mg c) {A_FORMS A_KEEPING A_ANSWERS : Addr} (TP : Tp K w.params mg A_FORMS A_KEEPING A_ANSWERS) {C_Desk : Addr} (CF : Cf K C_Desk) (GC : Gc mg) (G_p_number_in : FnX P w K mg base 1 "number_in" P_p_number_in (sp_p_number_in K c)) : FnOk P w K mg base (CX1 P w) 2 f fd P_p_read_row (sp_p_read_row K c) := by
  refine F.okX sc_p_read_row (fun vs H Q E h => ?_) (fun cdv A outer s H vs Q E hr h => ?_) <;> unfold sp_p_read_row at h <;> split at h <;> first | exact h.elim | skip
  · rfl
  · rename_i z
    obtain ⟨hl, q, e⟩ := h
    refine ⟨_, (pss_cons (ps_cut (ps_set (i := 1) sc_p_read_row.nd rfl (by first | exact Or.inl rfl | exact Or.inr rfl) (pe_ix (i_ixK (K := K) rfl) (pe_bmK (K := K) rfl PySem.F.plainAttrs_str PySem.F.slot_str_partition PySem.F.type_str_partition m_partition (qv 0) (pa_cons pe_str pa_nil)) pe_int (fun _ _ => rfl))))
        (pss_cons (ps_if (pt_c2 (o_ninTopK (K := K) rfl rfl TP.d_FORMS) (qv 1) (pe_glob (v := .ref A_FORMS) rfl TP.m_FORMS rfl)) (pss_one (ps_raise tk_def rfl ER.x_NoRow rfl ER.m_NoRow (pa_cons pe_str pa_nil))) pss_nil)
        (pss_cons (ps_cut (ps_set (i := 2) sc_p_read_row.nd rfl (by first | exact Or.inl rfl | exact Or.inr rfl) (pe_bmK (K := K) rfl PySem.F.plainAttrs_str PySem.F.slot_str_split PySem.F.type_str_split m_split (pe_ix (i_topK (K := K) rfl rfl TP.d_FORMS) (pe_glob (v := .ref A_FORMS) rfl TP.m_FORMS rfl) (qv 1) (fun _ _ => rfl)) (pa_cons pe_str pa_nil))))
        (pss_cons (ps_cut (ps_set (i := 3) sc_p_read_row.nd rfl (by first | exact Or.inl rfl | exact Or.inr rfl) (pe_bmK (K := K) rfl PySem.F.plainAttrs_str PySem.F.slot_str_split PySem.F.type_str_split m_split (qv 0) (pa_cons pe_str pa_nil))))
        (pss_cons (ps_cut (ps_if (pt_c2 o_eq (pe_ix (i_ixK (K := K) rfl) (qv 2) (pe_un u_neg pe_int) (fun _ _ => rfl)) pe_str) (pss_one (ps_set (i := 3) sc_p_read_row.nd rfl (by first | exact Or.inl rfl | exact Or.inr rfl) (pe_bmK (K := K) rfl PySem.F.plainAttrs_str PySem.F.slot_str_split PySem.F.type_str_split m_split (qv 0) (pa_cons pe_str (pa_cons (pe_op o_sub (pe_callB (c_lenK (K := K) rfl) (by rfl) B.len bt_len (pa_cons (qv 2) pa_nil)) pe_int) pa_nil))))) pss_nil))
        (pss_cons (ps_if (pt_c2 o_ne (pe_callB (c_lenK (K := K) rfl) (by rfl) B.len bt_len (pa_cons (qv 3) pa_nil)) (pe_callB (c_lenK (K := K) rfl) (by rfl) B.len bt_len (pa_cons (qv 2) pa_nil))) (pss_one (ps_raise tk_def rfl ER.x_NoRow rfl ER.m_NoRow (pa_cons pe_str pa_nil))) pss_nil)
        (pss_cons (ps_cut (ps_set (i := 4) sc_p_read_row.nd rfl (by first | exact Or.inl rfl | exact Or.inr rfl) (pe_dictZ (K := K) rfl rfl B.dict B.zip (pa_cons (qv 2) (pa_cons (qv 3) pa_nil)))))
        (pss_cons (ps_cut (ps_if (pt_cmp (pc_din (hu_of hr) pe_str (qv 4))) (pss_one (ps_dput (hu_of hr) (qv 4) pe_str (pe_fnX tk_def.toTk G_p_number_in (hr.mono (by decide)) (pa_cons (pe_dget (hu_of hr) (qv 4) pe_str (fun _ _ => rfl)) pa_nil)) rfl)) pss_nil))
        (pss_one (ps_ret (qv 4))))))))))), ?_⟩
    have hsz : sizeLine = 16777216 := sizeLine_eq
    have e1 : L (Str.ofString " ") = [32] := by decide +kernel
    refine cutS (fun σ' H' => Same H H' ∧ σ' = [some (V.str z), some (V.str (T (fw (L z)))), none, none, none]) ?_ ?_
    · simp only [L2.start, List.map_cons, List.map_nil, List.length_cons, List.length_nil, List.replicate_succ, List.replicate_zero, List.cons_append, List.nil_append, Nat.reduceAdd, Nat.reduceSub, true_and, List.set_cons_zero, List.set_cons_succ, gS, rVar, tC, tAsg, gName, tOp, tCons, tNil, ixV, tBM, tyV, prtV, e1]
      refine ⟨32, rfl, by omega, fun k h1 h2 p hp => ⟨_, _, .inr (SqT.of upd_same), rfl, Same.updN hp, by rw [fw_at h1 h2]⟩, fun h1 p hp => ⟨_, _, .inr (SqT.of upd_same), rfl, Same.updN hp, by rw [fw_no h1, T_L]⟩⟩
    rintro _ H1 ⟨s1, rfl⟩
    simp only [List.length_cons, List.length_nil, Nat.reduceAdd, true_and, gS, rVar, tC, tSeq, tNext, tIfS, tCons, tNil, tB2, tRaise, rTopIn]
    have hfm := top_forms (fw (L z))
    cases hf : frmIx (fw (L z)) with
    | none =>
      rw [hf] at hfm
      rw [hfm]
      exact iteT ⟨by decide, e (fun ⟨i, ws, g⟩ => by have := g.1; rw [hf] at this; cases this) H1 s1⟩
    | some i =>
      have hi := frm_lt hf
      replace hfm : topV kv_FORMS (T (fw (L z))) = some (V.str (Str.ofString (fstr i))) := by rw [hfm, hf]; rfl
      rw [hfm]
      refine iteF ?_
      have hL : ∀ s : String, L (Str.ofString s) = cd s := fun _ => rfl
      refine cutS (fun σ' H' => Same H H' ∧ ∃ p, H' p = some (.lst ((fparts i).map fun w => V.str (T w))) ∧ σ' = [some (V.str z), some (V.str (T (fw (L z)))), some (V.ref p), none, none]) ?_ ?_
      · simp only [true_and, String.reduceEq, List.set_cons_zero, List.set_cons_succ, gS, rVar, tC, tAsg, gName, tOp, tCons, tNil, tBM, tyV, splV, rTopIx, hfm]
        have l1 : ∀ i, i < 5 → (L (Str.ofString (fstr i))).length + 2 ≤ sizeLine := by rw [hsz]; decide +kernel
        refine ⟨_, rfl, ?_⟩
        simp only [true_and, e1]
        refine ⟨32, rfl, by decide, l1 i hi, fun p hp => ⟨s1.upd hp, p, ?_, rfl⟩⟩
        rw [hL, spl_fstr i hi]
        exact upd_same
      rintro _ H2 ⟨s2, p, hp, rfl⟩
      refine cutS (fun σ' H' => Same H H' ∧ ∃ q, H' p = some (.lst ((fparts i).map fun w => V.str (T w))) ∧ H' q = some (.lst ((spl 32 ((L z).length + 1) (L z)).map fun w => V.str (T w))) ∧ σ' = [some (V.str z), some (V.str (T (fw (L z)))), some (V.ref p), some (V.ref q), none]) ?_ ?_
      · simp only [true_and, List.set_cons_zero, List.set_cons_succ, gS, rVar, tC, tAsg, gName, tCons, tNil, tBM, tyV, splV, e1]
        exact ⟨32, rfl, by decide, by omega, fun q hq => ⟨s2.upd hq, q, (upd_ne (ne_of_none hp hq)).trans hp, upd_same, rfl⟩⟩
      rintro _ H3 ⟨s3, q0, hp3, hq3, rfl⟩
      refine cutS (fun σ' H' => Same H H' ∧ ∃ q, H' p = some (.lst ((fparts i).map fun w => V.str (T w))) ∧ H' q = some (.lst ((rowWs i (L z)).map fun w => V.str (T w))) ∧ σ' = [some (V.str z), some (V.str (T (fw (L z)))), some (V.ref p), some (V.ref q), none]) ?_ ?_
      · simp only [true_and, List.set_cons_zero, List.set_cons_succ, gS, rVar, tC, tNext, tAsg, gName, tIfS, tOp, tUn, tCB, tCons, tNil, tB2, int2', eqR, sc, negV, ixV, lenV, tBM, tyV, splV, e1]
        refine ⟨_, _, .inl (SqL.of hp3), last_part hi, ?_⟩
        simp only [decide_eq_true_eq, L_T, hL]
        have hlr : lastP i = cd "rest" ↔ (i = 0 ∨ i = 3) := decide_eq_decide.mp (lastP_rest i hi)
        refine ite2 (fun h03 => ?_) fun h03 => ?_
        · rw [hlr] at h03
          have fl : 1 ≤ (fparts i).length ∧ (fparts i).length ≤ 4 := by
            rw [fparts_len i hi]
            split
            · omega
            · split <;> omega
          have hn : ((((fparts i).map fun w => V.str (T w)).length : Int) - 1).toNat = (fparts i).length - 1 := by rw [List.length_map]; omega
          refine ⟨_, .inl (SqL.of hp3), 32, rfl, by decide, by omega, by rw [List.length_map]; omega, by rw [List.length_map]; omega, fun q hq => ⟨s3.upd hq, q, (upd_ne (ne_of_none hp3 hq)).trans hp3, ?_, rfl⟩⟩
          rw [upd_same, hn]
          unfold rowWs
          rw [if_pos h03]
        · rw [hlr] at h03
          refine ⟨s3, q0, hp3, ?_, rfl⟩
          unfold rowWs
          rw [if_neg h03]
          exact hq3
      rintro _ H4 ⟨s4, q1, hp4, hq4, rfl⟩
      simp only [List.length_cons, List.length_nil, Nat.reduceAdd, gS, rVar, tC, tSeq, tNext, tIfS, tCB, tCons, tNil, tB2, neR, sc, lenV, tRaise]
      refine ⟨_, .inl (SqL.of hq4), _, .inl (SqL.of hp4), ite2 (fun hne => ⟨by decide, e (fun ⟨j, ws, g⟩ => ?_) H4 s4⟩) fun heq => ?_⟩
      · have ej : j = i := Option.some.inj (g.1.symm.trans hf)
        subst ej
        simp only [Bool.not_eq_true', decide_eq_false_iff_not, List.length_map] at hne
        exact hne (by have := g.2.2.1; rw [g.2.1] at this; omega)
      have hwl : (rowWs i (L z)).length = (fparts i).length := by
        simp only [Bool.not_eq_true', decide_eq_false_iff_not, List.length_map, Decidable.not_not] at heq
        omega
      refine cutS (fun σ' H' => Same H H' ∧ ∃ d, H d = none ∧ H' d = some (.dK (told0 i (rowWs i (L z)))) ∧ σ' = [some (V.str z), some (V.str (T (fw (L z)))), some (V.ref p), some (V.ref q1), some (V.ref d)]) ?_ ?_
      · simp only [List.set_cons_zero, List.set_cons_succ, gS, rVar, tAsg, gName, tCons, tNil, tDictZ, qDictZ]
        refine ⟨fparts i, (rowWs i (L z)).map fun w => V.str (T w), SqL.of hp4, SqL.of hq4, by rw [List.length_map]; exact hwl.symm, fun d hd => ⟨s4.upd hd, d, s4.free hd, ?_, rfl⟩⟩
        rw [upd_same, fill_told hi hwl]
      rintro _ H5 ⟨s5, d, hd0, hd5, rfl⟩
      refine cutS (fun σ' H' => Same H H' ∧ GoodRow (L z) i (rowWs i (L z)) ∧ H' d = some (.dK (toldK i (rowWs i (L z)))) ∧ σ' = [some (V.str z), some (V.str (T (fw (L z)))), some (V.ref p), some (V.ref q1), some (V.ref d)]) ?_ ?_
      · simp only [and_true, gS, rVar, tC, tNext, tIfS, tCons, tNil, tFnX, tDGet, tDIn, sDPut, tB]
        have ek : V.str (Str.ofString "number") = kV (ky "number") := by
          show _ = V.str (T (cd "number"))
          rw [T_cd]
        refine ⟨d, _, rfl, by rw [ek]; exact DGet.k hd5, _, rfl, ?_⟩
        rw [val_number hi]
        by_cases h2 : i = 2 ∨ i = 3
        · rw [if_pos h2]
          refine iteT ⟨d, _, rfl, by rw [ek]; exact (val_number hi (rowWs i (L z))).trans (if_pos h2) ▸ DGet.k hd5, ?_⟩
          have hw3 : ((rowWs i (L z)).getD 2 []).length ≤ 5000 := Nat.le_trans (row_get i (L z) 2) hl
          simp only [sp_p_number_in, L_T]
          refine ⟨by omega, fun g => ⟨d, _, rfl, by rw [ek]; exact .inl ⟨_, ky "number", hd5, rfl, by have := told_len i (rowWs i (L z)); omega, rfl⟩, ?_⟩, fun g => e (fun ⟨j, ws, gr⟩ => ?_) H5 s5⟩
          · rw [put_number hi h2]
            refine ⟨fun b o hb => ?_, ⟨hf, rfl, hwl, fun _ => g⟩, upd_same⟩
            rw [upd_ne (ne_of_none hb hd0)]
            exact s5 b o hb
          · have ej : j = i := Option.some.inj (gr.1.symm.trans hf)
            subst ej
            exact g (gr.2.1 ▸ gr.2.2.2 h2)
        · rw [if_neg h2]
          exact iteF ⟨s5, ⟨hf, rfl, hwl, fun z => absurd z h2⟩, told_no h2 _ ▸ hd5⟩
      rintro _ H6 ⟨s6, g6, hd6, rfl⟩
      simp only [gS, rVar, tRet]
      exact q i _ g6 H6 d s6 hd0 hd6
noncomputable def sp_p_is_name (K : PySem.W.Frag) : Sp := fun vs H Q _ => match vs with
  | [.str z] => (L z).length ≤ 5000 ∧ ∀ b : Bool, (b = true ↔ IsName (L z)) → Q (.bl b) H
  | _ => False
theorem ok_p_is_name {f : Addr} {fd : FuncData} (F : Fun K "is_name" "is_name" s_p_is_name f fd) (B : Bn mg) {c : Cs} (ER : Er K mg c) {A_FORMS A_KEEPING A_ANSWERS : Addr} (TP : Tp K w.params mg A_FORMS A_KEEPING A_ANSWERS) {C_Desk : Addr} (CF : Cf K C_Desk) (GC : Gc mg)  : FnOk P w K mg base CX0 1 f fd P_p_is_name (sp_p_is_name K) := by
  refine F.ok sc_p_is_name (fun vs H Q E h => ?_) (fun cdv A outer s H vs Q E hr h => ?_) <;> unfold sp_p_is_name at h <;> split at h <;> first | exact h.elim | skip
  · rfl
  · rename_i z
    obtain ⟨hl, q⟩ := h
    refine ⟨_, (pss_one (ps_ret (pe_and2 (pe_chain2 o_le o_le pe_int (pe_callB (c_lenK (K := K) rfl) (by rfl) B.len bt_len (pa_cons (qv 0) pa_nil)) pe_int) (pe_one (pe_c2 o_eq (pe_bmK (K := K) rfl PySem.F.plainAttrs_str PySem.F.slot_str_strip PySem.F.type_str_strip m_strip (qv 0) (pa_cons pe_str pa_nil)) pe_str))))), ?_⟩
    have hsz : sizeLine = 16777216 := sizeLine_eq
    have e1 : L (Str.ofString "abcdefghijklmnopqrstuvwxyz") = [97, 98, 99, 100, 101, 102, 103, 104, 105, 106, 107, 108, 109, 110, 111, 112, 113, 114, 115, 116, 117, 118, 119, 120, 121, 122] := by decide +kernel
    have e2 : L (Str.ofString "") = [] := by decide +kernel
    have dg : (∀ c ∈ L z, c ∈ [97, 98, 99, 100, 101, 102, 103, 104, 105, 106, 107, 108, 109, 110, 111, 112, 113, 114, 115, 116, 117, 118, 119, 120, 121, 122]) ↔ ∀ c ∈ L z, 97 ≤ c ∧ c ≤ 122 := by
      refine forall_congr' fun c => forall_congr' fun _ => ?_
      simp only [List.mem_cons, List.not_mem_nil, or_false]
      omega
    simp only [L2.start, List.map_cons, List.map_nil, List.length_cons, List.length_nil, List.replicate_zero, Nat.reduceAdd, Nat.reduceSub, true_and, decide_eq_true_eq, if_false, Bool.false_eq_true, gS, rVar, tC, tRet, tOp, tCB, tCons, tNil, vAnd, int2', eqR, sc, lenV, tBM, tyV, L_T, vChain, stpV, List.append_nil, leV, e1, e2]
    exact ⟨by omega, ite2 (fun h1 => ite2 (fun h2 => ⟨by omega, fun l hl' => q _ ⟨fun z => ⟨by omega, by omega, dg.mp (hl'.mp (of_decide_eq_true z))⟩, fun n => decide_eq_true (hl'.mpr (dg.mpr n.2.2))⟩⟩) fun h2 => q false ⟨fun z => (by cases z), fun n => by have := n.2.1; omega⟩) fun h1 => q false ⟨fun z => (by cases z), fun n => by have := n.1; omega⟩⟩
noncomputable def sp_p_check_names (K : PySem.W.Frag) (c : Cs) : Sp := fun vs H Q E => match vs with
  | [.ref t, .ref d] => ∃ kept i ws, H t = some (.dK (txK kept)) ∧ i < 5 ∧ H d = some (.dK (toldK i ws)) ∧ (∀ k, (ws.getD k []).length ≤ 5000) ∧ (NameOk kept i ws → ∀ H', Same H H' → Q .non H') ∧ (¬ NameOk kept i ws → ∀ H', Same H H' → E (.ref c.NoName) none H')
  | _ => False
theorem ok_p_check_names {f : Addr} {fd : FuncData} (F : Fun K "check_names" "check_names" s_p_check_names f fd) (B : Bn mg) {c : Cs} (ER : Er K mg c) {A_FORMS A_KEEPING A_ANSWERS : Addr} (TP : Tp K w.params mg A_FORMS A_KEEPING A_ANSWERS) {C_Desk : Addr} (CF : Cf K C_Desk) (GC : Gc mg) (G_p_is_name : Fn P w K mg base 1 "is_name" P_p_is_name (sp_p_is_name K)) : FnOk P w K mg base (CX1 P w) 2 f fd P_p_check_names (sp_p_check_names K c) := by
  refine F.okX sc_p_check_names (fun vs H Q E h => ?_) (fun cdv A outer s H vs Q E hr h => ?_) <;> unfold sp_p_check_names at h <;> split at h <;> first | exact h.elim | skip
  · rfl
  · rename_i t d
    obtain ⟨kept, i, ws, ht, hi, hd, hw, q, e⟩ := h
    refine ⟨_, (pss_cons (ps_if (pt_c2 (o_inL (K := K) rfl) (pe_dget (hu_of hr) (qv 1) pe_str (fun _ _ => rfl)) (pe_glob (v := .ref A_KEEPING) rfl TP.m_KEEPING rfl)) (pss_cons (ps_if (pt_not (pt_trK (K := K) rfl (pe_fn G_p_is_name (hr.mono (by decide)) (pa_cons (pe_dget (hu_of hr) (qv 1) pe_str (fun _ _ => rfl)) pa_nil)))) (pss_one (ps_raise tk_def rfl ER.x_NoName rfl ER.m_NoName (pa_cons pe_str pa_nil))) pss_nil)
        (pss_one ps_retN)) pss_nil)
        (pss_one (ps_tupF (K := K) rfl tk_def.own rfl (pe_tup (pa_cons pe_str (pa_cons pe_str pa_nil))) (pg_name (i := 2) sc_p_check_names.nd rfl (by first | exact Or.inl rfl | exact Or.inr rfl)) (pss_one (ps_if (PW.pt (pw_and (pt_cmp (pc_din (hu_of hr) (qv 2) (qv 1))) (pw_and1 (pt_cmp (pc_dnotin (hu_of hr) (pe_dget (hu_of hr) (qv 1) (qv 2) (fun _ _ => rfl)) (qv 0)))))) (pss_one (ps_raise tk_def rfl ER.x_NoName rfl ER.m_NoName (pa_cons pe_str pa_nil))) pss_nil))))), ?_⟩
    have hsz : sizeLine = 16777216 := sizeLine_eq
    have ek : ∀ s : String, V.str (Str.ofString s) = kV (ky s) := fun s => by
      show _ = V.str (T (cd s))
      rw [T_cd]
    simp only [L2.start, List.map_cons, List.map_nil, List.length_cons, List.length_nil, List.replicate_succ, List.replicate_zero, List.cons_append, List.nil_append, Nat.reduceAdd, Nat.reduceSub, if_false, Bool.false_eq_true, gS, rVar, tC, tSeq, tNext, tRetN, tIfS, tCons, tNil, tFn, tB2, tNot, trV, tRaise, tDGet, rIn, sp_p_is_name]
    have hin : inV (V.str (T (ws.getD 0 []))) xs_KEEPING = true ↔ (ws.getD 0 [] = cd "keep" ∨ ws.getD 0 [] = cd "load") := by
      have es : ∀ s : String, (Str.ofString s == T (ws.getD 0 [])) = true ↔ ws.getD 0 [] = cd s := fun s => by
        rw [beq_iff_eq, ← T_cd, T_inj]
        exact eq_comm
      show ((Str.ofString "keep" == T (ws.getD 0 [])) || ((Str.ofString "load" == T (ws.getD 0 [])) || false)) = true ↔ _
      rw [Bool.or_eq_true, Bool.or_eq_true, es, es]
      simp
    refine ⟨d, _, rfl, val_word i ws ▸ DGet.kys hd "word", A_KEEPING, xs_KEEPING, rfl, .inr (TP.d_KEEPING.sq H), rfl, rfl, ite2 (fun h1 => ?_) fun h1 => ?_⟩
    · refine ⟨d, _, rfl, val_name i ws ▸ DGet.kys hd "name", ?_⟩
      simp only [L_T]
      refine ⟨hw 1, fun b hb => ite2 (fun h2 => ⟨by decide, e (fun n => ?_) H (Same.refl H)⟩) fun h2 => q ⟨fun _ => hb.mp (by simpa using h2), fun n => absurd (hin.mp h1) n⟩ H (Same.refl H)⟩
      have := hb.mpr (n.1 (hin.mp h1))
      rw [this] at h2
      cases h2
    · rw [hin] at h1
      simp only [List.length_cons, List.length_nil, Nat.reduceAdd, if_false, Bool.false_eq_true, rVar, tC, tNext, gName, tIfS, tCons, tNil, tTup, tAnd, tRaise, tDGet, tDIn, tDNotIn, tB, tTupF, forT]
      refine ⟨by omega, ?_⟩
      intro p hp
      have np : ∀ {b : Addr} {o : HO}, H b = some o → b ≠ p := fun h => ne_of_none h hp
      have s1 : Same H (upd H p (HO.tup [V.str (Str.ofString "name"), V.str (Str.ofString "other")])) := Same.updN hp
      refine ⟨_, SqT.of upd_same, fun k σ' H' => H' = upd H p (HO.tup [V.str (Str.ofString "name"), V.str (Str.ofString "other")]) ∧ (∃ x, σ' = [some (V.ref t), some (V.ref d), x]) ∧ (1 ≤ k → (lookT kept (ws.getD 1 [])).isSome = true) ∧ (2 ≤ k → i = 4 → (lookT kept (ws.getD 2 [])).isSome = true), ⟨rfl, ⟨_, rfl⟩, fun z => absurd z (by decide), fun z => absurd z (by decide)⟩, ?_, ?_, ?_⟩
      · rintro k σ' H' _ ⟨rfl, _⟩
        exact SqT.of upd_same
      · rintro k x σ' H' hx ⟨rfl, ⟨y, rfl⟩, g1, g2⟩
        simp only [true_and, List.set_cons_zero, List.set_cons_succ, gS]
        have hd' := s1 d _ hd
        have ht' := s1 t _ ht
        match k, hx, g1, g2 with
        | 0, hx, _, _ =>
          cases Option.some.inj hx
          refine ⟨d, _, rfl, DGet.kys hd' "name", _, rfl, ?_⟩
          rw [val_name]
          refine iteT ⟨d, _, rfl, val_name i ws ▸ DGet.kys hd' "name", t, _, rfl, DGet.k (k := .inr (T (ws.getD 1 []))) ht', _, rfl, ?_⟩
          rw [val_txK, Option.isSome_map]
          refine ite2 (fun h2 => ⟨by decide, e (fun n => ?_) _ s1⟩) fun h2 => ⟨⟨_, rfl⟩, fun _ => by rw [Bool.not_eq_true', Bool.not_eq_false] at h2; exact h2, fun z => absurd z (by decide)⟩
          have := (n.2 h1).1
          rw [this] at h2
          cases h2
        | 1, hx, g1, _ =>
          cases Option.some.inj hx
          refine ⟨d, _, rfl, DGet.kys hd' "other", _, rfl, ?_⟩
          rw [val_other hi]
          by_cases h4 : i = 4
          · rw [if_pos h4]
            refine iteT ⟨d, _, rfl, (val_other hi ws).trans (if_pos h4) ▸ DGet.kys hd' "other", t, _, rfl, DGet.k (k := .inr (T (ws.getD 2 []))) ht', _, rfl, ?_⟩
            rw [val_txK, Option.isSome_map]
            refine ite2 (fun h2 => ⟨by decide, e (fun n => ?_) _ s1⟩) fun h2 => ⟨⟨_, rfl⟩, fun _ => g1 (by decide), fun _ _ => by rw [Bool.not_eq_true', Bool.not_eq_false] at h2; exact h2⟩
            have := (n.2 h1).2 h4
            rw [this] at h2
            cases h2
          · rw [if_neg h4]
            exact iteF ⟨⟨_, rfl⟩, fun _ => g1 (by decide), fun _ z => absurd z h4⟩
        | k + 2, hx, _, _ => cases hx
      · rintro σ' H' ⟨rfl, _, g1, g2⟩
        exact q ⟨fun z => absurd z h1, fun _ => ⟨g1 (by decide), g2 (by decide)⟩⟩ _ s1
noncomputable def sp_p_keep_text (K : PySem.W.Frag) (c : Cs) : Sp := fun vs H Q E => match vs with
  | [.ref t, .str n, .str x] => ∃ kept, H t = some (.dK (txK kept)) ∧ kept.length ≤ 1000 ∧ (L x).length ≤ 5000 ∧ ((L x).length ≤ 300 → Q (.str (Str.ofString "ok")) (upd H t (.dK (txK (putT kept (L n) (L x)))))) ∧ (300 < (L x).length → E (.ref c.TooLong) none H)
  | _ => False
theorem ok_p_keep_text {f : Addr} {fd : FuncData} (F : Fun K "keep_text" "keep_text" s_p_keep_text f fd) (B : Bn mg) {c : Cs} (ER : Er K mg c) {A_FORMS A_KEEPING A_ANSWERS : Addr} (TP : Tp K w.params mg A_FORMS A_KEEPING A_ANSWERS) {C_Desk : Addr} (CF : Cf K C_Desk) (GC : Gc mg)  : FnOk P w K mg base (CX1 P w) 1 f fd P_p_keep_text (sp_p_keep_text K c) := by
  refine F.okX sc_p_keep_text (fun vs H Q E h => ?_) (fun cdv A outer s H vs Q E hr h => ?_) <;> unfold sp_p_keep_text at h <;> split at h <;> first | exact h.elim | skip
  · rfl
  · rename_i t n x
    obtain ⟨kept, ht, hk, hxl, q, e⟩ := h
    refine ⟨_, (pss_cons (ps_if (pt_c2 o_gt (pe_callB (c_lenK (K := K) rfl) (by rfl) B.len bt_len (pa_cons (qv 2) pa_nil)) (pe_globI rfl GC.MOST_SIGNS)) (pss_one (ps_raise tk_def rfl ER.x_TooLong rfl ER.m_TooLong (pa_cons pe_str pa_nil))) pss_nil)
        (pss_cons (ps_dput (hu_of hr) (qv 0) (qv 1) (qv 2) rfl)
        (pss_one (ps_ret pe_str)))), ?_⟩
    have hsz : sizeLine = 16777216 := sizeLine_eq
    simp only [L2.start, List.map_cons, List.map_nil, List.length_cons, List.length_nil, List.replicate_zero, Nat.reduceAdd, Nat.reduceSub, decide_eq_true_eq, gS, rVar, tC, tSeq, tNext, tRet, tIfS, tCB, tCons, tNil, tB2, int2', lenV, tRaise, sDPut, List.append_nil, gtV]
    refine ⟨by omega, ite2 (fun h1 => ⟨by decide, e (by omega)⟩) fun h1 => ⟨t, _, rfl, .inl ⟨_, .inr (T (L n)), ht, by rw [T_L]; rfl, by unfold txK; rw [List.length_map]; omega, rfl⟩, ?_⟩⟩
    have := put_txK kept (L n) (L x)
    rw [T_L, T_L] at this
    rw [T_L, this]
    exact q (by omega)
noncomputable def sp_p_answer_keep (K : PySem.W.Frag) (c : Cs) : Sp := fun vs H Q E => match vs with
  | [.ref t, .ref d] => ∃ kept ws, H t = some (.dK (txK kept)) ∧ kept.length ≤ 1000 ∧ H d = some (.dK (toldK 0 ws)) ∧ (ws.getD 2 []).length ≤ 5000 ∧ ((ws.getD 2 []).length ≤ 300 → Q (.str (Str.ofString "ok")) (upd H t (.dK (txK (putT kept (ws.getD 1 []) (ws.getD 2 [])))))) ∧ (300 < (ws.getD 2 []).length → E (.ref c.TooLong) none H)
  | _ => False
theorem ok_p_answer_keep {f : Addr} {fd : FuncData} (F : Fun K "answer_keep" "answer_keep" s_p_answer_keep f fd) (B : Bn mg) {c : Cs} (ER : Er K mg c) {A_FORMS A_KEEPING A_ANSWERS : Addr} (TP : Tp K w.params mg A_FORMS A_KEEPING A_ANSWERS) {C_Desk : Addr} (CF : Cf K C_Desk) (GC : Gc mg) (G_p_keep_text : FnX P w K mg base 1 "keep_text" P_p_keep_text (sp_p_keep_text K c)) : FnOk P w K mg base (CX1 P w) 2 f fd P_p_answer_keep (sp_p_answer_keep K c) := by
  refine F.okX sc_p_answer_keep (fun vs H Q E h => ?_) (fun cdv A outer s H vs Q E hr h => ?_) <;> unfold sp_p_answer_keep at h <;> split at h <;> first | exact h.elim | skip
  · rfl
  · rename_i t d
    obtain ⟨kept, ws, ht, hk, hd, hxl, q, e⟩ := h
    refine ⟨_, (pss_one (ps_ret (pe_fnX tk_def.toTk G_p_keep_text (hr.mono (by decide)) (pa_cons (qv 0) (pa_cons (pe_dget (hu_of hr) (qv 1) pe_str (fun _ _ => rfl)) (pa_cons (pe_dget (hu_of hr) (qv 1) pe_str (fun _ _ => rfl)) pa_nil)))))), ?_⟩
    have ek : ∀ s : String, V.str (Str.ofString s) = kV (ky s) := fun s => by
      show _ = V.str (T (cd s))
      rw [T_cd]
    simp only [L2.start, List.map_cons, List.map_nil, List.length_cons, List.length_nil, List.replicate_zero, Nat.reduceAdd, Nat.reduceSub, gS, rVar, tC, tRet, tCons, tNil, tFnX, tDGet, List.append_nil]
    refine ⟨d, _, rfl, val_name 0 ws ▸ DGet.kys hd "name", d, _, rfl, val_rest ws ▸ DGet.kys hd "rest", ?_⟩
    simp only [sp_p_keep_text, L_T]
    exact ⟨kept, ht, hk, hxl, q, e⟩
noncomputable def sp_p_answer_text (K : PySem.W.Frag) (c : Cs) : Sp := fun vs H Q E => match vs with
  | [.ref t, .ref d] => ∃ kept i ws x, H t = some (.dK (txK kept)) ∧ H d = some (.dK (toldK i ws)) ∧ lookT kept (ws.getD 1 []) = some x ∧ Q (.str (T x)) H
  | _ => False
theorem ok_p_answer_text {f : Addr} {fd : FuncData} (F : Fun K "answer_text" "answer_text" s_p_answer_text f fd) (B : Bn mg) {c : Cs} (ER : Er K mg c) {A_FORMS A_KEEPING A_ANSWERS : Addr} (TP : Tp K w.params mg A_FORMS A_KEEPING A_ANSWERS) {C_Desk : Addr} (CF : Cf K C_Desk) (GC : Gc mg)  : FnOk P w K mg base (CX1 P w) 1 f fd P_p_answer_text (sp_p_answer_text K c) := by
  refine F.okX sc_p_answer_text (fun vs H Q E h => ?_) (fun cdv A outer s H vs Q E hr h => ?_) <;> unfold sp_p_answer_text at h <;> split at h <;> first | exact h.elim | skip
  · rfl
  · rename_i t d
    obtain ⟨kept, i, ws, x, ht, hd, hx, q⟩ := h
    refine ⟨_, (pss_one (ps_ret (pe_dget (hu_of hr) (qv 0) (pe_dget (hu_of hr) (qv 1) pe_str (fun _ _ => rfl)) (fun _ _ => rfl)))), ?_⟩
    have ek : ∀ s : String, V.str (Str.ofString s) = kV (ky s) := fun s => by
      show _ = V.str (T (cd s))
      rw [T_cd]
    simp only [L2.start, List.map_cons, List.map_nil, List.length_cons, List.length_nil, List.replicate_zero, Nat.reduceAdd, Nat.reduceSub, gS, rVar, tC, tRet, tDGet, List.append_nil]
    have hv : valV (txK kept) (.inr (T (ws.getD 1 []))) = some (V.str (T x)) := by rw [val_txK, hx]; rfl
    exact ⟨d, _, rfl, val_name i ws ▸ DGet.kys hd "name", t, _, rfl, hv ▸ DGet.k (k := .inr (T (ws.getD 1 []))) ht, q⟩
abbrev Ga (K : PySem.W.Frag) (c : Cs) : Str → Sp → Prop := fun nm sp => (nm = "answer_keep" ∧ sp = (sp_p_answer_keep K c)) ∨ (nm = "answer_text" ∧ sp = (sp_p_answer_text K c))
noncomputable def AnsRes (kept : KeptT) (i : Nat) (ws : List (List Nat)) (Qs : KeptT → List Nat → Prop) (Qr : Nat → Prop) : Prop :=
  (ws.getD 0 [] = cd "keep" ∧ i = 0 ∧ ((ws.getD 2 []).length ≤ 300 → Qs (putT kept (ws.getD 1 []) (ws.getD 2 [])) (cd "ok")) ∧ (300 < (ws.getD 2 []).length → Qr 2)) ∨
  (ws.getD 0 [] = cd "text" ∧ ∃ x, lookT kept (ws.getD 1 []) = some x ∧ Qs kept x)
noncomputable def DeskRes (kept : KeptT) (r : List Nat) (Qs : KeptT → List Nat → Prop) (Qr : Nat → Prop) : Prop :=
  ((¬ ∃ i ws, GoodRow r i ws) → Qr 0) ∧ ∀ i ws, GoodRow r i ws → (¬ NameOk kept i ws → Qr 1) ∧ (NameOk kept i ws → AnsRes kept i ws Qs Qr)
noncomputable def clsK (c : Cs) : Nat → Addr
  | 0 => c.NoRow
  | 1 => c.NoName
  | _ => c.TooLong
noncomputable def sp_m_Desk_init (K : PySem.W.Frag) (C : Addr) : Sp := fun vs H Q _ => match vs with
  | [.ref o] => (∃ dx, H o = some (.ins C dx [])) ∧ ∀ H' t, (∀ b u, b ≠ o → H b = some u → H' b = some u) → H t = none → IsDesk C H' o t [] → Q .non H'
  | _ => False
theorem ok_m_Desk_init {f : Addr} {fd : FuncData} (F : Fun K "__init__" "Desk.__init__" s_m_Desk_init f fd) (B : Bn mg) {c : Cs} (ER : Er K mg c) {A_FORMS A_KEEPING A_ANSWERS : Addr} (TP : Tp K w.params mg A_FORMS A_KEEPING A_ANSWERS) {C_Desk : Addr} (CF : Cf K C_Desk) (GC : Gc mg)  : FnOk P w K mg base CX0 1 f fd P_m_Desk_init (sp_m_Desk_init K C_Desk) := by
  refine F.ok sc_m_Desk_init (fun vs H Q E h => ?_) (fun cdv A outer s H vs Q E hr h => ?_) <;> unfold sp_m_Desk_init at h <;> split at h <;> first | exact h.elim | skip
  · rfl
  · rename_i o
    obtain ⟨⟨dx, ho⟩, q⟩ := h
    refine ⟨_, (pss_one (ps_fldC (K := K) rfl CF.cl_Desk CF.na_Desk_texts (qv 0) pe_dnewK rfl)), ?_⟩
    simp only [L2.start, List.map_cons, List.map_nil, List.length_cons, List.length_nil, List.replicate_zero, Nat.reduceAdd, Nat.reduceSub, gS, rVar, tDNewK, wFld, List.append_nil]
    refine fun p hp => ⟨dx, _, (upd_ne (ne_of_none ho hp)).trans ho, by decide, q _ p (fun b u hb h => ?_) hp ⟨⟨dx, upd_same⟩, (upd_ne fun z => ?_).trans upd_same⟩⟩
    · rw [upd_ne hb, upd_ne (ne_of_none h hp)]
      exact h
    · rw [z, ho] at hp
      cases hp
noncomputable def sp_m_Desk_say (K : PySem.W.Frag) (c : Cs) (C : Addr) : Sp := fun vs H Q E => match vs with
  | [.ref o, .str z] => ∃ t kept, IsDesk C H o t kept ∧ kept.length ≤ 1000 ∧ (L z).length ≤ 5000 ∧ DeskRes kept (L z) (fun kept' x => ∀ H', Same (upd H t (.dK (txK kept'))) H' → Q (.str (T x)) H') (fun k => ∀ H', Same H H' → E (.ref (clsK c k)) none H')
  | _ => False
theorem ok_m_Desk_say {f : Addr} {fd : FuncData} (F : Fun K "say" "Desk.say" s_m_Desk_say f fd) (B : Bn mg) {c : Cs} (ER : Er K mg c) {A_FORMS A_KEEPING A_ANSWERS : Addr} (TP : Tp K w.params mg A_FORMS A_KEEPING A_ANSWERS) {C_Desk : Addr} (CF : Cf K C_Desk) (GC : Gc mg) (G_p_read_row : FnX P w K mg base 2 "read_row" P_p_read_row (sp_p_read_row K c)) (G_p_check_names : FnX P w K mg base 2 "check_names" P_p_check_names (sp_p_check_names K c)) (G_p_answer_keep : FnX P w K mg base 2 "answer_keep" P_p_answer_keep (sp_p_answer_keep K c)) (G_p_answer_text : FnX P w K mg base 1 "answer_text" P_p_answer_text (sp_p_answer_text K c)) : FnOk P w K mg base (CX1 P w) 3 f fd P_m_Desk_say (sp_m_Desk_say K c C_Desk) := by
  refine F.okX sc_m_Desk_say (fun vs H Q E h => ?_) (fun cdv A outer s H vs Q E hr h => ?_) <;> unfold sp_m_Desk_say at h <;> split at h <;> first | exact h.elim | skip
  · rfl
  · rename_i o z
    obtain ⟨t, kept, ⟨⟨dx, ho⟩, ht⟩, hk, hz, q0, q⟩ := h
    refine ⟨_, (pss_cons (ps_set (i := 2) sc_m_Desk_say.nd rfl (by first | exact Or.inl rfl | exact Or.inr rfl) (pe_fnX tk_def.toTk G_p_read_row (hr.mono (by decide)) (pa_cons (qv 1) pa_nil)))
        (pss_cons (ps_expr (pe_fnX tk_def.toTk G_p_check_names (hr.mono (by decide)) (pa_cons (pe_fldC (K := K) rfl CF.cl_Desk CF.na_Desk_texts (qv 0)) (pa_cons (qv 2) pa_nil))))
        (pss_one (ps_ret (pe_ansX (k := 2) (G := Ga K c) tk_def.toTk TP.d_ANSWERS TP.m_ANSWERS (fun nm sp h => by rcases h with ⟨rfl, rfl⟩ | ⟨rfl, rfl⟩ <;> first | exact ⟨_, _, by decide, G_p_answer_keep⟩ | exact ⟨_, _, by decide, G_p_answer_text⟩) (hr.mono (by decide)) (pe_dget (hu_of hr) (qv 2) pe_str (fun _ _ => rfl)) (pa_cons (pe_fldC (K := K) rfl CF.cl_Desk CF.na_Desk_texts (qv 0)) (pa_cons (qv 2) pa_nil)) (fun _ _ => rfl)))))), ?_⟩
    simp only [L2.start, List.map_cons, List.map_nil, List.length_cons, List.length_nil, List.replicate_succ, List.replicate_zero, List.cons_append, List.nil_append, Nat.reduceAdd, Nat.reduceSub, List.set_cons_zero, List.set_cons_succ, gS, rVar, tC, tSeq, tAsg, gName, tRet, tDrop, tCons, tNil, tFnX, tDGet, tAns, rFld, sp_p_read_row]
    refine ⟨hz, fun i ws g H1 d s1 hd0 hd => ?_, fun n => q0 n⟩
    have hi := frm_lt g.1
    have hw : ∀ k, (ws.getD k []).length ≤ 5000 := fun k => by
      rw [g.2.1]
      exact Nat.le_trans (row_get i (L z) k) hz
    refine ⟨dx, _, .ref t, s1 o _ ho, rfl, ?_⟩
    simp only [sp_p_check_names]
    refine ⟨kept, i, ws, s1 t _ ht, hi, hd, hw, fun n H2 s2 => ?_, fun n H2 s2 => (q i ws g).1 n H2 (s1.trans s2)⟩
    have s3 := s1.trans s2
    have hd2 := s2 d _ hd
    refine ⟨d, _, rfl, val_word i ws ▸ DGet.kys hd2 "word", ?_⟩
    rcases (q i ws g).2 n with ⟨e0, rfl, a1, a2⟩ | ⟨e0, x, hx, a⟩
    · rw [e0]
      refine ⟨"answer_keep", sp_p_answer_keep K c, by rw [T_cd]; rfl, .inl ⟨rfl, rfl⟩, dx, _, .ref t, s3 o _ ho, rfl, ?_⟩
      simp only [sp_p_answer_keep]
      exact ⟨kept, ws, s3 t _ ht, hk, hd2, hw 2, fun l => a1 l _ (same_upd2 s3), fun l => a2 l H2 s3⟩
    · rw [e0]
      refine ⟨"answer_text", sp_p_answer_text K c, by rw [T_cd]; rfl, .inr ⟨rfl, rfl⟩, dx, _, .ref t, s3 o _ ho, rfl, ?_⟩
      simp only [sp_p_answer_text]
      exact ⟨kept, i, ws, x, s3 t _ ht, hd2, hx, a H2 (same_upd0 ht s3)⟩
noncomputable def nm9 : Nat → Str
  | 0 => Str.ofString "NoOrder"
  | 1 => Str.ofString "NoPlace"
  | 2 => Str.ofString "NoGap"
  | 3 => Str.ofString "NoText"
  | 4 => Str.ofString "NoTimes"
  | 5 => Str.ofString "Empty"
  | 6 => Str.ofString "TooLong"
  | 7 => Str.ofString "NoName"
  | _ => Str.ofString "NoRow"
noncomputable def cl9 (c : Cs) : Nat → Addr
  | 0 => c.NoOrder
  | 1 => c.NoPlace
  | 2 => c.NoGap
  | 3 => c.NoText
  | 4 => c.NoTimes
  | 5 => c.Empty
  | 6 => c.TooLong
  | 7 => c.NoName
  | _ => c.NoRow
noncomputable def Kinds (H : Hp) (p : Addr) (k n : Nat) : Prop := ∃ ts : List Addr, ts.length = n ∧ H p = some (.lst (ts.map V.ref)) ∧ ∀ (j : Nat) t, ts[j]? = some t → H t = some (.tup [.str (nm9 j), .bl (decide (j = k))])
theorem Kinds.add {H H' : Hp} {r : Addr} {k n : Nat} {ts us : List Addr} (hl : ts.length = n) (ht : ∀ (j : Nat) t, ts[j]? = some t → H t = some (.tup [.str (nm9 j), .bl (decide (j = k))])) (s : Same H H') (hr : H' r = some (.lst (ts.map V.ref ++ us.map V.ref)))
    (hu : ∀ (j : Nat) t, us[j]? = some t → H' t = some (.tup [.str (nm9 (n + j)), .bl (decide (n + j = k))])) : Kinds H' r k (n + us.length) := by
  refine ⟨ts ++ us, by rw [List.length_append, hl], by rw [List.map_append]; exact hr, fun j t e => ?_⟩
  by_cases h : j < n
  · rw [List.getElem?_append_left (by omega)] at e
    exact s t _ (ht j t e)
  · rw [List.getElem?_append_right (by omega), hl] at e
    have := hu (j - n) t e
    rw [show n + (j - n) = j by omega] at this
    exact this
theorem upd4 {H : Hp} {p p1 p2 p3 : Addr} {o0 o1 o2 o3 : HO} (h0 : H p = none) (h1 : upd H p o0 p1 = none) (h2 : upd (upd H p o0) p1 o1 p2 = none) (h3 : upd (upd (upd H p o0) p1 o1) p2 o2 p3 = none) :
    Same H (upd (upd (upd (upd H p o0) p1 o1) p2 o2) p3 o3) ∧ upd (upd (upd (upd H p o0) p1 o1) p2 o2) p3 o3 p = some o0 ∧ upd (upd (upd (upd H p o0) p1 o1) p2 o2) p3 o3 p1 = some o1 := by
  have s1 : Same (upd H p o0) (upd (upd H p o0) p1 o1) := Same.updN h1
  have s2 : Same (upd (upd H p o0) p1 o1) (upd (upd (upd H p o0) p1 o1) p2 o2) := Same.updN h2
  have s3 : Same (upd (upd (upd H p o0) p1 o1) p2 o2) (upd (upd (upd (upd H p o0) p1 o1) p2 o2) p3 o3) := Same.updN h3
  exact ⟨(Same.updN h0).trans (s1.trans (s2.trans s3)), (s1.trans (s2.trans s3)) p _ upd_same, (s2.trans s3) p1 _ upd_same⟩
theorem upd3 {H : Hp} {p p1 p2 : Addr} {o0 o1 o2 : HO} (h0 : H p = none) (h1 : upd H p o0 p1 = none) (h2 : upd (upd H p o0) p1 o1 p2 = none) :
    Same H (upd (upd (upd H p o0) p1 o1) p2 o2) ∧ upd (upd (upd H p o0) p1 o1) p2 o2 p = some o0 ∧ upd (upd (upd H p o0) p1 o1) p2 o2 p1 = some o1 := by
  have s1 : Same (upd H p o0) (upd (upd H p o0) p1 o1) := Same.updN h1
  have s2 : Same (upd (upd H p o0) p1 o1) (upd (upd (upd H p o0) p1 o1) p2 o2) := Same.updN h2
  exact ⟨(Same.updN h0).trans (s1.trans s2), (s1.trans s2) p _ upd_same, s2 p1 _ upd_same⟩
theorem kinds_pair {H1 : Hp} {p p1 p2 l : Addr} {k n : Nat} (hk : Kinds H1 l k n) (h0 : H1 p = none) (h1 : upd H1 p (.tup [.str (nm9 n), .bl (decide (n = k))]) p1 = none) (h2 : upd (upd H1 p (.tup [.str (nm9 n), .bl (decide (n = k))])) p1 (.tup [.str (nm9 (n + 1)), .bl (decide (n + 1 = k))]) p2 = none) :
    ∃ xs, xs.length = n ∧ upd (upd (upd H1 p (.tup [.str (nm9 n), .bl (decide (n = k))])) p1 (.tup [.str (nm9 (n + 1)), .bl (decide (n + 1 = k))])) p2 (.lst [.ref p, .ref p1]) l = some (.lst xs) ∧ ∀ p3, upd (upd (upd H1 p (.tup [.str (nm9 n), .bl (decide (n = k))])) p1 (.tup [.str (nm9 (n + 1)), .bl (decide (n + 1 = k))])) p2 (.lst [.ref p, .ref p1]) p3 = none →
      Same H1 (upd (upd (upd (upd H1 p (.tup [.str (nm9 n), .bl (decide (n = k))])) p1 (.tup [.str (nm9 (n + 1)), .bl (decide (n + 1 = k))])) p2 (.lst [.ref p, .ref p1])) p3 (.lst (xs ++ [.ref p, .ref p1]))) ∧
      Kinds (upd (upd (upd (upd H1 p (.tup [.str (nm9 n), .bl (decide (n = k))])) p1 (.tup [.str (nm9 (n + 1)), .bl (decide (n + 1 = k))])) p2 (.lst [.ref p, .ref p1])) p3 (.lst (xs ++ [.ref p, .ref p1]))) p3 k (n + 2) := by
  obtain ⟨ts, tl, hp, ht⟩ := hk
  refine ⟨ts.map V.ref, by rw [List.length_map, tl], (upd3 h0 h1 h2).1 l _ hp, fun p3 h3 => ?_⟩
  obtain ⟨s4, a0, a1⟩ := upd4 (o3 := HO.lst (ts.map V.ref ++ [.ref p, .ref p1])) h0 h1 h2 h3
  refine ⟨s4, Kinds.add (us := [p, p1]) tl ht s4 upd_same fun j t e => ?_⟩
  match j, e with
  | 0, e => cases e; exact a0
  | 1, e => cases e; exact a1
  | j + 2, e => cases e
noncomputable def sp_w_which (K : PySem.W.Frag) (c : Cs) (xa : Addr) : Sp := fun vs H Q _ => match vs with
  | [.ref e] => e = xa ∧ ∃ C k, H e = some (ExcO e C) ∧ ExcG K C ∧ PySem.W.kitOne K (.ref C) (.type "ValueError") = some true ∧ k < 9 ∧ (∀ j, j < 9 → PySem.W.kitOne K (.ref C) (.ref (cl9 c j)) = some (decide (j = k))) ∧ ∀ H', SameN H H' → Q (.str (nm9 k)) H'
  | _ => False
theorem ok_w_which {f : Addr} {fd : FuncData} (F : Fun K "_law_which" "_law_which" s_w_which f fd) (B : Bn mg) {c : Cs} (ER : Er K mg c) {A_FORMS A_KEEPING A_ANSWERS : Addr} (TP : Tp K w.params mg A_FORMS A_KEEPING A_ANSWERS) {C_Desk : Addr} (CF : Cf K C_Desk) (GC : Gc mg)  : FnZ0 P w K mg base 1 f fd P_w_which (sp_w_which K c) := by
  refine F.okZ sc_w_which (fun xa vs H Q E h => ?_) (fun xa cdv A outer s H vs Q hh hr h => ?_) <;> unfold sp_w_which at h <;> split at h <;> first | exact h.elim | skip
  · rfl
  · rename_i e
    obtain ⟨rfl, C, k, he, hg, hv, hk, hj, q⟩ := h
    refine ⟨_, (pss_cons (ps_cut (ps_set (i := 1) sc_w_which.nd rfl (by first | exact Or.inl rfl | exact Or.inr rfl) (pe_lst (pa_cons (pe_tup (pa_cons pe_str (pa_cons (pe_callB (c_isxK (K := K) rfl) (by rfl) B.isinstance bt_isinstance (pa_cons (qv 0) (pa_cons (pe_glob (v := .ref c.NoOrder) rfl ER.m_NoOrder rfl) pa_nil))) pa_nil))) (pa_cons (pe_tup (pa_cons pe_str (pa_cons (pe_callB (c_isxK (K := K) rfl) (by rfl) B.isinstance bt_isinstance (pa_cons (qv 0) (pa_cons (pe_glob (v := .ref c.NoPlace) rfl ER.m_NoPlace rfl) pa_nil))) pa_nil))) pa_nil)))))
        (pss_cons (ps_cut (ps_set (i := 1) sc_w_which.nd rfl (by first | exact Or.inl rfl | exact Or.inr rfl) (pe_op o_add (qv 1) (pe_lst (pa_cons (pe_tup (pa_cons pe_str (pa_cons (pe_callB (c_isxK (K := K) rfl) (by rfl) B.isinstance bt_isinstance (pa_cons (qv 0) (pa_cons (pe_glob (v := .ref c.NoGap) rfl ER.m_NoGap rfl) pa_nil))) pa_nil))) (pa_cons (pe_tup (pa_cons pe_str (pa_cons (pe_callB (c_isxK (K := K) rfl) (by rfl) B.isinstance bt_isinstance (pa_cons (qv 0) (pa_cons (pe_glob (v := .ref c.NoText) rfl ER.m_NoText rfl) pa_nil))) pa_nil))) pa_nil))))))
        (pss_cons (ps_cut (ps_set (i := 1) sc_w_which.nd rfl (by first | exact Or.inl rfl | exact Or.inr rfl) (pe_op o_add (qv 1) (pe_lst (pa_cons (pe_tup (pa_cons pe_str (pa_cons (pe_callB (c_isxK (K := K) rfl) (by rfl) B.isinstance bt_isinstance (pa_cons (qv 0) (pa_cons (pe_glob (v := .ref c.NoTimes) rfl ER.m_NoTimes rfl) pa_nil))) pa_nil))) (pa_cons (pe_tup (pa_cons pe_str (pa_cons (pe_callB (c_isxK (K := K) rfl) (by rfl) B.isinstance bt_isinstance (pa_cons (qv 0) (pa_cons (pe_glob (v := .ref c.Empty) rfl ER.m_Empty rfl) pa_nil))) pa_nil))) pa_nil))))))
        (pss_cons (ps_cut (ps_set (i := 1) sc_w_which.nd rfl (by first | exact Or.inl rfl | exact Or.inr rfl) (pe_op o_add (qv 1) (pe_lst (pa_cons (pe_tup (pa_cons pe_str (pa_cons (pe_callB (c_isxK (K := K) rfl) (by rfl) B.isinstance bt_isinstance (pa_cons (qv 0) (pa_cons (pe_glob (v := .ref c.TooLong) rfl ER.m_TooLong rfl) pa_nil))) pa_nil))) (pa_cons (pe_tup (pa_cons pe_str (pa_cons (pe_callB (c_isxK (K := K) rfl) (by rfl) B.isinstance bt_isinstance (pa_cons (qv 0) (pa_cons (pe_glob (v := .ref c.NoName) rfl ER.m_NoName rfl) pa_nil))) pa_nil))) pa_nil))))))
        (pss_cons (ps_cut (ps_set (i := 1) sc_w_which.nd rfl (by first | exact Or.inl rfl | exact Or.inr rfl) (pe_op o_add (qv 1) (pe_lst (pa_cons (pe_tup (pa_cons pe_str (pa_cons (pe_callB (c_isxK (K := K) rfl) (by rfl) B.isinstance bt_isinstance (pa_cons (qv 0) (pa_cons (pe_glob (v := .ref c.NoRow) rfl ER.m_NoRow rfl) pa_nil))) pa_nil))) pa_nil)))))
        (pss_cons (ps_cut (ps_compLH (i₀ := 2) (K := K) rfl (own := ["_law_pair"]) (cp := []) hh rfl rfl (by decide +kernel) (by decide +kernel) trivial (qv 1) (by decide) (fun _ _ _ _ => pg_name (i := 0) (show List.Nodup (["_law_pair"] : List Str) by decide +kernel) rfl (Or.inl rfl) (Or.inr rfl)) (fun _ _ _ _ => pf_one (pt_trK (K := K) rfl (pe_ix (i_ixK (K := K) rfl) (qv 0) pe_int (fun _ _ => rfl)))) (fun _ _ _ _ => (pe_ix (i_ixK (K := K) rfl) (qv 0) pe_int (fun _ _ => rfl))) sc_w_which.nd rfl rfl))
        (pss_cons (ps_if (PW.pt (pw_or (pt_c2 o_ne (pe_callB (c_lenK (K := K) rfl) (by rfl) B.len bt_len (pa_cons (qv 2) pa_nil)) pe_int) (pw_or1 (pt_not (pt_trK (K := K) rfl (pe_callB (c_isxK (K := K) rfl) (by rfl) B.isinstance bt_isinstance (pa_cons (qv 0) (pa_cons (pe_bltn (v := .ty "ValueError") rfl B.ValueError bt_ValueError rfl) pa_nil)))))))) (pss_one (ps_ret pe_str)) pss_nil)
        (pss_one (ps_ret (pe_ix (i_ixK (K := K) rfl) (qv 2) pe_int (fun _ _ => rfl))))))))))), ?_⟩
    have hsz : sizeLine = 16777216 := sizeLine_eq
    refine cutS (fun σ' H' => Same H H' ∧ ∃ p, Kinds H' p k 2 ∧ σ' = [some (V.ref e), some (V.ref p), none]) ?_ ?_
    · simp only [L2.start, List.map_cons, List.map_nil, List.length_cons, List.length_nil, List.replicate_succ, List.replicate_zero, List.cons_append, List.nil_append, Nat.reduceAdd, Nat.reduceSub, List.set_cons_zero, List.set_cons_succ, gS, rVar, tC, tAsg, gName, tCB, tCons, tNil, tTup, tLst, isxV]
      refine ⟨C, _, he, hg, ⟨by omega, fun p hp => ⟨C, _, (upd_ne (ne_of_none he hp)).trans he, hg, ⟨by omega, fun p1 hp1 => ⟨by omega, fun p2 hp2 => ?_⟩⟩, .inl (hj 1 (by decide))⟩⟩, .inl (hj 0 (by decide))⟩
      obtain ⟨s3, a0, a1⟩ := upd3 (o2 := HO.lst [V.ref p, V.ref p1]) hp hp1 hp2
      refine ⟨s3, p2, ⟨[p, p1], rfl, upd_same, fun j t e => ?_⟩, rfl⟩
      match j, e with
      | 0, e => cases e; exact a0
      | 1, e => cases e; exact a1
      | j + 2, e => cases e
    rintro _ H1 ⟨s1, p1, k1, rfl⟩
    refine cutS (fun σ' H' => Same H H' ∧ ∃ p, Kinds H' p k 4 ∧ σ' = [some (V.ref e), some (V.ref p), none]) ?_ ?_
    · simp only [List.length_cons, List.length_nil, Nat.reduceAdd, List.set_cons_zero, List.set_cons_succ, gS, rVar, tC, tAsg, gName, tOp, tCB, tCons, tNil, tTup, tLst, addV, isxV, rCat]
      have he' := s1 e _ he
      refine ⟨C, _, he', hg, ⟨by omega, fun p hp => ⟨C, _, (upd_ne (ne_of_none he' hp)).trans he', hg, ⟨by omega, fun p' hp' => ⟨by omega, fun p'' hp'' => ?_⟩⟩, .inl (hj 3 (by decide))⟩⟩, .inl (hj 2 (by decide))⟩
      obtain ⟨xs, xl, hx, hq⟩ := kinds_pair (n := 2) k1 hp hp' hp''
      refine ⟨p1, p'', xs, _, rfl, rfl, hx, upd_same, by rw [xl]; show _ + 2 ≤ _; omega, fun p3 hp3 => ?_⟩
      obtain ⟨a, b⟩ := hq p3 hp3
      exact ⟨s1.trans a, p3, b, rfl⟩
    rintro _ H2 ⟨s2, p2, k2, rfl⟩
    refine cutS (fun σ' H' => Same H H' ∧ ∃ p, Kinds H' p k 6 ∧ σ' = [some (V.ref e), some (V.ref p), none]) ?_ ?_
    · simp only [List.length_cons, List.length_nil, Nat.reduceAdd, List.set_cons_zero, List.set_cons_succ, gS, rVar, tC, tAsg, gName, tOp, tCB, tCons, tNil, tTup, tLst, addV, isxV, rCat]
      have he' := s2 e _ he
      refine ⟨C, _, he', hg, ⟨by omega, fun p hp => ⟨C, _, (upd_ne (ne_of_none he' hp)).trans he', hg, ⟨by omega, fun p' hp' => ⟨by omega, fun p'' hp'' => ?_⟩⟩, .inl (hj 5 (by decide))⟩⟩, .inl (hj 4 (by decide))⟩
      obtain ⟨xs, xl, hx, hq⟩ := kinds_pair (n := 4) k2 hp hp' hp''
      refine ⟨p2, p'', xs, _, rfl, rfl, hx, upd_same, by rw [xl]; show _ + 2 ≤ _; omega, fun p3 hp3 => ?_⟩
      obtain ⟨a, b⟩ := hq p3 hp3
      exact ⟨s2.trans a, p3, b, rfl⟩
    rintro _ H3 ⟨s3, p3, k3, rfl⟩
    refine cutS (fun σ' H' => Same H H' ∧ ∃ p, Kinds H' p k 8 ∧ σ' = [some (V.ref e), some (V.ref p), none]) ?_ ?_
    · simp only [List.length_cons, List.length_nil, Nat.reduceAdd, List.set_cons_zero, List.set_cons_succ, gS, rVar, tC, tAsg, gName, tOp, tCB, tCons, tNil, tTup, tLst, addV, isxV, rCat]
      have he' := s3 e _ he
      refine ⟨C, _, he', hg, ⟨by omega, fun p hp => ⟨C, _, (upd_ne (ne_of_none he' hp)).trans he', hg, ⟨by omega, fun p' hp' => ⟨by omega, fun p'' hp'' => ?_⟩⟩, .inl (hj 7 (by decide))⟩⟩, .inl (hj 6 (by decide))⟩
      obtain ⟨xs, xl, hx, hq⟩ := kinds_pair (n := 6) k3 hp hp' hp''
      refine ⟨p3, p'', xs, _, rfl, rfl, hx, upd_same, by rw [xl]; show _ + 2 ≤ _; omega, fun p3 hp3 => ?_⟩
      obtain ⟨a, b⟩ := hq p3 hp3
      exact ⟨s3.trans a, p3, b, rfl⟩
    rintro _ H4 ⟨s4, p4, k4, rfl⟩
    refine cutS (fun σ' H' => Same H H' ∧ ∃ p, Kinds H' p k 9 ∧ σ' = [some (V.ref e), some (V.ref p), none]) ?_ ?_
    · simp only [List.length_cons, List.length_nil, Nat.reduceAdd, List.set_cons_zero, List.set_cons_succ, gS, rVar, tC, tAsg, gName, tOp, tCB, tCons, tNil, tTup, tLst, addV, isxV, rCat]
      have he' := s4 e _ he
      refine ⟨C, _, he', hg, ⟨by omega, fun p hp => ⟨by omega, fun p' hp' => ?_⟩⟩, .inl (hj 8 (by decide))⟩
      obtain ⟨ts, tl, hts, htt⟩ := k4
      have s6 : Same H4 (upd (upd H4 p (HO.tup [V.str (nm9 8), V.bl (decide (8 = k))])) p' (HO.lst [V.ref p])) := (Same.updN hp).trans (Same.updN hp')
      refine ⟨p4, p', ts.map V.ref, _, rfl, rfl, s6 _ _ hts, upd_same, by rw [List.length_map, tl]; show _ + 1 ≤ _; omega, fun p'' hp'' => ?_⟩
      obtain ⟨u3, a0, a1⟩ := upd3 (o2 := HO.lst (ts.map V.ref ++ [V.ref p])) hp hp' hp''
      refine ⟨s4.trans u3, p'', Kinds.add (us := [p]) tl htt u3 upd_same fun j t e => ?_, rfl⟩
      match j, e with
      | 0, e => cases e; exact a0
      | j + 1, e => cases e
    rintro _ H5 ⟨s5, p5, k5, rfl⟩
    refine cutS (fun σ' H' => Same H H' ∧ ∃ m, H' m = some (.lst [.str (nm9 k)]) ∧ σ' = [some (V.ref e), some (V.ref p5), some (V.ref m)]) ?_ ?_
    · simp only [List.map_nil, List.length_cons, List.length_nil, List.replicate_succ, List.replicate_zero, Nat.reduceAdd, if_false, Bool.false_eq_true, List.set_cons_zero, List.set_cons_succ, gS, rVar, tC, tAsg, gName, tOp, trV, ixV, L_T, oneC, capS, tCLH, List.append_nil]
      obtain ⟨ts, tl, hts, htt⟩ := k5
      refine ⟨_, SqL.of hts, by rw [List.length_map]; omega, fun i H' acc => H' = H5 ∧ acc = if k < i then [.str (nm9 k)] else [], ⟨rfl, by rw [if_neg (by omega)]⟩, ?_, ?_, ?_⟩
      · rintro i H' acc _ ⟨rfl, _⟩
        exact ⟨SqL.of hts, C, s5 e _ he⟩
      · rintro i y H' acc hy ⟨rfl, rfl⟩
        rw [List.getElem?_map] at hy
        obtain ⟨t, et, rfl⟩ := Option.map_eq_some_iff.mp hy
        have h1 := htt i t et
        simp only [true_and]
        refine ⟨_, _, .inr (SqT.of h1), rfl, ?_⟩
        by_cases e : i = k
        · subst e
          rw [decide_eq_true rfl]
          refine iteT ⟨_, _, .inr (SqT.of h1), rfl, ?_⟩
          rw [if_neg (by omega), if_pos (by omega)]
          rfl
        · rw [decide_eq_false e]
          refine iteF ?_
          by_cases h2 : k < i
          · rw [if_pos h2, if_pos (by omega)]
          · rw [if_neg h2, if_neg (by omega)]
      · rintro H' acc ⟨rfl, rfl⟩ m hm
        rw [List.length_map, tl, if_pos hk]
        exact ⟨s5.upd hm, m, upd_same, rfl⟩
    rintro _ H6 ⟨s6, m, hm, rfl⟩
    simp only [if_true, gS, rVar, tC, tSeq, tNext, tRet, tIfS, tOp, tCB, tCons, tNil, tB2, tOr, tNot, trV, neR, sc, ixV, lenV, isxV]
    refine ⟨_, .inl (SqL.of hm), iteF ⟨C, true, s6 e _ he, hg, hv, iteF ⟨_, _, .inl (SqL.of hm), rfl, q H6 s6.toN⟩⟩⟩
-- ER.t_NoRow_NoOrder ER.t_NoRow_NoPlace ER.t_NoRow_NoGap ER.t_NoRow_NoText ER.t_NoRow_NoTimes ER.t_NoRow_Empty ER.t_NoRow_TooLong ER.t_NoRow_NoName ER.t_NoRow_NoRow ER.r_NoRow_BackError ER.g_NoRow ER.v_NoRow ER.x_NoRow
theorem DeskRes.mono {kept : KeptT} {r : List Nat} {Qs Qs' : KeptT → List Nat → Prop} {Qr Qr' : Nat → Prop} (a : ∀ k x, Qs k x → Qs' k x) (b : ∀ k, Qr k → Qr' k) (h : DeskRes kept r Qs Qr) : DeskRes kept r Qs' Qr' := by
  refine ⟨fun n => b _ (h.1 n), fun i ws g => ⟨fun n => b _ ((h.2 i ws g).1 n), fun n => ?_⟩⟩
  rcases (h.2 i ws g).2 n with ⟨e0, e1, e2, e3⟩ | ⟨e0, x, e1, e2⟩
  · exact .inl ⟨e0, e1, fun l => a _ _ (e2 l), fun l => b _ (e3 l)⟩
  · exact .inr ⟨e0, x, e1, a _ _ e2⟩
noncomputable def sp_w_said (K : PySem.W.Frag) (C : Addr) : Sp := fun vs H Q _ => match vs with
  | [.ref o, .str z] => ∃ t kept, IsDesk C H o t kept ∧ kept.length ≤ 1000 ∧ (L z).length ≤ 5000 ∧ DeskRes kept (L z) (fun kept' x => ∀ H' p, SameN (upd H t (.dK (txK kept'))) H' → H p = none → H' p = some (.tup [.str (Str.ofString "said"), .str (T x)]) → Q (.ref p) H') (fun k => k = 0 ∧ ∀ H' p, SameN H H' → H p = none → H' p = some (.tup [.str (Str.ofString "refused"), .str (Str.ofString "NoRow")]) → Q (.ref p) H')
  | _ => False
theorem ok_w_said {f : Addr} {fd : FuncData} (F : Fun K "_law_said" "_law_said" s_w_said f fd) (B : Bn mg) {c : Cs} (ER : Er K mg c) {A_FORMS A_KEEPING A_ANSWERS : Addr} (TP : Tp K w.params mg A_FORMS A_KEEPING A_ANSWERS) {C_Desk : Addr} (CF : Cf K C_Desk) (GC : Gc mg) (G_w_which : FnZ P w K mg base 1 "_law_which" P_w_which (sp_w_which K c)) (M_m_Desk_say : Md P w K mg base (CX1 P w) 3 C_Desk "say" P_m_Desk_say [] (sp_m_Desk_say K c C_Desk)) : FnOk P w K mg base CX0 4 f fd P_w_said (sp_w_said K C_Desk) := by
  refine F.ok sc_w_said (fun vs H Q E h => ?_) (fun cdv A outer s H vs Q E hr h => ?_) <;> unfold sp_w_said at h <;> split at h <;> first | exact h.elim | skip
  · rfl
  · rename_i o z
    obtain ⟨t, kept, hD, hk, hz, q⟩ := h
    refine ⟨_, (pss_one (ps_try rfl rfl (fun pn E F T => (pss_one (ps_ret (pe_tup (pa_cons pe_str (pa_cons (pe_mdX T M_m_Desk_say (hr.mono (by decide)) (qv 0) (pa_cons (qv 1) pa_nil)) pa_nil)))))) (ph_cons1Z (i := 2) rfl ER.x_BackError rfl ER.m_BackError sc_w_said.nd rfl rfl (fun a => (pss_one (ps_ret (pe_tup (pa_cons pe_str (pa_cons (pe_fnZ (xa := a) (by rfl) G_w_which ((hr.toW.mono (by decide)).mark _) (pa_cons (qv 2) pa_nil)) pa_nil)))))) ph_nil) pss_nil)), ?_⟩
    have hsz : sizeLine = 16777216 := sizeLine_eq
    simp only [L2.start, List.map_cons, List.map_nil, List.length_cons, List.length_nil, List.replicate_succ, List.replicate_zero, List.cons_append, List.nil_append, Nat.reduceAdd, Nat.reduceSub, true_and, List.set_cons_zero, List.set_cons_succ, gS, rVar, tC, tRet, tCons, tNil, tTup, tTry, tH1Z, unb, tFnZ, tMethX, List.append_nil, sp_m_Desk_say, sp_w_which]
    obtain ⟨⟨dx, ho⟩, ht⟩ := id hD
    have e2 : (clsMro K c.NoRow).contains (Value.ref c.BackError) = true := ER.r_NoRow_BackError
    refine ⟨o, dx, _, rfl, ho, rfl, t, kept, hD, hk, hz, DeskRes.mono ?_ ?_ q⟩
    · exact fun kept' x qq H' s' => ⟨by omega, fun p hp => qq _ p (s'.upd hp).toN (upd_free (s'.free hp)).1 upd_same⟩
    rintro k ⟨rfl, qq⟩ H' s'
    refine ⟨ER.x_NoRow, (if_pos e2).symm ▸ fun a ha => ⟨c.NoRow, 8, upd_same, ER.g_NoRow, ER.v_NoRow, by decide, fun j hj => ?_, fun H2 s2 => ⟨by omega, fun p hp => qq _ p (((s'.upd ha).toN.trans s2).upd hp) (((s'.upd ha).toN.trans s2).free hp) upd_same⟩⟩⟩
    match j, hj with
    | 0, _ => exact ER.t_NoRow_NoOrder
    | 1, _ => exact ER.t_NoRow_NoPlace
    | 2, _ => exact ER.t_NoRow_NoGap
    | 3, _ => exact ER.t_NoRow_NoText
    | 4, _ => exact ER.t_NoRow_NoTimes
    | 5, _ => exact ER.t_NoRow_Empty
    | 6, _ => exact ER.t_NoRow_TooLong
    | 7, _ => exact ER.t_NoRow_NoName
    | 8, _ => exact ER.t_NoRow_NoRow
noncomputable def sp_w_cell_at (K : PySem.W.Frag) : Sp := fun vs H Q _ => match vs with
  | [.ref a, .int k] => ∃ ns : List Int, SqL K H a (ns.map V.int) ∧ 0 ≤ k ∧ Q (.int (cellAt ns k)) H
  | _ => False
theorem ok_w_cell_at {f : Addr} {fd : FuncData} (F : Fun K "_law_cell_at" "_law_cell_at" s_w_cell_at f fd) (B : Bn mg) {c : Cs} (ER : Er K mg c) {A_FORMS A_KEEPING A_ANSWERS : Addr} (TP : Tp K w.params mg A_FORMS A_KEEPING A_ANSWERS) {C_Desk : Addr} (CF : Cf K C_Desk) (GC : Gc mg)  : FnOk P w K mg base CX0 1 f fd P_w_cell_at (sp_w_cell_at K) := by
  refine F.pure sc_w_cell_at (fun vs H Q E h => ?_) (fun cdv A outer s H vs Q E hr h => ?_) <;> unfold sp_w_cell_at at h <;> split at h <;> first | exact h.elim | skip
  · rfl
  · rename_i a k
    obtain ⟨ns, hS, hk, q⟩ := h
    refine ⟨_, (pss_cons (ps_if (pt_c2 o_lt (qv 1) (pe_callB (c_lenK (K := K) rfl) (by rfl) B.len bt_len (pa_cons (qv 0) pa_nil))) (pss_one (ps_ret (pe_ix (i_ixK (K := K) rfl) (qv 0) (qv 1) (fun _ _ => rfl)))) pss_nil)
        (pss_one (ps_ret pe_int))), ?_⟩
    simp only [L2.start, List.map_cons, List.map_nil, List.length_cons, List.length_nil, List.replicate_zero, List.cons_append, List.nil_append, Nat.reduceAdd, Nat.reduceSub, decide_eq_true_eq, gS, rVar, tC, tSeq, tNext, tRet, tIfS, tOp, tCB, tCons, tNil, tB2, ltV, ixV, lenV]
    refine ⟨_, .inl hS, ?_⟩
    unfold cellAt at q
    rw [List.length_map]
    refine ite2 (fun h1 => ?_) (fun h1 => ?_)
    · rw [if_pos h1] at q
      exact ⟨_, _, .inl hS, atI_getD (.int 0) hk (by simpa using h1), Same.refl _, by rw [getD_int]; exact q⟩
    · rw [if_neg h1] at q
      exact ⟨Same.refl _, q⟩
noncomputable def sp_w_mixed (K : PySem.W.Frag) : Sp := fun vs H Q _ => match vs with
  | [.int _, .int _, .int m] => 0 < m ∧ ∀ r : Int, 0 ≤ r → r < m → Q (.int r) H
  | _ => False
theorem ok_w_mixed {f : Addr} {fd : FuncData} (F : Fun K "_law_mixed" "_law_mixed" s_w_mixed f fd) (B : Bn mg) {c : Cs} (ER : Er K mg c) {A_FORMS A_KEEPING A_ANSWERS : Addr} (TP : Tp K w.params mg A_FORMS A_KEEPING A_ANSWERS) {C_Desk : Addr} (CF : Cf K C_Desk) (GC : Gc mg)  : FnOk P w K mg base CX0 1 f fd P_w_mixed (sp_w_mixed K) := by
  refine F.pure sc_w_mixed (fun vs H Q E h => ?_) (fun cdv A outer s H vs Q E hr h => ?_) <;> unfold sp_w_mixed at h <;> split at h <;> first | exact h.elim | skip
  · rfl
  · rename_i c t m
    obtain ⟨hm, q⟩ := h
    refine ⟨_, (pss_cons (ps_cut (ps_set (i := 3) sc_w_mixed.nd rfl (by first | exact Or.inl rfl | exact Or.inr rfl) (pe_tup (pa_cons pe_int (pa_cons pe_int (pa_cons pe_int (pa_cons pe_int (pa_cons pe_int (pa_cons pe_int (pa_cons pe_int (pa_cons pe_int pa_nil)))))))))))
        (pss_cons (ps_cut (ps_set (i := 4) sc_w_mixed.nd rfl (by first | exact Or.inl rfl | exact Or.inr rfl) (pe_tup (pa_cons pe_int (pa_cons pe_int (pa_cons pe_int (pa_cons pe_int (pa_cons pe_int (pa_cons pe_int (pa_cons pe_int (pa_cons pe_int pa_nil)))))))))))
        (pss_one (ps_ret (pe_op o_mod (pe_op o_mod (pe_op o_mul (pe_op o_add (pe_op o_mod (qv 0) (pe_op o_pow pe_int pe_int)) pe_int) (pe_ix (i_ixK (K := K) rfl) (qv 3) (pe_op o_mod (qv 1) pe_int) (fun _ _ => rfl))) (pe_ix (i_ixK (K := K) rfl) (qv 4) (pe_op o_mod (qv 1) pe_int) (fun _ _ => rfl))) (qv 2)))))), ?_⟩
    refine cutS (fun σ' H' => ∃ p, Same H H' ∧ H' p = some (.tup (byL.map V.int)) ∧ σ' = [some (V.int c), some (V.int t), some (V.int m), some (V.ref p), none]) ?_ ?_
    · simp only [L2.start, List.map_cons, List.map_nil, List.length_cons, List.length_nil, List.replicate_succ, List.replicate_zero, List.cons_append, List.nil_append, Nat.reduceAdd, Nat.reduceSub, List.set_cons_zero, List.set_cons_succ, tC, tAsg, gName, tCons, tNil, tTup]
      exact ⟨by decide, fun p hp => ⟨p, Same.updN hp, upd_same, rfl⟩⟩
    rintro _ H1 ⟨p, sm1, h1, rfl⟩
    refine cutS (fun σ' H' => ∃ p', Same H H' ∧ H' p = some (.tup (byL.map V.int)) ∧ H' p' = some (.tup (primeL.map V.int)) ∧ σ' = [some (V.int c), some (V.int t), some (V.int m), some (V.ref p), some (V.ref p')]) ?_ ?_
    · simp only [List.length_cons, List.length_nil, Nat.reduceAdd, List.set_cons_zero, List.set_cons_succ, tC, tAsg, gName, tCons, tNil, tTup]
      exact ⟨by decide, fun p' hp' => ⟨p', sm1.upd hp', (upd_ne (ne_of_none h1 hp')).trans h1, upd_same, rfl⟩⟩
    rintro _ H2 ⟨p', sm2, h1, h2, rfl⟩
    simp only [Int.reduceLT, true_and, gS, rVar, tC, tRet, tOp, addV, mulV, int2, ixV]
    have t0 : 0 ≤ t % 8 := Int.emod_nonneg _ (by decide)
    have t1 : t % 8 < 8 := Int.emod_lt_of_pos _ (by decide)
    have c0 : 0 ≤ c % 1000000000000000000 := Int.emod_nonneg _ (by decide)
    have c1 : c % 1000000000000000000 < 1000000000000000000 := Int.emod_lt_of_pos _ (by decide)
    have e18 : (10 : Int) ^ (18 : Int).toNat = 1000000000000000000 := by decide
    rw [e18]
    exact ⟨⟨by decide, by decide, by decide⟩, by decide, _, _, .inr (SqT.of h1), atI_int (l := byL) t0 t1, .inl ⟨by omega, by omega⟩, _, _, .inr (SqT.of h2), atI_int (l := primeL) t0 t1, prime_pos t0 t1, hm, sm2, q _ (Int.emod_nonneg _ (by omega)) (Int.emod_lt_of_pos _ hm)⟩
noncomputable def sp_w_signs (K : PySem.W.Frag) : Sp := fun vs H Q _ => match vs with
  | [] => Q (.str (T signs)) H
  | _ => False
theorem ok_w_signs {f : Addr} {fd : FuncData} (F : Fun K "_law_signs" "_law_signs" s_w_signs f fd) (B : Bn mg) {c : Cs} (ER : Er K mg c) {A_FORMS A_KEEPING A_ANSWERS : Addr} (TP : Tp K w.params mg A_FORMS A_KEEPING A_ANSWERS) {C_Desk : Addr} (CF : Cf K C_Desk) (GC : Gc mg)  : FnOk P w K mg base CX0 1 f fd P_w_signs (sp_w_signs K) := by
  refine F.pure sc_w_signs (fun vs H Q E h => ?_) (fun cdv A outer s H vs Q E hr h => ?_) <;> unfold sp_w_signs at h <;> split at h <;> first | exact h.elim | skip
  · rfl
  · refine ⟨_, (pss_cons (ps_set (i := 0) sc_w_signs.nd rfl (by first | exact Or.inl rfl | exact Or.inr rfl) pe_str)
        (pss_one (ps_ret (pe_op o_add (qv 0) pe_str)))), ?_⟩
    simp only [L2.start, List.map_nil, List.length_cons, List.length_nil, List.replicate_succ, List.replicate_zero, List.nil_append, Nat.reduceAdd, Nat.reduceSub, List.set_cons_zero, gS, rVar, tC, tSeq, tAsg, gName, tRet, tOp, addV]
    refine ⟨by decide +kernel, Same.refl _, ?_⟩
    have e : L (Str.ofString " !\"#$&'()*+,-./0123456789:;<=>?@ABCDEFGHIJKLMNOPQRSTUVWXYZ[\\]^_`") ++ L (Str.ofString "abcdefghijklmnopqrstuvwxyz{|}~") = signs := by decide +kernel
    rw [e]
    exact h
noncomputable def sp_w_is_said (K : PySem.W.Frag) : Sp := fun vs H Q _ => match vs with
  | [.ref p, .str x] => ∃ y, H p = some (.tup [.str (Str.ofString "said"), .str y]) ∧ Q (.bl (decide (L y = L x))) H
  | _ => False
theorem ok_w_is_said {f : Addr} {fd : FuncData} (F : Fun K "_law_is_said" "_law_is_said" s_w_is_said f fd) (B : Bn mg) {c : Cs} (ER : Er K mg c) {A_FORMS A_KEEPING A_ANSWERS : Addr} (TP : Tp K w.params mg A_FORMS A_KEEPING A_ANSWERS) {C_Desk : Addr} (CF : Cf K C_Desk) (GC : Gc mg)  : FnOk P w K mg base CX0 1 f fd P_w_is_said (sp_w_is_said K) := by
  refine F.ok sc_w_is_said (fun vs H Q E h => ?_) (fun cdv A outer s H vs Q E hr h => ?_) <;> unfold sp_w_is_said at h <;> split at h <;> first | exact h.elim | skip
  · rfl
  · rename_i p x
    obtain ⟨y, hp, q⟩ := h
    refine ⟨_, (pss_one (ps_ret (pe_and2 (pe_c2 o_eq (pe_ix (i_ixK (K := K) rfl) (qv 0) pe_int (fun _ _ => rfl)) pe_str) (pe_and2 (pe_callB (c_isiK (K := K) rfl) (by rfl) B.isinstance bt_isinstance (pa_cons (pe_ix (i_ixK (K := K) rfl) (qv 0) pe_int (fun _ _ => rfl)) (pa_cons (pe_bltn (v := .ty "str") rfl B.str bt_str rfl) pa_nil))) (pe_one (pe_c2 o_eq (pe_ix (i_ixK (K := K) rfl) (qv 0) pe_int (fun _ _ => rfl)) (qv 1))))))), ?_⟩
    simp only [L2.start, List.map_cons, List.map_nil, List.length_cons, List.length_nil, List.replicate_zero, Nat.reduceAdd, Nat.reduceSub, gS, rVar, tC, tRet, tOp, tCB, tCons, tNil, vAnd, eqR, sc, ixV, isiV, isS, List.append_nil]
    refine ⟨_, _, .inr (SqT.of hp), rfl, ?_⟩
    simp only [if_true, decide_true]
    refine ⟨_, _, .inr (SqT.of hp), rfl, ?_⟩
    simp only [if_true, if_false, String.reduceEq]
    refine ⟨_, _, .inr (SqT.of hp), rfl, ?_⟩
    simp only [L2.start]
    exact q
noncomputable def abc : List Nat := (List.range 26).map (97 + ·)
noncomputable def sp_w_names_by (K : PySem.W.Frag) : Sp := fun vs H Q _ => match vs with
  | [.int _] => ∀ p H' (ns : List (List Nat)), Same H H' → H p = none → H' p = some (.lst (ns.map fun n => V.str (T n))) → ns.length = 4 → (∀ n ∈ ns, NameF n) → Q (.ref p) H'
  | _ => False
theorem ok_w_names_by {f : Addr} {fd : FuncData} (F : Fun K "_law_names_by" "_law_names_by" s_w_names_by f fd) (B : Bn mg) {c : Cs} (ER : Er K mg c) {A_FORMS A_KEEPING A_ANSWERS : Addr} (TP : Tp K w.params mg A_FORMS A_KEEPING A_ANSWERS) {C_Desk : Addr} (CF : Cf K C_Desk) (GC : Gc mg) (G_w_mixed : Fn P w K mg base 1 "_law_mixed" P_w_mixed (sp_w_mixed K)) : FnOk P w K mg base CX0 2 f fd P_w_names_by (sp_w_names_by K) := by
  refine F.ok sc_w_names_by (fun vs H Q E h => ?_) (fun cdv A outer s H vs Q E hr h => ?_) <;> unfold sp_w_names_by at h <;> split at h <;> first | exact h.elim | skip
  · rfl
  · rename_i cl
    refine ⟨_, (pss_cons (ps_set (i := 1) sc_w_names_by.nd rfl (by first | exact Or.inl rfl | exact Or.inr rfl) pe_str)
        (pss_cons (ps_set (i := 2) sc_w_names_by.nd rfl (by first | exact Or.inl rfl | exact Or.inr rfl) (pe_op o_add pe_int (pe_fn G_w_mixed (hr.mono (by decide)) (pa_cons (qv 0) (pa_cons pe_int (pa_cons pe_int pa_nil))))))
        (pss_cons (ps_set (i := 3) sc_w_names_by.nd rfl (by first | exact Or.inl rfl | exact Or.inr rfl) (pe_fn G_w_mixed (hr.mono (by decide)) (pa_cons (qv 0) (pa_cons pe_int (pa_cons (qv 2) pa_nil)))))
        (pss_cons (ps_set (i := 4) sc_w_names_by.nd rfl (by first | exact Or.inl rfl | exact Or.inr rfl) (pe_ix (i_ixK (K := K) rfl) (qv 1) (pe_fn G_w_mixed (hr.mono (by decide)) (pa_cons (qv 0) (pa_cons pe_int (pa_cons pe_int pa_nil)))) (fun _ _ => rfl)))
        (pss_cons (ps_cut (ps_set (i := 5) sc_w_names_by.nd rfl (by first | exact Or.inl rfl | exact Or.inr rfl) (pe_lst pa_nil)))
        (pss_cons (ps_rng1 PassesOwn.never rfl B.range (pa_cons pe_int pa_nil) (pg_name (i := 6) sc_w_names_by.nd rfl (by first | exact Or.inl rfl | exact Or.inr rfl)) (pss_cons (ps_cut (ps_set (i := 7) sc_w_names_by.nd rfl (by first | exact Or.inl rfl | exact Or.inr rfl) (pe_ix (i_ixK (K := K) rfl) (qv 1) (pe_op o_mod (pe_op o_add (pe_fn G_w_mixed (hr.mono (by decide)) (pa_cons (qv 0) (pa_cons pe_int (pa_cons pe_int pa_nil)))) (qv 6)) pe_int) (fun _ _ => rfl))))
        (pss_one (ps_expr (pe_bmK (K := K) rfl PySem.F.plainAttrs_list PySem.F.slot_list_append PySem.F.type_list_append mt_append (qv 5) (pa_cons (pe_op o_add (pe_op o_add (pe_op o_mul (qv 4) (qv 3)) (qv 7)) (pe_op o_mul (qv 4) (pe_op o_sub (pe_op o_sub (qv 2) pe_int) (qv 3)))) pa_nil))))))
        (pss_one (ps_ret (qv 5))))))))), ?_⟩
    have hsz : sizeLine = 16777216 := sizeLine_eq
    have e1 : L (Str.ofString "abcdefghijklmnopqrstuvwxyz") = abc := by decide +kernel
    have el : abc.length = 26 := rfl
    have ea : ∀ j : Nat, j < 26 → abc.getD j 0 = 97 + j := by decide
    simp only [L2.start, List.map_cons, List.map_nil, List.length_cons, List.length_nil, List.replicate_succ, List.replicate_zero, List.cons_append, List.nil_append, Nat.reduceAdd, Nat.reduceSub, Int.reduceLT, true_and, List.set_cons_zero, List.set_cons_succ, gS, rVar, tC, tSeq, tAsg, gName, tOp, tCons, tNil, tFn, addV, ixV, sp_w_mixed, e1]
    refine fun r0 a0 b0 => ⟨by omega, fun r1 a1 b1 r2 a2 b2 => ⟨by rw [el]; omega, _, atI_getD 0 a2 (by rw [el]; omega), ?_⟩⟩
    obtain ⟨p1, rfl⟩ : ∃ k : Nat, r1 = (k : Int) := ⟨r1.toNat, by omega⟩
    obtain ⟨j2, rfl⟩ : ∃ k : Nat, r2 = (k : Int) := ⟨r2.toNat, by omega⟩
    rw [Int.toNat_natCast, ea j2 (by omega)]
    refine cutS (fun σ' H' => Same H H' ∧ ∃ p, H p = none ∧ H' p = some (.lst []) ∧ σ' = [some (V.int cl), some (V.str (Str.ofString "abcdefghijklmnopqrstuvwxyz")), some (V.int (1 + r0)), some (V.int (p1 : Int)), some (V.str (T [97 + j2])), some (V.ref p), none, none]) ?_ ?_
    · simp only [List.length_nil, List.set_cons_zero, List.set_cons_succ, tAsg, gName, tNil, tLst]
      exact ⟨by omega, fun p hp => ⟨Same.updN hp, p, hp, upd_same, rfl⟩⟩
    rintro _ H1 ⟨s1, p, hp0, hp, rfl⟩
    simp only [rVar, tC, tSeq, tRet, tCons, tNil, tRng, forR]
    refine ⟨by decide, fun i σ' H' => Same H H' ∧ (∃ x y, σ' = [some (V.int cl), some (V.str (Str.ofString "abcdefghijklmnopqrstuvwxyz")), some (V.int (1 + r0)), some (V.int (p1 : Int)), some (V.str (T [97 + j2])), some (V.ref p), x, y]) ∧ ∃ ns : List (List Nat), ns.length = i ∧ (∀ n ∈ ns, NameF n) ∧ H' p = some (.lst (ns.map fun n => V.str (T n))), ⟨s1, ⟨_, _, rfl⟩, [], rfl, by simp, hp⟩, ?_, ?_⟩
    · rintro i σ' H2 hi ⟨s2, ⟨x, y, rfl⟩, ns, nl, nf, h2⟩
      refine cutS (fun σ' H' => H' = H2 ∧ ∃ j3 : Nat, j3 < 26 ∧ σ' = [some (V.int cl), some (V.str (Str.ofString "abcdefghijklmnopqrstuvwxyz")), some (V.int (1 + r0)), some (V.int (p1 : Int)), some (V.str (T [97 + j2])), some (V.ref p), some (V.int (0 + (i : Int))), some (V.str (T [97 + j3]))]) ?_ ?_
      · simp only [Int.reduceLT, true_and, List.set_cons_zero, List.set_cons_succ, gS, rVar, tC, tAsg, gName, tOp, tCons, tNil, tFn, addV, int2, ixV, sp_w_mixed, modV, e1]
        intro r3 a3 b3
        have m0 : 0 ≤ (r3 + (0 + (i : Int))) % 26 := Int.emod_nonneg _ (by decide)
        have m1 : (r3 + (0 + (i : Int))) % 26 < 26 := Int.emod_lt_of_pos _ (by decide)
        refine ⟨by rw [el]; omega, _, atI_getD 0 m0 (by rw [el]; omega), ((r3 + (0 + (i : Int))) % 26).toNat, by omega, ?_⟩
        rw [ea _ (by omega)]
      rintro _ _ ⟨rfl, j3, hj3, rfl⟩
      simp only [List.length_cons, List.length_nil, Nat.reduceAdd, true_and, String.reduceEq, gS, rVar, tC, tDrop, tOp, tCons, tNil, addV, mulV, int2', tBM, tyV, L_T, rAppend, subV]
      have r1 : ∀ (m b : Nat), rep m [b] = List.replicate m b := fun m b => by
        unfold rep
        induction m with
        | zero => rfl
        | succ m ih => rw [List.replicate_succ, List.flatten_cons, ih]; rfl
      rw [r1, r1]
      have q1 : ((p1 : Int)).toNat = p1 := Int.toNat_natCast _
      rw [q1]
      have q2 : p1 + (1 + r0 - 1 - (p1 : Int)).toNat < 8 := by omega
      refine ⟨.inl ⟨_, SqL.of h2⟩, ⟨by omega, by omega, by omega⟩, by rw [List.length_replicate]; omega, ⟨by omega, by omega, by omega⟩, by rw [List.length_append, List.length_replicate, List.length_replicate]; simp only [List.length_singleton]; omega, p, _, _, rfl, rfl, h2, by rw [List.length_map, nl]; omega, fun b o hb => ?_, ⟨_, _, rfl⟩, ns ++ [List.replicate p1 (97 + j2) ++ [97 + j3] ++ List.replicate (1 + r0 - 1 - (p1 : Int)).toNat (97 + j2)], by rw [List.length_append, nl]; rfl, fun n hn => ?_, by rw [upd_same, List.map_append]; rfl⟩
      · rw [upd_ne (ne_of_none hb hp0)]
        exact s2 b o hb
      · rcases List.mem_append.mp hn with hn | hn
        · exact nf n hn
        · rw [List.mem_singleton.mp hn]
          exact ⟨p1, _, 97 + j2, 97 + j3, by simp, q2, by omega, by omega, by omega, by omega⟩
    · rintro σ' H2 ⟨s2, ⟨x, y, rfl⟩, ns, nl, nf, h2⟩
      simp only [gS]
      exact h p H2 ns s2 hp0 h2 nl nf
noncomputable def BadR (r : List Nat) : Prop := r.length ≤ 100 ∧ ¬ ∃ i ws, GoodRow r i ws
noncomputable def bW1 (n : List Nat) : List (List (List Nat)) := [[[]], [[], []], [cd "keep"], [cd "keep", n], [cd "load", n], [cd "ahead", n], [cd "count", n], [cd "find", n]]
noncomputable def bW2 (n : List Nat) : List (List (List Nat)) := [[cd "cut", n], [cd "drop"], [cd "drop", n, []], [cd "drop", n, cd "x"], [cd "text"], [cd "text", n, []]]
noncomputable def bW3 (n : List Nat) : List (List (List Nat)) := [[cd "pack"], [cd "pack", n, cd "a"], [cd "kinds"], [cd "kinds", n, cd "1"], [cd "lone"], [cd "lone", n, cd "b"]]
noncomputable def bW4 (n : List Nat) : List (List (List Nat)) := [[cd "off", n], [cd "off", n, cd "1", []], [cd "off", n, cd "1", cd "1"], [cd "often", n], [cd "often"], [cd "near"]]
noncomputable def bW5 (n : List Nat) : List (List (List Nat)) := [[cd "often", n, cd "2", cd "x"], [cd "near", n], [cd "near", n, cd "1"], [cd "both"], [cd "both", n]]
noncomputable def bW6 (n : List Nat) : List (List (List Nat)) := [[cd "both", n, n, []], [cd "Keep", n, cd "a"], [cd "KINDS", n], [cd "say", n]]
noncomputable def bW7 (n : List Nat) : List (List (List Nat)) := [[cd "texts", n], [cd "kind", n], [n], [n, cd "keep", cd "a"], [cd "off", [], n]]
noncomputable def badB (w : List Nat) (n : Nat) : Bool := match frmIx w with
  | none => true
  | some 0 => decide (n < 3)
  | some 1 => decide (n ≠ 2)
  | some 2 => decide (n ≠ 3)
  | some 3 => decide (n < 4)
  | some _ => decide (n ≠ 3)
theorem badB_W {w : List Nat} {n i : Nat} {num : Prop} (h : badB w n = true) (hi : frmIx w = some i) : badW i n num := by
  unfold badB at h
  rw [hi] at h
  match i, h with
  | 0, h => exact .inl ⟨rfl, of_decide_eq_true h⟩
  | 1, h => exact .inr (.inl ⟨rfl, of_decide_eq_true h⟩)
  | 2, h => exact .inr (.inr (.inl ⟨rfl, .inl (of_decide_eq_true h)⟩))
  | 3, h => exact .inr (.inr (.inr (.inl ⟨rfl, .inl (of_decide_eq_true h)⟩)))
  | i + 4, h => exact .inr (.inr (.inr (.inr ⟨by omega, of_decide_eq_true h⟩)))
theorem badB_one (w : List Nat) : badB w 1 = true := by
  unfold badB
  split <;> rfl
theorem bad_of {w : List Nat} {r : List (List Nat)} (hl : (jn (w :: r)).length ≤ 100) (hb : NoB (w :: r)) (h : badB w (r.length + 1) = true) : BadR (jn (w :: r)) := ⟨hl, bad_row (by simp) hb fun i hi => badB_W h hi⟩
noncomputable def bW (n : List Nat) : List (List (List Nat)) := bW1 n ++ bW2 n ++ bW3 n ++ bW4 n ++ bW5 n ++ bW6 n ++ bW7 n
theorem bW_len (n : List Nat) : (bW n).length = 40 := rfl
theorem bad_W1 {n : List Nat} (h : NameF n) : ∀ ws ∈ bW1 n, BadR (jn ws) := by
  have hb := h.is.noB
  have hl := h.is.2.1
  have l0 : (cd "ahead").length = 5 := by decide +kernel
  have b0 : 32 ∉ cd "ahead" := by decide +kernel
  have l1 : (cd "count").length = 5 := by decide +kernel
  have b1 : 32 ∉ cd "count" := by decide +kernel
  have l2 : (cd "find").length = 4 := by decide +kernel
  have b2 : 32 ∉ cd "find" := by decide +kernel
  have l3 : (cd "keep").length = 4 := by decide +kernel
  have b3 : 32 ∉ cd "keep" := by decide +kernel
  have l4 : (cd "load").length = 4 := by decide +kernel
  have b4 : 32 ∉ cd "load" := by decide +kernel
  have b00 : (32 : Nat) ∉ ([] : List Nat) := by simp
  unfold bW1
  simp only [List.mem_cons, List.not_mem_nil, or_false]
  rintro ws (rfl | rfl | rfl | rfl | rfl | rfl | rfl | rfl)
  · exact bad_of (by simp only [jn, List.length_nil]; omega) (by intro w hw; simp only [List.mem_cons, List.not_mem_nil, or_false] at hw; rcases hw with rfl  <;> assumption) (show badB [] 1 = true by decide +kernel)
  · exact bad_of (by simp only [jn, List.length_append, List.length_cons, List.length_nil]; omega) (by intro w hw; simp only [List.mem_cons, List.not_mem_nil, or_false] at hw; rcases hw with rfl | rfl  <;> assumption) (show badB [] 2 = true by decide +kernel)
  · exact bad_of (by simp only [jn]; omega) (by intro w hw; simp only [List.mem_cons, List.not_mem_nil, or_false] at hw; rcases hw with rfl  <;> assumption) (show badB (cd "keep") 1 = true by decide +kernel)
  · exact bad_of (by simp only [jn, List.length_append, List.length_cons]; omega) (by intro w hw; simp only [List.mem_cons, List.not_mem_nil, or_false] at hw; rcases hw with rfl | rfl  <;> assumption) (show badB (cd "keep") 2 = true by decide +kernel)
  · exact bad_of (by simp only [jn, List.length_append, List.length_cons]; omega) (by intro w hw; simp only [List.mem_cons, List.not_mem_nil, or_false] at hw; rcases hw with rfl | rfl  <;> assumption) (show badB (cd "load") 2 = true by decide +kernel)
  · exact bad_of (by simp only [jn, List.length_append, List.length_cons]; omega) (by intro w hw; simp only [List.mem_cons, List.not_mem_nil, or_false] at hw; rcases hw with rfl | rfl  <;> assumption) (show badB (cd "ahead") 2 = true by decide +kernel)
  · exact bad_of (by simp only [jn, List.length_append, List.length_cons]; omega) (by intro w hw; simp only [List.mem_cons, List.not_mem_nil, or_false] at hw; rcases hw with rfl | rfl  <;> assumption) (show badB (cd "count") 2 = true by decide +kernel)
  · exact bad_of (by simp only [jn, List.length_append, List.length_cons]; omega) (by intro w hw; simp only [List.mem_cons, List.not_mem_nil, or_false] at hw; rcases hw with rfl | rfl  <;> assumption) (show badB (cd "find") 2 = true by decide +kernel)
theorem bad_W2 {n : List Nat} (h : NameF n) : ∀ ws ∈ bW2 n, BadR (jn ws) := by
  have hb := h.is.noB
  have hl := h.is.2.1
  have l0 : (cd "cut").length = 3 := by decide +kernel
  have b0 : 32 ∉ cd "cut" := by decide +kernel
  have l1 : (cd "drop").length = 4 := by decide +kernel
  have b1 : 32 ∉ cd "drop" := by decide +kernel
  have l2 : (cd "text").length = 4 := by decide +kernel
  have b2 : 32 ∉ cd "text" := by decide +kernel
  have l3 : (cd "x").length = 1 := by decide +kernel
  have b3 : 32 ∉ cd "x" := by decide +kernel
  have b00 : (32 : Nat) ∉ ([] : List Nat) := by simp
  unfold bW2
  simp only [List.mem_cons, List.not_mem_nil, or_false]
  rintro ws (rfl | rfl | rfl | rfl | rfl | rfl)
  · exact bad_of (by simp only [jn, List.length_append, List.length_cons]; omega) (by intro w hw; simp only [List.mem_cons, List.not_mem_nil, or_false] at hw; rcases hw with rfl | rfl  <;> assumption) (show badB (cd "cut") 2 = true by decide +kernel)
  · exact bad_of (by simp only [jn]; omega) (by intro w hw; simp only [List.mem_cons, List.not_mem_nil, or_false] at hw; rcases hw with rfl  <;> assumption) (show badB (cd "drop") 1 = true by decide +kernel)
  · exact bad_of (by simp only [jn, List.length_append, List.length_cons, List.length_nil]; omega) (by intro w hw; simp only [List.mem_cons, List.not_mem_nil, or_false] at hw; rcases hw with rfl | rfl | rfl  <;> assumption) (show badB (cd "drop") 3 = true by decide +kernel)
  · exact bad_of (by simp only [jn, List.length_append, List.length_cons]; omega) (by intro w hw; simp only [List.mem_cons, List.not_mem_nil, or_false] at hw; rcases hw with rfl | rfl | rfl  <;> assumption) (show badB (cd "drop") 3 = true by decide +kernel)
  · exact bad_of (by simp only [jn]; omega) (by intro w hw; simp only [List.mem_cons, List.not_mem_nil, or_false] at hw; rcases hw with rfl  <;> assumption) (show badB (cd "text") 1 = true by decide +kernel)
  · exact bad_of (by simp only [jn, List.length_append, List.length_cons, List.length_nil]; omega) (by intro w hw; simp only [List.mem_cons, List.not_mem_nil, or_false] at hw; rcases hw with rfl | rfl | rfl  <;> assumption) (show badB (cd "text") 3 = true by decide +kernel)
theorem bad_W3 {n : List Nat} (h : NameF n) : ∀ ws ∈ bW3 n, BadR (jn ws) := by
  have hb := h.is.noB
  have hl := h.is.2.1
  have l0 : (cd "1").length = 1 := by decide +kernel
  have b0 : 32 ∉ cd "1" := by decide +kernel
  have l1 : (cd "a").length = 1 := by decide +kernel
  have b1 : 32 ∉ cd "a" := by decide +kernel
  have l2 : (cd "b").length = 1 := by decide +kernel
  have b2 : 32 ∉ cd "b" := by decide +kernel
  have l3 : (cd "kinds").length = 5 := by decide +kernel
  have b3 : 32 ∉ cd "kinds" := by decide +kernel
  have l4 : (cd "lone").length = 4 := by decide +kernel
  have b4 : 32 ∉ cd "lone" := by decide +kernel
  have l5 : (cd "pack").length = 4 := by decide +kernel
  have b5 : 32 ∉ cd "pack" := by decide +kernel
  have b00 : (32 : Nat) ∉ ([] : List Nat) := by simp
  unfold bW3
  simp only [List.mem_cons, List.not_mem_nil, or_false]
  rintro ws (rfl | rfl | rfl | rfl | rfl | rfl)
  · exact bad_of (by simp only [jn]; omega) (by intro w hw; simp only [List.mem_cons, List.not_mem_nil, or_false] at hw; rcases hw with rfl  <;> assumption) (show badB (cd "pack") 1 = true by decide +kernel)
  · exact bad_of (by simp only [jn, List.length_append, List.length_cons]; omega) (by intro w hw; simp only [List.mem_cons, List.not_mem_nil, or_false] at hw; rcases hw with rfl | rfl | rfl  <;> assumption) (show badB (cd "pack") 3 = true by decide +kernel)
  · exact bad_of (by simp only [jn]; omega) (by intro w hw; simp only [List.mem_cons, List.not_mem_nil, or_false] at hw; rcases hw with rfl  <;> assumption) (show badB (cd "kinds") 1 = true by decide +kernel)
  · exact bad_of (by simp only [jn, List.length_append, List.length_cons]; omega) (by intro w hw; simp only [List.mem_cons, List.not_mem_nil, or_false] at hw; rcases hw with rfl | rfl | rfl  <;> assumption) (show badB (cd "kinds") 3 = true by decide +kernel)
  · exact bad_of (by simp only [jn]; omega) (by intro w hw; simp only [List.mem_cons, List.not_mem_nil, or_false] at hw; rcases hw with rfl  <;> assumption) (show badB (cd "lone") 1 = true by decide +kernel)
  · exact bad_of (by simp only [jn, List.length_append, List.length_cons]; omega) (by intro w hw; simp only [List.mem_cons, List.not_mem_nil, or_false] at hw; rcases hw with rfl | rfl | rfl  <;> assumption) (show badB (cd "lone") 3 = true by decide +kernel)
theorem bad_W4 {n : List Nat} (h : NameF n) : ∀ ws ∈ bW4 n, BadR (jn ws) := by
  have hb := h.is.noB
  have hl := h.is.2.1
  have l0 : (cd "1").length = 1 := by decide +kernel
  have b0 : 32 ∉ cd "1" := by decide +kernel
  have l1 : (cd "near").length = 4 := by decide +kernel
  have b1 : 32 ∉ cd "near" := by decide +kernel
  have l2 : (cd "off").length = 3 := by decide +kernel
  have b2 : 32 ∉ cd "off" := by decide +kernel
  have l3 : (cd "often").length = 5 := by decide +kernel
  have b3 : 32 ∉ cd "often" := by decide +kernel
  have b00 : (32 : Nat) ∉ ([] : List Nat) := by simp
  unfold bW4
  simp only [List.mem_cons, List.not_mem_nil, or_false]
  rintro ws (rfl | rfl | rfl | rfl | rfl | rfl)
  · exact bad_of (by simp only [jn, List.length_append, List.length_cons]; omega) (by intro w hw; simp only [List.mem_cons, List.not_mem_nil, or_false] at hw; rcases hw with rfl | rfl  <;> assumption) (show badB (cd "off") 2 = true by decide +kernel)
  · exact bad_of (by simp only [jn, List.length_append, List.length_cons, List.length_nil]; omega) (by intro w hw; simp only [List.mem_cons, List.not_mem_nil, or_false] at hw; rcases hw with rfl | rfl | rfl | rfl  <;> assumption) (show badB (cd "off") 4 = true by decide +kernel)
  · exact bad_of (by simp only [jn, List.length_append, List.length_cons]; omega) (by intro w hw; simp only [List.mem_cons, List.not_mem_nil, or_false] at hw; rcases hw with rfl | rfl | rfl | rfl  <;> assumption) (show badB (cd "off") 4 = true by decide +kernel)
  · exact bad_of (by simp only [jn, List.length_append, List.length_cons]; omega) (by intro w hw; simp only [List.mem_cons, List.not_mem_nil, or_false] at hw; rcases hw with rfl | rfl  <;> assumption) (show badB (cd "often") 2 = true by decide +kernel)
  · exact bad_of (by simp only [jn]; omega) (by intro w hw; simp only [List.mem_cons, List.not_mem_nil, or_false] at hw; rcases hw with rfl  <;> assumption) (show badB (cd "often") 1 = true by decide +kernel)
  · exact bad_of (by simp only [jn]; omega) (by intro w hw; simp only [List.mem_cons, List.not_mem_nil, or_false] at hw; rcases hw with rfl  <;> assumption) (show badB (cd "near") 1 = true by decide +kernel)
theorem bad_W5 {n : List Nat} (h : NameF n) : ∀ ws ∈ bW5 n, BadR (jn ws) := by
  have hb := h.is.noB
  have hl := h.is.2.1
  have l0 : (cd "1").length = 1 := by decide +kernel
  have b0 : 32 ∉ cd "1" := by decide +kernel
  have l1 : (cd "2").length = 1 := by decide +kernel
  have b1 : 32 ∉ cd "2" := by decide +kernel
  have l2 : (cd "both").length = 4 := by decide +kernel
  have b2 : 32 ∉ cd "both" := by decide +kernel
  have l3 : (cd "near").length = 4 := by decide +kernel
  have b3 : 32 ∉ cd "near" := by decide +kernel
  have l4 : (cd "often").length = 5 := by decide +kernel
  have b4 : 32 ∉ cd "often" := by decide +kernel
  have l5 : (cd "x").length = 1 := by decide +kernel
  have b5 : 32 ∉ cd "x" := by decide +kernel
  have b00 : (32 : Nat) ∉ ([] : List Nat) := by simp
  unfold bW5
  simp only [List.mem_cons, List.not_mem_nil, or_false]
  rintro ws (rfl | rfl | rfl | rfl | rfl)
  · exact bad_of (by simp only [jn, List.length_append, List.length_cons]; omega) (by intro w hw; simp only [List.mem_cons, List.not_mem_nil, or_false] at hw; rcases hw with rfl | rfl | rfl | rfl  <;> assumption) (show badB (cd "often") 4 = true by decide +kernel)
  · exact bad_of (by simp only [jn, List.length_append, List.length_cons]; omega) (by intro w hw; simp only [List.mem_cons, List.not_mem_nil, or_false] at hw; rcases hw with rfl | rfl  <;> assumption) (show badB (cd "near") 2 = true by decide +kernel)
  · exact bad_of (by simp only [jn, List.length_append, List.length_cons]; omega) (by intro w hw; simp only [List.mem_cons, List.not_mem_nil, or_false] at hw; rcases hw with rfl | rfl | rfl  <;> assumption) (show badB (cd "near") 3 = true by decide +kernel)
  · exact bad_of (by simp only [jn]; omega) (by intro w hw; simp only [List.mem_cons, List.not_mem_nil, or_false] at hw; rcases hw with rfl  <;> assumption) (show badB (cd "both") 1 = true by decide +kernel)
  · exact bad_of (by simp only [jn, List.length_append, List.length_cons]; omega) (by intro w hw; simp only [List.mem_cons, List.not_mem_nil, or_false] at hw; rcases hw with rfl | rfl  <;> assumption) (show badB (cd "both") 2 = true by decide +kernel)
theorem bad_W6 {n : List Nat} (h : NameF n) : ∀ ws ∈ bW6 n, BadR (jn ws) := by
  have hb := h.is.noB
  have hl := h.is.2.1
  have l0 : (cd "KINDS").length = 5 := by decide +kernel
  have b0 : 32 ∉ cd "KINDS" := by decide +kernel
  have l1 : (cd "Keep").length = 4 := by decide +kernel
  have b1 : 32 ∉ cd "Keep" := by decide +kernel
  have l2 : (cd "a").length = 1 := by decide +kernel
  have b2 : 32 ∉ cd "a" := by decide +kernel
  have l3 : (cd "both").length = 4 := by decide +kernel
  have b3 : 32 ∉ cd "both" := by decide +kernel
  have l4 : (cd "say").length = 3 := by decide +kernel
  have b4 : 32 ∉ cd "say" := by decide +kernel
  have b00 : (32 : Nat) ∉ ([] : List Nat) := by simp
  unfold bW6
  simp only [List.mem_cons, List.not_mem_nil, or_false]
  rintro ws (rfl | rfl | rfl | rfl)
  · exact bad_of (by simp only [jn, List.length_append, List.length_cons, List.length_nil]; omega) (by intro w hw; simp only [List.mem_cons, List.not_mem_nil, or_false] at hw; rcases hw with rfl | rfl | rfl | rfl  <;> assumption) (show badB (cd "both") 4 = true by decide +kernel)
  · exact bad_of (by simp only [jn, List.length_append, List.length_cons]; omega) (by intro w hw; simp only [List.mem_cons, List.not_mem_nil, or_false] at hw; rcases hw with rfl | rfl | rfl  <;> assumption) (show badB (cd "Keep") 3 = true by decide +kernel)
  · exact bad_of (by simp only [jn, List.length_append, List.length_cons]; omega) (by intro w hw; simp only [List.mem_cons, List.not_mem_nil, or_false] at hw; rcases hw with rfl | rfl  <;> assumption) (show badB (cd "KINDS") 2 = true by decide +kernel)
  · exact bad_of (by simp only [jn, List.length_append, List.length_cons]; omega) (by intro w hw; simp only [List.mem_cons, List.not_mem_nil, or_false] at hw; rcases hw with rfl | rfl  <;> assumption) (show badB (cd "say") 2 = true by decide +kernel)
theorem bad_W7 {n : List Nat} (h : NameF n) : ∀ ws ∈ bW7 n, BadR (jn ws) := by
  have hb := h.is.noB
  have hl := h.is.2.1
  have l0 : (cd "a").length = 1 := by decide +kernel
  have b0 : 32 ∉ cd "a" := by decide +kernel
  have l1 : (cd "keep").length = 4 := by decide +kernel
  have b1 : 32 ∉ cd "keep" := by decide +kernel
  have l2 : (cd "kind").length = 4 := by decide +kernel
  have b2 : 32 ∉ cd "kind" := by decide +kernel
  have l3 : (cd "off").length = 3 := by decide +kernel
  have b3 : 32 ∉ cd "off" := by decide +kernel
  have l4 : (cd "texts").length = 5 := by decide +kernel
  have b4 : 32 ∉ cd "texts" := by decide +kernel
  have b00 : (32 : Nat) ∉ ([] : List Nat) := by simp
  unfold bW7
  simp only [List.mem_cons, List.not_mem_nil, or_false]
  rintro ws (rfl | rfl | rfl | rfl | rfl)
  · exact bad_of (by simp only [jn, List.length_append, List.length_cons]; omega) (by intro w hw; simp only [List.mem_cons, List.not_mem_nil, or_false] at hw; rcases hw with rfl | rfl  <;> assumption) (show badB (cd "texts") 2 = true by decide +kernel)
  · exact bad_of (by simp only [jn, List.length_append, List.length_cons]; omega) (by intro w hw; simp only [List.mem_cons, List.not_mem_nil, or_false] at hw; rcases hw with rfl | rfl  <;> assumption) (show badB (cd "kind") 2 = true by decide +kernel)
  · exact bad_of (by simp only [jn]; omega) (by intro w hw; simp only [List.mem_cons, List.not_mem_nil, or_false] at hw; rcases hw with rfl  <;> assumption) (badB_one _)
  · refine ⟨by simp only [jn, List.length_append, List.length_cons]; omega, bad_row (by simp) (by intro w hw; simp only [List.mem_cons, List.not_mem_nil, or_false] at hw; rcases hw with rfl | rfl | rfl  <;> assumption) fun i hi => .inr (.inr (.inl ⟨h.frm hi, .inr ?_⟩))⟩
    show ¬ GoodN (cd "a")
    have ea : cd "a" = [97] := by decide +kernel
    intro g
    have := g.2.2.1 97 (by rw [ea]; simp)
    omega
  · have ef : frmIx (cd "off") = some 2 := by decide +kernel
    exact ⟨by simp only [jn, List.length_append, List.length_cons, List.length_nil]; omega, bad_row (by simp) (by intro w hw; simp only [List.mem_cons, List.not_mem_nil, or_false] at hw; rcases hw with rfl | rfl | rfl  <;> assumption) fun i hi => .inr (.inr (.inl ⟨Option.some.inj (hi.symm.trans ef), .inr h.is.noN⟩))⟩
theorem bad_W {n : List Nat} (h : NameF n) : ∀ ws ∈ bW n, BadR (jn ws) := by
  intro ws hw
  unfold bW at hw
  simp only [List.mem_append] at hw
  rcases hw with (((((hw | hw) | hw) | hw) | hw) | hw) | hw
  · exact bad_W1 h ws hw
  · exact bad_W2 h ws hw
  · exact bad_W3 h ws hw
  · exact bad_W4 h ws hw
  · exact bad_W5 h ws hw
  · exact bad_W6 h ws hw
  · exact bad_W7 h ws hw
noncomputable def sp_w_bare (K : PySem.W.Frag) : Sp := fun vs H Q _ => match vs with
  | [.str z, .int _] => NameF (L z) ∧ ∀ r, BadR r → Q (.str (T r)) H
  | _ => False
theorem ok_w_bare {f : Addr} {fd : FuncData} (F : Fun K "_law_bare" "_law_bare" s_w_bare f fd) (B : Bn mg) {c : Cs} (ER : Er K mg c) {A_FORMS A_KEEPING A_ANSWERS : Addr} (TP : Tp K w.params mg A_FORMS A_KEEPING A_ANSWERS) {C_Desk : Addr} (CF : Cf K C_Desk) (GC : Gc mg) (G_w_mixed : Fn P w K mg base 1 "_law_mixed" P_w_mixed (sp_w_mixed K)) : FnOk P w K mg base CX0 2 f fd P_w_bare (sp_w_bare K) := by
  refine F.pure sc_w_bare (fun vs H Q E h => ?_) (fun cdv A outer s H vs Q E hr h => ?_) <;> unfold sp_w_bare at h <;> split at h <;> first | exact h.elim | skip
  · rfl
  · rename_i z cl
    obtain ⟨hn, q⟩ := h
    refine ⟨_, (pss_cons (ps_cut (ps_set (i := 2) sc_w_bare.nd rfl (by first | exact Or.inl rfl | exact Or.inr rfl) (pe_lst (pa_cons pe_str (pa_cons pe_str (pa_cons pe_str (pa_cons (pe_op o_add pe_str (qv 0)) (pa_cons (pe_op o_add pe_str (qv 0)) (pa_cons (pe_op o_add pe_str (qv 0)) (pa_cons (pe_op o_add pe_str (qv 0)) (pa_cons (pe_op o_add pe_str (qv 0)) pa_nil)))))))))))
        (pss_cons (ps_cut (ps_set (i := 2) sc_w_bare.nd rfl (by first | exact Or.inl rfl | exact Or.inr rfl) (pe_op o_add (qv 2) (pe_lst (pa_cons (pe_op o_add pe_str (qv 0)) (pa_cons pe_str (pa_cons (pe_op o_add (pe_op o_add pe_str (qv 0)) pe_str) (pa_cons (pe_op o_add (pe_op o_add pe_str (qv 0)) pe_str) (pa_cons pe_str (pa_cons (pe_op o_add (pe_op o_add pe_str (qv 0)) pe_str) pa_nil))))))))))
        (pss_cons (ps_cut (ps_set (i := 2) sc_w_bare.nd rfl (by first | exact Or.inl rfl | exact Or.inr rfl) (pe_op o_add (qv 2) (pe_lst (pa_cons pe_str (pa_cons (pe_op o_add (pe_op o_add pe_str (qv 0)) pe_str) (pa_cons pe_str (pa_cons (pe_op o_add (pe_op o_add pe_str (qv 0)) pe_str) (pa_cons pe_str (pa_cons (pe_op o_add (pe_op o_add pe_str (qv 0)) pe_str) pa_nil))))))))))
        (pss_cons (ps_cut (ps_set (i := 2) sc_w_bare.nd rfl (by first | exact Or.inl rfl | exact Or.inr rfl) (pe_op o_add (qv 2) (pe_lst (pa_cons (pe_op o_add pe_str (qv 0)) (pa_cons (pe_op o_add (pe_op o_add pe_str (qv 0)) pe_str) (pa_cons (pe_op o_add (pe_op o_add pe_str (qv 0)) pe_str) (pa_cons (pe_op o_add pe_str (qv 0)) (pa_cons pe_str (pa_cons pe_str pa_nil))))))))))
        (pss_cons (ps_cut (ps_set (i := 2) sc_w_bare.nd rfl (by first | exact Or.inl rfl | exact Or.inr rfl) (pe_op o_add (qv 2) (pe_lst (pa_cons (pe_op o_add (pe_op o_add pe_str (qv 0)) pe_str) (pa_cons (pe_op o_add pe_str (qv 0)) (pa_cons (pe_op o_add (pe_op o_add pe_str (qv 0)) pe_str) (pa_cons pe_str (pa_cons (pe_op o_add pe_str (qv 0)) pa_nil)))))))))
        (pss_cons (ps_cut (ps_set (i := 2) sc_w_bare.nd rfl (by first | exact Or.inl rfl | exact Or.inr rfl) (pe_op o_add (qv 2) (pe_lst (pa_cons (pe_op o_add (pe_op o_add (pe_op o_add (pe_op o_add pe_str (qv 0)) pe_str) (qv 0)) pe_str) (pa_cons (pe_op o_add (pe_op o_add pe_str (qv 0)) pe_str) (pa_cons (pe_op o_add pe_str (qv 0)) (pa_cons (pe_op o_add pe_str (qv 0)) pa_nil))))))))
        (pss_cons (ps_cut (ps_set (i := 2) sc_w_bare.nd rfl (by first | exact Or.inl rfl | exact Or.inr rfl) (pe_op o_add (qv 2) (pe_lst (pa_cons (pe_op o_add pe_str (qv 0)) (pa_cons (pe_op o_add pe_str (qv 0)) (pa_cons (qv 0) (pa_cons (pe_op o_add (qv 0) pe_str) (pa_cons (pe_op o_add pe_str (qv 0)) pa_nil)))))))))
        (pss_one (ps_ret (pe_ix (i_ixK (K := K) rfl) (qv 2) (pe_fn G_w_mixed (hr.mono (by decide)) (pa_cons (qv 1) (pa_cons pe_int (pa_cons (pe_callB (c_lenK (K := K) rfl) (by rfl) B.len bt_len (pa_cons (qv 2) pa_nil)) pa_nil)))) (fun _ _ => rfl))))))))))), ?_⟩
    have hsz : sizeLine = 16777216 := sizeLine_eq
    have hl : (L z).length ≤ 8 := hn.is.2.1
    have x0 : L (Str.ofString "") = [] := by decide +kernel
    have y0 : (L (Str.ofString "")).length = 0 := by decide +kernel
    have x1 : L (Str.ofString " ") = [] ++ 32 :: ([]) := by decide +kernel
    have y1 : (L (Str.ofString " ")).length = 1 := by decide +kernel
    have x2 : L (Str.ofString " 1") = [] ++ 32 :: (cd "1") := by decide +kernel
    have y2 : (L (Str.ofString " 1")).length = 2 := by decide +kernel
    have x3 : L (Str.ofString " 1 ") = [] ++ 32 :: (cd "1" ++ 32 :: ([])) := by decide +kernel
    have y3 : (L (Str.ofString " 1 ")).length = 3 := by decide +kernel
    have x4 : L (Str.ofString " 1 1") = [] ++ 32 :: (cd "1" ++ 32 :: (cd "1")) := by decide +kernel
    have y4 : (L (Str.ofString " 1 1")).length = 4 := by decide +kernel
    have x5 : L (Str.ofString " 2 x") = [] ++ 32 :: (cd "2" ++ 32 :: (cd "x")) := by decide +kernel
    have y5 : (L (Str.ofString " 2 x")).length = 4 := by decide +kernel
    have x6 : L (Str.ofString " a") = [] ++ 32 :: (cd "a") := by decide +kernel
    have y6 : (L (Str.ofString " a")).length = 2 := by decide +kernel
    have x7 : L (Str.ofString " b") = [] ++ 32 :: (cd "b") := by decide +kernel
    have y7 : (L (Str.ofString " b")).length = 2 := by decide +kernel
    have x8 : L (Str.ofString " keep a") = [] ++ 32 :: (cd "keep" ++ 32 :: (cd "a")) := by decide +kernel
    have y8 : (L (Str.ofString " keep a")).length = 7 := by decide +kernel
    have x9 : L (Str.ofString " x") = [] ++ 32 :: (cd "x") := by decide +kernel
    have y9 : (L (Str.ofString " x")).length = 2 := by decide +kernel
    have x10 : L (Str.ofString "KINDS ") = cd "KINDS" ++ 32 :: ([]) := by decide +kernel
    have y10 : (L (Str.ofString "KINDS ")).length = 6 := by decide +kernel
    have x11 : L (Str.ofString "Keep ") = cd "Keep" ++ 32 :: ([]) := by decide +kernel
    have y11 : (L (Str.ofString "Keep ")).length = 5 := by decide +kernel
    have x12 : L (Str.ofString "ahead ") = cd "ahead" ++ 32 :: ([]) := by decide +kernel
    have y12 : (L (Str.ofString "ahead ")).length = 6 := by decide +kernel
    have x13 : L (Str.ofString "both") = cd "both" := by decide +kernel
    have y13 : (L (Str.ofString "both")).length = 4 := by decide +kernel
    have x14 : L (Str.ofString "both ") = cd "both" ++ 32 :: ([]) := by decide +kernel
    have y14 : (L (Str.ofString "both ")).length = 5 := by decide +kernel
    have x15 : L (Str.ofString "count ") = cd "count" ++ 32 :: ([]) := by decide +kernel
    have y15 : (L (Str.ofString "count ")).length = 6 := by decide +kernel
    have x16 : L (Str.ofString "cut ") = cd "cut" ++ 32 :: ([]) := by decide +kernel
    have y16 : (L (Str.ofString "cut ")).length = 4 := by decide +kernel
    have x17 : L (Str.ofString "drop") = cd "drop" := by decide +kernel
    have y17 : (L (Str.ofString "drop")).length = 4 := by decide +kernel
    have x18 : L (Str.ofString "drop ") = cd "drop" ++ 32 :: ([]) := by decide +kernel
    have y18 : (L (Str.ofString "drop ")).length = 5 := by decide +kernel
    have x19 : L (Str.ofString "find ") = cd "find" ++ 32 :: ([]) := by decide +kernel
    have y19 : (L (Str.ofString "find ")).length = 5 := by decide +kernel
    have x20 : L (Str.ofString "keep") = cd "keep" := by decide +kernel
    have y20 : (L (Str.ofString "keep")).length = 4 := by decide +kernel
    have x21 : L (Str.ofString "keep ") = cd "keep" ++ 32 :: ([]) := by decide +kernel
    have y21 : (L (Str.ofString "keep ")).length = 5 := by decide +kernel
    have x22 : L (Str.ofString "kind ") = cd "kind" ++ 32 :: ([]) := by decide +kernel
    have y22 : (L (Str.ofString "kind ")).length = 5 := by decide +kernel
    have x23 : L (Str.ofString "kinds") = cd "kinds" := by decide +kernel
    have y23 : (L (Str.ofString "kinds")).length = 5 := by decide +kernel
    have x24 : L (Str.ofString "kinds ") = cd "kinds" ++ 32 :: ([]) := by decide +kernel
    have y24 : (L (Str.ofString "kinds ")).length = 6 := by decide +kernel
    have x25 : L (Str.ofString "load ") = cd "load" ++ 32 :: ([]) := by decide +kernel
    have y25 : (L (Str.ofString "load ")).length = 5 := by decide +kernel
    have x26 : L (Str.ofString "lone") = cd "lone" := by decide +kernel
    have y26 : (L (Str.ofString "lone")).length = 4 := by decide +kernel
    have x27 : L (Str.ofString "lone ") = cd "lone" ++ 32 :: ([]) := by decide +kernel
    have y27 : (L (Str.ofString "lone ")).length = 5 := by decide +kernel
    have x28 : L (Str.ofString "near") = cd "near" := by decide +kernel
    have y28 : (L (Str.ofString "near")).length = 4 := by decide +kernel
    have x29 : L (Str.ofString "near ") = cd "near" ++ 32 :: ([]) := by decide +kernel
    have y29 : (L (Str.ofString "near ")).length = 5 := by decide +kernel
    have x30 : L (Str.ofString "off ") = cd "off" ++ 32 :: ([]) := by decide +kernel
    have y30 : (L (Str.ofString "off ")).length = 4 := by decide +kernel
    have x31 : L (Str.ofString "off  ") = cd "off" ++ 32 :: ([] ++ 32 :: ([])) := by decide +kernel
    have y31 : (L (Str.ofString "off  ")).length = 5 := by decide +kernel
    have x32 : L (Str.ofString "often") = cd "often" := by decide +kernel
    have y32 : (L (Str.ofString "often")).length = 5 := by decide +kernel
    have x33 : L (Str.ofString "often ") = cd "often" ++ 32 :: ([]) := by decide +kernel
    have y33 : (L (Str.ofString "often ")).length = 6 := by decide +kernel
    have x34 : L (Str.ofString "pack") = cd "pack" := by decide +kernel
    have y34 : (L (Str.ofString "pack")).length = 4 := by decide +kernel
    have x35 : L (Str.ofString "pack ") = cd "pack" ++ 32 :: ([]) := by decide +kernel
    have y35 : (L (Str.ofString "pack ")).length = 5 := by decide +kernel
    have x36 : L (Str.ofString "say ") = cd "say" ++ 32 :: ([]) := by decide +kernel
    have y36 : (L (Str.ofString "say ")).length = 4 := by decide +kernel
    have x37 : L (Str.ofString "text") = cd "text" := by decide +kernel
    have y37 : (L (Str.ofString "text")).length = 4 := by decide +kernel
    have x38 : L (Str.ofString "text ") = cd "text" ++ 32 :: ([]) := by decide +kernel
    have y38 : (L (Str.ofString "text ")).length = 5 := by decide +kernel
    have x39 : L (Str.ofString "texts ") = cd "texts" ++ 32 :: ([]) := by decide +kernel
    have y39 : (L (Str.ofString "texts ")).length = 6 := by decide +kernel
    have tE : T [] = Str.ofString "" := by decide +kernel
    have tB : T [32] = Str.ofString " " := by decide +kernel
    refine cutS (fun σ' H' => Same H H' ∧ ∃ p, H' p = some (.lst ((bW1 (L z)).map fun ws => V.str (T (jn ws)))) ∧ σ' = [some (V.str z), some (V.int cl), some (V.ref p)]) ?_ ?_
    · simp only [L2.start, List.map_cons, List.map_nil, List.length_cons, List.length_nil, List.replicate_succ, List.replicate_zero, List.cons_append, List.nil_append, Nat.reduceAdd, Nat.reduceSub, List.set_cons_zero, List.set_cons_succ, gS, rVar, tC, tAsg, gName, tOp, tCons, tNil, tLst, addV]
      refine ⟨by first | omega | (simp only [List.length_append]; omega), by first | omega | (simp only [List.length_append]; omega), by first | omega | (simp only [List.length_append]; omega), by first | omega | (simp only [List.length_append]; omega), by first | omega | (simp only [List.length_append]; omega), by omega, fun p hp => ⟨Same.updN hp, p, ?_, rfl⟩⟩
      rw [upd_same]
      simp only [bW1, List.map_cons, List.map_nil, jn, T_cd, x12, x15, x19, x21, x25, tE, tB, List.append_assoc, List.cons_append, List.nil_append]
    rintro _ H1 ⟨s1, p1, h1, rfl⟩
    refine cutS (fun σ' H' => Same H H' ∧ ∃ p, H' p = some (.lst ((bW1 (L z) ++ bW2 (L z)).map fun ws => V.str (T (jn ws)))) ∧ σ' = [some (V.str z), some (V.int cl), some (V.ref p)]) ?_ ?_
    · simp only [List.length_cons, List.length_nil, Nat.reduceAdd, List.set_cons_zero, List.set_cons_succ, gS, rVar, tC, tAsg, gName, tOp, tCons, tNil, tLst, addV, L_T, rCat]
      refine ⟨by first | omega | (simp only [List.length_append]; omega), by first | omega | (simp only [List.length_append]; omega), by first | omega | (simp only [List.length_append]; omega), by first | omega | (simp only [List.length_append]; omega), by first | omega | (simp only [List.length_append]; omega), by first | omega | (simp only [List.length_append]; omega), by first | omega | (simp only [List.length_append]; omega), by omega, fun p hp => ⟨p1, p, _, _, rfl, rfl, (upd_ne (ne_of_none h1 hp)).trans h1, upd_same, by show 14 ≤ sizeLine; omega, fun p' hp' => ⟨(s1.upd hp).upd hp', p', ?_, rfl⟩⟩⟩
      rw [upd_same]
      refine congrArg some (congrArg HO.lst (Eq.trans (congrArg (fun l => List.map (fun ws => V.str (T (jn ws))) (bW1 (L z)) ++ l) ?_) List.map_append.symm))
      simp only [bW2, List.map_cons, List.map_nil, jn, T_cd, x1, x9, x16, x18, x38, List.append_assoc, List.cons_append, List.nil_append]
    rintro _ H2 ⟨s2, p2, h2, rfl⟩
    refine cutS (fun σ' H' => Same H H' ∧ ∃ p, H' p = some (.lst ((bW1 (L z) ++ bW2 (L z) ++ bW3 (L z)).map fun ws => V.str (T (jn ws)))) ∧ σ' = [some (V.str z), some (V.int cl), some (V.ref p)]) ?_ ?_
    · simp only [List.length_cons, List.length_nil, Nat.reduceAdd, List.set_cons_zero, List.set_cons_succ, gS, rVar, tC, tAsg, gName, tOp, tCons, tNil, tLst, addV, L_T, rCat]
      refine ⟨by first | omega | (simp only [List.length_append]; omega), by first | omega | (simp only [List.length_append]; omega), by first | omega | (simp only [List.length_append]; omega), by first | omega | (simp only [List.length_append]; omega), by first | omega | (simp only [List.length_append]; omega), by first | omega | (simp only [List.length_append]; omega), by omega, fun p hp => ⟨p2, p, _, _, rfl, rfl, (upd_ne (ne_of_none h2 hp)).trans h2, upd_same, by show 20 ≤ sizeLine; omega, fun p' hp' => ⟨(s2.upd hp).upd hp', p', ?_, rfl⟩⟩⟩
      rw [upd_same]
      refine congrArg some (congrArg HO.lst (Eq.trans (congrArg (fun l => List.map (fun ws => V.str (T (jn ws))) (bW1 (L z) ++ bW2 (L z)) ++ l) ?_) List.map_append.symm))
      simp only [bW3, List.map_cons, List.map_nil, jn, T_cd, x2, x6, x7, x24, x27, x35, List.append_assoc, List.cons_append, List.nil_append]
    rintro _ H3 ⟨s3, p3, h3, rfl⟩
    refine cutS (fun σ' H' => Same H H' ∧ ∃ p, H' p = some (.lst ((bW1 (L z) ++ bW2 (L z) ++ bW3 (L z) ++ bW4 (L z)).map fun ws => V.str (T (jn ws)))) ∧ σ' = [some (V.str z), some (V.int cl), some (V.ref p)]) ?_ ?_
    · simp only [List.length_cons, List.length_nil, Nat.reduceAdd, List.set_cons_zero, List.set_cons_succ, gS, rVar, tC, tAsg, gName, tOp, tCons, tNil, tLst, addV, L_T, rCat]
      refine ⟨by first | omega | (simp only [List.length_append]; omega), by first | omega | (simp only [List.length_append]; omega), by first | omega | (simp only [List.length_append]; omega), by first | omega | (simp only [List.length_append]; omega), by first | omega | (simp only [List.length_append]; omega), by first | omega | (simp only [List.length_append]; omega), by omega, fun p hp => ⟨p3, p, _, _, rfl, rfl, (upd_ne (ne_of_none h3 hp)).trans h3, upd_same, by show 26 ≤ sizeLine; omega, fun p' hp' => ⟨(s3.upd hp).upd hp', p', ?_, rfl⟩⟩⟩
      rw [upd_same]
      refine congrArg some (congrArg HO.lst (Eq.trans (congrArg (fun l => List.map (fun ws => V.str (T (jn ws))) (bW1 (L z) ++ bW2 (L z) ++ bW3 (L z)) ++ l) ?_) List.map_append.symm))
      simp only [bW4, List.map_cons, List.map_nil, jn, T_cd, x3, x4, x30, x33, List.append_assoc, List.cons_append, List.nil_append]
    rintro _ H4 ⟨s4, p4, h4, rfl⟩
    refine cutS (fun σ' H' => Same H H' ∧ ∃ p, H' p = some (.lst ((bW1 (L z) ++ bW2 (L z) ++ bW3 (L z) ++ bW4 (L z) ++ bW5 (L z)).map fun ws => V.str (T (jn ws)))) ∧ σ' = [some (V.str z), some (V.int cl), some (V.ref p)]) ?_ ?_
    · simp only [List.length_cons, List.length_nil, Nat.reduceAdd, List.set_cons_zero, List.set_cons_succ, gS, rVar, tC, tAsg, gName, tOp, tCons, tNil, tLst, addV, L_T, rCat]
      refine ⟨by first | omega | (simp only [List.length_append]; omega), by first | omega | (simp only [List.length_append]; omega), by first | omega | (simp only [List.length_append]; omega), by first | omega | (simp only [List.length_append]; omega), by first | omega | (simp only [List.length_append]; omega), by first | omega | (simp only [List.length_append]; omega), by omega, fun p hp => ⟨p4, p, _, _, rfl, rfl, (upd_ne (ne_of_none h4 hp)).trans h4, upd_same, by show 31 ≤ sizeLine; omega, fun p' hp' => ⟨(s4.upd hp).upd hp', p', ?_, rfl⟩⟩⟩
      rw [upd_same]
      refine congrArg some (congrArg HO.lst (Eq.trans (congrArg (fun l => List.map (fun ws => V.str (T (jn ws))) (bW1 (L z) ++ bW2 (L z) ++ bW3 (L z) ++ bW4 (L z)) ++ l) ?_) List.map_append.symm))
      simp only [bW5, List.map_cons, List.map_nil, jn, T_cd, x2, x5, x14, x29, x33, List.append_assoc, List.cons_append, List.nil_append]
    rintro _ H5 ⟨s5, p5, h5, rfl⟩
    refine cutS (fun σ' H' => Same H H' ∧ ∃ p, H' p = some (.lst ((bW1 (L z) ++ bW2 (L z) ++ bW3 (L z) ++ bW4 (L z) ++ bW5 (L z) ++ bW6 (L z)).map fun ws => V.str (T (jn ws)))) ∧ σ' = [some (V.str z), some (V.int cl), some (V.ref p)]) ?_ ?_
    · simp only [List.length_cons, List.length_nil, Nat.reduceAdd, List.set_cons_zero, List.set_cons_succ, gS, rVar, tC, tAsg, gName, tOp, tCons, tNil, tLst, addV, L_T, rCat]
      refine ⟨by first | omega | (simp only [List.length_append]; omega), by first | omega | (simp only [List.length_append]; omega), by first | omega | (simp only [List.length_append]; omega), by first | omega | (simp only [List.length_append]; omega), by first | omega | (simp only [List.length_append]; omega), by first | omega | (simp only [List.length_append]; omega), by first | omega | (simp only [List.length_append]; omega), by first | omega | (simp only [List.length_append]; omega), by omega, fun p hp => ⟨p5, p, _, _, rfl, rfl, (upd_ne (ne_of_none h5 hp)).trans h5, upd_same, by show 35 ≤ sizeLine; omega, fun p' hp' => ⟨(s5.upd hp).upd hp', p', ?_, rfl⟩⟩⟩
      rw [upd_same]
      refine congrArg some (congrArg HO.lst (Eq.trans (congrArg (fun l => List.map (fun ws => V.str (T (jn ws))) (bW1 (L z) ++ bW2 (L z) ++ bW3 (L z) ++ bW4 (L z) ++ bW5 (L z)) ++ l) ?_) List.map_append.symm))
      simp only [bW6, List.map_cons, List.map_nil, jn, x1, x6, x10, x11, x14, x36, List.append_assoc, List.cons_append, List.nil_append]
    rintro _ H6 ⟨s6, p6, h6, rfl⟩
    refine cutS (fun σ' H' => Same H H' ∧ ∃ p, H' p = some (.lst ((bW1 (L z) ++ bW2 (L z) ++ bW3 (L z) ++ bW4 (L z) ++ bW5 (L z) ++ bW6 (L z) ++ bW7 (L z)).map fun ws => V.str (T (jn ws)))) ∧ σ' = [some (V.str z), some (V.int cl), some (V.ref p)]) ?_ ?_
    · simp only [List.length_cons, List.length_nil, Nat.reduceAdd, List.set_cons_zero, List.set_cons_succ, gS, rVar, tC, tAsg, gName, tOp, tCons, tNil, tLst, addV, rCat]
      refine ⟨by first | omega | (simp only [List.length_append]; omega), by first | omega | (simp only [List.length_append]; omega), by first | omega | (simp only [List.length_append]; omega), by first | omega | (simp only [List.length_append]; omega), by omega, fun p hp => ⟨p6, p, _, _, rfl, rfl, (upd_ne (ne_of_none h6 hp)).trans h6, upd_same, by show 40 ≤ sizeLine; omega, fun p' hp' => ⟨(s6.upd hp).upd hp', p', ?_, rfl⟩⟩⟩
      rw [upd_same]
      refine congrArg some (congrArg HO.lst (Eq.trans (congrArg (fun l => List.map (fun ws => V.str (T (jn ws))) (bW1 (L z) ++ bW2 (L z) ++ bW3 (L z) ++ bW4 (L z) ++ bW5 (L z) ++ bW6 (L z)) ++ l) ?_) List.map_append.symm))
      simp only [bW7, List.map_cons, List.map_nil, jn, T_L, x8, x22, x31, x39, List.append_assoc, List.cons_append, List.nil_append]
    rintro _ H7 ⟨s7, p7, h7, rfl⟩
    simp only [gS, rVar, tC, tRet, tOp, tCB, tCons, tNil, tFn, ixV, lenV, sp_w_mixed]
    refine ⟨_, .inl (SqL.of h7), by show (0 : Int) < ((40 : Nat) : Int); decide, fun r r0 r1 => ?_⟩
    obtain ⟨ws, hw, e⟩ := atI_map_get (fun ws => V.str (T (jn ws))) (bW (L z)) r0 (by rw [bW_len]; exact r1)
    exact ⟨_, _, .inl (SqL.of h7), e, s7, q _ (bad_W hn ws hw)⟩
noncomputable def Odd (l : List Nat) : Prop := l.length ≤ 40 ∧ 32 ∉ l ∧ ¬ GoodN l
noncomputable def sp_w_numbered (K : PySem.W.Frag) : Sp := fun vs H Q _ => match vs with
  | [.str z, .int _] => NameF (L z) ∧ ∀ r, BadR r → Q (.str (T r)) H
  | _ => False
theorem ok_w_numbered {f : Addr} {fd : FuncData} (F : Fun K "_law_numbered" "_law_numbered" s_w_numbered f fd) (B : Bn mg) {c : Cs} (ER : Er K mg c) {A_FORMS A_KEEPING A_ANSWERS : Addr} (TP : Tp K w.params mg A_FORMS A_KEEPING A_ANSWERS) {C_Desk : Addr} (CF : Cf K C_Desk) (GC : Gc mg) (G_w_mixed : Fn P w K mg base 1 "_law_mixed" P_w_mixed (sp_w_mixed K)) : FnOk P w K mg base CX0 2 f fd P_w_numbered (sp_w_numbered K) := by
  refine F.pure sc_w_numbered (fun vs H Q E h => ?_) (fun cdv A outer s H vs Q E hr h => ?_) <;> unfold sp_w_numbered at h <;> split at h <;> first | exact h.elim | skip
  · rfl
  · rename_i z cl
    obtain ⟨hn, q⟩ := h
    refine ⟨_, (pss_cons (ps_cut (ps_set (i := 2) sc_w_numbered.nd rfl (by first | exact Or.inl rfl | exact Or.inr rfl) (pe_callTy c_str (by rfl) B.str bt_str (pa_cons (pe_op o_mod (qv 1) (pe_op o_pow pe_int pe_int)) pa_nil))))
        (pss_cons (ps_cut (ps_set (i := 3) sc_w_numbered.nd rfl (by first | exact Or.inl rfl | exact Or.inr rfl) (pe_tup (pa_cons (pe_op o_add pe_str (qv 2)) (pa_cons (pe_op o_add pe_str (qv 2)) (pa_cons (pe_op o_add pe_str (qv 2)) (pa_cons pe_str (pa_cons (pe_op o_add (pe_slice (s_slK (K := K) rfl) (qv 2) po_none (po_t pe_int)) pe_str) (pa_cons (pe_callTy c_str (by rfl) B.str bt_str (pa_cons (pe_op o_add (pe_op o_pow pe_int pe_int) (pe_op o_mod (qv 1) (pe_op o_pow pe_int pe_int))) pa_nil)) pa_nil)))))))))
        (pss_cons (ps_cut (ps_set (i := 3) sc_w_numbered.nd rfl (by first | exact Or.inl rfl | exact Or.inr rfl) (pe_op (o_catT (K := K) rfl) (qv 3) (pe_tup (pa_cons pe_str (pa_cons (pe_op o_add (pe_slice (s_slK (K := K) rfl) (qv 2) po_none (po_t pe_int)) pe_str) (pa_cons pe_str pa_nil)))))))
        (pss_cons (ps_cut (ps_set (i := 4) sc_w_numbered.nd rfl (by first | exact Or.inl rfl | exact Or.inr rfl) (pe_ix (i_ixK (K := K) rfl) (qv 3) (pe_fn G_w_mixed (hr.mono (by decide)) (pa_cons (qv 1) (pa_cons pe_int (pa_cons pe_int pa_nil)))) (fun _ _ => rfl))))
        (pss_cons (ps_cut (ps_set (i := 5) sc_w_numbered.nd rfl (by first | exact Or.inl rfl | exact Or.inr rfl) (pe_tup (pa_cons (pe_op o_add (pe_op o_add (pe_op o_add pe_str (qv 0)) pe_str) (qv 4)) (pa_cons (pe_op o_add (pe_op o_add (pe_op o_add pe_str (qv 0)) pe_str) (qv 4)) (pa_cons (pe_op o_add (pe_op o_add (pe_op o_add (pe_op o_add pe_str (qv 0)) pe_str) (qv 4)) pe_str) pa_nil))))))
        (pss_one (ps_ret (pe_ix (i_ixK (K := K) rfl) (qv 5) (pe_fn G_w_mixed (hr.mono (by decide)) (pa_cons (qv 1) (pa_cons pe_int (pa_cons pe_int pa_nil)))) (fun _ _ => rfl))))))))), ?_⟩
    have hsz : sizeLine = 16777216 := sizeLine_eq
    have hl : (L z).length ≤ 8 := hn.is.2.1
    have e30 : (10 : Int) ^ (30 : Int).toNat = 1000000000000000000000000000000 := by decide
    have m0 : 0 ≤ cl % 1000000000000000000000000000000 := Int.emod_nonneg _ (by decide)
    have m1 : cl % 1000000000000000000000000000000 < 1000000000000000000000000000000 := Int.emod_lt_of_pos _ (by decide)
    refine cutS (fun σ' H' => Same H H' ∧ ∃ m : Nat, m < 1000000000000000000000000000000 ∧ cl % 1000000000000000000000000000000 = (m : Int) ∧ σ' = [some (V.str z), some (V.int cl), some (V.str (T (numL (m : Int)))), none, none, none]) ?_ ?_
    · simp only [L2.start, List.map_cons, List.map_nil, List.length_cons, List.length_nil, List.replicate_succ, List.replicate_zero, List.cons_append, List.nil_append, Nat.reduceAdd, Nat.reduceSub, Int.reduceLT, true_and, List.set_cons_zero, List.set_cons_succ, gS, rVar, tC, tAsg, gName, tOp, tCB, tCons, tNil, int2, strV, modV, e30]
      exact ⟨⟨by decide, by decide, by decide⟩, log_small (by omega), Same.refl H, (cl % 1000000000000000000000000000000).toNat, by omega, by omega, by rw [Int.toNat_of_nonneg m0]⟩
    rintro _ H0 ⟨s0, m, hm, em, rfl⟩
    have d1 := numL_pos m
    have d2 : (numL (m : Int)).length ≤ 30 := (numL_le m (by decide)).mpr hm
    have d3 := numL_dig m
    have k0 : L (Str.ofString "0") = [48] := by decide +kernel
    have k1 : L (Str.ofString "-") = [45] := by decide +kernel
    have k2 : L (Str.ofString "+") = [43] := by decide +kernel
    have k3 : L (Str.ofString "a") = [97] := by decide +kernel
    have k4 : L (Str.ofString ":") = [58] := by decide +kernel
    have k5 : L (Str.ofString "1.0") = [49, 46, 48] := by decide +kernel
    have k6 : L (Str.ofString "") = [] := by decide +kernel
    have odd : ∀ {l : List Nat} (x : Nat), x ∈ l → ¬ (48 ≤ x ∧ x ≤ 57) → 32 ∉ l → l.length ≤ 40 → Odd l := fun x hx n h1 h2 => ⟨h2, h1, fun g => n (g.2.2.1 x hx)⟩
    have cm : ∀ (b : Int) (c : Nat), c ∈ cut (numL (m : Int)) none (some b) → 48 ≤ c ∧ c ≤ 57 := fun b c hc => d3 c (List.mem_of_mem_drop (List.mem_of_mem_take hc))
    have cl3 : ∀ b : Int, (cut (numL (m : Int)) none (some b)).length ≤ 30 := fun b => Nat.le_trans (cut_len _ _ _) d2
    refine cutS (fun σ' H' => Same H H' ∧ ∃ p, ∃ ns : List (List Nat), ns.length = 6 ∧ (∀ n ∈ ns, Odd n) ∧ H' p = some (.tup (ns.map fun n => V.str (T n))) ∧ σ' = [some (V.str z), some (V.int cl), some (V.str (T (numL (m : Int)))), some (V.ref p), none, none]) ?_ ?_
    · simp only [List.length_cons, List.length_nil, List.cons_append, List.nil_append, Nat.reduceAdd, Int.reduceLT, true_and, List.set_cons_zero, List.set_cons_succ, gS, rVar, tC, tAsg, gName, tOp, tCB, tCons, tNil, tTup, tSl, tNoPart, pT, addV, int2, slV, L_T, rCat, strV, modV, e30, em, k0, k1, k2, k3]
      have e9 : (10 : Int) ^ (9 : Int).toNat = 1000000000 := by decide
      have c3 := cl3 3
      have e10 : (1000000000 : Int) + (m : Int) = ((1000000000 + m : Nat) : Int) := by omega
      have d4 := numL_dig (1000000000 + m)
      have d5 : ¬ (numL ((1000000000 + m : Nat) : Int)).length ≤ 9 := fun z => by
        have := (numL_le (1000000000 + m) (by decide)).mp z
        omega
      have d6 : (numL ((1000000000 + m : Nat) : Int)).length ≤ 31 := (numL_le _ (by decide)).mpr (by omega)
      rw [e9, e10]
      refine ⟨by omega, by omega, by omega, by omega, by omega, ⟨by decide, by decide, by decide⟩, ⟨by decide, by decide, by decide⟩, log_small (by omega), by omega, fun p hp => ⟨s0.upd hp, p, [[48] ++ numL (m : Int), [45] ++ numL (m : Int), [43] ++ numL (m : Int), [], cut (numL (m : Int)) none (some 3) ++ [97], numL ((1000000000 + m : Nat) : Int)], rfl, ?_, ?_, rfl⟩⟩
      · simp only [List.mem_cons, List.not_mem_nil, or_false]
        rintro n (rfl | rfl | rfl | rfl | rfl | rfl)
        · refine ⟨by simp; omega, fun z => ?_, fun g => ?_⟩
          · simp at z
            have := d3 32 z
            omega
          · have := congrArg List.length (g.2.2.2 rfl)
            rw [List.length_append] at this
            have e1 : ([48] : List Nat).length = 1 := rfl
            omega
        · refine odd 45 (by simp) (by omega) (fun z => ?_) (by simp; omega)
          simp at z
          have := d3 32 z
          omega
        · refine odd 43 (by simp) (by omega) (fun z => ?_) (by simp; omega)
          simp at z
          have := d3 32 z
          omega
        · exact ⟨by decide, by decide, fun g => absurd g.1 (by decide)⟩
        · refine odd 97 (by simp) (by omega) (fun z => ?_) (by simp; omega)
          rcases List.mem_append.mp z with z | z
          · have := cm 3 32 z
            omega
          · simp at z
        · exact ⟨by omega, fun z => by have := d4 32 z; omega, fun g => d5 g.2.1⟩
      · rw [upd_same]
        have tE : T [] = Str.ofString "" := by decide +kernel
        simp only [List.map_cons, List.map_nil, tE, List.cons_append, List.nil_append]
    rintro _ H1 ⟨s1, p1, ns, nl, no, h1, rfl⟩
    refine cutS (fun σ' H' => Same H H' ∧ ∃ p, ∃ ns : List (List Nat), ns.length = 9 ∧ (∀ n ∈ ns, Odd n) ∧ H' p = some (.tup (ns.map fun n => V.str (T n))) ∧ σ' = [some (V.str z), some (V.int cl), some (V.str (T (numL (m : Int)))), some (V.ref p), none, none]) ?_ ?_
    · simp only [List.length_cons, List.length_nil, Nat.reduceAdd, List.set_cons_zero, List.set_cons_succ, gS, rVar, tC, tAsg, gName, tOp, tCons, tNil, tTup, tSl, tNoPart, pT, addV, slV, L_T, rCatT, k4]
      have c2 := cl3 2
      refine ⟨by omega, by omega, by omega, fun p hp => ⟨p1, p, _, _, rfl, rfl, SqT.of ((upd_ne (ne_of_none h1 hp)).trans h1), SqT.of upd_same, fun z => ?_, by rw [List.length_map, nl]; show _ + 3 ≤ _; omega, (fun z => by cases z), fun _ p' hp' => ⟨(s1.upd hp).upd hp', p', ns ++ [[49, 46, 48], cut (numL (m : Int)) none (some 2) ++ [58], [97]], by rw [List.length_append, nl]; rfl, ?_, ?_, rfl⟩⟩⟩
      · rw [List.map_eq_nil_iff] at z
        rw [z] at nl
        cases nl
      · intro n hn'
        rcases List.mem_append.mp hn' with z | z
        · exact no n z
        · simp only [List.mem_cons, List.not_mem_nil, or_false] at z
          rcases z with rfl | rfl | rfl
          · exact odd 46 (by decide) (by omega) (by decide) (by decide)
          · refine odd 58 (by simp) (by omega) (fun z => ?_) (by simp; omega)
            rcases List.mem_append.mp z with z | z
            · have := cm 2 32 z
              omega
            · simp at z
          · exact odd 97 (by decide) (by omega) (by decide) (by decide)
      · rw [upd_same, List.map_append]
        have t1 : T [49, 46, 48] = Str.ofString "1.0" := by decide +kernel
        have t2 : T [97] = Str.ofString "a" := by decide +kernel
        simp only [List.map_cons, List.map_nil, t1, t2]
    rintro _ H2 ⟨s2, p2, ns2, nl2, no2, h2, rfl⟩
    refine cutS (fun σ' H' => Same H H' ∧ ∃ n, Odd n ∧ σ' = [some (V.str z), some (V.int cl), some (V.str (T (numL (m : Int)))), some (V.ref p2), some (V.str (T n)), none]) ?_ ?_
    · simp only [Int.reduceLT, true_and, List.set_cons_zero, List.set_cons_succ, gS, rVar, tC, tAsg, gName, tOp, tCons, tNil, tFn, ixV, sp_w_mixed]
      intro r r0 r1
      obtain ⟨n, hn', e⟩ := atI_map_get (fun n => V.str (T n)) ns2 r0 (by rw [nl2]; exact r1)
      exact ⟨_, _, .inr (SqT.of h2), e, s2, n, no2 n hn', rfl⟩
    rintro _ H3 ⟨s3, n, on, rfl⟩
    refine cutS (fun σ' H' => Same H H' ∧ ∃ p, ∃ rs : List (List Nat), rs.length = 3 ∧ (∀ r ∈ rs, BadR r) ∧ H' p = some (.tup (rs.map fun n => V.str (T n))) ∧ σ' = [some (V.str z), some (V.int cl), some (V.str (T (numL (m : Int)))), some (V.ref p2), some (V.str (T n)), some (V.ref p)]) ?_ ?_
    · simp only [List.length_cons, List.length_nil, Nat.reduceAdd, List.set_cons_zero, List.set_cons_succ, gS, rVar, tC, tAsg, gName, tOp, tCons, tNil, tTup, addV, L_T]
      have x1 : L (Str.ofString "off ") = cd "off" ++ [32] := by decide +kernel
      have x2 : L (Str.ofString "often ") = cd "often" ++ [32] := by decide +kernel
      have x3 : L (Str.ofString "near ") = cd "near" ++ [32] := by decide +kernel
      have x4 : L (Str.ofString " ") = [32] := by decide +kernel
      have x5 : L (Str.ofString " ab") = 32 :: cd "ab" := by decide +kernel
      have y1 : (cd "off").length = 3 := by decide +kernel
      have y2 : (cd "often").length = 5 := by decide +kernel
      have y3 : (cd "near").length = 4 := by decide +kernel
      have y4 : (cd "ab").length = 2 := by decide +kernel
      have z1 : 32 ∉ cd "off" := by decide +kernel
      have z2 : 32 ∉ cd "often" := by decide +kernel
      have z3 : 32 ∉ cd "near" := by decide +kernel
      have z4 : 32 ∉ cd "ab" := by decide +kernel
      have f1 : frmIx (cd "off") = some 2 := by decide +kernel
      have f2 : frmIx (cd "often") = some 2 := by decide +kernel
      have f3 : frmIx (cd "near") = some 3 := by decide +kernel
      obtain ⟨o1, o2, o3⟩ := on
      have nb := hn.is.noB
      rw [x1, x2, x3, x4, x5]
      have len : ∀ a b : Nat, a ≤ b → b ≤ 200 → a ≤ sizeLine := fun a b h1 h2 => by omega
      refine ⟨?_, ?_, ?_, ?_, ?_, ?_, ?_, ?_, ?_, ?_, by omega, fun p hp => ⟨s3.upd hp, p, [jn [cd "off", L z, n], jn [cd "often", L z, n], jn [cd "near", L z, n, cd "ab"]], rfl, ?_, ?_, rfl⟩⟩
      iterate 10 (simp only [List.length_append, List.length_cons, List.length_nil]; omega)
      · simp only [List.mem_cons, List.not_mem_nil, or_false]
        rintro r (rfl | rfl | rfl)
        · refine ⟨by simp only [jn, List.length_append, List.length_cons]; omega, bad_row (by simp) ?_ fun i hi => .inr (.inr (.inl ⟨Option.some.inj (hi.symm.trans f1), .inr o3⟩))⟩
          intro w hw
          simp only [List.mem_cons, List.not_mem_nil, or_false] at hw
          rcases hw with rfl | rfl | rfl <;> assumption
        · refine ⟨by simp only [jn, List.length_append, List.length_cons]; omega, bad_row (by simp) ?_ fun i hi => .inr (.inr (.inl ⟨Option.some.inj (hi.symm.trans f2), .inr o3⟩))⟩
          intro w hw
          simp only [List.mem_cons, List.not_mem_nil, or_false] at hw
          rcases hw with rfl | rfl | rfl <;> assumption
        · refine ⟨by simp only [jn, List.length_append, List.length_cons]; omega, bad_row (by simp) ?_ fun i hi => .inr (.inr (.inr (.inl ⟨Option.some.inj (hi.symm.trans f3), .inr o3⟩)))⟩
          intro w hw
          simp only [List.mem_cons, List.not_mem_nil, or_false] at hw
          rcases hw with rfl | rfl | rfl | rfl <;> assumption
      · rw [upd_same]
        simp only [List.map_cons, List.map_nil, jn, List.append_assoc, List.cons_append, List.nil_append]
    rintro _ H4 ⟨s4, p4, rs, rl, rb, h4, rfl⟩
    simp only [Int.reduceLT, true_and, gS, rVar, tC, tRet, tOp, tCons, tNil, tFn, ixV, sp_w_mixed]
    intro r r0 r1
    obtain ⟨x, hx, e⟩ := atI_map_get (fun n => V.str (T n)) rs r0 (by rw [rl]; exact r1)
    exact ⟨_, _, .inr (SqT.of h4), e, s4, q x (rb x hx)⟩
noncomputable def firsts : List Nat := [32, 120, 45, 49, 46]
theorem first_none : ∀ c ∈ firsts, c ≠ 32 → ∀ w ∈ ["text", "keep", "off", "kinds"], frmIx (c :: cd w) = none := by decide +kernel
theorem empty_none : frmIx [] = none := by decide +kernel
theorem bad_first {c : Nat} (hc : c ∈ firsts) {w : String} (hw : w ∈ ["text", "keep", "off", "kinds"]) {r : List (List Nat)} (hb : NoB (cd w :: r)) (hl : (jn (cd w :: r)).length ≤ 90) : BadR (c :: jn (cd w :: r)) := by
  refine ⟨by rw [List.length_cons]; omega, ?_⟩
  by_cases e : c = 32
  · subst e
    have ej : 32 :: jn (cd w :: r) = jn ([] :: cd w :: r) := rfl
    rw [ej]
    refine bad_row (by simp) (fun v hv => ?_) fun i hi => ?_
    · rcases List.mem_cons.mp hv with rfl | hv
      · simp
      · exact hb v hv
    · have hi : frmIx [] = some i := hi
      rw [empty_none] at hi
      cases hi
  · have ej : c :: jn (cd w :: r) = jn ((c :: cd w) :: r) := by
      cases r with
      | nil => rfl
      | cons v s => rfl
    rw [ej]
    refine bad_row (by simp) (fun v hv => ?_) fun i hi => ?_
    · rcases List.mem_cons.mp hv with rfl | hv
      · intro m
        rcases List.mem_cons.mp m with m | m
        · exact e m.symm
        · exact hb _ (List.mem_cons_self ..) m
      · exact hb v (List.mem_cons_of_mem _ hv)
    · have hi : frmIx (c :: cd w) = some i := hi
      rw [first_none c hc e w hw] at hi
      cases hi
noncomputable def sp_w_row_by (K : PySem.W.Frag) : Sp := fun vs H Q _ => match vs with
  | [.str z, .int _] => NameF (L z) ∧ ∀ r, BadR r → Q (.str (T r)) H
  | _ => False
theorem ok_w_row_by {f : Addr} {fd : FuncData} (F : Fun K "_law_row_by" "_law_row_by" s_w_row_by f fd) (B : Bn mg) {c : Cs} (ER : Er K mg c) {A_FORMS A_KEEPING A_ANSWERS : Addr} (TP : Tp K w.params mg A_FORMS A_KEEPING A_ANSWERS) {C_Desk : Addr} (CF : Cf K C_Desk) (GC : Gc mg) (G_w_mixed : Fn P w K mg base 1 "_law_mixed" P_w_mixed (sp_w_mixed K)) (G_w_bare : Fn P w K mg base 2 "_law_bare" P_w_bare (sp_w_bare K)) (G_w_numbered : Fn P w K mg base 2 "_law_numbered" P_w_numbered (sp_w_numbered K)) : FnOk P w K mg base CX0 3 f fd P_w_row_by (sp_w_row_by K) := by
  refine F.pure sc_w_row_by (fun vs H Q E h => ?_) (fun cdv A outer s H vs Q E hr h => ?_) <;> unfold sp_w_row_by at h <;> split at h <;> first | exact h.elim | skip
  · rfl
  · rename_i z cl
    obtain ⟨hn, q⟩ := h
    refine ⟨_, (pss_cons (ps_set (i := 2) sc_w_row_by.nd rfl (by first | exact Or.inl rfl | exact Or.inr rfl) (pe_fn G_w_mixed (hr.mono (by decide)) (pa_cons (qv 1) (pa_cons pe_int (pa_cons pe_int pa_nil)))))
        (pss_cons (ps_if (pt_c2 o_eq (qv 2) pe_int) (pss_one (ps_ret (pe_fn G_w_numbered (hr.mono (by decide)) (pa_cons (qv 0) (pa_cons (qv 1) pa_nil))))) pss_nil)
        (pss_cons (ps_if (pt_c2 o_eq (qv 2) pe_int) (pss_cons (ps_cut (ps_set (i := 3) sc_w_row_by.nd rfl (by first | exact Or.inl rfl | exact Or.inr rfl) (pe_ix (i_ixK (K := K) rfl) (pe_tup (pa_cons (pe_op o_add pe_str (qv 0)) (pa_cons (pe_op o_add (pe_op o_add pe_str (qv 0)) pe_str) (pa_cons (pe_op o_add (pe_op o_add pe_str (qv 0)) pe_str) (pa_cons (pe_op o_add pe_str (qv 0)) pa_nil))))) (pe_fn G_w_mixed (hr.mono (by decide)) (pa_cons (qv 1) (pa_cons pe_int (pa_cons pe_int pa_nil)))) (fun _ _ => rfl))))
        (pss_one (ps_ret (pe_op o_add (pe_ix (i_ixK (K := K) rfl) (pe_tup (pa_cons pe_str (pa_cons pe_str (pa_cons pe_str (pa_cons pe_str (pa_cons pe_str pa_nil)))))) (pe_fn G_w_mixed (hr.mono (by decide)) (pa_cons (qv 1) (pa_cons pe_int (pa_cons pe_int pa_nil)))) (fun _ _ => rfl)) (qv 3))))) pss_nil)
        (pss_one (ps_ret (pe_fn G_w_bare (hr.mono (by decide)) (pa_cons (qv 0) (pa_cons (qv 1) pa_nil)))))))), ?_⟩
    have hsz : sizeLine = 16777216 := sizeLine_eq
    have hl : (L z).length ≤ 8 := hn.is.2.1
    simp only [L2.start, List.map_cons, List.map_nil, List.length_cons, List.length_nil, List.replicate_succ, List.replicate_zero, List.cons_append, List.nil_append, Nat.reduceAdd, Nat.reduceSub, Int.reduceLT, true_and, decide_eq_true_eq, List.set_cons_zero, List.set_cons_succ, gS, rVar, tC, tSeq, tNext, tAsg, gName, tRet, tIfS, tCons, tNil, tFn, tB2, eqR, sc, sp_w_mixed, sp_w_numbered, sp_w_bare]
    refine fun r r0 r1 => ite2 (fun _ => ⟨hn, fun r hr => ⟨Same.refl H, q r hr⟩⟩) fun _ => ite2 (fun _ => ?_) fun _ => ⟨hn, fun r hr => ⟨Same.refl H, q r hr⟩⟩
    have x1 : L (Str.ofString "text ") = cd "text" ++ [32] := by decide +kernel
    have x2 : L (Str.ofString "keep ") = cd "keep" ++ [32] := by decide +kernel
    have x3 : L (Str.ofString "off ") = cd "off" ++ [32] := by decide +kernel
    have x4 : L (Str.ofString "kinds ") = cd "kinds" ++ [32] := by decide +kernel
    have x5 : L (Str.ofString " a") = 32 :: cd "a" := by decide +kernel
    have x6 : L (Str.ofString " 1") = 32 :: cd "1" := by decide +kernel
    have y1 : (cd "text").length = 4 := by decide +kernel
    have y2 : (cd "keep").length = 4 := by decide +kernel
    have y3 : (cd "off").length = 3 := by decide +kernel
    have y4 : (cd "kinds").length = 5 := by decide +kernel
    have y5 : (cd "a").length = 1 := by decide +kernel
    have y6 : (cd "1").length = 1 := by decide +kernel
    have z1 : 32 ∉ cd "text" := by decide +kernel
    have z2 : 32 ∉ cd "keep" := by decide +kernel
    have z3 : 32 ∉ cd "off" := by decide +kernel
    have z4 : 32 ∉ cd "kinds" := by decide +kernel
    have z5 : 32 ∉ cd "a" := by decide +kernel
    have z6 : 32 ∉ cd "1" := by decide +kernel
    have nb := hn.is.noB
    refine cutS (fun σ' H' => Same H H' ∧ ∃ g : List Nat, g.length ≤ 90 ∧ (∀ c ∈ firsts, BadR (c :: g)) ∧ σ' = [some (V.str z), some (V.int cl), some (V.int r), some (V.str (T g))]) ?_ ?_
    · simp only [List.length_cons, List.length_nil, Nat.reduceAdd, Int.reduceLT, true_and, List.set_cons_zero, List.set_cons_succ, gS, rVar, tC, tAsg, gName, tOp, tCons, tNil, tTup, tFn, addV, ixV, L_T, sp_w_mixed]
      rw [x1, x2, x3, x4, x5, x6]
      refine ⟨?_, ?_, ?_, ?_, ?_, ?_, by omega, fun p hp a a0 a1 => ?_⟩
      iterate 6 (simp only [List.length_append, List.length_cons, List.length_nil]; omega)
      have e1 : [V.str (T (cd "text" ++ [32] ++ L z)), V.str (T (cd "keep" ++ [32] ++ L z ++ 32 :: cd "a")), V.str (T (cd "off" ++ [32] ++ L z ++ 32 :: cd "1")), V.str (T (cd "kinds" ++ [32] ++ L z))] = ([jn [cd "text", L z], jn [cd "keep", L z, cd "a"], jn [cd "off", L z, cd "1"], jn [cd "kinds", L z]] : List (List Nat)).map fun g => V.str (T g) := by
        simp only [List.map_cons, List.map_nil, jn, List.append_assoc, List.cons_append, List.nil_append]
      obtain ⟨g, hg, e⟩ := atI_map_get (fun g => V.str (T g)) ([jn [cd "text", L z], jn [cd "keep", L z, cd "a"], jn [cd "off", L z, cd "1"], jn [cd "kinds", L z]] : List (List Nat)) a0 (by show a < ((4 : Nat) : Int); exact a1)
      refine ⟨_, _, .inr (SqT.of upd_same), e1 ▸ e, Same.updN hp, g, ?_, ?_, rfl⟩
      · simp only [List.mem_cons, List.not_mem_nil, or_false] at hg
        rcases hg with rfl | rfl | rfl | rfl <;> simp only [jn, List.length_append, List.length_cons] <;> omega
      · intro c hc
        simp only [List.mem_cons, List.not_mem_nil, or_false] at hg
        rcases hg with rfl | rfl | rfl | rfl
        · refine bad_first hc (w := "text") (by decide) ?_ (by simp only [jn, List.length_append, List.length_cons]; omega)
          intro w hw
          simp only [List.mem_cons, List.not_mem_nil, or_false] at hw
          rcases hw with rfl | rfl <;> assumption
        · refine bad_first hc (w := "keep") (by decide) ?_ (by simp only [jn, List.length_append, List.length_cons]; omega)
          intro w hw
          simp only [List.mem_cons, List.not_mem_nil, or_false] at hw
          rcases hw with rfl | rfl | rfl <;> assumption
        · refine bad_first hc (w := "off") (by decide) ?_ (by simp only [jn, List.length_append, List.length_cons]; omega)
          intro w hw
          simp only [List.mem_cons, List.not_mem_nil, or_false] at hw
          rcases hw with rfl | rfl | rfl <;> assumption
        · refine bad_first hc (w := "kinds") (by decide) ?_ (by simp only [jn, List.length_append, List.length_cons]; omega)
          intro w hw
          simp only [List.mem_cons, List.not_mem_nil, or_false] at hw
          rcases hw with rfl | rfl <;> assumption
    rintro _ H1 ⟨s1, g, gl, gb, rfl⟩
    simp only [List.length_cons, List.length_nil, Nat.reduceAdd, Int.reduceLT, true_and, gS, rVar, tC, tRet, tOp, tCons, tNil, tTup, tFn, addV, ixV, rCat, sp_w_mixed]
    refine ⟨by omega, fun p hp a a0 a1 => ?_⟩
    have e1 : [V.str (Str.ofString " "), V.str (Str.ofString "x"), V.str (Str.ofString "-"), V.str (Str.ofString "1"), V.str (Str.ofString ".")] = firsts.map fun c => V.str (T [c]) := by decide +kernel
    obtain ⟨c, hc, e⟩ := atI_map_get (fun c => V.str (T [c])) firsts a0 (by show a < ((5 : Nat) : Int); exact a1)
    refine ⟨_, _, .inr (SqT.of upd_same), e1 ▸ e, ?_⟩
    simp only [List.length_cons, List.length_nil, List.cons_append, List.nil_append, Nat.reduceAdd, L_T]
    exact ⟨by show 1 + _ ≤ _; omega, s1.upd hp, q _ (gb c hc)⟩
noncomputable def sp_law (K : PySem.W.Frag) : Sp := fun vs H Q _ => ∃ (a : Addr) (ns : List Int), vs = [.ref a] ∧ SqL K H a (ns.map V.int) ∧ ns.length ≤ 63 ∧ ∀ H', Q (.bl true) H'
theorem ok_law {f : Addr} {fd : FuncData} (F : Fun K "law" "law" s_law f fd) (B : Bn mg) {c : Cs} (ER : Er K mg c) {A_FORMS A_KEEPING A_ANSWERS : Addr} (TP : Tp K w.params mg A_FORMS A_KEEPING A_ANSWERS) {C_Desk : Addr} (CF : Cf K C_Desk) (GC : Gc mg) (G_w_cell_at : Fn P w K mg base 1 "_law_cell_at" P_w_cell_at (sp_w_cell_at K)) (G_w_mixed : Fn P w K mg base 1 "_law_mixed" P_w_mixed (sp_w_mixed K)) (G_w_signs : Fn P w K mg base 1 "_law_signs" P_w_signs (sp_w_signs K)) (G_w_names_by : Fn P w K mg base 2 "_law_names_by" P_w_names_by (sp_w_names_by K)) (G_w_said : Fn P w K mg base 4 "_law_said" P_w_said (sp_w_said K C_Desk)) (G_w_is_said : Fn P w K mg base 1 "_law_is_said" P_w_is_said (sp_w_is_said K)) (G_w_row_by : Fn P w K mg base 3 "_law_row_by" P_w_row_by (sp_w_row_by K)) (MK_Desk : Mkr P w K mg base CX0 1 "Desk" C_Desk P_m_Desk_init [] (sp_m_Desk_init K C_Desk)) : FnOk P w K mg base CX0 5 f fd P_law (sp_law K) := by
  refine F.ok sc_law (fun vs H Q E h => ?_) (fun cdv A outer s H vs Q E hr h => ?_)
  · obtain ⟨a, ns, rfl, _⟩ := h
    rfl
  · obtain ⟨a, ns, rfl, hS, hl, q⟩ := h
    refine ⟨_, (pss_cons (ps_cut (ps_set (i := 1) sc_law.nd rfl (by first | exact Or.inl rfl | exact Or.inr rfl) (pe_fn G_w_names_by (hr.mono (by decide)) (pa_cons (pe_fn G_w_cell_at (hr.mono (by decide)) (pa_cons (qv 0) (pa_cons pe_int pa_nil))) pa_nil))))
        (pss_cons (ps_cut (ps_set (i := 2) sc_law.nd rfl (by first | exact Or.inl rfl | exact Or.inr rfl) (pe_bmK (K := K) rfl PySem.F.plainAttrs_str PySem.F.slot_str_join PySem.F.type_str_join (m_joinK (K := K) rfl) pe_str (pa_cons (pe_compL (K := K) rfl (own := ["_law_cell"]) (cp := []) rfl rfl rfl (by decide +kernel) (by decide +kernel) trivial (pe_slice (s_slK (K := K) rfl) (qv 0) (po_t pe_int) (po_t pe_int)) (by decide) (fun _ _ _ _ => pg_name (i := 0) (show List.Nodup (["_law_cell"] : List Str) by decide +kernel) rfl (Or.inl rfl) (Or.inr rfl)) (fun _ _ _ _ => pf_nil) (fun _ _ _ _ => (pe_ix (i_ixK (K := K) rfl) (pe_fn0 G_w_signs (hr.mono (by decide))) (pe_op o_mod (qv 0) pe_int) (fun _ _ => rfl)))) pa_nil))))
        (pss_cons (ps_cut (ps_set (i := 3) sc_law.nd rfl (by first | exact Or.inl rfl | exact Or.inr rfl) (pe_mk0 MK_Desk (hr.mono (by decide)))))
        (pss_cons (ps_cut (ps_lstK (K := K) rfl PassesOwn.never rfl (pe_slice (s_slK (K := K) rfl) (qv 1) po_none (po_t pe_int)) (pg_name (i := 4) sc_law.nd rfl (by first | exact Or.inl rfl | exact Or.inr rfl)) (pss_one (ps_if (pt_not (pt_trK (K := K) rfl (pe_fn G_w_is_said (hr.mono (by decide)) (pa_cons (pe_fn G_w_said (hr.mono (by decide)) (pa_cons (qv 3) (pa_cons (pe_op o_add (pe_op o_add (pe_op o_add pe_str (qv 4)) pe_str) (qv 2)) pa_nil))) (pa_cons pe_str pa_nil))))) (pss_one (ps_ret pe_bl)) pss_nil))))
        (pss_cons (ps_cut (ps_lstK (K := K) rfl PassesOwn.never rfl (pe_op o_add (pe_slice (s_slK (K := K) rfl) (qv 0) (po_t pe_int) (po_t pe_int)) (pe_lst (pa_cons (pe_fn G_w_cell_at (hr.mono (by decide)) (pa_cons (qv 0) (pa_cons pe_int pa_nil))) pa_nil))) (pg_name (i := 5) sc_law.nd rfl (by first | exact Or.inl rfl | exact Or.inr rfl)) (pss_one (ps_if (pt_c2 (o_neA (K := K) rfl hr) (pe_fn G_w_said (hr.mono (by decide)) (pa_cons (qv 3) (pa_cons (pe_fn G_w_row_by (hr.mono (by decide)) (pa_cons (pe_ix (i_ixK (K := K) rfl) (qv 1) (pe_fn G_w_mixed (hr.mono (by decide)) (pa_cons (qv 5) (pa_cons pe_int (pa_cons pe_int pa_nil)))) (fun _ _ => rfl)) (pa_cons (qv 5) pa_nil))) pa_nil))) (pe_tup (pa_cons pe_str (pa_cons pe_str pa_nil)))) (pss_one (ps_ret pe_bl)) pss_nil))))
        (pss_cons (ps_cut (ps_lstK (K := K) rfl PassesOwn.never rfl (pe_slice (s_slK (K := K) rfl) (qv 1) po_none (po_t pe_int)) (pg_name (i := 4) sc_law.nd rfl (by first | exact Or.inl rfl | exact Or.inr rfl)) (pss_one (ps_if (pt_not (pt_trK (K := K) rfl (pe_fn G_w_is_said (hr.mono (by decide)) (pa_cons (pe_fn G_w_said (hr.mono (by decide)) (pa_cons (qv 3) (pa_cons (pe_op o_add pe_str (qv 4)) pa_nil))) (pa_cons (qv 2) pa_nil))))) (pss_one (ps_ret pe_bl)) pss_nil))))
        (pss_one (ps_ret pe_bl)))))))), ?_⟩
    have hsz : sizeLine = 16777216 := sizeLine_eq
    refine cutS (fun σ' H' => SameN H H' ∧ ∃ p, ∃ nm : List (List Nat), nm.length = 4 ∧ (∀ n ∈ nm, NameF n) ∧ H' p = some (.lst (nm.map fun n => V.str (T n))) ∧ σ' = [some (V.ref a), some (V.ref p), none, none, none, none]) ?_ ?_
    · simp only [L2.start, List.map_cons, List.map_nil, List.length_cons, List.length_nil, List.replicate_succ, List.replicate_zero, List.cons_append, List.nil_append, Nat.reduceAdd, Nat.reduceSub, Int.reduceLE, true_and, List.set_cons_zero, List.set_cons_succ, gS, rVar, tC, tAsg, gName, tCons, tNil, tFn, sp_w_cell_at, sp_w_names_by]
      exact ⟨ns, hS, fun p H' nm s1 hp h1 nl nf => ⟨s1.toN, p, nm, nl, nf, h1, rfl⟩⟩
    rintro _ H1 ⟨s1, p, nm, nl, nf, hp, rfl⟩
    refine cutS (fun σ' H' => SameN H H' ∧ H' p = some (.lst (nm.map fun n => V.str (T n))) ∧ ∃ x : List Nat, x.length ≤ 63 ∧ σ' = [some (V.ref a), some (V.ref p), some (V.str (T x)), none, none, none]) ?_ ?_
    · simp only [List.map_nil, List.length_cons, List.length_nil, List.replicate_succ, List.replicate_zero, Nat.reduceAdd, true_and, if_true, List.set_cons_zero, List.set_cons_succ, gS, rVar, tC, tAsg, gName, tOp, tCons, tNil, tSl, pT, ixV, slV, joinV, tBM, tyV, tCL, oneC, capS, List.append_nil, sp_w_signs]
      refine ⟨_, s1.seq hS, fun q hq => ⟨_, SqL.of upd_same, by rw [cut_map, List.length_map]; have := cut_len ns (some 1) (some 40); omega, fun i H' acc => H' = upd H1 q (HO.lst (cut (ns.map V.int) (some 1) (some 40))) ∧ ∃ cs : List Nat, cs.length = i ∧ acc = cs.map fun c => V.str (T [c]), ⟨rfl, [], rfl, rfl⟩, ?_, ?_, ?_⟩⟩
      · rintro i H' acc _ ⟨rfl, _⟩
        exact SqL.of upd_same
      · rintro i y H' acc hy ⟨rfl, cs, cl, rfl⟩
        rw [cut_map, List.getElem?_map] at hy
        obtain ⟨v, _, rfl⟩ := Option.map_eq_some_iff.mp hy
        simp only [Int.reduceLT, true_and, int2, L_T, modV]
        have m0 : 0 ≤ v % 94 := Int.emod_nonneg _ (by decide)
        have m1 : v % 94 < 94 := Int.emod_lt_of_pos _ (by decide)
        refine ⟨by decide, _, atI_getD 0 m0 m1, cs ++ [signs.getD (v % 94).toNat 0], by rw [List.length_append, cl]; rfl, ?_⟩
        rw [List.map_append]
        rfl
      · rintro H' acc ⟨rfl, cs, cl, rfl⟩ l hl'
        have e0 : L (Str.ofString "") = [] := by decide +kernel
        rw [cut_map, List.length_map] at cl
        have c39 : cs.length ≤ 63 := by
          rw [cl]
          exact Nat.le_trans (cut_len ns _ _) hl
        refine ⟨cs.map fun c => [c], by rw [List.map_map]; exact SqL.of upd_same, ?_, (s1.upd hq).upd hl', (upd_ne (ne_of_none ((upd_ne (ne_of_none hp hq)).trans hp) hl')).trans ((upd_ne (ne_of_none hp hq)).trans hp), cs, c39, ?_⟩
        · rw [e0, sum1 (fun c : Nat => c), List.length_map, List.length_nil]
          omega
        · rw [e0, joinL_nil, flat1 (fun c : Nat => c), List.map_id']
    rintro _ H2 ⟨s2, hp2, x, hx, rfl⟩
    refine cutS (fun σ' H' => SameN H H' ∧ H' p = some (.lst (nm.map fun n => V.str (T n))) ∧ ∃ o t, H t = none ∧ IsDesk C_Desk H' o t [] ∧ σ' = [some (V.ref a), some (V.ref p), some (V.str (T x)), some (V.ref o), none, none]) ?_ ?_
    · simp only [true_and, List.set_cons_zero, List.set_cons_succ, tAsg, gName, tNil, tMake, List.append_nil, sp_m_Desk_init]
      intro o dx ho hdx hne
      refine ⟨⟨dx, upd_same⟩, fun H' t kp ht hD => ?_⟩
      have sm : Same H2 H' := fun b u h => kp b u (ne_of_none h ho) ((upd_ne (ne_of_none h ho)).trans ((upd_ne (ne_of_none h hdx)).trans h))
      exact ⟨s2.trans sm.toN, sm p _ hp2, o, t, s2.free (upd_free (upd_free ht).1).1, hD, rfl⟩
    rintro _ H3 ⟨s3, hp3, o, t, htn, hD, rfl⟩
    obtain ⟨n0, n1, n2, n3, rfl⟩ : ∃ n0 n1 n2 n3, nm = [n0, n1, n2, n3] := by
      match nm, nl with
      | [n0, n1, n2, n3], _ => exact ⟨n0, n1, n2, n3, rfl⟩
    have f0 := nf n0 (by simp)
    have f1 := nf n1 (by simp)
    have f2 := nf n2 (by simp)
    have f3 := nf n3 (by simp)
    have hcut : cut ([n0, n1, n2, n3].map fun n => V.str (T n)) none (some 2) = [V.str (T n0), V.str (T n1)] := rfl
    have w1 : L (Str.ofString "keep ") = cd "keep" ++ [32] := by decide +kernel
    have w2 : L (Str.ofString " ") = [32] := by decide +kernel
    have w3 : L (Str.ofString "text ") = cd "text" ++ [32] := by decide +kernel
    have w4 : (cd "keep").length = 4 := by decide +kernel
    have w5 : (cd "text").length = 4 := by decide +kernel
    have w6 : L (Str.ofString "ok") = cd "ok" := rfl
    have kt : cd "text" ≠ cd "keep" ∧ cd "text" ≠ cd "load" := by decide +kernel
    refine cutS (fun σ' H' => SameN H H' ∧ H' p = some (.lst ([n0, n1, n2, n3].map fun n => V.str (T n))) ∧ ∃ kept : KeptT, ∃ u, kept.length ≤ 2 ∧ IsDesk C_Desk H' o t kept ∧ lookT kept n0 = some x ∧ lookT kept n1 = some x ∧ σ' = [some (V.ref a), some (V.ref p), some (V.str (T x)), some (V.ref o), u, none]) ?_ ?_
    · simp only [List.map_cons, List.map_nil, if_true, Bool.not_false, gS, rVar, tC, tNext, gName, tRet, tIfS, tOp, tCons, tNil, tFn, tNot, trV, tSl, tNoPart, pT, addV, slV, L_T, rCat, tLst1, forL]
      refine ⟨_, SqL.of hp3, fun q1 hq1 => ⟨_, SqL.of upd_same, fun i σ' H' => SameN H H' ∧ H' p = some (.lst ([n0, n1, n2, n3].map fun n => V.str (T n))) ∧ H' q1 = some (.lst [V.str (T n0), V.str (T n1)]) ∧ ∃ kept : KeptT, ∃ u, kept.length ≤ i ∧ IsDesk C_Desk H' o t kept ∧ (1 ≤ i → lookT kept n0 = some x) ∧ (2 ≤ i → lookT kept n1 = some x) ∧ σ' = [some (V.ref a), some (V.ref p), some (V.str (T x)), some (V.ref o), u, none], ⟨s3.upd hq1, (upd_ne (ne_of_none hp3 hq1)).trans hp3, by rw [hcut]; exact upd_same, [], none, Nat.le_refl _, hD.same (Same.updN hq1).toN, fun z => absurd z (by decide), fun z => absurd z (by decide), rfl⟩, ?_, ?_, ?_⟩⟩
      · rintro i σ' H' _ ⟨_, _, h', _⟩
        rw [hcut]
        exact SqL.of h'
      · rintro i y σ' H' hy ⟨s', hp', hq', kept, u, hk, hD', g0, g1, rfl⟩
        rw [hcut] at hy
        obtain ⟨n, fn, rfl, hi, gn⟩ : ∃ n, NameF n ∧ y = V.str (T n) ∧ i < 2 ∧ ∀ kept' : KeptT, (∀ m, lookT kept' m = if m = n then some x else lookT kept m) → (1 ≤ i + 1 → lookT kept' n0 = some x) ∧ (2 ≤ i + 1 → lookT kept' n1 = some x) := by
          match i, hy, g0, g1 with
          | 0, hy, _, _ =>
            cases Option.some.inj hy
            exact ⟨n0, f0, rfl, by decide, fun k' hk' => ⟨fun _ => by rw [hk', if_pos rfl], fun z => absurd z (by decide)⟩⟩
          | 1, hy, g0, _ =>
            cases Option.some.inj hy
            refine ⟨n1, f1, rfl, by decide, fun k' hk' => ⟨fun _ => ?_, fun _ => by rw [hk', if_pos rfl]⟩⟩
            rw [hk']
            by_cases e : n0 = n1
            · rw [if_pos e]
            · rw [if_neg e]
              exact g0 (by decide)
          | i + 2, hy, _, _ => cases hy
        simp only [List.map_cons, List.map_nil, List.length_cons, List.length_nil, Nat.reduceAdd, List.set_cons_zero, List.set_cons_succ, gS, L_T, w1, w2]
        have fl := fn.is.2.1
        refine ⟨by simp only [List.length_append, List.length_cons, List.length_nil]; omega, by simp only [List.length_append, List.length_cons, List.length_nil]; omega, by simp only [List.length_append, List.length_cons, List.length_nil]; omega, ?_⟩
        simp only [sp_w_said, L_T]
        have er : cd "keep" ++ [32] ++ n ++ [32] ++ x = jn [cd "keep", n] ++ 32 :: x := by simp [jn]
        rw [er]
        have gr := good_keep (x := x) fn.is.noB
        refine ⟨t, kept, hD', by omega, by simp only [jn, List.length_append, List.length_cons]; omega, fun z => absurd ⟨_, _, gr⟩ z, fun i' ws g' => ?_⟩
        obtain ⟨rfl, rfl⟩ := g'.uniq gr
        refine ⟨fun z => absurd ⟨fun _ => fn.is, fun z => absurd (.inl rfl) z⟩ z, fun _ => .inl ⟨rfl, rfl, fun _ H2 p2 sm hp2 h2 => ?_, fun z => ?_⟩⟩
        · simp only [sp_w_is_said]
          refine ⟨_, h2, ?_⟩
          rw [L_T, w6, decide_eq_true rfl]
          have pt := hD'.ne hp' (by intro kvs z; cases z)
          have qt := hD'.ne hq' (by intro kvs z; cases z)
          refine iteF ⟨sameN_updT s' htn sm, sm.at ((upd_ne pt).trans hp') (by intro ps z; cases z), sm.at ((upd_ne qt).trans hq') (by intro ps z; cases z), putT kept n x, _, ?_, hD'.put sm, (gn _ (look_put kept n x)).1, (gn _ (look_put kept n x)).2, rfl⟩
          have := len_putT kept n x
          show (putT kept n x).length ≤ _
          omega
        · have z : 300 < x.length := z
          omega
      · rintro σ' H' ⟨s', hp', _, kept, u, hk, hD', g0, g1, rfl⟩
        rw [hcut] at hk g0 g1
        exact ⟨s', hp', kept, u, hk, hD', g0 (by show 1 ≤ 2; decide), g1 (by show 2 ≤ 2; decide), rfl⟩
    rintro _ H4 ⟨s4, hp4, kept, u, hk, hD4, hk0, hk1, rfl⟩
    refine cutS (fun σ' H' => SameN H H' ∧ H' p = some (.lst ([n0, n1, n2, n3].map fun n => V.str (T n))) ∧ ∃ u v, IsDesk C_Desk H' o t kept ∧ σ' = [some (V.ref a), some (V.ref p), some (V.str (T x)), some (V.ref o), u, v]) ?_ ?_
    · simp only [List.map_cons, List.map_nil, List.length_cons, List.length_nil, Nat.reduceAdd, if_false, Bool.not_true, Bool.false_eq_true, gS, rVar, tC, tNext, gName, tRet, tIfS, tOp, tCons, tNil, tTup, tLst, tFn, tB2, tSl, pT, addV, ixV, slV, rCat, alkV, tLst1, forL]
      refine ⟨_, s4.seq hS, fun q1 hq1 => ?_⟩
      simp only [sp_w_cell_at]
      refine ⟨ns, (s4.upd hq1).seq hS, by decide, by omega, fun p1 hp1 => ⟨q1, p1, _, _, rfl, rfl, (upd_ne (ne_of_none upd_same hp1)).trans upd_same, upd_same, by rw [cut_map, List.length_map]; have := cut_len ns (some 2) (some 32); show _ + 1 ≤ _; omega, fun p2 hp2 => ?_⟩⟩
      have ez : cut (ns.map V.int) (some 2) (some 32) ++ [V.int (cellAt ns 1)] = (cut ns (some 2) (some 32) ++ [cellAt ns 1]).map V.int := by
        rw [cut_map, List.map_append]
        rfl
      rw [ez]
      have hpa : upd (upd (upd H4 q1 (HO.lst (cut (ns.map V.int) (some 2) (some 32)))) p1 (HO.lst [V.int (cellAt ns 1)])) p2 (HO.lst ((cut ns (some 2) (some 32) ++ [cellAt ns 1]).map V.int)) p = some (.lst ([n0, n1, n2, n3].map fun n => V.str (T n))) := (((Same.updN hq1).trans (Same.updN hp1)).trans (Same.updN hp2)) p _ hp4
      refine ⟨_, SqL.of upd_same, fun i σ' H' => SameN H H' ∧ H' p = some (.lst ([n0, n1, n2, n3].map fun n => V.str (T n))) ∧ H' p2 = some (.lst ((cut ns (some 2) (some 32) ++ [cellAt ns 1]).map V.int)) ∧ ∃ u v, IsDesk C_Desk H' o t kept ∧ σ' = [some (V.ref a), some (V.ref p), some (V.str (T x)), some (V.ref o), u, v], ⟨((s4.upd hq1).upd hp1).upd hp2, hpa, upd_same, u, none, hD4.same (((Same.updN hq1).trans (Same.updN hp1)).trans (Same.updN hp2)).toN, rfl⟩, ?_, ?_, ?_⟩
      · rintro i σ' H' _ ⟨_, _, h', _⟩
        exact SqL.of h'
      · rintro i y σ' H' hy ⟨s', hp', hq', u', v', hD', rfl⟩
        rw [List.getElem?_map] at hy
        obtain ⟨vi, _, rfl⟩ := Option.map_eq_some_iff.mp hy
        simp only [List.map_cons, List.map_nil, Int.reduceLT, true_and, List.set_cons_zero, List.set_cons_succ, gS, L_T, sp_w_mixed, sp_w_row_by, sp_w_said]
        intro r r0 r1
        obtain ⟨n, hn, e⟩ := atI_map_get (fun n => V.str (T n)) [n0, n1, n2, n3] r0 (by show r < ((4 : Nat) : Int); exact r1)
        refine ⟨_, _, .inl (SqL.of hp'), e, ?_⟩
        simp only [L_T]
        refine ⟨nf n hn, fun r hr => ⟨t, kept, hD', by omega, Nat.le_trans hr.1 (by decide), fun _ => ⟨rfl, fun H2 p3 sm hp3' h3 => ⟨by omega, fun p4 hp4' => ?_⟩⟩, fun i' ws g' => absurd ⟨_, _, g'⟩ hr.2⟩⟩
        refine ⟨alike_same (flat2 rfl rfl) ((upd_ne (ne_of_none h3 hp4')).trans h3) upd_same, (s'.trans sm).upd hp4', (Same.updN hp4') _ _ (sm.at hp' (by intro ps z; cases z)), (Same.updN hp4') _ _ (sm.at hq' (by intro ps z; cases z)), _, _, (hD'.same sm).same (Same.updN hp4').toN, rfl⟩
      · rintro σ' H' ⟨s', hp', _, u', v', hD', rfl⟩
        exact ⟨s', hp', u', v', hD', rfl⟩
    rintro _ H5 ⟨s5, hp5, u, v, hD5, rfl⟩
    refine cutS (fun σ' H' => True) ?_ ?_
    · simp only [if_true, Bool.not_false, gS, rVar, tC, tNext, gName, tRet, tIfS, tOp, tCons, tNil, tFn, tNot, trV, tSl, tNoPart, pT, addV, slV, rCat, tLst1, forL]
      refine ⟨_, SqL.of hp5, fun q1 hq1 => ⟨_, SqL.of upd_same, fun i σ' H' => H' q1 = some (.lst [V.str (T n0), V.str (T n1)]) ∧ ∃ u v, IsDesk C_Desk H' o t kept ∧ σ' = [some (V.ref a), some (V.ref p), some (V.str (T x)), some (V.ref o), u, v], ⟨by rw [hcut]; exact upd_same, u, v, hD5.same (Same.updN hq1).toN, rfl⟩, ?_, ?_, fun _ _ _ => trivial⟩⟩
      · rintro i σ' H' _ ⟨h', _⟩
        rw [hcut]
        exact SqL.of h'
      · rintro i y σ' H' hy ⟨hq', u', v', hD', rfl⟩
        rw [hcut] at hy
        obtain ⟨n, fn, rfl, gn⟩ : ∃ n, NameF n ∧ y = V.str (T n) ∧ lookT kept n = some x := by
          match i, hy with
          | 0, hy => cases Option.some.inj hy; exact ⟨n0, f0, rfl, hk0⟩
          | 1, hy => cases Option.some.inj hy; exact ⟨n1, f1, rfl, hk1⟩
          | i + 2, hy => cases hy
        simp only [List.set_cons_zero, List.set_cons_succ, gS, L_T, w3]
        have fl := fn.is.2.1
        refine ⟨by simp only [List.length_append, List.length_cons, List.length_nil]; omega, ?_⟩
        simp only [sp_w_said, L_T]
        have er : cd "text" ++ [32] ++ n = jn [cd "text", n] := by simp [jn]
        rw [er]
        have gr := good_text fn.is.noB
        refine ⟨t, kept, hD', by omega, by simp only [jn, List.length_append, List.length_cons]; omega, fun z => absurd ⟨_, _, gr⟩ z, fun i' ws g' => ?_⟩
        obtain ⟨rfl, rfl⟩ := g'.uniq gr
        refine ⟨fun z => absurd ⟨fun z => (z.elim kt.1 kt.2).elim, fun _ => ⟨by show (lookT kept n).isSome = true; rw [gn]; rfl, fun z => absurd z (by decide)⟩⟩ z, fun _ => .inr ⟨rfl, x, gn, fun H2 p2 sm hp2 h2 => ?_⟩⟩
        simp only [sp_w_is_said, L_T]
        refine ⟨_, h2, ?_⟩
        rw [L_T, decide_eq_true rfl]
        have qt := hD'.ne hq' (by intro kvs z; cases z)
        exact iteF ⟨sm.at ((upd_ne qt).trans hq') (by intro ps z; cases z), _, _, hD'.put sm, rfl⟩
    intro σ' H' _
    simp only [tC, tRet]
    exact q H'
end
theorem us0 {us : List Value} (h : us.length = 0) : us = [] := match us, h with | [], _ => rfl
theorem us1 {us : List Value} (h : us.length = 1) : ∃ x0, us = [x0] := match us, h with | [x0], _ => ⟨x0, rfl⟩
theorem us2 {us : List Value} (h : us.length = 2) : ∃ x0 x1, us = [x0, x1] := match us, h with | [x0, x1], _ => ⟨x0, x1, rfl⟩
theorem us3 {us : List Value} (h : us.length = 3) : ∃ x0 x1 x2, us = [x0, x1, x2] := match us, h with | [x0, x1, x2], _ => ⟨x0, x1, x2, rfl⟩
theorem all_mk {l : PySem.W.OpenLaw} {w : World} {K : PySem.W.Frag} {h : Heap} {mg : Str → Option Value} {fa f_p_number_in f_p_read_row f_p_is_name f_p_check_names f_p_keep_text f_p_answer_keep f_p_answer_text f_w_cell_at f_w_mixed f_w_signs f_w_names_by f_w_which f_w_said f_w_is_said f_w_bare f_w_numbered f_w_row_by f_law f_m_Desk_init f_m_Desk_say e_BackError e_NoOrder e_NoPlace e_NoGap e_NoText e_NoTimes e_Empty e_TooLong e_NoName e_NoRow C_Desk : Addr} (X : K.In h) (G : h.Ns mainGlobals mg) (hfa : mg "law" = some (.ref fa))
    {od_d0 an_d0 od_d1 an_d1 od_d2 an_d2 od_d3 an_d3 od_d4 an_d4 od_d5 an_d5 od_d6 an_d6 od_d7 an_d7 od_d8 an_d8 od_d9 an_d9 od_d10 an_d10 od_d11 an_d11 od_d12 an_d12 od_d13 an_d13 od_d14 an_d14 od_d15 an_d15 od_d16 an_d16 od_d17 an_d17 od_d18 an_d18 od_d19 an_d19 : Option Addr} {sl_d0 sl_d1 sl_d2 sl_d3 sl_d4 sl_d5 sl_d6 sl_d7 sl_d8 sl_d9 sl_d10 sl_d11 sl_d12 sl_d13 sl_d14 sl_d15 sl_d16 sl_d17 sl_d18 sl_d19 : Array (Option Value)} {oc_d0 kV_d0 dc_d0 pm_d0 ct_d0 cd_d0 oc_d1 kV_d1 dc_d1 pm_d1 ct_d1 cd_d1 oc_d2 kV_d2 dc_d2 pm_d2 ct_d2 cd_d2 oc_d3 kV_d3 dc_d3 pm_d3 ct_d3 cd_d3 oc_d4 kV_d4 dc_d4 pm_d4 ct_d4 cd_d4 oc_d5 kV_d5 dc_d5 pm_d5 ct_d5 cd_d5 oc_d6 kV_d6 dc_d6 pm_d6 ct_d6 cd_d6 oc_d7 kV_d7 dc_d7 pm_d7 ct_d7 cd_d7 oc_d8 kV_d8 dc_d8 pm_d8 ct_d8 cd_d8 oc_d9 kV_d9 dc_d9 pm_d9 ct_d9 cd_d9 oc_d10 kV_d10 dc_d10 pm_d10 ct_d10 cd_d10 oc_d11 kV_d11 dc_d11 pm_d11 ct_d11 cd_d11 oc_d12 kV_d12 dc_d12 pm_d12 ct_d12 cd_d12 oc_d13 kV_d13 dc_d13 pm_d13 ct_d13 cd_d13 oc_d14 kV_d14 dc_d14 pm_d14 ct_d14 cd_d14 oc_d15 kV_d15 dc_d15 pm_d15 ct_d15 cd_d15 oc_d16 kV_d16 dc_d16 pm_d16 ct_d16 cd_d16 oc_d17 kV_d17 dc_d17 pm_d17 ct_d17 cd_d17 oc_d18 kV_d18 dc_d18 pm_d18 ct_d18 cd_d18 oc_d19 kV_d19 dc_d19 pm_d19 ct_d19 cd_d19 : Value}
    (a_d0 : PySem.W.nsIn K mainGlobals "number_in" = some (some (.ref f_p_number_in))) (l_d0 : K.lookup f_p_number_in = some ⟨oc_d0, od_d0, .func (PySem.W.fnOf "number_in" "number_in" (defArgs s_p_number_in) (defBody s_p_number_in) (defScope s_p_number_in) .none kV_d0 dc_d0 pm_d0 an_d0 cd_d0 ct_d0), sl_d0⟩) (c_d0 : PySem.W.codeIn K cd_d0 "number_in" = true) (k_d0 : PySem.W.keepIn K (.ref f_p_number_in) = true)
    (a_d1 : PySem.W.nsIn K mainGlobals "read_row" = some (some (.ref f_p_read_row))) (l_d1 : K.lookup f_p_read_row = some ⟨oc_d1, od_d1, .func (PySem.W.fnOf "read_row" "read_row" (defArgs s_p_read_row) (defBody s_p_read_row) (defScope s_p_read_row) .none kV_d1 dc_d1 pm_d1 an_d1 cd_d1 ct_d1), sl_d1⟩) (c_d1 : PySem.W.codeIn K cd_d1 "read_row" = true) (k_d1 : PySem.W.keepIn K (.ref f_p_read_row) = true)
    (a_d2 : PySem.W.nsIn K mainGlobals "is_name" = some (some (.ref f_p_is_name))) (l_d2 : K.lookup f_p_is_name = some ⟨oc_d2, od_d2, .func (PySem.W.fnOf "is_name" "is_name" (defArgs s_p_is_name) (defBody s_p_is_name) (defScope s_p_is_name) .none kV_d2 dc_d2 pm_d2 an_d2 cd_d2 ct_d2), sl_d2⟩) (c_d2 : PySem.W.codeIn K cd_d2 "is_name" = true) (k_d2 : PySem.W.keepIn K (.ref f_p_is_name) = true)
    (a_d3 : PySem.W.nsIn K mainGlobals "check_names" = some (some (.ref f_p_check_names))) (l_d3 : K.lookup f_p_check_names = some ⟨oc_d3, od_d3, .func (PySem.W.fnOf "check_names" "check_names" (defArgs s_p_check_names) (defBody s_p_check_names) (defScope s_p_check_names) .none kV_d3 dc_d3 pm_d3 an_d3 cd_d3 ct_d3), sl_d3⟩) (c_d3 : PySem.W.codeIn K cd_d3 "check_names" = true) (k_d3 : PySem.W.keepIn K (.ref f_p_check_names) = true)
    (a_d4 : PySem.W.nsIn K mainGlobals "keep_text" = some (some (.ref f_p_keep_text))) (l_d4 : K.lookup f_p_keep_text = some ⟨oc_d4, od_d4, .func (PySem.W.fnOf "keep_text" "keep_text" (defArgs s_p_keep_text) (defBody s_p_keep_text) (defScope s_p_keep_text) .none kV_d4 dc_d4 pm_d4 an_d4 cd_d4 ct_d4), sl_d4⟩) (c_d4 : PySem.W.codeIn K cd_d4 "keep_text" = true) (k_d4 : PySem.W.keepIn K (.ref f_p_keep_text) = true)
    (a_d5 : PySem.W.nsIn K mainGlobals "answer_keep" = some (some (.ref f_p_answer_keep))) (l_d5 : K.lookup f_p_answer_keep = some ⟨oc_d5, od_d5, .func (PySem.W.fnOf "answer_keep" "answer_keep" (defArgs s_p_answer_keep) (defBody s_p_answer_keep) (defScope s_p_answer_keep) .none kV_d5 dc_d5 pm_d5 an_d5 cd_d5 ct_d5), sl_d5⟩) (c_d5 : PySem.W.codeIn K cd_d5 "answer_keep" = true) (k_d5 : PySem.W.keepIn K (.ref f_p_answer_keep) = true)
    (a_d6 : PySem.W.nsIn K mainGlobals "answer_text" = some (some (.ref f_p_answer_text))) (l_d6 : K.lookup f_p_answer_text = some ⟨oc_d6, od_d6, .func (PySem.W.fnOf "answer_text" "answer_text" (defArgs s_p_answer_text) (defBody s_p_answer_text) (defScope s_p_answer_text) .none kV_d6 dc_d6 pm_d6 an_d6 cd_d6 ct_d6), sl_d6⟩) (c_d6 : PySem.W.codeIn K cd_d6 "answer_text" = true) (k_d6 : PySem.W.keepIn K (.ref f_p_answer_text) = true)
    (a_d7 : PySem.W.nsIn K mainGlobals "_law_cell_at" = some (some (.ref f_w_cell_at))) (l_d7 : K.lookup f_w_cell_at = some ⟨oc_d7, od_d7, .func (PySem.W.fnOf "_law_cell_at" "_law_cell_at" (defArgs s_w_cell_at) (defBody s_w_cell_at) (defScope s_w_cell_at) .none kV_d7 dc_d7 pm_d7 an_d7 cd_d7 ct_d7), sl_d7⟩) (c_d7 : PySem.W.codeIn K cd_d7 "_law_cell_at" = true) (k_d7 : PySem.W.keepIn K (.ref f_w_cell_at) = true)
    (a_d8 : PySem.W.nsIn K mainGlobals "_law_mixed" = some (some (.ref f_w_mixed))) (l_d8 : K.lookup f_w_mixed = some ⟨oc_d8, od_d8, .func (PySem.W.fnOf "_law_mixed" "_law_mixed" (defArgs s_w_mixed) (defBody s_w_mixed) (defScope s_w_mixed) .none kV_d8 dc_d8 pm_d8 an_d8 cd_d8 ct_d8), sl_d8⟩) (c_d8 : PySem.W.codeIn K cd_d8 "_law_mixed" = true) (k_d8 : PySem.W.keepIn K (.ref f_w_mixed) = true)
    (a_d9 : PySem.W.nsIn K mainGlobals "_law_signs" = some (some (.ref f_w_signs))) (l_d9 : K.lookup f_w_signs = some ⟨oc_d9, od_d9, .func (PySem.W.fnOf "_law_signs" "_law_signs" (defArgs s_w_signs) (defBody s_w_signs) (defScope s_w_signs) .none kV_d9 dc_d9 pm_d9 an_d9 cd_d9 ct_d9), sl_d9⟩) (c_d9 : PySem.W.codeIn K cd_d9 "_law_signs" = true) (k_d9 : PySem.W.keepIn K (.ref f_w_signs) = true)
    (a_d10 : PySem.W.nsIn K mainGlobals "_law_names_by" = some (some (.ref f_w_names_by))) (l_d10 : K.lookup f_w_names_by = some ⟨oc_d10, od_d10, .func (PySem.W.fnOf "_law_names_by" "_law_names_by" (defArgs s_w_names_by) (defBody s_w_names_by) (defScope s_w_names_by) .none kV_d10 dc_d10 pm_d10 an_d10 cd_d10 ct_d10), sl_d10⟩) (c_d10 : PySem.W.codeIn K cd_d10 "_law_names_by" = true) (k_d10 : PySem.W.keepIn K (.ref f_w_names_by) = true)
    (a_d11 : PySem.W.nsIn K mainGlobals "_law_which" = some (some (.ref f_w_which))) (l_d11 : K.lookup f_w_which = some ⟨oc_d11, od_d11, .func (PySem.W.fnOf "_law_which" "_law_which" (defArgs s_w_which) (defBody s_w_which) (defScope s_w_which) .none kV_d11 dc_d11 pm_d11 an_d11 cd_d11 ct_d11), sl_d11⟩) (c_d11 : PySem.W.codeIn K cd_d11 "_law_which" = true) (k_d11 : PySem.W.keepIn K (.ref f_w_which) = true)
    (a_d12 : PySem.W.nsIn K mainGlobals "_law_said" = some (some (.ref f_w_said))) (l_d12 : K.lookup f_w_said = some ⟨oc_d12, od_d12, .func (PySem.W.fnOf "_law_said" "_law_said" (defArgs s_w_said) (defBody s_w_said) (defScope s_w_said) .none kV_d12 dc_d12 pm_d12 an_d12 cd_d12 ct_d12), sl_d12⟩) (c_d12 : PySem.W.codeIn K cd_d12 "_law_said" = true) (k_d12 : PySem.W.keepIn K (.ref f_w_said) = true)
    (a_d13 : PySem.W.nsIn K mainGlobals "_law_is_said" = some (some (.ref f_w_is_said))) (l_d13 : K.lookup f_w_is_said = some ⟨oc_d13, od_d13, .func (PySem.W.fnOf "_law_is_said" "_law_is_said" (defArgs s_w_is_said) (defBody s_w_is_said) (defScope s_w_is_said) .none kV_d13 dc_d13 pm_d13 an_d13 cd_d13 ct_d13), sl_d13⟩) (c_d13 : PySem.W.codeIn K cd_d13 "_law_is_said" = true) (k_d13 : PySem.W.keepIn K (.ref f_w_is_said) = true)
    (a_d14 : PySem.W.nsIn K mainGlobals "_law_bare" = some (some (.ref f_w_bare))) (l_d14 : K.lookup f_w_bare = some ⟨oc_d14, od_d14, .func (PySem.W.fnOf "_law_bare" "_law_bare" (defArgs s_w_bare) (defBody s_w_bare) (defScope s_w_bare) .none kV_d14 dc_d14 pm_d14 an_d14 cd_d14 ct_d14), sl_d14⟩) (c_d14 : PySem.W.codeIn K cd_d14 "_law_bare" = true) (k_d14 : PySem.W.keepIn K (.ref f_w_bare) = true)
    (a_d15 : PySem.W.nsIn K mainGlobals "_law_numbered" = some (some (.ref f_w_numbered))) (l_d15 : K.lookup f_w_numbered = some ⟨oc_d15, od_d15, .func (PySem.W.fnOf "_law_numbered" "_law_numbered" (defArgs s_w_numbered) (defBody s_w_numbered) (defScope s_w_numbered) .none kV_d15 dc_d15 pm_d15 an_d15 cd_d15 ct_d15), sl_d15⟩) (c_d15 : PySem.W.codeIn K cd_d15 "_law_numbered" = true) (k_d15 : PySem.W.keepIn K (.ref f_w_numbered) = true)
    (a_d16 : PySem.W.nsIn K mainGlobals "_law_row_by" = some (some (.ref f_w_row_by))) (l_d16 : K.lookup f_w_row_by = some ⟨oc_d16, od_d16, .func (PySem.W.fnOf "_law_row_by" "_law_row_by" (defArgs s_w_row_by) (defBody s_w_row_by) (defScope s_w_row_by) .none kV_d16 dc_d16 pm_d16 an_d16 cd_d16 ct_d16), sl_d16⟩) (c_d16 : PySem.W.codeIn K cd_d16 "_law_row_by" = true) (k_d16 : PySem.W.keepIn K (.ref f_w_row_by) = true)
    (a_d17 : PySem.W.nsIn K mainGlobals "law" = some (some (.ref f_law))) (l_d17 : K.lookup f_law = some ⟨oc_d17, od_d17, .func (PySem.W.fnOf "law" "law" (defArgs s_law) (defBody s_law) (defScope s_law) .none kV_d17 dc_d17 pm_d17 an_d17 cd_d17 ct_d17), sl_d17⟩) (c_d17 : PySem.W.codeIn K cd_d17 "law" = true) (k_d17 : PySem.W.keepIn K (.ref f_law) = true)
    (a_d18 : PySem.W.findIn K (.ref C_Desk) "__init__" = some (some (.ref f_m_Desk_init))) (i_d18 : PySem.W.isFn K (.ref f_m_Desk_init) = true) (l_d18 : K.lookup f_m_Desk_init = some ⟨oc_d18, od_d18, .func (PySem.W.fnOf "__init__" "Desk.__init__" (defArgs s_m_Desk_init) (defBody s_m_Desk_init) (defScope s_m_Desk_init) .none kV_d18 dc_d18 pm_d18 an_d18 cd_d18 ct_d18), sl_d18⟩) (c_d18 : PySem.W.codeIn K cd_d18 "Desk.__init__" = true) (k_d18 : PySem.W.keepIn K (.ref f_m_Desk_init) = true)
    (a_d19 : PySem.W.findIn K (.ref C_Desk) "say" = some (some (.ref f_m_Desk_say))) (i_d19 : PySem.W.isFn K (.ref f_m_Desk_say) = true) (l_d19 : K.lookup f_m_Desk_say = some ⟨oc_d19, od_d19, .func (PySem.W.fnOf "say" "Desk.say" (defArgs s_m_Desk_say) (defBody s_m_Desk_say) (defScope s_m_Desk_say) .none kV_d19 dc_d19 pm_d19 an_d19 cd_d19 ct_d19), sl_d19⟩) (c_d19 : PySem.W.codeIn K cd_d19 "Desk.say" = true) (k_d19 : PySem.W.keepIn K (.ref f_m_Desk_say) = true)
    (m_BackError : PySem.W.nsIn K mainGlobals "BackError" = some (some (.ref e_BackError)))
    (x_BackError : PySem.W.excIn K e_BackError VE "ValueError.__new__" = true)
    (m_NoOrder : PySem.W.nsIn K mainGlobals "NoOrder" = some (some (.ref e_NoOrder)))
    (m_NoPlace : PySem.W.nsIn K mainGlobals "NoPlace" = some (some (.ref e_NoPlace)))
    (m_NoGap : PySem.W.nsIn K mainGlobals "NoGap" = some (some (.ref e_NoGap)))
    (m_NoText : PySem.W.nsIn K mainGlobals "NoText" = some (some (.ref e_NoText)))
    (m_NoTimes : PySem.W.nsIn K mainGlobals "NoTimes" = some (some (.ref e_NoTimes)))
    (m_Empty : PySem.W.nsIn K mainGlobals "Empty" = some (some (.ref e_Empty)))
    (m_TooLong : PySem.W.nsIn K mainGlobals "TooLong" = some (some (.ref e_TooLong)))
    (x_TooLong : PySem.W.excIn K e_TooLong VE "ValueError.__new__" = true)
    (m_NoName : PySem.W.nsIn K mainGlobals "NoName" = some (some (.ref e_NoName)))
    (x_NoName : PySem.W.excIn K e_NoName VE "ValueError.__new__" = true)
    (m_NoRow : PySem.W.nsIn K mainGlobals "NoRow" = some (some (.ref e_NoRow)))
    (x_NoRow : PySem.W.excIn K e_NoRow VE "ValueError.__new__" = true)
    (g1_NoRow : PySem.W.findIn K (.ref e_NoRow) "__getattribute__" = some (some (.builtin "BaseException.__getattribute__"))) (g2_NoRow : PySem.W.findIn K (.ref e_NoRow) "__getattr__" = some none) (g3_NoRow : PySem.W.findIn K (.ref e_NoRow) "__class__" = some (some (.builtin "object.__class__")))
    (g4_NoRow : PySem.W.specialIn K (.builtin "object.__class__") "__get__" = some (some (.builtin "getset_descriptor.__get__"))) (g5_NoRow : PySem.W.takesIn K (.builtin "object.__class__") = some true) (g6_NoRow : PySem.W.mroIn K e_NoRow (.type "object") = some true) (g7_NoRow : PySem.W.mroIn K e_NoRow (.type "BaseException") = some true)
    (v_NoRow : PySem.W.kitOne K (.ref e_NoRow) (.type "ValueError") = some true)
    (r_NoRow_BackError : PySem.W.mroIn K e_NoRow (.ref e_BackError) = some true)
    (t_NoRow_NoOrder : PySem.W.kitOne K (.ref e_NoRow) (.ref e_NoOrder) = some false)
    (t_NoRow_NoPlace : PySem.W.kitOne K (.ref e_NoRow) (.ref e_NoPlace) = some false)
    (t_NoRow_NoGap : PySem.W.kitOne K (.ref e_NoRow) (.ref e_NoGap) = some false)
    (t_NoRow_NoText : PySem.W.kitOne K (.ref e_NoRow) (.ref e_NoText) = some false)
    (t_NoRow_NoTimes : PySem.W.kitOne K (.ref e_NoRow) (.ref e_NoTimes) = some false)
    (t_NoRow_Empty : PySem.W.kitOne K (.ref e_NoRow) (.ref e_Empty) = some false)
    (t_NoRow_TooLong : PySem.W.kitOne K (.ref e_NoRow) (.ref e_TooLong) = some false)
    (t_NoRow_NoName : PySem.W.kitOne K (.ref e_NoRow) (.ref e_NoName) = some false)
    (t_NoRow_NoRow : PySem.W.kitOne K (.ref e_NoRow) (.ref e_NoRow) = some true)
    (aC_Desk : PySem.W.nsIn K mainGlobals "Desk" = some (some (.ref C_Desk))) (pg_Desk : PySem.W.plainGet K C_Desk Str.empty = true) (hd_Desk : PySem.W.hasDictIn K C_Desk = true) (po_Desk : PySem.W.plainOver K C_Desk = true) (sa_Desk : PySem.W.findIn K (.ref C_Desk) "__setattr__" = some (some (.builtin "object.__setattr__"))) (mk_Desk : PySem.W.makesIn K C_Desk = true) (kc_Desk : PySem.W.keepIn K (.ref C_Desk) = true)
    (na_Desk_texts : PySem.W.findIn K (.ref C_Desk) "texts" = some none)
    {tk_MOST_SIGNS : Tok} (gc_MOST_SIGNS : PySem.W.nsIn K mainGlobals "MOST_SIGNS" = some (some (.int 300 tk_MOST_SIGNS)))
    {tk_NO_LETTER : Tok} (gc_NO_LETTER : PySem.W.nsIn K mainGlobals "NO_LETTER" = some (some (.str "\n" tk_NO_LETTER)))
    {A_FORMS : Addr} (b_FORMS : PySem.W.nsIn K mainGlobals "FORMS" = some (some (.ref A_FORMS)))
    (d_FORMS : TopD K w.params A_FORMS kv_FORMS)
    {A_KEEPING : Addr} (b_KEEPING : PySem.W.nsIn K mainGlobals "KEEPING" = some (some (.ref A_KEEPING)))
    (d_KEEPING : TopT K A_KEEPING xs_KEEPING)
    {A_ANSWERS : Addr} (b_ANSWERS : PySem.W.nsIn K mainGlobals "ANSWERS" = some (some (.ref A_ANSWERS)))
    {fa_answer_load fa_answer_ahead fa_answer_drop fa_answer_off fa_answer_pack fa_answer_count fa_answer_find fa_answer_near fa_answer_often fa_answer_kinds fa_answer_lone fa_answer_cut fa_answer_both : Addr}
    (d_ANSWERS : TopD K w.params A_ANSWERS [("keep", .ref f_p_answer_keep), ("load", .ref fa_answer_load), ("ahead", .ref fa_answer_ahead), ("drop", .ref fa_answer_drop), ("off", .ref fa_answer_off), ("text", .ref f_p_answer_text), ("pack", .ref fa_answer_pack), ("count", .ref fa_answer_count), ("find", .ref fa_answer_find), ("near", .ref fa_answer_near), ("often", .ref fa_answer_often), ("kinds", .ref fa_answer_kinds), ("lone", .ref fa_answer_lone), ("cut", .ref fa_answer_cut), ("both", .ref fa_answer_both)])
    (z_ValueError : PySem.W.nsIn K mainGlobals "ValueError" = some none)
    (z_dict : PySem.W.nsIn K mainGlobals "dict" = some none)
    (z_int : PySem.W.nsIn K mainGlobals "int" = some none)
    (z_isinstance : PySem.W.nsIn K mainGlobals "isinstance" = some none)
    (z_len : PySem.W.nsIn K mainGlobals "len" = some none)
    (z_range : PySem.W.nsIn K mainGlobals "range" = some none)
    (z_str : PySem.W.nsIn K mainGlobals "str" = some none)
    (z_zip : PySem.W.nsIn K mainGlobals "zip" = some none)
    : ∃ fd : FuncData, (∀ (s : Shared) (v : Value), BindsTo s fd ⟨[v], []⟩ [("_law_script", v)]) ∧ ∀ base : Heap, K.In base → base.Ns mainGlobals mg → FnOk l.prog w K mg base CX0 5 fa fd P_law (sp_law K) := by
  have e := hfa.symm.trans (PySem.W.mg_of X G a_d17)
  cases e
  have B : Bn mg := ⟨PySem.W.mg_none_of X G z_ValueError, PySem.W.mg_none_of X G z_dict, PySem.W.mg_none_of X G z_int, PySem.W.mg_none_of X G z_isinstance, PySem.W.mg_none_of X G z_len, PySem.W.mg_none_of X G z_range, PySem.W.mg_none_of X G z_str, PySem.W.mg_none_of X G z_zip⟩
  have ER : Er K mg ⟨e_BackError, e_NoOrder, e_NoPlace, e_NoGap, e_NoText, e_NoTimes, e_Empty, e_TooLong, e_NoName, e_NoRow⟩ := ⟨PySem.W.mg_of X G m_BackError, x_BackError, PySem.W.mg_of X G m_NoOrder, PySem.W.mg_of X G m_NoPlace, PySem.W.mg_of X G m_NoGap, PySem.W.mg_of X G m_NoText, PySem.W.mg_of X G m_NoTimes, PySem.W.mg_of X G m_Empty, PySem.W.mg_of X G m_TooLong, x_TooLong, PySem.W.mg_of X G m_NoName, x_NoName, PySem.W.mg_of X G m_NoRow, x_NoRow, ⟨g1_NoRow, g2_NoRow, g3_NoRow, g4_NoRow, g5_NoRow, g6_NoRow, g7_NoRow⟩, v_NoRow, mro_at r_NoRow_BackError, t_NoRow_NoOrder, t_NoRow_NoPlace, t_NoRow_NoGap, t_NoRow_NoText, t_NoRow_NoTimes, t_NoRow_Empty, t_NoRow_TooLong, t_NoRow_NoName, t_NoRow_NoRow⟩
  have CF : Cf K C_Desk := ⟨⟨pg_Desk, hd_Desk, po_Desk, sa_Desk⟩, na_Desk_texts⟩
  have GC : Gc mg := ⟨⟨_, PySem.W.mg_of X G gc_MOST_SIGNS⟩, ⟨_, PySem.W.mg_of X G gc_NO_LETTER⟩⟩
  have TP : Tp K w.params mg A_FORMS A_KEEPING A_ANSWERS := ⟨PySem.W.mg_of X G b_FORMS, d_FORMS, PySem.W.mg_of X G b_KEEPING, d_KEEPING, PySem.W.mg_of X G b_ANSWERS, topF_mk d_ANSWERS (by intro p hp; simp only [kn_ANSWERS, List.mem_cons, List.not_mem_nil, or_false] at hp; rcases hp with rfl | rfl; exact ⟨_, PySem.W.mg_of X G a_d5, by kernel_rfl⟩; exact ⟨_, PySem.W.mg_of X G a_d6, by kernel_rfl⟩)⟩
  have F_d0 := fun_mk (st := s_p_number_in) l_d0 c_d0 k_d0
  have F_d1 := fun_mk (st := s_p_read_row) l_d1 c_d1 k_d1
  have F_d2 := fun_mk (st := s_p_is_name) l_d2 c_d2 k_d2
  have F_d3 := fun_mk (st := s_p_check_names) l_d3 c_d3 k_d3
  have F_d4 := fun_mk (st := s_p_keep_text) l_d4 c_d4 k_d4
  have F_d5 := fun_mk (st := s_p_answer_keep) l_d5 c_d5 k_d5
  have F_d6 := fun_mk (st := s_p_answer_text) l_d6 c_d6 k_d6
  have F_d7 := fun_mk (st := s_w_cell_at) l_d7 c_d7 k_d7
  have F_d8 := fun_mk (st := s_w_mixed) l_d8 c_d8 k_d8
  have F_d9 := fun_mk (st := s_w_signs) l_d9 c_d9 k_d9
  have F_d10 := fun_mk (st := s_w_names_by) l_d10 c_d10 k_d10
  have F_d11 := fun_mk (st := s_w_which) l_d11 c_d11 k_d11
  have F_d12 := fun_mk (st := s_w_said) l_d12 c_d12 k_d12
  have F_d13 := fun_mk (st := s_w_is_said) l_d13 c_d13 k_d13
  have F_d14 := fun_mk (st := s_w_bare) l_d14 c_d14 k_d14
  have F_d15 := fun_mk (st := s_w_numbered) l_d15 c_d15 k_d15
  have F_d16 := fun_mk (st := s_w_row_by) l_d16 c_d16 k_d16
  have F_d17 := fun_mk (st := s_law) l_d17 c_d17 k_d17
  have F_d18 := fun_mk (st := s_m_Desk_init) l_d18 c_d18 k_d18
  have F_d19 := fun_mk (st := s_m_Desk_say) l_d19 c_d19 k_d19
  refine ⟨PySem.W.fnOf "law" "law" (defArgs s_law) (defBody s_law) (defScope s_law) .none kV_d17 dc_d17 pm_d17 an_d17 cd_d17 ct_d17, fun s v => .of_eq rfl, fun base kb nb => ?_⟩
  have b_d7 := F_d7.binds (ps := P_w_cell_at) fun _ _ _ _ _ _ us hl => by obtain ⟨_, _, rfl⟩ := us2 hl; exact rfl
  have G_w_cell_at : Fn l.prog w K mg base 1 "_law_cell_at" P_w_cell_at (sp_w_cell_at K) := ⟨⟨f_w_cell_at, _, ok_w_cell_at F_d7 B ER TP CF GC , PySem.W.mg_of X G a_d7, k_d7, b_d7⟩⟩
  have b_d8 := F_d8.binds (ps := P_w_mixed) fun _ _ _ _ _ _ us hl => by obtain ⟨_, _, _, rfl⟩ := us3 hl; exact rfl
  have G_w_mixed : Fn l.prog w K mg base 1 "_law_mixed" P_w_mixed (sp_w_mixed K) := ⟨⟨f_w_mixed, _, ok_w_mixed F_d8 B ER TP CF GC , PySem.W.mg_of X G a_d8, k_d8, b_d8⟩⟩
  have b_d9 := F_d9.binds (ps := P_w_signs) fun _ _ _ _ _ _ us hl => by obtain rfl := us0 hl; exact rfl
  have G_w_signs : Fn l.prog w K mg base 1 "_law_signs" P_w_signs (sp_w_signs K) := ⟨⟨f_w_signs, _, ok_w_signs F_d9 B ER TP CF GC , PySem.W.mg_of X G a_d9, k_d9, b_d9⟩⟩
  have b_d10 := F_d10.binds (ps := P_w_names_by) fun _ _ _ _ _ _ us hl => by obtain ⟨_, rfl⟩ := us1 hl; exact rfl
  have G_w_names_by : Fn l.prog w K mg base 2 "_law_names_by" P_w_names_by (sp_w_names_by K) := ⟨⟨f_w_names_by, _, ok_w_names_by F_d10 B ER TP CF GC G_w_mixed, PySem.W.mg_of X G a_d10, k_d10, b_d10⟩⟩
  have b_d11 := F_d11.binds (ps := P_w_which) fun _ _ _ _ _ _ us hl => by obtain ⟨_, rfl⟩ := us1 hl; exact rfl
  have G_w_which : FnZ l.prog w K mg base 1 "_law_which" P_w_which (sp_w_which K ⟨e_BackError, e_NoOrder, e_NoPlace, e_NoGap, e_NoText, e_NoTimes, e_Empty, e_TooLong, e_NoName, e_NoRow⟩) := ⟨⟨f_w_which, _, ok_w_which F_d11 B ER TP CF GC , PySem.W.mg_of X G a_d11, k_d11, b_d11⟩⟩
  have b_d0 := F_d0.binds (ps := P_p_number_in) fun _ _ _ _ _ _ us hl => by obtain ⟨_, rfl⟩ := us1 hl; exact rfl
  have G_p_number_in : FnX l.prog w K mg base 1 "number_in" P_p_number_in (sp_p_number_in K ⟨e_BackError, e_NoOrder, e_NoPlace, e_NoGap, e_NoText, e_NoTimes, e_Empty, e_TooLong, e_NoName, e_NoRow⟩) := ⟨⟨f_p_number_in, _, ok_p_number_in F_d0 B ER TP CF GC , PySem.W.mg_of X G a_d0, k_d0, b_d0⟩⟩
  have b_d1 := F_d1.binds (ps := P_p_read_row) fun _ _ _ _ _ _ us hl => by obtain ⟨_, rfl⟩ := us1 hl; exact rfl
  have G_p_read_row : FnX l.prog w K mg base 2 "read_row" P_p_read_row (sp_p_read_row K ⟨e_BackError, e_NoOrder, e_NoPlace, e_NoGap, e_NoText, e_NoTimes, e_Empty, e_TooLong, e_NoName, e_NoRow⟩) := ⟨⟨f_p_read_row, _, ok_p_read_row F_d1 B ER TP CF GC G_p_number_in, PySem.W.mg_of X G a_d1, k_d1, b_d1⟩⟩
  have b_d2 := F_d2.binds (ps := P_p_is_name) fun _ _ _ _ _ _ us hl => by obtain ⟨_, rfl⟩ := us1 hl; exact rfl
  have G_p_is_name : Fn l.prog w K mg base 1 "is_name" P_p_is_name (sp_p_is_name K) := ⟨⟨f_p_is_name, _, ok_p_is_name F_d2 B ER TP CF GC , PySem.W.mg_of X G a_d2, k_d2, b_d2⟩⟩
  have b_d3 := F_d3.binds (ps := P_p_check_names) fun _ _ _ _ _ _ us hl => by obtain ⟨_, _, rfl⟩ := us2 hl; exact rfl
  have G_p_check_names : FnX l.prog w K mg base 2 "check_names" P_p_check_names (sp_p_check_names K ⟨e_BackError, e_NoOrder, e_NoPlace, e_NoGap, e_NoText, e_NoTimes, e_Empty, e_TooLong, e_NoName, e_NoRow⟩) := ⟨⟨f_p_check_names, _, ok_p_check_names F_d3 B ER TP CF GC G_p_is_name, PySem.W.mg_of X G a_d3, k_d3, b_d3⟩⟩
  have b_d4 := F_d4.binds (ps := P_p_keep_text) fun _ _ _ _ _ _ us hl => by obtain ⟨_, _, _, rfl⟩ := us3 hl; exact rfl
  have G_p_keep_text : FnX l.prog w K mg base 1 "keep_text" P_p_keep_text (sp_p_keep_text K ⟨e_BackError, e_NoOrder, e_NoPlace, e_NoGap, e_NoText, e_NoTimes, e_Empty, e_TooLong, e_NoName, e_NoRow⟩) := ⟨⟨f_p_keep_text, _, ok_p_keep_text F_d4 B ER TP CF GC , PySem.W.mg_of X G a_d4, k_d4, b_d4⟩⟩
  have b_d5 := F_d5.binds (ps := P_p_answer_keep) fun _ _ _ _ _ _ us hl => by obtain ⟨_, _, rfl⟩ := us2 hl; exact rfl
  have G_p_answer_keep : FnX l.prog w K mg base 2 "answer_keep" P_p_answer_keep (sp_p_answer_keep K ⟨e_BackError, e_NoOrder, e_NoPlace, e_NoGap, e_NoText, e_NoTimes, e_Empty, e_TooLong, e_NoName, e_NoRow⟩) := ⟨⟨f_p_answer_keep, _, ok_p_answer_keep F_d5 B ER TP CF GC G_p_keep_text, PySem.W.mg_of X G a_d5, k_d5, b_d5⟩⟩
  have b_d6 := F_d6.binds (ps := P_p_answer_text) fun _ _ _ _ _ _ us hl => by obtain ⟨_, _, rfl⟩ := us2 hl; exact rfl
  have G_p_answer_text : FnX l.prog w K mg base 1 "answer_text" P_p_answer_text (sp_p_answer_text K ⟨e_BackError, e_NoOrder, e_NoPlace, e_NoGap, e_NoText, e_NoTimes, e_Empty, e_TooLong, e_NoName, e_NoRow⟩) := ⟨⟨f_p_answer_text, _, ok_p_answer_text F_d6 B ER TP CF GC , PySem.W.mg_of X G a_d6, k_d6, b_d6⟩⟩
  have b_d19 := F_d19.binds (ps := P_m_Desk_say) fun _ _ _ _ _ _ us hl => by obtain ⟨_, _, rfl⟩ := us2 hl; exact rfl
  have M_m_Desk_say : Md l.prog w K mg base (CX1 l.prog w) 3 C_Desk "say" P_m_Desk_say [] (sp_m_Desk_say K ⟨e_BackError, e_NoOrder, e_NoPlace, e_NoGap, e_NoText, e_NoTimes, e_Empty, e_TooLong, e_NoName, e_NoRow⟩ C_Desk) := ⟨⟨f_m_Desk_say, _, [], ok_m_Desk_say F_d19 B ER TP CF GC G_p_read_row G_p_check_names G_p_answer_keep G_p_answer_text, ⟨a_d19, i_d19, k_d19⟩, b_d19, .nil⟩, CF.cl_Desk⟩
  have b_d12 := F_d12.binds (ps := P_w_said) fun _ _ _ _ _ _ us hl => by obtain ⟨_, _, rfl⟩ := us2 hl; exact rfl
  have G_w_said : Fn l.prog w K mg base 4 "_law_said" P_w_said (sp_w_said K C_Desk) := ⟨⟨f_w_said, _, ok_w_said F_d12 B ER TP CF GC G_w_which M_m_Desk_say, PySem.W.mg_of X G a_d12, k_d12, b_d12⟩⟩
  have b_d13 := F_d13.binds (ps := P_w_is_said) fun _ _ _ _ _ _ us hl => by obtain ⟨_, _, rfl⟩ := us2 hl; exact rfl
  have G_w_is_said : Fn l.prog w K mg base 1 "_law_is_said" P_w_is_said (sp_w_is_said K) := ⟨⟨f_w_is_said, _, ok_w_is_said F_d13 B ER TP CF GC , PySem.W.mg_of X G a_d13, k_d13, b_d13⟩⟩
  have b_d14 := F_d14.binds (ps := P_w_bare) fun _ _ _ _ _ _ us hl => by obtain ⟨_, _, rfl⟩ := us2 hl; exact rfl
  have G_w_bare : Fn l.prog w K mg base 2 "_law_bare" P_w_bare (sp_w_bare K) := ⟨⟨f_w_bare, _, ok_w_bare F_d14 B ER TP CF GC G_w_mixed, PySem.W.mg_of X G a_d14, k_d14, b_d14⟩⟩
  have b_d15 := F_d15.binds (ps := P_w_numbered) fun _ _ _ _ _ _ us hl => by obtain ⟨_, _, rfl⟩ := us2 hl; exact rfl
  have G_w_numbered : Fn l.prog w K mg base 2 "_law_numbered" P_w_numbered (sp_w_numbered K) := ⟨⟨f_w_numbered, _, ok_w_numbered F_d15 B ER TP CF GC G_w_mixed, PySem.W.mg_of X G a_d15, k_d15, b_d15⟩⟩
  have b_d16 := F_d16.binds (ps := P_w_row_by) fun _ _ _ _ _ _ us hl => by obtain ⟨_, _, rfl⟩ := us2 hl; exact rfl
  have G_w_row_by : Fn l.prog w K mg base 3 "_law_row_by" P_w_row_by (sp_w_row_by K) := ⟨⟨f_w_row_by, _, ok_w_row_by F_d16 B ER TP CF GC G_w_mixed G_w_bare G_w_numbered, PySem.W.mg_of X G a_d16, k_d16, b_d16⟩⟩
  have b_d18 := F_d18.binds (ps := P_m_Desk_init) fun _ _ _ _ _ _ us hl => by obtain ⟨_, rfl⟩ := us1 hl; exact rfl
  have MK_Desk : Mkr l.prog w K mg base CX0 1 "Desk" C_Desk P_m_Desk_init [] (sp_m_Desk_init K C_Desk) := ⟨⟨f_m_Desk_init, _, [], ok_m_Desk_init F_d18 B ER TP CF GC , ⟨mk_Desk, a_d18, i_d18, kc_Desk⟩, b_d18, .nil⟩, PySem.W.mg_of X G aC_Desk⟩
  exact ok_law F_d17 B ER TP CF GC G_w_cell_at G_w_mixed G_w_signs G_w_names_by G_w_said G_w_is_said G_w_row_by MK_Desk
theorem walk {l : PySem.W.OpenLaw} {q : Program} {loose : List Str} {XP : (Str → Option Value) → Heap → Prop} {YP : World → Heap → Prop} {d : DefRec} {K : Params → PySem.W.Frag} (hn : l.most = some 63) (hdf : d.params.defaults = [])
    (hY : ∀ (w : World) (h : Heap), YP w h → (K w.params).In h)
    (F : ∀ (w : World) (mg : Str → Option Value) (fa : Addr) (h : Heap), (K w.params).In h → h.Ns mainGlobals mg → mg d.name = some (.ref fa) →
      ∃ fd : FuncData, (∀ (s : Shared) (u : Value), BindsTo s fd ⟨[u], []⟩ [("_law_script", u)]) ∧ ∀ base : Heap, (K w.params).In base → base.Ns mainGlobals mg → FnOk l.prog w (K w.params) mg base CX0 5 fa fd P_law (sp_law (K w.params))) :
    PySem.W.WalkO q loose XP YP l.row.toRowW d [] (fun f vs => PySem.call f vs) :=
  L2.walk_of (n := 63) (k := 5) (x := "_law_script") (CX := fun _ => CX0) (sp := fun w => sp_law (K w.params)) hn (by decide) hdf ⟨rfl, by decide, by decide⟩ hY F (fun _ _ a ns hl _ hS => ⟨a, ns, rfl, hS, hl, fun _ => rfl⟩) fun _ _ _ _ _ z => z
end My
open PySem PySem.W PyProof.Rows
set_option maxRecDepth 100000 in
set_option maxHeartbeats 0 in
theorem PySem.Challenge.cw_backindex_k93_no_rows_holds : PySem.Challenge.rw_backindex_k93_no_rows.Holds := by
  w_on; o_law; k_head; (case hw => w_witness2)
  k_fill
  refine My.walk (l := PySem.Challenge.rw_backindex_k93_no_rows) rfl rfl (fun w h Y => PySem.W.km_in_of Y) ?F
  case F =>
    intro w mg fa h KX G hmg
    refine' My.all_mk KX G hmg ?a_d0 ?l_d0 ?c_d0 ?k_d0 ?a_d1 ?l_d1 ?c_d1 ?k_d1 ?a_d2 ?l_d2 ?c_d2 ?k_d2 ?a_d3 ?l_d3 ?c_d3 ?k_d3 ?a_d4 ?l_d4 ?c_d4 ?k_d4 ?a_d5 ?l_d5 ?c_d5 ?k_d5 ?a_d6 ?l_d6 ?c_d6 ?k_d6 ?a_d7 ?l_d7 ?c_d7 ?k_d7 ?a_d8 ?l_d8 ?c_d8 ?k_d8 ?a_d9 ?l_d9 ?c_d9 ?k_d9 ?a_d10 ?l_d10 ?c_d10 ?k_d10 ?a_d11 ?l_d11 ?c_d11 ?k_d11 ?a_d12 ?l_d12 ?c_d12 ?k_d12 ?a_d13 ?l_d13 ?c_d13 ?k_d13 ?a_d14 ?l_d14 ?c_d14 ?k_d14 ?a_d15 ?l_d15 ?c_d15 ?k_d15 ?a_d16 ?l_d16 ?c_d16 ?k_d16 ?a_d17 ?l_d17 ?c_d17 ?k_d17 ?a_d18 ?i_d18 ?l_d18 ?c_d18 ?k_d18 ?a_d19 ?i_d19 ?l_d19 ?c_d19 ?k_d19 ?m_BackError ?x_BackError ?m_NoOrder ?m_NoPlace ?m_NoGap ?m_NoText ?m_NoTimes ?m_Empty ?m_TooLong ?x_TooLong ?m_NoName ?x_NoName ?m_NoRow ?x_NoRow ?g1_NoRow ?g2_NoRow ?g3_NoRow ?g4_NoRow ?g5_NoRow ?g6_NoRow ?g7_NoRow ?v_NoRow ?r_NoRow_BackError ?t_NoRow_NoOrder ?t_NoRow_NoPlace ?t_NoRow_NoGap ?t_NoRow_NoText ?t_NoRow_NoTimes ?t_NoRow_Empty ?t_NoRow_TooLong ?t_NoRow_NoName ?t_NoRow_NoRow ?aC_Desk ?pg_Desk ?hd_Desk ?po_Desk ?sa_Desk ?mk_Desk ?kc_Desk ?na_Desk_texts ?gc_MOST_SIGNS ?gc_NO_LETTER ?b_FORMS ?d_FORMS ?b_KEEPING ?d_KEEPING ?b_ANSWERS ?d_ANSWERS ?z_ValueError ?z_dict ?z_int ?z_isinstance ?z_len ?z_range ?z_str ?z_zip
    (case aC_Desk => k_is)
    (case a_d0 => k_is)
    (case l_d0 => k_is)
    (case c_d0 => k_is)
    (case k_d0 => k_is)
    (case a_d1 => k_is)
    (case l_d1 => k_is)
    (case c_d1 => k_is)
    (case k_d1 => k_is)
    (case a_d2 => k_is)
    (case l_d2 => k_is)
    (case c_d2 => k_is)
    (case k_d2 => k_is)
    (case a_d3 => k_is)
    (case l_d3 => k_is)
    (case c_d3 => k_is)
    (case k_d3 => k_is)
    (case a_d4 => k_is)
    (case l_d4 => k_is)
    (case c_d4 => k_is)
    (case k_d4 => k_is)
    (case a_d5 => k_is)
    (case l_d5 => k_is)
    (case c_d5 => k_is)
    (case k_d5 => k_is)
    (case a_d6 => k_is)
    (case l_d6 => k_is)
    (case c_d6 => k_is)
    (case k_d6 => k_is)
    (case a_d7 => k_is)
    (case l_d7 => k_is)
    (case c_d7 => k_is)
    (case k_d7 => k_is)
    (case a_d8 => k_is)
    (case l_d8 => k_is)
    (case c_d8 => k_is)
    (case k_d8 => k_is)
    (case a_d9 => k_is)
    (case l_d9 => k_is)
    (case c_d9 => k_is)
    (case k_d9 => k_is)
    (case a_d10 => k_is)
    (case l_d10 => k_is)
    (case c_d10 => k_is)
    (case k_d10 => k_is)
    (case a_d11 => k_is)
    (case l_d11 => k_is)
    (case c_d11 => k_is)
    (case k_d11 => k_is)
    (case a_d12 => k_is)
    (case l_d12 => k_is)
    (case c_d12 => k_is)
    (case k_d12 => k_is)
    (case a_d13 => k_is)
    (case l_d13 => k_is)
    (case c_d13 => k_is)
    (case k_d13 => k_is)
    (case a_d14 => k_is)
    (case l_d14 => k_is)
    (case c_d14 => k_is)
    (case k_d14 => k_is)
    (case a_d15 => k_is)
    (case l_d15 => k_is)
    (case c_d15 => k_is)
    (case k_d15 => k_is)
    (case a_d16 => k_is)
    (case l_d16 => k_is)
    (case c_d16 => k_is)
    (case k_d16 => k_is)
    (case a_d17 => k_is)
    (case l_d17 => k_is)
    (case c_d17 => k_is)
    (case k_d17 => k_is)
    (case a_d18 => k_is)
    (case i_d18 => k_is)
    (case l_d18 => k_is)
    (case c_d18 => k_is)
    (case k_d18 => k_is)
    (case a_d19 => k_is)
    (case i_d19 => k_is)
    (case l_d19 => k_is)
    (case c_d19 => k_is)
    (case k_d19 => k_is)
    (case m_BackError => k_is)
    (case x_BackError => k_exc)
    (case m_NoOrder => k_is)
    (case m_NoPlace => k_is)
    (case m_NoGap => k_is)
    (case m_NoText => k_is)
    (case m_NoTimes => k_is)
    (case m_Empty => k_is)
    (case m_TooLong => k_is)
    (case x_TooLong => k_exc)
    (case m_NoName => k_is)
    (case x_NoName => k_exc)
    (case m_NoRow => k_is)
    (case x_NoRow => k_exc)
    (case g1_NoRow => k_is)
    (case g2_NoRow => k_is)
    (case g3_NoRow => k_is)
    (case g4_NoRow => k_is)
    (case g5_NoRow => k_is)
    (case g6_NoRow => k_is)
    (case g7_NoRow => k_is)
    (case v_NoRow => kit_is)
    (case r_NoRow_BackError => k_is)
    (case t_NoRow_NoOrder => kit_is)
    (case t_NoRow_NoPlace => kit_is)
    (case t_NoRow_NoGap => kit_is)
    (case t_NoRow_NoText => kit_is)
    (case t_NoRow_NoTimes => kit_is)
    (case t_NoRow_Empty => kit_is)
    (case t_NoRow_TooLong => kit_is)
    (case t_NoRow_NoName => kit_is)
    (case t_NoRow_NoRow => kit_is)
    (case pg_Desk => k_is)
    (case hd_Desk => k_is)
    (case po_Desk => k_is)
    (case sa_Desk => k_is)
    (case mk_Desk => k_is)
    (case kc_Desk => k_is)
    (case na_Desk_texts => k_is)
    (case gc_MOST_SIGNS => k_is)
    (case gc_NO_LETTER => k_is)
    (case b_FORMS => k_is)
    (case d_FORMS => exact ⟨⟨_, _, by k_is, by k_keys, by repeat (first | exact True.intro | refine ⟨⟨_, rfl⟩, ?_, ?_⟩ | exact ⟨_, rfl⟩ | rfl)⟩, by decide⟩)
    (case b_KEEPING => k_is)
    (case d_KEEPING => exact ⟨_, _, _, by k_is, rfl, rfl, by decide, .cons ⟨_, rfl⟩ (.cons ⟨_, rfl⟩ (.nil))⟩)
    (case b_ANSWERS => k_is)
    (case d_ANSWERS => exact ⟨⟨_, _, by k_is, by k_keys, by repeat (first | exact True.intro | refine ⟨⟨_, rfl⟩, ?_, ?_⟩ | exact ⟨_, rfl⟩ | rfl)⟩, by decide⟩)
    (case z_ValueError => k_is)
    (case z_dict => k_is)
    (case z_int => k_is)
    (case z_isinstance => k_is)
    (case z_len => k_is)
    (case z_range => k_is)
    (case z_str => k_is)
    (case z_zip => k_is)