import PyProof.Rows.All
import Wide.All
import OpenK.AllK
import Wide.FinOn
import Lean
import PyProof.EqAt
import PyProof.EqKinds
import PyProof.TupleCall
import PySem.Challenge.RW_backindex_k94_refusals_apart
import KE.KRevIter
import KE.KSortAsk
import KE.KSortTup
import PyProof.Rows.SortKeyStr
import KE.KLam
import KE.KSortKey
import OpenK.KOwn
import KE.RegKIsAll
import PyProof.EnumMake
import PyProof.EnumFor
import PyProof.EnumStmt
import KE.KNestM
import PyProof.Rows.CallKwBuiltin
import PyProof.StrWalks
import KE.KDictOf
import PyProof.CompUse
import PyProof.NeKinds
import PyProof.ZipIter
import PyProof.Rows.SumAny
import PyProof.Rows.SetFrom
import PyProof.ListRange
import PyProof.StrLawsIn
import PyProof.CollectIter
import PyProof.JoinWalk
import PyProof.Conv_int_bool
import KE.IntBitsLaws
import PyProof.FactsAll.str
import PyProof.ListStr
import PyProof.Draws
import PyProof.CallStr
import PyProof.StrLawsFrom
import PyProof.Rows.StrNews2
import PyProof.StrCalls
import KE.KIntText
import PyProof.Rows.RegStrFacts
import PyProof.DictWalks
import PyProof.AttrMissHeap
import PyProof.LongRange
import PyProof.Rows.Range3
import PyProof.Rows.StrSplitMax
import OpenK.KTop
import PyProof.Rows.Chain
set_option Elab.async false
set_option linter.all false
set_option maxRecDepth 100000
set_option maxHeartbeats 4000000
namespace PySem.W.Fast
def tw5716867788248561042 := 0
def tw10731025489978614999 := 0
def tw10275707771752104177 := 0
def tw9071786181891365650 := 0
def tw4684629240962302554 := 0
def tw1381716418216488633 := 0
def tw1852582424114721232 := 0
def tw17856191568504754722 := 0
def tw5066424942618938007 := 0
def tw8951216481370216924 := 0
def tw10304335802747213375 := 0
def tw6432648502575561799 := 0
def tw17699408689472325765 := 0
def tw17826583195900160719 := 0
def tw8653319617001633404 := 0
def tw11745646189871862447 := 0
def tw13235403729191412605 := 0
def tw1083776995886259705 := 0
def tw4659378425945006431 := 0
def tw15936155160380031808 := 0
def tw17692903832347581538 := 0
def tw15607956452133825706 := 0
def tw4674330772760859746 := 0
def tw12033012711903004657 := 0
def tw4792936400434684564 := 0
def tw9387449872646344168 := 0
def tw9071984556874151361 := 0
def tw2815058803903462133 := 0
def tw16016872028388350038 := 0
def tw12156356509468868480 := 0
def tw14785175288124165482 := 0
def tw13748709134388383098 := 0
def tw15994012672962564514 := 0
def tw8539962723315826293 := 0
def tw11115135550329145749 := 0
def tw17721885872350265282 := 0
def tw5807892576571202488 := 0
def tw7614026330587673186 := 0
def tw6961294679110376707 := 0
def tw1062496565311153942 := 0
def tw9044701760497239497 := 0
def tw1078145809617538544 := 0
def tw13435509767286562068 := 0
def tw14650937119997497016 := 0
def tw3092325497363255188 := 0
def tw11480302274650580449 := 0
def tw11530615406440387896 := 0
def tw7544434047119632037 := 0
def tw11636632941405627871 := 0
def tw8935981023591469371 := 0
def tw10708350254823427993 := 0
def tw16363091822120254966 := 0
def tw18135268077197186073 := 0
def tw13065361661986863256 := 0
def tw17010159728120368443 := 0
def tw861675265796583019 := 0
def tw12837212205085679927 := 0
def tw8605588528706853211 := 0
def tw11401950190503298452 := 0
def tw10274755082172799860 := 0
def tw15817705623469104339 := 0
def tw11674651911921842575 := 0
def tw18263408371863988623 := 0
def tw9165774247889430470 := 0
def tw9487337215285093741 := 0
def tw8942775540841875518 := 0
def tw10680521404772190328 := 0
def tw11602689063015371947 := 0
def tw17620114624354475780 := 0
def tw1536230301597644178 := 0
def tw14523771573822994986 := 0
def tw4374778495914478800 := 0
def tw14544702407409633638 := 0
def tw4531099453900603527 := 0
def tw2306040697547124125 := 0
def tw14389937351757387162 := 0
def tw2404647633815357209 := 0
def tw6150874647802461354 := 0
def tw9306649945261155177 := 0
def tw10363663998496444349 := 0
def tw13217680181252903117 := 0
def tw4155962833897289148 := 0
def tw14697875141982264685 := 0
def tw1757270344473787823 := 0
def tw4529954240848072122 := 0
def tw5897197705497310431 := 0
def tw3236377059369507578 := 0
def tw5663993115609168668 := 0
def tw7624080374806846716 := 0
def tw14891250078959240451 := 0
def tw871828534685444320 := 0
def tw6325833344837980738 := 0
def tw6553195490019024949 := 0
def tw558837749385097472 := 0
def tw7990333433033398157 := 0
def tw1195853637704179270 := 0
def tw17450913981512982421 := 0
def tw2509151168234742950 := 0
def tw17907264958308454904 := 0
def tw4040626199572822494 := 0
def tw7731363305925044 := 0
def tw12210173609380851911 := 0
def tw4792029166147020664 := 0
def tw15939605828105561687 := 0
def tw3299341603674670060 := 0
def tw15304955509266302736 := 0
def tw9945360961272336064 := 0
def tw15521946459263310437 := 0
def tw9542818217357604787 := 0
def tw14929702316358567097 := 0
def tw17446970641812311438 := 0
def tw5338198519478453738 := 0
def tw7370108021976399213 := 0
def tw17859042787802016031 := 0
def tw2391851015575090941 := 0
def tw12360816235075419638 := 0
def tw11341687408857874063 := 0
def tw16496324868464244024 := 0
def tw9032966095516443811 := 0
def tw2219809821822954481 := 0
def tw18351074189535820800 := 0
def tw9087936537285353509 := 0
def tw13552958263150391011 := 0
def tw1724437316956332597 := 0
def tw13218012636936546654 := 0
def tw1100249272005267328 := 0
def tw13700181268032334996 := 0
def tw347772482011569920 := 0
def tw3695931461115322465 := 0
def tw14754200860722161905 := 0
def tw8054562635868329669 := 0
def tw10426436911126012714 := 0
def tw9023696201567243476 := 0
def tw2647737853710449741 := 0
def tw5034761818680454714 := 0
def tw5120800383284532570 := 0
def tw4977916366492900962 := 0
def tw8241810199091315572 := 0
def tw4241421987792178686 := 0
def tw16652571334123319387 := 0
def tw13178698901616918309 := 0
def tw495194682408756009 := 0
def tw958556666222529072 := 0
def tw3037539933522490148 := 0
def tw11679136595425214977 := 0
def tw7840362190852982503 := 0
def tw14370009872878571273 := 0
def tw8577939344668249497 := 0
def tw14135930752742323485 := 0
def tw5865459372736882932 := 0
def tw17638841425568894868 := 0
def tw6780653246775416512 := 0
def tw7632290684153432028 := 0
def tw6568196858205032157 := 0
def tw14586010137181183872 := 0
def tw8590297293604944366 := 0
def tw11452273775561272267 := 0
def tw14118735374757168553 := 0
def tw9147050504922265725 := 0
def tw4360095693452020597 := 0
def tw16909380537411490383 := 0
def tw12374297285230703933 := 0
def tw17290281896238706768 := 0
def tw17263986269804838793 := 0
def tw10135999035289490644 := 0
def tw9512101182484004763 := 0
def tw4543565279029046013 := 0
def tw11951174467468881324 := 0
def tw16693223760535132511 := 0
def tw16022390907000290356 := 0
def tw16374330556064658688 := 0
def tw15672883895986100326 := 0
def tw17816560426613244361 := 0
def tw13410452425686998438 := 0
def tw17774834463765304880 := 0
def tw16978237498486129412 := 0
def tw13768520885124196779 := 0
def tw10543078192147696772 := 0
def tw14043845186757252808 := 0
def tw14052754077736900442 := 0
def tw3665718475008148017 := 0
def tw2164849918392275233 := 0
def tw9146513731362139453 := 0
def tw723377956456307427 := 0
def tw13247835712676916866 := 0
def tw9679820464101393748 := 0
def tw12675335688954616265 := 0
def tw10761394102210623796 := 0
def tw9660158339797990605 := 0
def tw4259640608358267974 := 0
def tw12881850057576108162 := 0
def tw16550623914598326551 := 0
def tw46535011162353500 := 0
def tw10715907583228731341 := 0
def tw8243786825264847723 := 0
def tw17790293203991094827 := 0
def tw1193778171314646174 := 0
def tw6758103402067328952 := 0
def tw11345331899316142542 := 0
def tw9255030485103030871 := 0
def tw10678026466044040652 := 0
def tw15827415136702716935 := 0
def tw3240244795465520041 := 0
def tw9755087162493730791 := 0
def tw17251154321394570295 := 0
def tw3691734264450157623 := 0
def tw9222454905025451477 := 0
def tw10408194333412072854 := 0
end PySem.W.Fast
noncomputable section
noncomputable section
namespace L2
open PySem PySem.Spec PyProof.Rows
abbrev Key := Sum Int Str
def keyIs : Key → Value → Bool
 | .inl k, v => Value.isInt k v
 | .inr x, v => Value.isStrOf x v
def keyH (w : World) : Key → Int
 | .inl k => hashInt k
 | .inr x => hashStr w x
theorem keyIs_shape : ∀ {k : Key} {v : Value}, keyIs k v = true → (∃ i t, k = Sum.inl i ∧ v = Value.int i t) ∨ (∃ x t, k = Sum.inr x ∧ v = Value.str x t)
 | .inl i, v, h => by
   obtain ⟨t, e⟩ := Value.isInt_shape (k := i) (v := v) h
   exact .inl ⟨i, t, rfl, e⟩
 | .inr x, v, h => by
   obtain ⟨t, e⟩ := Value.isStrOf_shape (x := x) (v := v) h
   exact .inr ⟨x, t, rfl, e⟩
theorem keyIs_int (i : Int) (t : Tok) : keyIs (.inl i) (.int i t) = true := by simp [keyIs, Value.isInt]
theorem keyIs_str (x : Str) (t : Tok) : keyIs (.inr x) (.str x t) = true := by simp [keyIs, Value.isStrOf]
theorem key_ll (a b : Int) : decide ((Sum.inl a : Key) = Sum.inl b) = (a == b) := by
 by_cases e : a = b
 · subst e; simp
 · have h : ¬ (Sum.inl a : Key) = Sum.inl b := fun q => e (Sum.inl.inj q)
   rw [decide_eq_false h]
   exact (beq_eq_false_iff_ne.mpr e).symm
theorem key_rr (a b : Str) : decide ((Sum.inr a : Key) = Sum.inr b) = decide (a = b) := by
 by_cases e : a = b
 · subst e; simp
 · have h : ¬ (Sum.inr a : Key) = Sum.inr b := fun q => e (Sum.inr.inj q)
   rw [decide_eq_false h, decide_eq_false e]
theorem key_lr (a : Int) (b : Str) : decide ((Sum.inl a : Key) = Sum.inr b) = false := decide_eq_false (fun q => nomatch q)
theorem key_rl (a : Str) (b : Int) : decide ((Sum.inr a : Key) = Sum.inl b) = false := decide_eq_false (fun q => nomatch q)
def mixKind (prog : Program) (w : World) : PySem.KeyKind prog w Key where
 is := keyIs
 hash := keyH w
 inj := fun v a b ha hb => by
   rcases keyIs_shape ha with ⟨i, t, rfl, rfl⟩ | ⟨x, t, rfl, rfl⟩
   · rcases keyIs_shape hb with ⟨j, u, rfl, e⟩ | ⟨y, u, rfl, e⟩
     · injection e with e1 _; rw [e1]
     · exact nomatch e
   · rcases keyIs_shape hb with ⟨j, u, rfl, e⟩ | ⟨y, u, rfl, e⟩
     · exact nomatch e
     · injection e with e1 _; rw [e1]
 byValue := fun k v h => by
   rcases keyIs_shape h with ⟨i, t, rfl, rfl⟩ | ⟨x, t, rfl, rfl⟩ <;> rfl
 pyHash := fun hv h => by
   rcases keyIs_shape hv with ⟨i, t, rfl, rfl⟩ | ⟨x, t, rfl, rfl⟩
   · exact wpAny_pyHash_int h
   · exact wpAny_pyHash_str h
 eqBool := fun hu hv h => by
   rcases keyIs_shape hu with ⟨i, t, rfl, rfl⟩ | ⟨x, t, rfl, rfl⟩
   · rcases keyIs_shape hv with ⟨j, u, rfl, rfl⟩ | ⟨y, u, rfl, rfl⟩
     · rw [key_ll] at h; exact wpAny_eqBool_int h
     · rw [key_lr] at h; exact SeqAt.EqAt.int_str i t y u _ _ _ _ h
   · rcases keyIs_shape hv with ⟨j, u, rfl, rfl⟩ | ⟨y, u, rfl, rfl⟩
     · rw [key_rl] at h; exact SeqAt.EqAt.str_int x t j u _ _ _ _ h
     · rw [key_rr] at h; exact wpAny_eqBool_str h
 «strs» := fun k x t v h => by
   rcases keyIs_shape h with ⟨i, u, rfl, e⟩ | ⟨y, u, rfl, e⟩
   · exact nomatch e
   · injection e with e1 _
     subst e1
     cases v <;> rfl
theorem mixKind_int (prog : Program) (w : World) (i : Int) (t : Tok) : (mixKind prog w).is (.inl i) (.int i t) = true := keyIs_int i t
theorem mixKind_str (prog : Program) (w : World) (x : Str) (t : Tok) : (mixKind prog w).is (.inr x) (.str x t) = true := keyIs_str x t
end L2
namespace L2
open PySem PySem.Spec PyProof.Rows
inductive V where
 | non | bl (b : Bool) | int (i : Int) | str (x : Str) | byt (b : Array UInt8) | flt (b : UInt64) | ref (a : Addr) | ty (n : String)
 deriving DecidableEq
def RelV : V → Value → Prop
 | .non, u => u = Value.none
 | .bl b, u => u = Value.bool b
 | .int i, u => ∃ t, u = Value.int i t
 | .str x, u => ∃ t, u = Value.str x t
 | .byt b, u => ∃ t, u = Value.bytes b t
 | .flt b, u => ∃ t, u = Value.float b t
 | .ref a, u => u = Value.ref a
 | .ty n, u => u = Value.type n
abbrev Vals : List V → List Value → Prop := Paired RelV
theorem Vals.length {xs : List V} {us : List Value} (r : Vals xs us) : xs.length = us.length := Paired.length r
theorem Vals.get : ∀ {xs : List V} {us : List Value} {i : Nat} {x : V}, Vals xs us → xs[i]? = some x → ∃ u, us[i]? = some u ∧ RelV x u
 | _, _, _, _, .nil, e => by simp at e
 | _, _, 0, _, .cons r _, e => by simp at e; subst e; exact ⟨_, rfl, r⟩
 | _, _, i + 1, x, .cons _ t, e => by
   obtain ⟨u, h1, h2⟩ := Vals.get (i := i) (x := x) t (by simpa using e)
   exact ⟨u, by simpa using h1, h2⟩
theorem Vals.set {x : V} {u : Value} (r : RelV x u) : ∀ {xs : List V} {us : List Value} (i : Nat), Vals xs us → Vals (xs.set i x) (us.set i u)
 | _, _, _, .nil => .nil
 | _, _, 0, .cons _ t => .cons r t
 | _, _, i + 1, .cons q t => .cons q (Vals.set r i t)
theorem Vals.append : ∀ {xs ys : List V} {us ws : List Value}, Vals xs us → Vals ys ws → Vals (xs ++ ys) (us ++ ws)
 | _, _, _, _, .nil, s => s
 | _, _, _, _, .cons r t, s => .cons r (Vals.append t s)
theorem Vals.take : ∀ {xs : List V} {us : List Value} (n : Nat), Vals xs us → Vals (xs.take n) (us.take n)
 | _, _, 0, _ => .nil
 | _, _, _ + 1, .nil => .nil
 | _, _, n + 1, .cons r t => .cons r (Vals.take n t)
theorem Vals.drop : ∀ {xs : List V} {us : List Value} (n : Nat), Vals xs us → Vals (xs.drop n) (us.drop n)
 | _, _, 0, r => r
 | _, _, _ + 1, .nil => .nil
 | _, _, n + 1, .cons _ t => Vals.drop n t
def RelO : Option V → Option Value → Prop
 | some v, some u => RelV v u
 | none, none => True
 | _, _ => False
def KV {κ : Type} : List (κ × V) → List (κ × Value) → Prop := Paired fun (p : κ × V) (q : κ × Value) => p.1 = q.1 ∧ RelV p.2 q.2
def kV : Key → V
 | .inl i => .int i
 | .inr x => .str x
inductive HO where
 | lst (xs : List V)
 | tup (xs : List V)
 | dK (kvs : List (Key × V)) | dT (kvs : List (List Key × V))
 | set (S : Int → Bool) (n : Nat)
 | ins (C dx : Addr) (fs : List (Str × V))
 | own (x : Addr)
 | xd (fs : List (Str × V))
 | met (f x : Addr)
 | rng (lo hi : Int)
 | frz (o : Obj) (u : HO)
 | tbl (ps : Array Value)
 | ext (φ : Heap → Prop)
abbrev Hp := Addr → Option HO
def upd (H : Hp) (a : Addr) (o : HO) : Hp := fun b => if b = a then some o else H b
theorem upd_same {H : Hp} {a : Addr} {o : HO} : upd H a o a = some o := by unfold upd; rw [if_pos rfl]
theorem upd_ne {H : Hp} {a b : Addr} {o : HO} (h : b ≠ a) : upd H a o b = H b := by unfold upd; rw [if_neg h]
theorem upd_upd {H : Hp} {a : Addr} {o u : HO} : upd (upd H a o) a u = upd H a u := by
 funext b; unfold upd; split <;> rfl
theorem ne_of {H : Hp} {a b : Addr} {o u : HO} (h : H a = some o) (h' : H b = some u) (d : o ≠ u) : a ≠ b := by
 intro e; subst e; rw [h] at h'; exact d (Option.some.inj h')
theorem ne_of_none {H : Hp} {a b : Addr} {o : HO} (h : H a = some o) (h' : H b = none) : a ≠ b := by
 intro e; subst e; rw [h] at h'; cases h'
section
variable (P : Program) (w : World)
def ObjOk (H : Hp) (h : Heap) (a : Addr) : HO → Prop
 | .lst xs => xs.length ≤ sizeLine ∧ ∃ (its : List Value) (n : Nat), Vals xs its ∧ h.get? a = some { cls := .type "list", data := .seq its.toArray n }
 | .tup xs => xs.length ≤ sizeLine ∧ ∃ its : List Value, Vals xs its ∧ IsTup h a its.toArray
 | .dK kvs => kvs.length ≤ sizeLine ∧ (a == sysModules) = false ∧ ∃ vs, KV kvs vs ∧ h.DictOf (mixKind P w) a vs
 | .dT _ => False
 | .set S n => h.SetOf (intKind P w) a S n
 | .ins C dx fs => H dx = some (.own a) ∧ fs.length ≤ 1000 ∧ dx ≠ a ∧ h.get? a = some (PySem.W.instObj C dx) ∧
     ∃ mA, h.Ns1 dx mA ∧ (∀ f, RelO (fs.lookup f) (mA f)) ∧ PySem.Within mA (fs.map (·.1))
 | .own _ => ∃ o, h.get? a = some o
 | .xd fs => ∃ mA, h.Ns1 a mA ∧ ∀ f, RelO (fs.lookup f) (mA f)
 | .rng lo hi => ∃ t u v, h.get? a = some { cls := .type "range", data := .fields #[.int lo t, .int hi u, .int 1 v] }
 | .frz o u => h.get? a = some o ∧ ObjOk H h a u
 | .tbl ps => h.get? a = some { cls := .none, data := .fields ps }
 | .met f x => h.get? a = some (PySem.W.methodObj (.ref f) (.ref x))
 | .ext φ => φ h ∧ (∃ o, h.get? a = some o) ∧ ∀ h1 h2 : Heap, φ h1 → (∀ o, h1.get? a = some o → h2.get? a = some o) → φ h2
def HOk (H : Hp) (h : Heap) : Prop := ∀ a o, H a = some o → ObjOk P w H h a o
end
section
variable {P : Program} {w : World} {H H' : Hp} {h h' : Heap} {a : Addr} {o : HO}
theorem ObjOk.lt (x : ObjOk P w H h a o) : a < h.objs.size := by
 cases o with
 | lst xs => obtain ⟨_, _, _, _, e⟩ := x; exact Heap.lt_size e
 | tup xs => obtain ⟨_, _, _, p⟩ := x; exact p.lt
 | dK kvs => obtain ⟨_, _, _, _, o, _, _, e, _⟩ := x; exact Heap.lt_size e
 | dT kvs => exact False.elim x
 | set S n => obtain ⟨o, _, _, _, e, _⟩ := x; exact Heap.lt_size e
 | ins C dx fs => obtain ⟨_, _, _, e, _⟩ := x; exact Heap.lt_size e
 | own y => obtain ⟨_, e⟩ := x; exact Heap.lt_size e
 | xd fs => obtain ⟨_, ⟨_, _, _, e, _⟩, _⟩ := x; exact Heap.lt_size e
 | rng lo hi => obtain ⟨_, _, _, e⟩ := x; exact Heap.lt_size e
 | frz ob u => obtain ⟨e, _⟩ := x; exact Heap.lt_size e
 | tbl ps => exact Heap.lt_size (show h.get? a = some _ from x)
 | met f y => exact Heap.lt_size (show h.get? a = some _ from x)
 | ext φ => obtain ⟨_, ⟨_, e⟩, _⟩ := x; exact Heap.lt_size e
theorem ObjOk.stay (x : ObjOk P w H h a o) (k : ∀ b u, (b = a ∨ H b = some (.own a)) → h.get? b = some u → h'.get? b = some u)
   (ho : ∀ b, H b = some (.own a) → H' b = some (.own a)) (ht : ∀ b xs, H b = some (.tup xs) → H' b = some (.tup xs)) : ObjOk P w H' h' a o := by
 induction o with
 | lst xs => obtain ⟨z, its, n, r, e⟩ := x; exact ⟨z, its, n, r, k _ _ (.inl rfl) e⟩
 | tup xs => obtain ⟨z, its, r, ob, e, c⟩ := x; exact ⟨z, its, r, ob, k _ _ (.inl rfl) e, c⟩
 | dK kvs => obtain ⟨z, y, vs, r, ob, es, ep, e, c⟩ := x; exact ⟨z, y, vs, r, ob, es, ep, k _ _ (.inl rfl) e, c⟩
 | dT kvs => exact False.elim x
 | set S n => obtain ⟨ob, es, ep, t, e, c⟩ := x; exact ⟨ob, es, ep, t, k _ _ (.inl rfl) e, c⟩
 | ins C dx fs =>
   obtain ⟨d, z, ne, e, mA, ⟨od, es, ep, e2, c⟩, r⟩ := x
   exact ⟨ho _ d, z, ne, k _ _ (.inl rfl) e, mA, ⟨od, es, ep, k _ _ (.inr d) e2, c⟩, r⟩
 | own y => obtain ⟨ob, e⟩ := x; exact ⟨ob, k _ _ (.inl rfl) e⟩
 | xd fs => obtain ⟨mA, ⟨od, es, ep, e, c⟩, r⟩ := x; exact ⟨mA, ⟨od, es, ep, k _ _ (.inl rfl) e, c⟩, r⟩
 | rng lo hi => obtain ⟨t, u, v, e⟩ := x; exact ⟨t, u, v, k _ _ (.inl rfl) e⟩
 | frz ob u ih => obtain ⟨e, q⟩ := x; exact ⟨k _ _ (.inl rfl) e, ih q⟩
 | tbl ps =>
   have e : h.get? a = some { cls := .none, data := .fields ps } := x
   show h'.get? a = some { cls := .none, data := .fields ps }
   exact k a _ (.inl rfl) e
 | met f y =>
   have e : h.get? a = some (PySem.W.methodObj (.ref f) (.ref y)) := x
   show h'.get? a = some (PySem.W.methodObj (.ref f) (.ref y))
   exact k a _ (.inl rfl) e
 | ext φ => obtain ⟨p, ⟨o, e⟩, st⟩ := x; exact ⟨st _ _ p fun o q => k _ _ (.inl rfl) q, ⟨o, k _ _ (.inl rfl) e⟩, st⟩
theorem HOk.lt (x : HOk P w H h) (e : H a = some o) : a < h.objs.size := (x a o e).lt
theorem HOk.fresh (x : HOk P w H h) (e : h.objs.size ≤ a) : H a = none := by
 cases q : H a with
 | none => rfl
 | some u => exact absurd (Nat.lt_of_lt_of_le (x.lt q) e) (Nat.lt_irrefl _)
theorem HOk.kept (x : HOk P w H h) (k : ∀ b u, h.get? b = some u → h'.get? b = some u) : HOk P w H h' := fun a o e =>
 (x a o e).stay (fun b u _ q => k b u q) (fun _ q => q) fun _ _ q => q
theorem HOk.laid (x : HOk P w H h) (k : ∀ b u, h.get? b = some u → h'.get? b = some u) (hp : h.objs.size ≤ a) (new : ObjOk P w (upd H a o) h' a o) : HOk P w (upd H a o) h' := fun b u e => by
 have hn := x.fresh hp
 by_cases hb : b = a
 · subst hb; rw [upd_same] at e; cases e; exact new
 · rw [upd_ne hb] at e
   exact (x b u e).stay (fun c v _ q => k c v q) (fun c q => by rw [upd_ne (ne_of_none q hn)]; exact q) fun c xs q => by rw [upd_ne (ne_of_none q hn)]; exact q
end
def Rd (H : Hp) (a : Addr) (u : HO) : Prop := H a = some u ∨ ∃ o, H a = some (.frz o u)
theorem Rd.of {H : Hp} {a : Addr} {u : HO} (h : H a = some u) : Rd H a u := .inl h
theorem Rd.ok {P : Program} {w : World} {H : Hp} {h : Heap} {a : Addr} {u : HO} (r : Rd H a u) (x : HOk P w H h) : ObjOk P w H h a u := by
 rcases r with r | ⟨o, r⟩
 · exact x a u r
 · obtain ⟨_, q⟩ := x a _ r
   exact q
def Mut : Option HO → Prop
 | some (.lst _) => True
 | some (.dK _) => True
 | some (.dT _) => True
 | some (.set _ _) => True
 | some (.ins _ _ _) => True
 | some (.ext _) => True
 | _ => False
section
variable {P : Program} {w : World} {H : Hp} {h h' : Heap} {x e : Addr} {o' : HO}
theorem HOk.write (ok : HOk P w H h) (mu : Mut (H x)) (he : e = x ∨ H e = some (.own x)) (k : ∀ b u, b ≠ e → h.get? b = some u → h'.get? b = some u) (heo : ∃ u, h'.get? e = some u)
   (new : ObjOk P w (upd H x o') h' x o') : HOk P w (upd H x o') h' := fun b u q => by
 have nown : ∀ c y, H c = some (.own y) → c ≠ x := fun c y r z => by subst z; rw [r] at mu; exact mu
 have ntup : ∀ c xs, H c = some (.tup xs) → c ≠ x := fun c xs r z => by subst z; rw [r] at mu; exact mu
 by_cases hb : b = x
 · subst hb; rw [upd_same] at q; cases q; exact new
 · rw [upd_ne hb] at q
   by_cases hbe : b = e
   · have q' : H b = some (.own x) := by
       rcases he with z | z
       · exact absurd (hbe.trans z) hb
       · rw [hbe]; exact z
     rw [q] at q'; cases q'
     obtain ⟨v, hv⟩ := heo
     exact ⟨v, by rw [hbe]; exact hv⟩
   · refine (ok b u q).stay (fun c v hc r => k c v ?_ r) (fun c r => by rw [upd_ne (nown c b r)]; exact r) fun c xs r => by rw [upd_ne (ntup c xs r)]; exact r
     rcases hc with rfl | hc
     · exact hbe
     · rintro rfl
       rcases he with z | z
       · exact nown c b hc z
       · rw [hc] at z; cases z; exact hb rfl
end
structure Un (fs ex : List Addr) (H H' : Hp) (h h' : Heap) : Prop where
 keep : ∀ b o, h.get? b = some o → H b = none → b ∉ fs → b ∉ ex → h'.get? b = some o
 slot : ∀ b o, h.get? b = some o → H b = none → b ∈ fs → b ∉ ex → ∃ sl, h'.get? b = some { o with slots := sl }
 free : ∀ b o, h.get? b = some o → H b = none → b ∉ ex → H' b = none
 there : ∀ b o, h.get? b = some o → b ∉ ex → ∃ o', h'.get? b = some o'
 tups : ∀ b xs, H b = some (.tup xs) → H' b = some (.tup xs)
 frzs : ∀ b o u, H b = some (.frz o u) → H' b = some (.frz o u)
 tbls : ∀ b ps, H b = some (.tbl ps) → ∃ more, H' b = some (.tbl (ps ++ more))
section
variable {fs fs' ex ex' : List Addr} {H H1 H2 : Hp} {h h1 h2 h' : Heap} {a x e : Addr} {o : HO}
theorem Un.any (u : Un fs ex H H1 h h1) {b : Addr} {ob : Obj} (q : h.get? b = some ob) (n : H b = none) (hx : b ∉ ex) : ∃ sl, h1.get? b = some { ob with slots := sl } := by
 by_cases hb : b ∈ fs
 · exact u.slot b ob q n hb hx
 · exact ⟨ob.slots, u.keep b ob q n hb hx⟩
theorem Un.kept (k : ∀ b u, h.get? b = some u → h'.get? b = some u) : Un fs ex H H h h' :=
 ⟨fun b ob q _ _ _ => k b ob q, fun b ob q _ _ _ => ⟨ob.slots, k b ob q⟩, fun _ _ _ n _ => n, fun b ob q _ => ⟨ob, k b ob q⟩, fun _ _ q => q, fun _ _ _ q => q, fun _ ps q => ⟨#[], by rw [q]; simp⟩⟩
theorem Un.refl : Un fs ex H H h h := Un.kept fun _ _ q => q
theorem Un.laid (k : ∀ b u, h.get? b = some u → h'.get? b = some u) (hp : h.objs.size ≤ a) (hn : H a = none) : Un fs ex H (upd H a o) h h' where
 keep := fun b u q _ _ _ => k b u q
 slot := fun b u q _ _ _ => ⟨u.slots, k b u q⟩
 free := fun b u q n _ => by rw [upd_ne (Nat.ne_of_lt (Nat.lt_of_lt_of_le (Heap.lt_size q) hp))]; exact n
 there := fun b u q _ => ⟨u, k b u q⟩
 tups := fun b xs q => by rw [upd_ne (ne_of_none q hn)]; exact q
 frzs := fun b u xs q => by rw [upd_ne (ne_of_none q hn)]; exact q
 tbls := fun b ps q => ⟨#[], by rw [upd_ne (ne_of_none q hn), q]; simp⟩
theorem Un.write (mu : Mut (H x)) (he : e = x ∨ H e = some (.own x)) (k : ∀ b u, b ≠ e → h.get? b = some u → h'.get? b = some u) (heo : ∃ u, h'.get? e = some u) : Un fs ex H (upd H x o) h h' := by
 have hx : ∀ b, H b = none → b ≠ x := fun b n z => by subst z; rw [n] at mu; exact mu
 have hb : ∀ b, H b = none → b ≠ e := fun b n z => by
   subst z
   rcases he with r | r
   · exact hx b n r
   · rw [n] at r; cases r
 have hm : ∀ b u, H b = some u → ¬ Mut (some u) → b ≠ x := fun b u q nm z => by subst z; rw [q] at mu; exact nm mu
 refine ⟨fun b u q n _ _ => k b u (hb b n) q, fun b u q n _ _ => ⟨u.slots, k b u (hb b n) q⟩, fun b u q n _ => by rw [upd_ne (hx b n)]; exact n, fun b u q _ => ?_,
   fun b xs q => by rw [upd_ne (hm b _ q fun z => z)]; exact q, fun b u xs q => by rw [upd_ne (hm b _ q fun z => z)]; exact q, fun b ps q => ⟨#[], by rw [upd_ne (hm b _ q fun z => z), q]; simp⟩⟩
 by_cases hbe : b = e
 · subst hbe; exact heo
 · exact ⟨u, k b u hbe q⟩
end
def trk (h : Heap) (H : Hp) : List Addr := (List.range h.objs.size).filter fun a => (H a).isSome
def hidT (h : Heap) (H : Hp) : Heap := PySem.W.hideAll h (trk h H)
theorem hidT_size (h : Heap) (H : Hp) : (hidT h H).objs.size = h.objs.size := PySem.W.hideAll_size _ _
theorem hidT_get {h : Heap} {H : Hp} {b : Addr} {o : Obj} (e : h.get? b = some o) (n : H b = none) : (hidT h H).get? b = some o :=
 PySem.W.hideAll_get _ e fun hm => by
   have q : (H b).isSome = true := (List.mem_filter.mp hm).2
   rw [n] at q; simp at q
theorem of_hidT {h : Heap} {H : Hp} {b : Addr} {o : Obj} (e : (hidT h H).get? b = some o) : h.get? b = some o ∧ H b = none := by
 have e' : h.get? b = some o := PySem.W.of_hideAll (trk h H) e
 refine ⟨e', ?_⟩
 cases q : H b with
 | none => rfl
 | some x =>
   have hm : b ∈ trk h H := List.mem_filter.mpr ⟨List.mem_range.mpr (Heap.lt_size e'), by simp [q]⟩
   have z : (hidT h H).get? b = none := PySem.W.hideAll_none (trk h H) hm
   rw [z] at e; cases e
def allNews (g h : Heap) (L : Addr) : List (Addr × Obj) := (List.range h.objs.size).filterMap fun a => if a = L ∨ (g.get? a).isSome = true then none else (h.get? a).map fun o => (a, o)
def rest (g h : Heap) (L d : Addr) : List (Addr × Obj) := (allNews g h L).filter fun p => decide (p.1 ≠ d)
end L2
namespace L2
open PySem PySem.Spec PyProof.Rows
structure Mod (K : PySem.W.Frag) (mg : Str → Option Value) (base : Heap) : Prop where
 kin : K.In base
 glob : base.Ns mainGlobals mg
 blt : ∃ mb, base.Ns builtinsNs mb ∧ ∀ x : Str, x ≠ "__name__" → mb x = bootBuiltins x
 nolimit : base.NoLimit
/-- the context: a def's body (or a comprehension's block) running. base: fixed through the whole law; s₀, H₀: the entry; outer: the frames whose slots others may change (a def's callers); stack: all frames that run;
  ex: iterators that were made ahead of the entry and are walked here (a comprehension's); fn: the names whose cells were made at the entry (a def: all; a comprehension's block: its own); calm: not within an except suite; pn: pins that every state bears; xe: what is wanted of an exception that leaves the code -/
structure Cx where
 prog : Program
 w : World
 K : PySem.W.Frag
 mg : Str → Option Value
 base : Heap
 A : Around
 N : List Str
 s₀ : Shared
 H₀ : Hp
 env : Env
 outer : List Env
 stack : List Env
 ex : List Addr
 fn : Str → Bool
 calm : Bool
 pn : List (Addr × Obj)
 xe : Value → Shared → Prop
def frs (l : List Env) : List Addr := l.filterMap (·.frame)
abbrev Cx.fs (X : Cx) : List Addr := frs X.outer
def Vis (sc : Scope) (x : Str) : Prop := sc.names.lookup x = some .local ∨ sc.names.lookup x = some .cell ∨ sc.names.lookup x = some .free
def Loc (sc : Scope) (x : Str) : Prop := sc.names.lookup x = some .local ∨ sc.names.lookup x = some .cell
def Look (env : Env) (h : Heap) (m : Str → Option Value) (x : Str) (u : Value) : Prop :=
 (env.kindOf x = some .local ∧ m x = some u) ∨ ((env.kindOf x = some .cell ∨ env.kindOf x = some .free) ∧ ∃ c, env.cells.lookup x = some c ∧ h.IsCell c (some u))
structure Cx.Ok (X : Cx) : Prop where
 mod : Mod X.K X.mg X.base
 kind : X.env.scope.kind = .function
 glob : X.env.globals = mainGlobals
 blt : X.env.builtins = builtinsNs
 above : X.s₀.heap.objs.size ≤ X.env.locals
 inj : ∀ x y c, X.env.cells.lookup x = some c → X.env.cells.lookup y = some c → x = y
 has : ∀ x, (X.env.kindOf x = some .cell ∨ X.env.kindOf x = some .free) → ∃ c, X.env.cells.lookup x = some c
 cab : ∀ x c, X.fn x = true → X.env.cells.lookup x = some c → X.s₀.heap.objs.size ≤ c
 hd : X.calm = true → X.A.handled = none
 frames : X.A.frames = some X.stack
 stk : X.stack = X.outer ∨ (X.stack = X.env :: X.outer ∧ X.env.frame = some X.env.locals)
 exf : ∀ b ∈ X.ex, b ≠ X.env.locals ∧ ∀ x c, X.env.cells.lookup x = some c → c ≠ b
 bs : ∀ b o, X.base.get? b = some o → X.s₀.heap.get? b = some o ∧ X.H₀ b = none
 bsz : X.base.objs.size ≤ X.s₀.heap.objs.size
 noex : ∀ b o, X.base.get? b = some o → b ∉ X.ex
 exfs : ∀ b ∈ X.ex, b ∉ X.fs
 funs : X.s₀.heap.FunFrames X.base X.outer
 frf : ∀ b ∈ X.fs, X.H₀ b = none
structure Inv (X : Cx) (pins : List (Addr × Obj)) (σ : List (Option V)) (H : Hp) (s : Shared) : Prop where
 ok : X.Ok
 os : s.os = X.s₀.os
 bare : AllBare s.gens
 base : Un X.fs X.ex X.H₀ H X.s₀.heap s.heap
 loc : ∃ m, s.heap.Ns X.env.locals m ∧ ∀ (i : Nat) (x : Str) (v : V), X.N[i]? = some x → σ[i]? = some (some v) → Vis X.env.scope x → ∃ u, RelV v u ∧ Look X.env s.heap m x u
 cell : ∀ x c, X.env.cells.lookup x = some c → ∃ v, s.heap.IsCell c v
 free : H X.env.locals = none
 freeC : ∀ x c, X.env.cells.lookup x = some c → H c = none
 pin : ∀ p ∈ X.pn ++ pins, s.heap.get? p.1 = some p.2 ∧ H p.1 = none ∧ p.1 ≠ X.env.locals ∧ p.1 ∉ X.fs ∧ ∀ v, p.2.data ≠ .cell v
 hok : HOk X.prog X.w H s.heap
 len : σ.length = X.N.length
section
variable {X : Cx} {pins : List (Addr × Obj)} {σ : List (Option V)} {H H' : Hp} {s : Shared} {h' : Heap}
theorem Cx.Ok.nofr (ok : X.Ok) {b : Addr} {o : Obj} (e : X.base.get? b = some o) : b ∉ X.fs := fun hb => by
 have := (ok.funs.mem hb).1
 rw [e] at this; cases this
theorem Inv.bs (I : Inv X pins σ H s) : ∀ b o, X.base.get? b = some o → s.heap.get? b = some o ∧ H b = none := fun b o e =>
 ⟨I.base.keep b o (I.ok.bs b o e).1 (I.ok.bs b o e).2 (I.ok.nofr e) (I.ok.noex b o e), I.base.free b o (I.ok.bs b o e).1 (I.ok.bs b o e).2 (I.ok.noex b o e)⟩
theorem Inv.bk (I : Inv X pins σ H s) : ∀ b o, X.base.get? b = some o → s.heap.get? b = some o := fun b o e => (I.bs b o e).1
theorem Inv.mod (I : Inv X pins σ H s) : Mod X.K X.mg X.base := I.ok.mod
theorem Inv.kIn (I : Inv X pins σ H s) : X.K.In s.heap := I.ok.mod.kin.keeps I.bk
theorem Inv.nolimit (I : Inv X pins σ H s) : s.heap.NoLimit := I.ok.mod.nolimit.keeps I.bk
theorem Inv.lt (I : Inv X pins σ H s) : X.env.locals < s.heap.objs.size := let ⟨_, hn, _⟩ := I.loc; hn.lt
theorem Inv.sz (I : Inv X pins σ H s) : X.s₀.heap.objs.size ≤ s.heap.objs.size := Nat.le_trans I.ok.above (Nat.le_of_lt I.lt)
theorem Inv.nofs (I : Inv X pins σ H s) {a : Addr} (h : s.heap.objs.size ≤ a) : a ∉ X.fs := fun hb => by
 obtain ⟨_, o, ho, _⟩ := I.ok.funs.mem hb
 exact absurd (Nat.lt_of_lt_of_le (Heap.lt_size ho) (Nat.le_trans I.sz h)) (Nat.lt_irrefl _)
theorem Inv.cne (I : Inv X pins σ H s) : ∀ x c, X.env.cells.lookup x = some c → c ≠ X.env.locals := fun x c e z => by
 obtain ⟨v, o, ho, hd⟩ := I.cell x c e
 obtain ⟨m, ⟨o', es, ep, ho', hd', _⟩, _⟩ := I.loc
 rw [z, ho'] at ho; cases ho; rw [hd'] at hd; cases hd
theorem Inv.funs (I : Inv X pins σ H s) : s.heap.FunFrames X.base X.outer := by
 have all : ∀ (l : List Env), (∀ b ∈ frs l, b ∈ X.fs) → X.s₀.heap.FunFrames X.base l → s.heap.FunFrames X.base l := by
   intro l
   induction l with
   | nil => intro _ _; trivial
   | cons env r ih =>
     intro hs hl
     obtain ⟨hk, ⟨L, o, hf, hn, ho, hd⟩, hr⟩ := hl
     have hL : L ∈ X.fs := hs L (by unfold frs; rw [List.filterMap_cons, hf]; exact List.mem_cons_self)
     obtain ⟨sl, e⟩ := I.base.slot L o ho (I.ok.frf L hL) hL fun z => I.ok.exfs L z hL
     exact ⟨hk, ⟨L, _, hf, hn, e, hd⟩, ih (fun b hb => hs b (by unfold frs; rw [List.filterMap_cons, hf]; exact List.mem_cons_of_mem _ hb)) hr⟩
 exact all X.outer (fun _ hb => hb) I.ok.funs
theorem Inv.stack (I : Inv X pins σ H s) : s.heap.FunFrames X.base X.stack := by
 rcases I.ok.stk with e | ⟨e, hf⟩
 · rw [e]; exact I.funs
 · rw [e]
   obtain ⟨m, hn, _⟩ := I.loc
   refine .cons (by rw [I.ok.kind]; decide) hf hn ?_ I.funs
   exact Heap.get?_none_of_le (Nat.le_trans I.ok.bsz I.ok.above)
theorem Inv.stkSub (I : Inv X pins σ H s) : ∀ b ∈ frs X.stack, b ∈ X.env.locals :: X.fs := fun b hb => by
 rcases I.ok.stk with e | ⟨e, hf⟩
 · rw [e] at hb; exact List.mem_cons_of_mem _ hb
 · rw [e] at hb
   unfold frs at hb
   rw [List.filterMap_cons, hf] at hb
   exact hb
theorem Inv.stkFree (I : Inv X pins σ H s) : ∀ b ∈ frs X.stack, H b = none := fun b hb => by
 rcases List.mem_cons.mp (I.stkSub b hb) with e | hb
 · rw [e]; exact I.free
 · obtain ⟨_, o, ho, _⟩ := I.ok.funs.mem hb
   exact I.base.free b o ho (I.ok.frf b hb) fun z => I.ok.exfs b z hb
theorem Inv.step {g' : Array GenState} {t' : Nat} {d' : Drawn} {ch : List Addr} (I : Inv X pins σ H s)
   (hch : ∀ b ∈ ch, (b ∈ X.ex ∨ X.s₀.heap.objs.size ≤ b) ∧ b ≠ X.env.locals ∧ (∀ x c, X.env.cells.lookup x = some c → c ≠ b) ∧ ∀ p ∈ X.pn ++ pins, p.1 ≠ b)
   (keep : ∀ b o, b ≠ X.env.locals → b ∉ X.fs → b ∉ ch → s.heap.get? b = some o → H b = none → h'.get? b = some o)
   (slot : ∀ b o, b ≠ X.env.locals → b ∈ X.fs → b ∉ ch → s.heap.get? b = some o → H b = none → ∃ sl, h'.get? b = some { o with slots := sl }) (free : ∀ b o, b ∉ ch → s.heap.get? b = some o → H b = none → H' b = none)
   (there : ∀ b o, b ∉ ch → s.heap.get? b = some o → ∃ o', h'.get? b = some o')
   (tups : ∀ b xs, H b = some (.tup xs) → H' b = some (.tup xs)) (frzs : ∀ b o u, H b = some (.frz o u) → H' b = some (.frz o u)) (tbls : ∀ b ps, H b = some (.tbl ps) → ∃ more, H' b = some (.tbl (ps ++ more)))
   (ns : ∀ m, s.heap.Ns X.env.locals m → h'.Ns X.env.locals m) (hok : HOk X.prog X.w H' h') (hg : AllBare g') :
   Inv X pins σ H' { s with heap := h', gens := g', drawn := d', toks := t' } := by
 have neL : ∀ b o, X.s₀.heap.get? b = some o → b ≠ X.env.locals := fun b o e => Nat.ne_of_lt (Nat.lt_of_lt_of_le (Heap.lt_size e) I.ok.above)
 have neC : ∀ b o, X.s₀.heap.get? b = some o → b ∉ X.ex → b ∉ ch := fun b o e hx hb => by
   rcases (hch b hb).1 with z | z
   · exact hx z
   · exact absurd (Nat.lt_of_lt_of_le (Heap.lt_size e) z) (Nat.lt_irrefl _)
 have cellK : ∀ x c, X.env.cells.lookup x = some c → ∀ v, s.heap.IsCell c v → h'.IsCell c v := fun x c e v ⟨o, ho, hd⟩ => by
   have nch : c ∉ ch := fun z => (hch c z).2.2.1 x c e rfl
   by_cases hc : c ∈ X.fs
   · obtain ⟨sl, q⟩ := slot c o (I.cne x c e) hc nch ho (I.freeC x c e)
     exact ⟨_, q, hd⟩
   · exact ⟨o, keep c o (I.cne x c e) hc nch ho (I.freeC x c e), hd⟩
 refine ⟨I.ok, I.os, hg, ⟨fun b o e n hb hx => ?_, fun b o e n hb hx => ?_, fun b o e n hx => ?_, fun b o e hx => ?_, fun b xs e => tups b xs (I.base.tups b xs e), fun b o xs e => frzs b o xs (I.base.frzs b o xs e), fun b ps e => ?_⟩, ?_, fun x c e => ?_, ?_, fun x c e => ?_, fun p hp => ?_, hok, I.len⟩
 · exact keep b o (neL b o e) hb (neC b o e hx) (I.base.keep b o e n hb hx) (I.base.free b o e n hx)
 · obtain ⟨sl, e1⟩ := I.base.slot b o e n hb hx
   obtain ⟨sl', e2⟩ := slot b _ (neL b o e) hb (neC b o e hx) e1 (I.base.free b o e n hx)
   exact ⟨sl', e2⟩
 · obtain ⟨o', e1⟩ := I.base.there b o e hx
   exact free b o' (neC b o e hx) e1 (I.base.free b o e n hx)
 · obtain ⟨o', e1⟩ := I.base.there b o e hx
   exact there b o' (neC b o e hx) e1
 · obtain ⟨m1, e1⟩ := I.base.tbls b ps e
   obtain ⟨m2, e2⟩ := tbls b _ e1
   exact ⟨m1 ++ m2, by rw [e2, Array.append_assoc]⟩
 · obtain ⟨m, hn, hl⟩ := I.loc
   refine ⟨m, ns m hn, fun i x v e1 e2 e3 => ?_⟩
   obtain ⟨u, r, l⟩ := hl i x v e1 e2 e3
   refine ⟨u, r, ?_⟩
   rcases l with l | ⟨k, c, e, z⟩
   · exact .inl l
   · exact .inr ⟨k, c, e, cellK x c e _ z⟩
 · obtain ⟨v, z⟩ := I.cell x c e
   exact ⟨v, cellK x c e v z⟩
 · obtain ⟨m, ⟨o, _, _, ho, _⟩, _⟩ := I.loc
   exact free _ o (fun z => (hch _ z).2.1 rfl) ho I.free
 · obtain ⟨v, o, ho, hd⟩ := I.cell x c e
   exact free c o (fun z => (hch c z).2.2.1 x c e rfl) ho (I.freeC x c e)
 · obtain ⟨e, n, ne, nf, d⟩ := I.pin p hp
   have nch : p.1 ∉ ch := fun z => (hch p.1 z).2.2.2 p hp rfl
   exact ⟨keep p.1 p.2 ne nf nch e n, free p.1 p.2 nch e n, ne, nf, d⟩
theorem Inv.un {t' : Nat} (I : Inv X pins σ H s) (u : Un X.fs [] H H' s.heap h') (hok : HOk X.prog X.w H' h') : Inv X pins σ H' { s with heap := h', toks := t' } := by
 obtain ⟨m, ⟨o, es, ep, ho, r⟩, _⟩ := id I.loc
 obtain ⟨sl, hL⟩ := u.any ho I.free (by simp)
 exact I.step (g' := s.gens) (d' := s.drawn) (ch := []) (fun _ z => nomatch z) (fun b o _ hb _ e n => u.keep b o e n hb (by simp)) (fun b o _ hb _ e n => u.slot b o e n hb (by simp)) (fun b o _ e n => u.free b o e n (by simp)) (fun b o _ e => u.there b o e (by simp)) u.tups u.frzs u.tbls (fun m' hm => by
   obtain ⟨o', es', ep', ho', r'⟩ := hm
   rw [ho] at ho'; cases ho'
   exact ⟨_, es', ep', hL, r'⟩) hok I.bare
theorem Inv.call {g' : Array GenState} {t' : Nat} {d' : Drawn} {ch : List Addr} (I : Inv X pins σ H s) (u : Un (frs X.stack) ch H H' s.heap h') (hok : HOk X.prog X.w H' h') (hg : AllBare g')
   (hch : ∀ b ∈ ch, (b ∈ X.ex ∨ X.s₀.heap.objs.size ≤ b) ∧ b ≠ X.env.locals ∧ (∀ x c, X.env.cells.lookup x = some c → c ≠ b) ∧ ∀ p ∈ X.pn ++ pins, p.1 ≠ b) :
   Inv X pins σ H' { s with heap := h', gens := g', drawn := d', toks := t' } := by
 obtain ⟨m, ⟨o, es, ep, ho, r⟩, _⟩ := id I.loc
 obtain ⟨sl, hL⟩ := u.any ho I.free fun z => (hch _ z).2.1 rfl
 exact I.step (ch := ch) hch (fun b o hL hb hc e n => u.keep b o e n (fun z => (List.mem_cons.mp (I.stkSub b z)).elim hL hb) hc) (fun b o _ _ hc e n => u.any e n hc) (fun b o hc e n => u.free b o e n hc) (fun b o hc e => u.there b o e hc) u.tups u.frzs u.tbls (fun m' hm => by
   obtain ⟨o', es', ep', ho', r'⟩ := hm
   rw [ho] at ho'; cases ho'
   exact ⟨_, es', ep', hL, r'⟩) hok hg
theorem Inv.turned {t' : Nat} {it : Addr} (I : Inv X pins σ H s) (k : ∀ b o, b ≠ it → s.heap.get? b = some o → h'.get? b = some o) (hn : H it = none) (hL : it ≠ X.env.locals)
   (h1 : it ∈ X.ex ∨ X.s₀.heap.objs.size ≤ it) (h2 : ∀ x c, X.env.cells.lookup x = some c → c ≠ it) (h3 : ∀ p ∈ X.pn ++ pins, p.1 ≠ it) : Inv X pins σ H { s with heap := h', toks := t' } := by
 have nit : ∀ b u, H b = some u → b ≠ it := fun b u e z => by rw [z, hn] at e; cases e
 refine I.step (g' := s.gens) (d' := s.drawn) (ch := [it]) (fun b hb => ?_) (fun b o _ _ hc e _ => k b o (fun z => hc (by simp [z])) e) (fun b o _ _ hc e _ => ⟨o.slots, k b o (fun z => hc (by simp [z])) e⟩) (fun _ _ _ _ n => n)
   (fun b o hc e => ⟨o, k b o (fun z => hc (by simp [z])) e⟩) (fun _ _ e => e) (fun _ _ _ e => e) (fun b ps e => ⟨#[], by rw [e]; simp⟩) (fun m hm => ?_) (fun b u e => ?_) I.bare
 · have e : b = it := by simpa using hb
   subst e
   exact ⟨h1, hL, h2, h3⟩
 · obtain ⟨o, es, ep, ho, r⟩ := hm
   exact ⟨o, es, ep, k _ o (Ne.symm hL) ho, r⟩
 · refine (I.hok b u e).stay (fun c v hc q => k c v ?_ q) (fun _ q => q) fun _ _ q => q
   rcases hc with z | z
   · rw [z]; exact nit b u e
   · exact nit c _ z
theorem Inv.tok (I : Inv X pins σ H s) (t : Nat) : Inv X pins σ H { s with toks := t } := I.un (h' := s.heap) (t' := t) Un.refl I.hok
theorem Inv.kept {t' : Nat} (I : Inv X pins σ H s) (k : ∀ b u, s.heap.get? b = some u → h'.get? b = some u) : Inv X pins σ H { s with heap := h', toks := t' } := I.un (Un.kept k) (I.hok.kept k)
theorem Inv.laid {a : Addr} {o : HO} {t' : Nat} (I : Inv X pins σ H s) (k : ∀ b u, s.heap.get? b = some u → h'.get? b = some u) (hp : s.heap.objs.size ≤ a) (new : ObjOk X.prog X.w (upd H a o) h' a o) :
   Inv X pins σ (upd H a o) { s with heap := h', toks := t' } := I.un (Un.laid k hp (I.hok.fresh hp)) (I.hok.laid k hp new)
theorem Inv.write {x e : Addr} {o : HO} {t' : Nat} (I : Inv X pins σ H s) (mu : Mut (H x)) (he : e = x ∨ H e = some (.own x)) (k : ∀ b u, b ≠ e → s.heap.get? b = some u → h'.get? b = some u) (heo : ∃ u, h'.get? e = some u)
   (new : ObjOk X.prog X.w (upd H x o) h' x o) : Inv X pins σ (upd H x o) { s with heap := h', toks := t' } := I.un (Un.write mu he k heo) (I.hok.write mu he k heo new)
theorem Inv.weak {σ' : List (Option V)} (I : Inv X pins σ H s) (hl : σ'.length = σ.length) (w : ∀ (i : Nat) v, σ'[i]? = some (some v) → σ[i]? = some (some v)) : Inv X pins σ' H s :=
 ⟨I.ok, I.os, I.bare, I.base, let ⟨m, hn, hl'⟩ := I.loc; ⟨m, hn, fun i x v e1 e2 e3 => hl' i x v e1 (w i v e2) e3⟩, I.cell, I.free, I.freeC, I.pin, I.hok, hl.trans I.len⟩
theorem Inv.pins_of {pins' : List (Addr × Obj)} (I : Inv X pins σ H s) (h : ∀ p ∈ pins', s.heap.get? p.1 = some p.2 ∧ H p.1 = none ∧ p.1 ≠ X.env.locals ∧ p.1 ∉ X.fs ∧ ∀ v, p.2.data ≠ .cell v) : Inv X pins' σ H s :=
 ⟨I.ok, I.os, I.bare, I.base, I.loc, I.cell, I.free, I.freeC, fun p hp => (List.mem_append.mp hp).elim (fun z => I.pin p (List.mem_append_left _ z)) (h p), I.hok, I.len⟩
theorem nodup_ix {N : List Str} (hN : N.Nodup) {i j : Nat} {x : Str} (a : N[i]? = some x) (b : N[j]? = some x) : i = j := by
 obtain ⟨h1, e1⟩ := List.getElem?_eq_some_iff.mp a
 obtain ⟨h2, e2⟩ := List.getElem?_eq_some_iff.mp b
 exact (List.getElem_inj hN).mp (e1.trans e2.symm)
theorem store_ok2 {M : Model} {A : Around} {E : Value → Shared → Prop} {i : Nat} {x : Str} {v : V} {u : Value} {Q : Unit → Shared → Prop} (I : Inv X pins σ H s) (hN : X.N.Nodup) (hi : X.N[i]? = some x) (hx : Loc X.env.scope x) (r : RelV v u)
   (h : ∀ s', Inv X pins (σ.set i (some v)) H s' → (∃ a, Heap.SameBut a s.heap s'.heap ∧ (a = X.env.locals ∨ X.env.cells.lookup x = some a)) → Q () s') (hf : X.fn x = true ∨ X.env.scope.names.lookup x = some .local := by first | exact .inl rfl | exact .inr rfl | assumption) : wpAny M A (storeName X.env x u) Q E s := by
 obtain ⟨m, hn, hl⟩ := id I.loc
 have hcls : (X.env.scope.kind == .class || (X.env.scope.kind == .module && X.env.locals != X.env.globals)) = false := by rw [I.ok.kind]; rfl
 have hiσ : i < σ.length := by rw [I.len]; exact (List.getElem?_eq_some_iff.mp hi).1
 have cne := I.cne
 have tracked : ∀ {a : Addr} {h' : Heap}, (∃ o, s.heap.get? a = some o ∧ H a = none) → Heap.SameBut a s.heap h' → HOk X.prog X.w H h' := fun {a h'} ha hs b ob e => by
   obtain ⟨_, _, hfree⟩ := ha
   refine (I.hok b ob e).stay (fun c w' hc q => (hs.2 c ?_).trans q) (fun _ q => q) fun _ _ q => q
   rintro rfl
   rcases hc with rfl | hc
   · rw [hfree] at e; cases e
   · rw [hfree] at hc; cases hc
 rcases hx with hk | hk
 · refine wpAny_storeName_local hk hn (fun h' hn' hs => ?_) hcls
   obtain ⟨oL, _, _, hoL, _⟩ := id hn
   refine h _ ⟨I.ok, I.os, I.bare, ⟨fun b o e n hb hx => ?_, fun b o e n hb hx => ?_, I.base.free, fun b o e hx => ?_, I.base.tups, I.base.frzs, I.base.tbls⟩, ⟨_, hn', fun j y v' e1 e2 e3 => ?_⟩, fun y c e => ?_, I.free, I.freeC, fun p hp => ?_, tracked ⟨oL, hoL, I.free⟩ hs, by simpa using I.len⟩ ⟨_, hs, .inl rfl⟩
   · exact (hs.2 b (Nat.ne_of_lt (Nat.lt_of_lt_of_le (Heap.lt_size e) I.ok.above))).trans (I.base.keep b o e n hb hx)
   · obtain ⟨sl, e1⟩ := I.base.slot b o e n hb hx
     exact ⟨sl, (hs.2 b (Nat.ne_of_lt (Nat.lt_of_lt_of_le (Heap.lt_size e) I.ok.above))).trans e1⟩
   · obtain ⟨o', e1⟩ := I.base.there b o e hx
     exact ⟨o', (hs.2 b (Nat.ne_of_lt (Nat.lt_of_lt_of_le (Heap.lt_size e) I.ok.above))).trans e1⟩
   · by_cases hj : j = i
     · subst hj
       rw [hi] at e1; cases e1
       rw [List.getElem?_set_self hiσ] at e2
       cases e2
       exact ⟨u, r, .inl ⟨hk, by simp⟩⟩
     · rw [List.getElem?_set_ne (Ne.symm hj)] at e2
       obtain ⟨u', r', q⟩ := hl j y v' e1 e2 e3
       refine ⟨u', r', ?_⟩
       rcases q with ⟨k, e⟩ | ⟨k, c, e, z⟩
       · refine .inl ⟨k, ?_⟩
         have : y ≠ x := fun e => hj (nodup_ix hN e1 (e ▸ hi))
         simp [this, e]
       · exact .inr ⟨k, c, e, z.sameBut hs (cne y c e)⟩
   · obtain ⟨w', z⟩ := I.cell y c e
     exact ⟨w', z.sameBut hs (cne y c e)⟩
   · obtain ⟨e, n, ne, nf, d⟩ := I.pin p hp
     exact ⟨(hs.2 p.1 ne).trans e, n, ne, nf, d⟩
 · have hfn : X.fn x = true := by
     rcases hf with z | z
     · exact z
     · rw [z] at hk; cases hk
   obtain ⟨c, hc⟩ := I.ok.has x (.inl hk)
   obtain ⟨w', z⟩ := I.cell x c hc
   refine wpAny_storeName_cell I.ok.kind hk hc z (fun h' hc' hs => ?_)
   obtain ⟨oc, hoc, hocd⟩ := id z
   refine h { s with heap := h' } ⟨I.ok, I.os, I.bare, ⟨fun b o e n hb hx => ?_, fun b o e n hb hx => ?_, I.base.free, fun b o e hx => ?_, I.base.tups, I.base.frzs, I.base.tbls⟩, ⟨m, hn.sameBut hs (Ne.symm (cne x c hc)), fun j y v' e1 e2 e3 => ?_⟩, fun y c' e => ?_, I.free, I.freeC, fun p hp => ?_, tracked ⟨oc, hoc, I.freeC x c hc⟩ hs, by simpa using I.len⟩ ⟨c, hs, .inr hc⟩
   · exact (hs.2 b (Nat.ne_of_lt (Nat.lt_of_lt_of_le (Heap.lt_size e) (I.ok.cab x c hfn hc)))).trans (I.base.keep b o e n hb hx)
   · obtain ⟨sl, e1⟩ := I.base.slot b o e n hb hx
     exact ⟨sl, (hs.2 b (Nat.ne_of_lt (Nat.lt_of_lt_of_le (Heap.lt_size e) (I.ok.cab x c hfn hc)))).trans e1⟩
   · obtain ⟨o', e1⟩ := I.base.there b o e hx
     exact ⟨o', (hs.2 b (Nat.ne_of_lt (Nat.lt_of_lt_of_le (Heap.lt_size e) (I.ok.cab x c hfn hc)))).trans e1⟩
   · by_cases hj : j = i
     · subst hj
       rw [hi] at e1; cases e1
       rw [List.getElem?_set_self hiσ] at e2
       cases e2
       exact ⟨u, r, .inr ⟨.inl hk, c, hc, hc'⟩⟩
     · rw [List.getElem?_set_ne (Ne.symm hj)] at e2
       obtain ⟨u', r', q⟩ := hl j y v' e1 e2 e3
       refine ⟨u', r', ?_⟩
       rcases q with q | ⟨k, c', e, z'⟩
       · exact .inl q
       · refine .inr ⟨k, c', e, z'.sameBut hs ?_⟩
         rintro rfl
         exact hj (nodup_ix hN e1 (I.ok.inj _ _ _ e hc ▸ hi))
   · by_cases hcc : c' = c
     · subst hcc; exact ⟨_, hc'⟩
     · obtain ⟨w2, z2⟩ := I.cell y c' e
       exact ⟨w2, z2.sameBut hs hcc⟩
   · obtain ⟨e, n, ne, nf, d⟩ := I.pin p hp
     refine ⟨(hs.2 p.1 ?_).trans e, n, ne, nf, d⟩
     intro q
     rw [q, hoc] at e
     have q' : oc = p.2 := Option.some.inj e
     exact d w' (by rw [← q']; exact hocd)
theorem store_ok {M : Model} {A : Around} {E : Value → Shared → Prop} {i : Nat} {x : Str} {v : V} {u : Value} {Q : Unit → Shared → Prop} (I : Inv X pins σ H s) (hN : X.N.Nodup) (hi : X.N[i]? = some x) (hx : Loc X.env.scope x) (r : RelV v u)
   (h : ∀ s', Inv X pins (σ.set i (some v)) H s' → Q () s') (hf : X.fn x = true ∨ X.env.scope.names.lookup x = some .local := by first | exact .inl rfl | exact .inr rfl | assumption) : wpAny M A (storeName X.env x u) Q E s :=
 store_ok2 I hN hi hx r (fun s' I' _ => h s' I') hf
theorem Inv.call' {s' : Shared} {ch : List Addr} (I : Inv X pins σ H s) (ho : s'.os = s.os) (u : Un (frs X.stack) ch H H' s.heap s'.heap) (hok : HOk X.prog X.w H' s'.heap) (hg : AllBare s'.gens)
   (hch : ∀ b ∈ ch, (b ∈ X.ex ∨ X.s₀.heap.objs.size ≤ b) ∧ b ≠ X.env.locals ∧ (∀ x c, X.env.cells.lookup x = some c → c ≠ b) ∧ ∀ p ∈ X.pn ++ pins, p.1 ≠ b) : Inv X pins σ H' s' := by
 obtain ⟨h', g', d', t', o'⟩ := s'
 have e : o' = s.os := ho
 subst e
 exact I.call (g' := g') (t' := t') (d' := d') u hok hg hch
end
abbrev XK := Value → Option Addr → Hp → Prop
abbrev St := List (Option V)
abbrev VK := V → Hp → Prop
abbrev TE := St → Hp → VK → Prop
abbrev TT := St → Hp → (Bool → Hp → Prop) → Prop
abbrev TA := St → Hp → (List V → Hp → Prop) → Prop
structure Ends where
 nx : St → Hp → Prop
 rt : VK
 bk : St → Hp → Prop := fun _ _ => False
 ct : St → Hp → Prop := fun _ _ => False
abbrev TS := Ends → St → Hp → Prop
def EP (X : Cx) (pins : List (Addr × Obj)) (σ : St) (Q : VK) (u : Value) (s' : Shared) : Prop := ∃ v H', Inv X pins σ H' s' ∧ RelV v u ∧ Q v H'
def TP (X : Cx) (pins : List (Addr × Obj)) (σ : St) (Q : Bool → Hp → Prop) (b : Bool) (s' : Shared) : Prop := ∃ H', Inv X pins σ H' s' ∧ Q b H'
def AP (X : Cx) (pins : List (Addr × Obj)) (σ : St) (Q : List V → Hp → Prop) (us : List Value) (s' : Shared) : Prop := ∃ vs H', Inv X pins σ H' s' ∧ Vals vs us ∧ Q vs H'
def SP (X : Cx) (pins : List (Addr × Obj)) (D : Ends) (f : Flow) (s' : Shared) : Prop :=
 match f with
 | .next => ∃ σ' H', Inv X pins σ' H' s' ∧ D.nx σ' H'
 | .brk => ∃ σ' H', Inv X pins σ' H' s' ∧ D.bk σ' H'
 | .cont => ∃ σ' H', Inv X pins σ' H' s' ∧ D.ct σ' H'
 | .ret u => ∃ v σ' H', Inv X pins σ' H' s' ∧ RelV v u ∧ D.rt v H'
def PE (X : Cx) (e : Expr) (t : TE) : Prop :=
 ∀ (pins : List (Addr × Obj)) (s : Shared) (σ : St) (H : Hp) (Q : VK), Inv X pins σ H s → t σ H Q → wpAny (model X.prog X.w) X.A (eval e X.env) (EP X pins σ Q) X.xe s
def PT (X : Cx) (e : Expr) (t : TT) : Prop :=
 ∀ (pins : List (Addr × Obj)) (s : Shared) (σ : St) (H : Hp) (Q : Bool → Hp → Prop), Inv X pins σ H s → t σ H Q → wpAny (model X.prog X.w) X.A (isTrue e X.env (eval e X.env)) (TP X pins σ Q) X.xe s
def PW (X : Cx) (e : Expr) (t : TT) : Prop :=
 ∀ (whole : Sem Value) (pins : List (Addr × Obj)) (s : Shared) (σ : St) (H : Hp) (Q : Bool → Hp → Prop), Inv X pins σ H s → t σ H Q → wpAny (model X.prog X.w) X.A (isTrue e X.env whole) (TP X pins σ Q) X.xe s
theorem PW.pt {X : Cx} {e : Expr} {t : TT} (h : PW X e t) : PT X e t := h _
def PA (X : Cx) (es : List Expr) (t : TA) : Prop :=
 ∀ (pos : Pos) (pins : List (Addr × Obj)) (s : Shared) (σ : St) (H : Hp) (Q : List V → Hp → Prop), Inv X pins σ H s → t σ H Q → wpAny (model X.prog X.w) X.A (spliced (backTo pos (starEach es X.env))) (AP X pins σ Q) X.xe s
def PS (X : Cx) (st : Stmt) (t : TS) : Prop :=
 ∀ (pins : List (Addr × Obj)) (s : Shared) (σ : St) (H : Hp) (D : Ends), Inv X pins σ H s → t D σ H → wpAny (model X.prog X.w) X.A (exec st X.env) (SP X pins D) X.xe s
def PSs (X : Cx) (st : List Stmt) (t : TS) : Prop :=
 ∀ (pins : List (Addr × Obj)) (s : Shared) (σ : St) (H : Hp) (D : Ends), Inv X pins σ H s → t D σ H → wpAny (model X.prog X.w) X.A (execs st X.env) (SP X pins D) X.xe s
theorem thn {α : Type} {t : Sem α} {Q Q' : α → Shared → Prop} {M : Model} {A : Around} {E : Value → Shared → Prop} {s : Shared} (h : wpAny M A t Q E s) (hQ : ∀ a s, Q a s → Q' a s) : wpAny M A t Q' E s := wpAny_mono h hQ fun _ _ x => x
end L2
namespace L2
open PySem PySem.Spec PyProof.Rows
section
variable {X : Cx}
def tVar (i : Nat) : TE := fun σ H Q => ∃ v, σ[i]? = some (some v) ∧ Q v H
def tC (v : V) : TE := fun _ H Q => Q v H
theorem pe_var {i : Nat} {x : Str} {pos : Pos} (hN : X.N[i]? = some x) (hv : Vis X.env.scope x) (hd : (x == ("__debug__" : Str)) = false := by decide) (hcd : (x == ("__classdict__" : Str)) = false := by decide) : PE X (.Name x pos) (tVar i) := by
 intro pins s σ H Q I h
 obtain ⟨v, e, h⟩ := h
 obtain ⟨m, hn, hl⟩ := I.loc
 obtain ⟨u, r, l⟩ := hl i x v hN e hv
 have fin : EP X pins σ Q u s := ⟨v, H, I, r, h⟩
 rcases l with ⟨hk, hm⟩ | ⟨hk, c, hc, hcell⟩
 · exact wpAny_Name (wpAny_loadName_local I.ok.kind hk hn hm fin) hd
 · rcases hk with hk | hk
   · exact wpAny_Name (wpAny_loadName_cell I.ok.kind hk hc hcell fin) hd
   · exact wpAny_Name (wpAny_loadName_free I.ok.kind hk hc hcell fin hcd) hd
theorem pe_int {i j pos} : PE X (.Constant (.int i) j pos) (tC (.int i)) := fun _ _ _ H _ I h => wpAny_Constant_int ⟨.int i, H, I.tok _, ⟨_, rfl⟩, h⟩
theorem pe_bl {b j pos} : PE X (.Constant (.bool b) j pos) (tC (.bl b)) := fun _ _ _ H _ I h => Constant_bool ⟨.bl b, H, I, rfl, h⟩
theorem pe_non {j pos} : PE X (.Constant .none j pos) (tC .non) := fun _ _ _ H _ I h => Constant_none ⟨.non, H, I, rfl, h⟩
theorem pe_str {x j pos} : PE X (.Constant (.str x) j pos) (tC (.str x)) := fun _ _ _ H _ I h => Calls.Constant_str ⟨.str x, H, I.tok _, ⟨_, rfl⟩, h⟩
def Gl (X : Cx) (x : Str) : Prop := X.env.kindOf x = some .globalImplicit
theorem ld_glob {E : Value → Shared → Prop} {pins : List (Addr × Obj)} {s : Shared} {σ : St} {H : Hp} {x : Str} {u : Value} {pos : Pos} {Q : Value → Shared → Prop} (I : Inv X pins σ H s) (hg : Gl X x) (hm : X.mg x = some u) (h : Q u s)
   (hd : (x == ("__debug__" : Str)) = false := by decide) : wpAny (model X.prog X.w) X.A (eval (.Name x pos) X.env) Q E s :=
 Calls.Name_function_global I.ok.kind hg (Calls.loadGlobal_global (by rw [I.ok.glob]; exact I.mod.glob.keeps I.bk) hm h) hd
theorem ld_blt {E : Value → Shared → Prop} {pins : List (Addr × Obj)} {s : Shared} {σ : St} {H : Hp} {x : Str} {u : Value} {pos : Pos} {Q : Value → Shared → Prop} (I : Inv X pins σ H s) (hg : Gl X x) (hm : X.mg x = none) (hv : bootBuiltins x = some u) (h : Q u s)
   (hn : x ≠ "__name__" := by decide) (hd : (x == ("__debug__" : Str)) = false := by decide) : wpAny (model X.prog X.w) X.A (eval (.Name x pos) X.env) Q E s := by
 obtain ⟨mb, h1, h2⟩ := I.mod.blt
 exact Calls.Name_function_global I.ok.kind hg (Calls.loadGlobal_builtin (by rw [I.ok.glob]; exact I.mod.glob.keeps I.bk) hm (by rw [I.ok.blt]; exact h1.keeps I.bk) ((h2 x hn).trans hv) h) hd
theorem pe_glob {x : Str} {v : V} {u : Value} {pos : Pos} (hg : Gl X x) (hm : X.mg x = some u) (r : RelV v u) (hd : (x == ("__debug__" : Str)) = false := by decide) : PE X (.Name x pos) (tC v) :=
 fun _ _ _ H _ I h => ld_glob I hg hm ⟨v, H, I, r, h⟩ hd
theorem pe_bltn {x : Str} {v : V} {u : Value} {pos : Pos} (hg : Gl X x) (hm : X.mg x = none) (hv : bootBuiltins x = some u) (r : RelV v u) (hn : x ≠ "__name__" := by decide) (hd : (x == ("__debug__" : Str)) = false := by decide) : PE X (.Name x pos) (tC v) :=
 fun _ _ _ H _ I h => ld_blt I hg hm hv ⟨v, H, I, r, h⟩ hn hd
variable {a b : Expr} {ta tb : TE} {pos : Pos}
def PC (X : Cx) (op : CmpOp) (a b : Expr) (t : TE) : Prop :=
 ∀ (pins : List (Addr × Obj)) (s : Shared) (σ : St) (H : Hp) (Q : VK), Inv X pins σ H s → t σ H Q →
   wpAny (model X.prog X.w) X.A (eval a X.env) (fun v s₁ => wpAny (model X.prog X.w) X.A (eval b X.env) (fun u s₂ => wpAny (model X.prog X.w) X.A (compareOp op v u) (EP X pins σ Q) X.xe s₂) X.xe s₁) X.xe s
def tB (t : TE) : TT := fun σ H Q => t σ H fun x H1 => ∃ c, x = .bl c ∧ Q c H1
theorem pt_cmp {op : CmpOp} {t : TE} (h : PC X op a b t) (h1 : behindInMarks op b = false := by first | exact nobehind _ (by decide) (by decide) | rfl) : PT X (.Compare a [op] [b] pos) (tB t) := by
 intro pins s σ H Q I hw
 refine wpAny_isTrue_Compare1 (thn (h pins s σ H _ I hw) fun v s1 h1 => thn h1 fun u s2 h2 => thn h2 fun c s3 ⟨x, H1, I1, r1, q1⟩ => ?_) h1
 obtain ⟨d, rfl, q⟩ := q1
 cases r1
 exact wpAny_truthy_bool ⟨H1, I1, q⟩
variable {tA tB' : TT} {rest : List Expr}
def tAnd (t u : TT) : TT := fun σ H Q => t σ H fun c H1 => if c = true then u σ H1 Q else Q false H1
def tOr (t u : TT) : TT := fun σ H Q => t σ H fun c H1 => if c = true then Q true H1 else u σ H1 Q
def tNot (t : TT) : TT := fun σ H Q => t σ H fun c H1 => Q (!c) H1
theorem pw_and1 (ha : PT X a tA) : PW X (.BoolOp .And [a] pos) tA := by
 intro wh pins s σ H Q I h
 refine isTrue_and (thn (ha pins s σ H Q I h) fun c s1 e => ?_)
 cases c with
 | true => exact isTrue_and_nil e
 | false => exact e
theorem pw_or1 (ha : PT X a tA) : PW X (.BoolOp .Or [a] pos) tA := by
 intro wh pins s σ H Q I h
 refine isTrue_or (thn (ha pins s σ H Q I h) fun c s1 e => ?_)
 cases c with
 | false => exact isTrue_or_nil e
 | true => exact e
theorem pw_and (ha : PT X a tA) (hb : PW X (.BoolOp .And (b :: rest) pos) tB') : PW X (.BoolOp .And (a :: b :: rest) pos) (tAnd tA tB') := by
 intro wh pins s σ H Q I h
 refine isTrue_and (thn (ha pins s σ H _ I h) fun c s1 ⟨H1, I1, q1⟩ => ?_)
 cases c with
 | true => exact hb wh pins s1 σ H1 Q I1 q1
 | false => exact ⟨H1, I1, q1⟩
theorem pw_or (ha : PT X a tA) (hb : PW X (.BoolOp .Or (b :: rest) pos) tB') : PW X (.BoolOp .Or (a :: b :: rest) pos) (tOr tA tB') := by
 intro wh pins s σ H Q I h
 refine isTrue_or (thn (ha pins s σ H _ I h) fun c s1 ⟨H1, I1, q1⟩ => ?_)
 cases c with
 | true => exact ⟨H1, I1, q1⟩
 | false => exact hb wh pins s1 σ H1 Q I1 q1
theorem pt_not (ha : PT X a tA) : PT X (.UnaryOp .Not a pos) (tNot tA) := by
 intro pins s σ H Q I h
 exact isTrue_not (ha pins s σ H (fun c H1 => Q (!c) H1) I h)
def tAndV (ta tb : TE) : TE := fun σ H Q => ta σ H fun x H1 => ∃ c, x = .bl c ∧ if c = true then tb σ H1 Q else Q (.bl false) H1
theorem pe_one {op} {t : TE} (h : PE X a t) : PE X (.BoolOp op [a] pos) t := fun pins s σ H Q I hw => BoolOp_one (h pins s σ H Q I hw)
theorem pe_and (ha : PE X a ta) (hb : PE X (.BoolOp .And (b :: rest) pos) tb) : PE X (.BoolOp .And (a :: b :: rest) pos) (tAndV ta tb) := by
 intro pins s σ H Q I h
 refine BoolOp_and (thn (ha pins s σ H _ I h) fun v s1 ⟨x, H1, I1, r1, q1⟩ => ?_)
 obtain ⟨c, rfl, q1⟩ := q1
 cases r1
 refine wpAny_truthy_bool ?_
 cases c with
 | true => exact hb pins s1 σ H1 Q I1 q1
 | false => exact ⟨.bl false, H1, I1, rfl, q1⟩
end
end L2
namespace L2
open PySem PySem.Spec PyProof.Rows
def SqL (K : PySem.W.Frag) (H : Hp) (a : Addr) (xs : List V) : Prop :=
 Rd H a (.lst xs) ∨
   ∃ (o : Obj) (its : Array Value) (n : Nat), K.lookup a = some o ∧ o.cls = .type "list" ∧ o.dict = none ∧ o.data = .seq its n ∧ its.size ≤ sizeLine ∧ Vals xs its.toList
def SqT (K : PySem.W.Frag) (H : Hp) (a : Addr) (xs : List V) : Prop :=
 Rd H a (.tup xs) ∨
   ∃ (o : Obj) (its : Array Value) (n : Nat), K.lookup a = some o ∧ o.cls = .type "tuple" ∧ o.data = .seq its n ∧ its.size ≤ sizeLine ∧ Vals xs its.toList
def absV : Value → Option V
 | .none => some .non
 | .bool b => some (.bl b)
 | .int i _ => some (.int i)
 | .str x _ => some (.str x)
 | .bytes b _ => some (.byt b)
 | .float b _ => some (.flt b)
 | .ref a => some (.ref a)
 | .type n => some (.ty n)
 | _ => none
theorem RelV.abs {x : V} {u : Value} (r : RelV x u) : absV u = some x := by
 cases x with
 | non => cases r; rfl
 | bl _ => cases r; rfl
 | int _ => obtain ⟨t, rfl⟩ := r; rfl
 | str _ => obtain ⟨t, rfl⟩ := r; rfl
 | byt _ => obtain ⟨t, rfl⟩ := r; rfl
 | flt _ => obtain ⟨t, rfl⟩ := r; rfl
 | ref _ => cases r; rfl
 | ty _ => cases r; rfl
theorem RelV.inj {x y : V} {u : Value} (r : RelV x u) (q : RelV y u) : x = y := Option.some.inj (r.abs.symm.trans q.abs)
theorem Vals.inj : ∀ {xs ys : List V} {us : List Value}, Vals xs us → Vals ys us → xs = ys
 | _, _, _, .nil, .nil => rfl
 | _, _, _, .cons r t, .cons r' t' => by rw [r.inj r', Vals.inj t t']
section
variable {X : Cx} {pins : List (Addr × Obj)} {σ : St} {H : Hp} {s : Shared} {a : Addr} {xs ys : List V}
theorem SqL.of {K : PySem.W.Frag} (h : H a = some (.lst xs)) : SqL K H a xs := .inl (.inl h)
theorem SqT.of {K : PySem.W.Frag} (h : H a = some (.tup xs)) : SqT K H a xs := .inl (.inl h)
theorem Inv.list (I : Inv X pins σ H s) (h : SqL X.K H a xs) : ∃ its : List Value, Vals xs its ∧ PlainL s.heap a its.toArray ∧ xs.length ≤ sizeLine := by
 rcases h with h | ⟨o, its, n, hk, hc, hd, hs, hz, r⟩
 · obtain ⟨z, its, n, r, e⟩ := h.ok I.hok
   exact ⟨its, r, ⟨_, n, e, rfl, rfl, rfl⟩, z⟩
 · refine ⟨its.toList, r, ⟨o, n, I.kIn a o hk, hc, hd, by simpa using hs⟩, ?_⟩
   have e := r.length
   simp only [Array.length_toList] at e
   omega
theorem Inv.tuple (I : Inv X pins σ H s) (h : SqT X.K H a xs) : ∃ its : List Value, Vals xs its ∧ IsTup s.heap a its.toArray ∧ xs.length ≤ sizeLine := by
 rcases h with h | ⟨o, its, n, hk, hc, hs, hz, r⟩
 · obtain ⟨z, its, r, p⟩ := h.ok I.hok
   exact ⟨its, r, p, z⟩
 · refine ⟨its.toList, r, ⟨o, I.kIn a o hk, hc, n, by simpa using hs⟩, ?_⟩
   have e := r.length
   simp only [Array.length_toList] at e
   omega
theorem Inv.list_inj (I : Inv X pins σ H s) (h : SqL X.K H a xs) (h' : SqL X.K H a ys) : xs = ys := by
 obtain ⟨its, r, ⟨o, n, e, _, _, d⟩, _⟩ := I.list h
 obtain ⟨its', r', ⟨o', n', e', _, _, d'⟩, _⟩ := I.list h'
 rw [e] at e'; cases e'
 rw [d] at d'
 injection d' with d1 _
 have : its = its' := by simpa using congrArg Array.toList d1
 subst this
 exact r.inj r'
theorem Inv.tuple_inj (I : Inv X pins σ H s) (h : SqT X.K H a xs) (h' : SqT X.K H a ys) : xs = ys := by
 obtain ⟨its, r, ⟨o, e, _, n, d⟩, _⟩ := I.tuple h
 obtain ⟨its', r', ⟨o', e', _, n', d'⟩, _⟩ := I.tuple h'
 rw [e] at e'; cases e'
 rw [d] at d'
 injection d' with d1 _
 have : its = its' := by simpa using congrArg Array.toList d1
 subst this
 exact r.inj r'
end
abbrev Cx.wish (X : Cx) (E : Value → Shared → Prop) : Cx := { X with xe := E }
abbrev Cx.nox (X : Cx) : Cx := X.wish fun _ _ => False
theorem Cx.Ok.wish {X : Cx} (ok : X.Ok) (E : Value → Shared → Prop) : (X.wish E).Ok :=
 ⟨ok.mod, ok.kind, ok.glob, ok.blt, ok.above, ok.inj, ok.has, ok.cab, ok.hd, ok.frames, ok.stk, ok.exf, ok.bs, ok.bsz, ok.noex, ok.exfs, ok.funs, ok.frf⟩
theorem Cx.Ok.unwish {X : Cx} {E : Value → Shared → Prop} (ok : (X.wish E).Ok) : X.Ok :=
 ⟨ok.mod, ok.kind, ok.glob, ok.blt, ok.above, ok.inj, ok.has, ok.cab, ok.hd, ok.frames, ok.stk, ok.exf, ok.bs, ok.bsz, ok.noex, ok.exfs, ok.funs, ok.frf⟩
section
variable {X : Cx} {pins : List (Addr × Obj)} {σ : St} {H : Hp} {s : Shared} {E : Value → Shared → Prop}
theorem Inv.wish (I : Inv X pins σ H s) (E : Value → Shared → Prop) : Inv (X.wish E) pins σ H s := ⟨I.ok.wish E, I.os, I.bare, I.base, I.loc, I.cell, I.free, I.freeC, I.pin, I.hok, I.len⟩
theorem Inv.unwish (I : Inv (X.wish E) pins σ H s) : Inv X pins σ H s := ⟨I.ok.unwish, I.os, I.bare, I.base, I.loc, I.cell, I.free, I.freeC, I.pin, I.hok, I.len⟩
theorem SP.unwish {D : Ends} {f : Flow} {s' : Shared} (h : SP (X.wish E) pins D f s') : SP X pins D f s' := by
 cases f with
 | next => obtain ⟨σ', H', I, q⟩ := h; exact ⟨σ', H', I.unwish, q⟩
 | brk => obtain ⟨σ', H', I, q⟩ := h; exact ⟨σ', H', I.unwish, q⟩
 | cont => obtain ⟨σ', H', I, q⟩ := h; exact ⟨σ', H', I.unwish, q⟩
 | ret u => obtain ⟨v, σ', H', I, r, q⟩ := h; exact ⟨v, σ', H', I.unwish, r, q⟩
theorem PSs.nox {st : List Stmt} {t : TS} (h : PSs X.nox st t) : PSs X st t := fun pins s σ H D I hw =>
 wpAny_mono (h pins s σ H D (I.wish _) hw) (fun _ _ q => q.unwish) fun _ _ z => False.elim z
end
section
variable {X : Cx} {st : Stmt} {rest : List Stmt} {t u : TS} {e : Expr} {te : TE} {pos : Pos}
def tNext : TS := fun D σ H => D.nx σ H
def tSeq (t u : TS) : TS := fun D σ H => t { D with nx := u D } σ H
theorem pss_nil : PSs X [] tNext := fun _ _ σ H _ I h => wpAny_execs_nil ⟨σ, H, I, h⟩
theorem pss_cons (h1 : PS X st t) (h2 : PSs X rest u) : PSs X (st :: rest) (tSeq t u) := by
 intro pins s σ H D I h
 refine wpAny_execs_cons (thn (h1 pins s σ H { D with nx := u D } I h) fun f s1 q => ?_)
 cases f with
 | next =>
   obtain ⟨σ', H', I', q⟩ := q
   exact h2 pins s1 σ' H' D I' q
 | ret v => exact q
 | brk => exact q
 | cont => exact q
theorem pss_one (h1 : PS X st t) : PSs X [st] t := by
 intro pins s σ H D I h
 refine wpAny_execs_cons (thn (h1 pins s σ H D I h) fun f s1 q => ?_)
 cases f with
 | next => exact wpAny_execs_nil q
 | ret v => exact q
 | brk => exact q
 | cont => exact q
theorem Inv.quiet {pins : List (Addr × Obj)} {σ : St} {H : Hp} {s : Shared} (I : Inv X pins σ H s) : interactive X.env = false := by simp [interactive, I.ok.kind]
def tDrop (te : TE) : TS := fun D σ H => te σ H fun _ H1 => D.nx σ H1
theorem ps_expr (he : PE X e te) (hs : swapsWith e none pos.line X.env = pure false := by rfl) : PS X (.Expr e pos) (tDrop te) := by
 intro pins s σ H D I h
 exact wpAny_Expr_any (thn (he pins s σ H _ I h) fun v s1 ⟨x, H1, I1, r1, q1⟩ => ⟨σ, H1, I1, q1⟩) I.quiet hs
def tRet (te : TE) : TS := fun D σ H => te σ H D.rt
theorem ps_ret (he : PE X e te) : PS X (.Return (some e) pos) (tRet te) := by
 intro pins s σ H D I h
 exact wpAny_Return_some (thn (he pins s σ H _ I h) fun v s1 ⟨x, H1, I1, r1, q1⟩ => ⟨x, σ, H1, I1, r1, q1⟩)
def tRetN : TS := fun D _ H => D.rt .non H
theorem ps_retN : PS X (.Return none pos) tRetN := fun _ _ σ H _ I h => wpAny_Return_none ⟨.non, σ, H, I, rfl, h⟩
def tIfS (c : TT) (t u : TS) : TS := fun D σ H => c σ H fun b H1 => if b = true then t D σ H1 else u D σ H1
theorem ps_if {c : Expr} {a b : List Stmt} {tc : TT} (hc : PT X c tc) (ha : PSs X a t) (hb : PSs X b u) : PS X (.If c a b pos) (tIfS tc t u) := by
 intro pins s σ H D I h
 refine wpAny_If (thn (hc pins s σ H _ I h) fun d s1 ⟨H1, I1, q1⟩ => ?_)
 cases d with
 | true => exact ha pins s1 σ H1 D I1 q1
 | false => exact hb pins s1 σ H1 D I1 q1
end
abbrev TG := V → St → Hp → (St → Hp → Prop) → Prop
abbrev TGs := List V → St → Hp → (St → Hp → Prop) → Prop
def PG (X : Cx) (target : Expr) (t : TG) : Prop :=
 ∀ (pins : List (Addr × Obj)) (s : Shared) (σ : St) (H : Hp) (v : V) (u : Value) (Q : St → Hp → Prop), Inv X pins σ H s → RelV v u → t v σ H Q →
   wpAny (model X.prog X.w) X.A (assign target X.env u) (fun _ s' => ∃ σ' H', Inv X pins σ' H' s' ∧ Q σ' H') X.xe s
def PGs (X : Cx) (ts : List Expr) (t : TGs) : Prop :=
 ∀ (pins : List (Addr × Obj)) (s : Shared) (σ : St) (H : Hp) (vs : List V) (us : List Value) (Q : St → Hp → Prop), Inv X pins σ H s → Vals vs us → t vs σ H Q →
   wpAny (model X.prog X.w) X.A (assignInOrder ((assignEach ts X.env).map (·.2)) us) (fun _ s' => ∃ σ' H', Inv X pins σ' H' s' ∧ Q σ' H') X.xe s
abbrev TSet := V → V → V → Hp → (Hp → Prop) → Prop
def PSet (X : Cx) (t : TSet) : Prop :=
 ∀ (pins : List (Addr × Obj)) (s : Shared) (σ : St) (H : Hp) (o i v : V) (ov iv u : Value) (Q : Hp → Prop), Inv X pins σ H s → RelV o ov → RelV i iv → RelV v u → t o i v H Q →
   wpAny (model X.prog X.w) X.A (setItem ov iv u) (fun _ s' => ∃ H', Inv X pins σ H' s' ∧ Q H') X.xe s
section
variable {X : Cx} {pos : Pos}
def gName (i : Nat) : TG := fun v σ H Q => Q (σ.set i (some v)) H
theorem pg_name {i : Nat} {x : Str} (hN : X.N.Nodup) (hi : X.N[i]? = some x) (hx : Loc X.env.scope x) (hf : X.fn x = true ∨ X.env.scope.names.lookup x = some .local := by first | exact .inl rfl | exact .inr rfl | assumption) : PG X (.Name x pos) (gName i) := by
 intro pins s σ H v u Q I r h
 exact wpAny_assign_Name (store_ok I hN hi hx r (fun s' I' => ⟨_, H, I', h⟩) hf)
def gNil : TGs := fun vs σ H Q => vs = [] ∧ Q σ H
def gCons (t : TG) (u : TGs) : TGs := fun vs σ H Q => ∃ v r, vs = v :: r ∧ t v σ H fun σ' H' => u r σ' H' Q
theorem pgs_nil : PGs X [] gNil := by
 intro pins s σ H vs us Q I r h
 obtain ⟨e, h⟩ := h
 subst e
 cases r
 exact assignInOrder_nil ⟨σ, H, I, h⟩
theorem pgs_cons {e : Expr} {es : List Expr} {t : TG} {u : TGs} (h1 : PG X e t) (h2 : PGs X es u)
   (hs : (assignEach (e :: es) X.env).map (·.2) = assign e X.env :: (assignEach es X.env).map (·.2) := by rfl) : PGs X (e :: es) (gCons t u) := by
 intro pins s σ H vs us Q I r h
 obtain ⟨v, vr, e1, h⟩ := h
 subst e1
 cases r with
 | cons r rr =>
   rw [hs]
   refine assignInOrder_cons (thn (h1 pins s σ H _ _ _ I r h) fun _ s1 ⟨σ1, H1, I1, q1⟩ => ?_)
   exact h2 pins s1 σ1 H1 _ _ Q I1 rr q1
def gTup (K : PySem.W.Frag) (n : Nat) (t : TGs) : TG := fun v σ H Q => ∃ a xs, v = .ref a ∧ SqT K H a xs ∧ xs.length = n ∧ t xs σ H Q
theorem pg_tup {es : List Expr} {k : Nat} {t : TGs} {n : Nat} (hc : X.calm = true) (h : PGs X es t)
   (hn : (assignEach es X.env).length = n := by rfl) (hst : (assignEach es X.env).findIdx? (·.1) = none := by rfl) : PG X (.Tuple es k pos) (gTup X.K n t) := by
 intro pins s σ H v u Q I r hw
 obtain ⟨a, xs, e1, hq, hl, hw⟩ := hw
 subst e1
 cases r
 obtain ⟨its, rv, ht, hz⟩ := I.tuple hq
 refine assign_Tuple_tuple (I.ok.hd hc) ht (by simp [hn, ← hl, rv.length]) hst fun h' hx => ?_
 have I1 : Inv X pins σ H { s with heap := h' } := I.kept (t' := s.toks) fun b o e => hx b o (Nat.ne_of_lt (Heap.lt_size e)) e
 exact h pins _ σ H xs _ Q I1 (by simpa using rv) hw
def gSub (to ti : TE) (t : TSet) : TG := fun v σ H Q => to σ H fun o H1 => ti σ H1 fun i H2 => t o i v H2 fun H3 => Q σ H3
theorem pg_sub {o i : Expr} {to ti : TE} {t : TSet} (ho : PE X o to) (hi : PE X i ti) (hs : PSet X t)
   (ha : ∀ v, assign (.Subscript o i pos) X.env v = (do
     let ov ← holding [v] (eval o X.env)
     let iv ← holding [v, ov] (eval i X.env)
     standAt pos
     holding [v, ov, iv] (setItem ov iv v)
     release [v, ov, iv] []) := by intro _; rfl) : PG X (.Subscript o i pos) (gSub to ti t) := by
 intro pins s σ H v u Q I r h
 rw [ha]
 refine wpAny_bind (wpAny_holding (thn (ho pins s σ H _ I h) fun ov s1 ⟨x, H1, I1, r1, q1⟩ => ?_))
 refine wpAny_bind (wpAny_holding (thn (hi pins s1 σ H1 _ I1 q1) fun iv s2 ⟨y, H2, I2, r2, q2⟩ => ?_))
 refine wpAny_bind (wpAny_standAt (wpAny_bind (wpAny_holding (thn (hs pins s2 σ H2 x y v ov iv u _ I2 r1 r2 r q2) fun _ s3 ⟨H3, I3, q3⟩ => ?_))))
 exact wpAny_release ⟨σ, H3, I3, q3⟩
def tAsg (te : TE) (g : TG) : TS := fun D σ H => te σ H fun x H1 => g x σ H1 D.nx
theorem ps_asg {tg e : Expr} {te : TE} {g : TG} (he : PE X e te) (hg : PG X tg g) (hs : swapsWithSole [tg] e pos.line X.env = pure false := by rfl) (hw : swappedStores [tg] e X.env = pure none := by rfl)
   (h1 : (assignEach [tg] X.env).map (·.2) = [assign tg X.env] := by rfl) : PS X (.Assign [tg] e pos) (tAsg te g) := by
 intro pins s σ H D I h
 refine wpAny_Assign_stores (thn (he pins s σ H _ I h) fun v s1 ⟨x, H1, I1, r1, q1⟩ => ?_) hs hw
 rw [h1]
 exact thn (hg pins s1 σ H1 x v _ I1 r1 q1) fun _ s2 q => q
theorem ps_set {i : Nat} {x : Str} {e : Expr} {te : TE} {pos' : Pos} (hN : X.N.Nodup) (hi : X.N[i]? = some x) (hx : Loc X.env.scope x) (he : PE X e te) (hs : swapsWith e (some (.Name x pos')) pos.line X.env = pure false := by rfl) (hf : X.fn x = true ∨ X.env.scope.names.lookup x = some .local := by first | exact .inl rfl | exact .inr rfl | assumption) :
   PS X (.Assign [.Name x pos'] e pos) (tAsg te (gName i)) := by
 intro pins s σ H D I h
 refine wpAny_Assign_Name (thn (he pins s σ H _ I h) fun v s1 ⟨y, H1, I1, r1, q1⟩ => ?_) hs
 exact store_ok I1 hN hi hx r1 (fun s2 I2 => ⟨_, H1, I2, q1⟩) hf
end
section
variable {X : Cx} {pos : Pos}
def tWhile (c : TT) (tb : TS) : TS := fun D σ H => ∃ W : Nat → St → Hp → Prop, (∃ m, W m σ H) ∧ ∀ m σ H, W m σ H →
 c σ H fun b H1 => if b = true then ∃ N : St → Hp → Prop, (∀ σ' H', N σ' H' → ∃ m', m' < m ∧ W m' σ' H') ∧ tb { D with nx := N, ct := N, bk := D.nx } σ H1 else D.nx σ H1
theorem ps_while {c : Expr} {body : List Stmt} {tc : TT} {tb : TS} (hp : PassesOwn (model X.prog X.w) X.A X.env X.xe) (hc : PT X c tc) (hb : PSs X body tb) : PS X (.While c body [] pos) (tWhile tc tb) := by
 intro pins s σ H D I h
 obtain ⟨W, ⟨m0, w0⟩, turn⟩ := h
 refine wpAny_While (codeAny_whileLoop (fun n s' => ∃ σ' H', Inv X pins σ' H' s' ∧ W n σ' H') ?_ m0 ⟨σ, H, I, w0⟩)
 rintro n s1 ⟨σ1, H1, I1, w1⟩
 refine wpAny_passesOwn hp (thn (hc pins s1 σ1 H1 _ I1 (turn n σ1 H1 w1)) fun b s2 ⟨H2, I2, q2⟩ => ?_)
 cases b with
 | true =>
   obtain ⟨N, hN, q2⟩ := q2
   rw [if_pos rfl]
   refine wpAny_passesOwn hp (thn (hb pins s2 σ1 H2 _ I2 q2) fun f s3 q3 => ?_)
   cases f with
   | next =>
     obtain ⟨σ3, H3, I3, n3⟩ := q3
     obtain ⟨m', hm, w3⟩ := hN σ3 H3 n3
     exact ⟨m', hm, σ3, H3, I3, w3⟩
   | cont =>
     obtain ⟨σ3, H3, I3, n3⟩ := q3
     obtain ⟨m', hm, w3⟩ := hN σ3 H3 n3
     exact ⟨m', hm, σ3, H3, I3, w3⟩
   | brk => exact q3
   | ret v => exact q3
 | false =>
   rw [if_neg Bool.false_ne_true]
   exact wpAny_execs_nil ⟨σ1, H2, I2, q2⟩
end
structure It where
 go : Nat → Hp → Prop
 yld : Nat → Hp → V → Hp → Prop
 stop : Nat → Hp → Prop
def FpOk (X : Cx) (pins : List (Addr × Obj)) (H : Hp) (b : Addr) : Prop :=
 H b = none ∧ b ≠ X.env.locals ∧ b ∉ X.fs ∧ (b ∈ X.ex ∨ X.s₀.heap.objs.size ≤ b) ∧ (∀ x c, X.env.cells.lookup x = some c → c ≠ b) ∧ ∀ p ∈ X.pn ++ pins, p.1 ≠ b
theorem Inv.fpOk {X : Cx} {pins : List (Addr × Obj)} {σ : St} {H H' : Hp} {s : Shared} {b : Addr} (I : Inv X pins σ H s) (hb : s.heap.objs.size ≤ b) (hn : H' b = none) : FpOk X pins H' b := by
 refine ⟨hn, Nat.ne_of_gt (Nat.lt_of_lt_of_le I.lt hb), I.nofs hb, .inr (Nat.le_trans I.sz hb), fun x c e z => ?_, fun p hp z => ?_⟩
 · obtain ⟨v, q⟩ := I.cell x c e
   exact absurd (Nat.lt_of_lt_of_le q.lt (by rw [z]; exact hb)) (Nat.lt_irrefl _)
 · exact absurd (Nat.lt_of_lt_of_le (Heap.lt_size (I.pin p hp).1) (by rw [z]; exact hb)) (Nat.lt_irrefl _)
structure Turn (P : Program) (w : World) (K : PySem.W.Frag) (tg : Expr) (J : It) (fp : List Addr) (it : Addr) (tn : Nat → Heap → Prop) : Prop where
 mem : it ∈ fp
 obj : ∀ i h, tn i h → ∀ b ∈ fp, ∃ o, h.get? b = some o ∧ ∀ v, o.data ≠ .cell v
 keep : ∀ i h h', tn i h → (∀ b ∈ fp, ∀ o, h.get? b = some o → h'.get? b = some o) → tn i h'
 item : ∀ (X : Cx), X.prog = P → X.w = w → X.K = K → X.calm = true → ∀ (i : Nat) (pins : List (Addr × Obj)) (s : Shared) (σ : St) (H : Hp) (E : Value → Shared → Prop), Inv X pins σ H s → (∀ b ∈ fp, FpOk X pins H b) → tn i s.heap → J.go i H →
   wpAny (model P w) X.A (pyNext (.ref it)) (fun r s1 => ∃ u, r = some u ∧
     wpAny (model P w) X.A (letOwnedTupleGo tg (.ref it) u) (fun _ s2 => ∃ x H', Inv X pins σ H' s2 ∧ RelV x u ∧ J.yld i H x H' ∧ tn (i + 1) s2.heap ∧ ∀ b ∈ fp, H' b = none) E s1) E s
 done : ∀ (X : Cx), X.prog = P → X.w = w → X.K = K → X.calm = true → ∀ (i : Nat) (pins : List (Addr × Obj)) (s : Shared) (σ : St) (H : Hp) (E : Value → Shared → Prop), Inv X pins σ H s → (∀ b ∈ fp, FpOk X pins H b) → tn i s.heap → J.stop i H →
   wpAny (model P w) X.A (pyNext (.ref it)) (fun r s1 => r = none ∧ Inv X pins σ H s1) E s
 self : ∀ (A : Around) (i : Nat) (s : Shared) (Q : Value → Shared → Prop) (E : Value → Shared → Prop), tn i s.heap → Q (.ref it) s → wpAny (model P w) A (pyIter (.ref it)) Q E s
abbrev TI := St → Hp → (It → Hp → Prop) → Prop
def PIE (X : Cx) (pins : List (Addr × Obj)) (σ : St) (tg : Expr) (R : It → Hp → Prop) (itv : Value) (s2 : Shared) : Prop :=
 ∃ (it : Addr) (fp : List Addr) (tn : Nat → Heap → Prop) (J : It) (H' : Hp), itv = .ref it ∧ Inv X pins σ H' s2 ∧ Turn X.prog X.w X.K tg J fp it tn ∧ tn 0 s2.heap ∧ (∀ b ∈ fp, FpOk X pins H' b) ∧ R J H'
def PI (X : Cx) (tg iter : Expr) (wi : TI) : Prop :=
 ∀ (pins : List (Addr × Obj)) (s : Shared) (σ : St) (H : Hp) (R : It → Hp → Prop), Inv X pins σ H s → wi σ H R →
   wpAny (model X.prog X.w) X.A (eval iter X.env) (fun v s1 => wpAny (model X.prog X.w) X.A (pyIter v) (PIE X pins σ tg R) X.xe s1) X.xe s
theorem go_of {M : Model} {A : Around} {E : Value → Shared → Prop} {s : Shared} {tg : Expr} {it : Addr} {u : Value} {o : Obj} {n : String} {vs : Array Value} {Q : Unit → Shared → Prop} (ho : s.heap.get? it = some o) (hc : o.cls = .type n) (hd : o.data = .fields vs)
   (hn : ["enumerate", "zip", "dict_itemiterator", "dict_reverseitemiterator", "odict_iterator", "itertools.zip_longest", "itertools.pairwise"].contains n = false) (hQ : Q () s) : wpAny M A (letOwnedTupleGo tg (.ref it) u) Q E s := by
 unfold letOwnedTupleGo
 cases tg <;> first
   | exact wpAny_pure hQ
   | (cases u <;> first
       | exact wpAny_pure hQ
       | (refine wpAny_bind (wpAny_load ho ?_)
          rw [hc, hd]
          show wpAny M A (if (["enumerate", "zip", "dict_itemiterator", "dict_reverseitemiterator", "odict_iterator", "itertools.zip_longest", "itertools.pairwise"].contains n && vs[0]? == some (rawInt _)) = true then _ else _) Q E s
          rw [if_neg (by intro h; rw [hn, Bool.false_and] at h; cases h)]
          exact wpAny_pure hQ))
def Itl (K : PySem.W.Frag) (a : Addr) : It :=
 ⟨fun i H => ∃ xs x, SqL K H a xs ∧ xs[i]? = some x, fun i H x H' => H' = H ∧ ∀ xs, SqL K H a xs → xs[i]? = some x, fun i H => ∃ xs, SqL K H a xs ∧ xs.length ≤ i⟩
def Itt (K : PySem.W.Frag) (a : Addr) : It :=
 ⟨fun i H => ∃ xs x, SqT K H a xs ∧ xs[i]? = some x, fun i H x H' => H' = H ∧ ∀ xs, SqT K H a xs → xs[i]? = some x, fun i H => ∃ xs, SqT K H a xs ∧ xs.length ≤ i⟩
def Itr (lo : Int) (n : Nat) : It := ⟨fun i _ => i < n, fun i H x H' => H' = H ∧ x = .int (lo + i), fun i _ => n ≤ i⟩
theorem turn_list {P : Program} {w : World} {K : PySem.W.Frag} {tg : Expr} (a it : Addr) : Turn P w K tg (Itl K a) [it] it (fun i h => h.IsListIter it a i) where
 mem := by simp
 obj := fun i h st b hb => by
   have e : b = it := by simpa using hb
   subst e
   obtain ⟨o, e, c, d⟩ := st
   exact ⟨o, e, fun v z => by rw [d] at z; cases z⟩
 keep := fun i h h' st k => st.at fun o e => k it (by simp) o e
 item := by
   intro X hP hw hK hc i pins s σ H E I hf st hg
   subst hP hw hK
   obtain ⟨xs, x, hq, hx⟩ := hg
   obtain ⟨its, rv, p, hz⟩ := I.list hq
   obtain ⟨u, hu, ru⟩ := rv.get hx
   obtain ⟨f0, f1, f2, f3, f4, f5⟩ := hf it (by simp)
   refine wpAny_pyNext_list_item st p.isList (x := u) (by simpa using hu) fun h' st' sb => ?_
   have I1 : Inv X pins σ H { s with heap := h' } := I.turned (t' := s.toks) (fun b o hb e => (sb.2 b hb).trans e) f0 f1 f3 f4 f5
   obtain ⟨o, e, c, d⟩ := id st'
   exact ⟨u, rfl, go_of (s := { s with heap := h' }) e c d (by decide) ⟨x, H, I1, ru, ⟨rfl, fun ys hy => by rw [I.list_inj hy hq]; exact hx⟩, st', fun b hb => (hf b hb).1⟩⟩
 done := by
   intro X hP hw hK hc i pins s σ H E I hf st hg
   subst hP hw hK
   obtain ⟨xs, hq, hx⟩ := hg
   obtain ⟨its, rv, p, hz⟩ := I.list hq
   obtain ⟨f0, f1, f2, f3, f4, f5⟩ := hf it (by simp)
   have hl := rv.length
   exact wpAny_pyNext_list_end (I.ok.hd hc) st p.isList (by simp; omega) fun h' eb => ⟨rfl, I.turned (t' := s.toks) (fun b o hb e => eb b o hb e) f0 f1 f3 f4 f5⟩
 self := fun _ _ _ _ _ st h => wpAny_pyIter_listiter st h
theorem turn_tuple {P : Program} {w : World} {K : PySem.W.Frag} {tg : Expr} (a it : Addr) : Turn P w K tg (Itt K a) [it] it (fun i h => h.IsTupleIter it a i) where
 mem := by simp
 obj := fun i h st b hb => by
   have e : b = it := by simpa using hb
   subst e
   obtain ⟨o, e, c, d⟩ := st
   exact ⟨o, e, fun v z => by rw [d] at z; cases z⟩
 keep := fun i h h' st k => st.at fun o e => k it (by simp) o e
 item := by
   intro X hP hw hK hc i pins s σ H E I hf st hg
   subst hP hw hK
   obtain ⟨xs, x, hq, hx⟩ := hg
   obtain ⟨its, rv, p, hz⟩ := I.tuple hq
   obtain ⟨u, hu, ru⟩ := rv.get hx
   obtain ⟨f0, f1, f2, f3, f4, f5⟩ := hf it (by simp)
   refine wpAny_pyNext_tuple_item st (show s.heap.IsTuple a its.toArray from p) (x := u) (by simpa using hu) fun h' st' sb => ?_
   have I1 : Inv X pins σ H { s with heap := h' } := I.turned (t' := s.toks) (fun b o hb e => (sb.2 b hb).trans e) f0 f1 f3 f4 f5
   obtain ⟨o, e, c, d⟩ := id st'
   exact ⟨u, rfl, go_of (s := { s with heap := h' }) e c d (by decide) ⟨x, H, I1, ru, ⟨rfl, fun ys hy => by rw [I.tuple_inj hy hq]; exact hx⟩, st', fun b hb => (hf b hb).1⟩⟩
 done := by
   intro X hP hw hK hc i pins s σ H E I hf st hg
   subst hP hw hK
   obtain ⟨xs, hq, hx⟩ := hg
   obtain ⟨its, rv, p, hz⟩ := I.tuple hq
   obtain ⟨f0, f1, f2, f3, f4, f5⟩ := hf it (by simp)
   have hl := rv.length
   exact wpAny_pyNext_tuple_end (I.ok.hd hc) st (show s.heap.IsTuple a its.toArray from p) (by simp; omega) fun h' eb => ⟨rfl, I.turned (t' := s.toks) (fun b o hb e => eb b o hb e) f0 f1 f3 f4 f5⟩
 self := fun _ _ _ _ _ st h => wpAny_pyIter_tupleiter st h
theorem turn_range {P : Program} {w : World} {K : PySem.W.Frag} {tg : Expr} (it : Addr) (lo : Int) (n : Nat) : Turn P w K tg (Itr lo n) [it] it (fun i h => IsRangeIter h it (lo + (i : Nat) * 1) ((n : Int) - (i : Nat)) 1) where
 mem := by simp
 obj := fun i h st b hb => by
   have e : b = it := by simpa using hb
   subst e
   exact ⟨_, st, fun v z => by
     have z' : Data.fields _ = Data.cell v := z
     cases z'⟩
 keep := fun i h h' st k => k it (by simp) _ st
 item := by
   intro X hP hw hK hc i pins s σ H E I hf st hg
   subst hP hw hK
   obtain ⟨f0, f1, f2, f3, f4, f5⟩ := hf it (by simp)
   have W := Walks.range (prog := X.prog) (w := X.w) (I.ok.hd hc) it lo 1 n
   refine W.item i s _ _ hg st fun v h' tk hv st' kk => ?_
   obtain ⟨t, rfl⟩ := hv
   have I1 : Inv X pins σ H { s with heap := h', toks := tk } := I.turned (fun b o hb e => kk b o (by simpa using hb) e) f0 f1 f3 f4 f5
   refine ⟨_, rfl, go_of (s := { s with heap := h', toks := tk }) (n := "range_iterator") st' rfl rfl (by decide) ⟨.int (lo + i), H, I1, ⟨t, ?_⟩, ⟨rfl, rfl⟩, st', fun b hb => (hf b hb).1⟩⟩
   rw [Int.mul_one]
 done := by
   intro X hP hw hK hc i pins s σ H E I hf st hg
   subst hP hw hK
   obtain ⟨f0, f1, f2, f3, f4, f5⟩ := hf it (by simp)
   exact wpAny_pyNext_range_end (I.ok.hd hc) st (by have : n ≤ i := hg; omega) fun h' eb => ⟨rfl, I.turned (t' := s.toks) (fun b o hb e => eb b o hb e) f0 f1 f3 f4 f5⟩
 self := fun _ _ _ _ _ st h => wpAny_pyIter_rangeiter st h
end L2
namespace L2
open PySem PySem.Spec PyProof.Rows
section
variable {X : Cx} {tg : Expr}
def iList (K : PySem.W.Frag) (tl : TE) : TI := fun σ H R => tl σ H fun x H1 => ∃ a, x = .ref a ∧ (∃ xs, SqL K H1 a xs) ∧ R (Itl K a) H1
def iTup (K : PySem.W.Frag) (tl : TE) : TI := fun σ H R => tl σ H fun x H1 => ∃ a, x = .ref a ∧ (∃ xs, SqT K H1 a xs) ∧ R (Itt K a) H1
theorem pi_list {l : Expr} {tl : TE} (hl : PE X l tl) : PI X tg l (iList X.K tl) := by
 intro pins s σ H R I h
 refine thn (hl pins s σ H _ I h) fun v s1 ⟨x, H1, I1, r1, q1⟩ => ?_
 obtain ⟨a, e, ⟨xs, hq⟩, q⟩ := q1
 subst e
 cases r1
 obtain ⟨its, rv, p, hz⟩ := I1.list hq
 refine wpAny_pyIter_list p.isList ?_
 refine ⟨s1.heap.objs.size, [s1.heap.objs.size], _, _, H1, rfl, I1.kept (t' := s1.toks) fun b o e => Heap.get?_push_of_some _ e, turn_list a _, ⟨_, Heap.get?_push_size _ rfl, rfl, rfl⟩, fun b hb => ?_, q⟩
 have e : b = s1.heap.objs.size := by simpa using hb
 subst e
 exact I1.fpOk (Nat.le_refl _) (I1.hok.fresh (Nat.le_refl _))
theorem pi_tup {l : Expr} {tl : TE} (hl : PE X l tl) : PI X tg l (iTup X.K tl) := by
 intro pins s σ H R I h
 refine thn (hl pins s σ H _ I h) fun v s1 ⟨x, H1, I1, r1, q1⟩ => ?_
 obtain ⟨a, e, ⟨xs, hq⟩, q⟩ := q1
 subst e
 cases r1
 obtain ⟨its, rv, p, hz⟩ := I1.tuple hq
 refine wpAny_pyIter_tuple (show s1.heap.IsTuple a its.toArray from p) ?_
 refine ⟨s1.heap.objs.size, [s1.heap.objs.size], _, _, H1, rfl, I1.kept (t' := s1.toks) fun b o e => Heap.get?_push_of_some _ e, turn_tuple a _, ⟨_, Heap.get?_push_size _ rfl, rfl, rfl⟩, fun b hb => ?_, q⟩
 have e : b = s1.heap.objs.size := by simpa using hb
 subst e
 exact I1.fpOk (Nat.le_refl _) (I1.hok.fresh (Nat.le_refl _))
theorem range_it {pins : List (Addr × Obj)} {σ : St} {H : Hp} {s : Shared} {R : It → Hp → Prop} {E : Value → Shared → Prop} {lo hi : Int} {t u v : Tok} {tk : Nat} (I : Inv X pins σ H s) (h1 : -(2 ^ 62) ≤ lo) (h2 : lo < 2 ^ 62) (h3 : -(2 ^ 62) ≤ hi) (h4 : hi < 2 ^ 62)
   (q : R (Itr lo (hi - lo).toNat) H) : wpAny (model X.prog X.w) X.A (pyIter (.ref s.heap.objs.size)) (PIE X pins σ tg R) E { s with heap := s.heap.push { cls := .type "range", data := .fields #[.int lo t, .int hi u, .int 1 v] }, toks := tk } := by
 refine wpAny_pyIter_range (IsRange.new ..) (small_one h1 h2 h3 h4) ?_
 have I1 : Inv X pins σ H { s with heap := s.heap.push { cls := .type "range", data := .fields #[.int lo t, .int hi u, .int 1 v] }, toks := tk } := I.kept fun b o e => Heap.get?_push_of_some _ e
 refine ⟨(s.heap.push { cls := .type "range", data := .fields #[.int lo t, .int hi u, .int 1 v] }).objs.size, [(s.heap.push { cls := .type "range", data := .fields #[.int lo t, .int hi u, .int 1 v] }).objs.size], _, _, H, rfl,
   I1.kept (t' := tk) fun b o e => Heap.get?_push_of_some _ e, turn_range _ lo (hi - lo).toNat, ?_, fun b hb => ?_, q⟩
 · have e1 : lo + ((0 : Nat) : Int) * 1 = lo := by simp
   have e2 : (((hi - lo).toNat : Nat) : Int) - ((0 : Nat) : Int) = Builtin.Range.rangeSize lo hi 1 := by rw [rangeSize_one]; split <;> omega
   show IsRangeIter _ _ (lo + ((0 : Nat) : Int) * 1) ((((hi - lo).toNat : Nat) : Int) - ((0 : Nat) : Int)) 1
   rw [e1, e2]
   exact Heap.get?_push_size _ rfl
 · have e : b = (s.heap.push { cls := .type "range", data := .fields #[.int lo t, .int hi u, .int 1 v] }).objs.size := by simpa using hb
   subst e
   exact I1.fpOk (Nat.le_refl _) (I1.hok.fresh (Nat.le_refl _))
def iRng1 (ta : TA) : TI := fun σ H R => ta σ H fun vs H1 => ∃ j : Int, vs = [.int j] ∧ -(2 ^ 62) ≤ j ∧ j < 2 ^ 62 ∧ R (Itr 0 j.toNat) H1
theorem pi_range1 {a : Expr} {ta : TA} {p pos : Pos} (hg : Gl X "range") (hm : X.mg "range" = none) (ha : PA X [a] ta) (hs : starEach [a] X.env = [(false, eval a X.env)] := by rfl) : PI X tg (.Call (.Name "range" p) [a] [] pos) (iRng1 ta) := by
 intro pins s σ H R I h
 refine Call_ (ld_blt I hg hm boot_range (PyProof.Rows.callWith_type1 (thn (ha pos pins s σ H _ I h) fun us s1 ⟨vs, H1, I1, r1, q1⟩ => ?_) hs rfl))
 obtain ⟨j, e, q1, q2, q⟩ := q1
 subst e
 cases r1 with
 | cons r rr =>
   cases rr
   obtain ⟨t, rfl⟩ := r
   exact call_range_1 (range_it I1 (by omega) (by omega) q1 q2 (by simpa using q))
def tFor (wi : TI) (g : TG) (tb : TS) : TS := fun D σ H => wi σ H fun J H1 => ∃ W : Nat → Nat → St → Hp → Prop, (∃ m, W 0 m σ H1) ∧ ∀ i m σ H, W i m σ H →
 (J.stop i H ∧ D.nx σ H) ∨ (J.go i H ∧ ∃ N : St → Hp → Prop, (∀ σ' H', N σ' H' → ∃ m', m' < m ∧ W (i + 1) m' σ' H') ∧ ∀ x H', J.yld i H x H' → g x σ H' fun σ2 H2 => tb { D with nx := N, ct := N, bk := D.nx } σ2 H2)
def pinsAt (fp : List Addr) (h : Heap) : List (Addr × Obj) := fp.filterMap fun b => (h.get? b).map fun o => (b, o)
theorem mem_pinsAt {fp : List Addr} {h : Heap} {b : Addr} {o : Obj} (hb : b ∈ fp) (e : h.get? b = some o) : (b, o) ∈ pinsAt fp h := List.mem_filterMap.mpr ⟨b, hb, by rw [e]; rfl⟩
theorem of_pinsAt {fp : List Addr} {h : Heap} {p : Addr × Obj} (hp : p ∈ pinsAt fp h) : p.1 ∈ fp ∧ h.get? p.1 = some p.2 := by
 obtain ⟨b, hb, e⟩ := List.mem_filterMap.mp hp
 cases q : h.get? b with
 | none => rw [q] at e; cases e
 | some o =>
   rw [q] at e
   have e' : (b, o) = p := Option.some.inj e
   subst e'
   exact ⟨hb, q⟩
theorem Inv.pinned {pins : List (Addr × Obj)} {σ : St} {H : Hp} {s : Shared} {fp : List Addr} (I : Inv X pins σ H s) (hf : ∀ b ∈ fp, FpOk X pins H b) (ho : ∀ b ∈ fp, ∃ o, s.heap.get? b = some o ∧ ∀ v, o.data ≠ .cell v) : Inv X (pins ++ pinsAt fp s.heap) σ H s :=
 I.pins_of fun p hp => (List.mem_append.mp hp).elim (fun z => I.pin p (List.mem_append_right _ z)) fun z => by
   obtain ⟨hb, e⟩ := of_pinsAt z
   obtain ⟨f0, f1, f2, _⟩ := hf p.1 hb
   obtain ⟨o, e', d⟩ := ho p.1 hb
   rw [e] at e'; cases e'
   exact ⟨e, f0, f1, f2, d⟩
theorem Inv.unpinned {pins pl : List (Addr × Obj)} {σ : St} {H : Hp} {s : Shared} (I : Inv X (pins ++ pl) σ H s) : Inv X pins σ H s := I.pins_of fun p hp => I.pin p (List.mem_append_right _ (List.mem_append_left _ hp))
theorem ps_for {iter : Expr} {body : List Stmt} {wi : TI} {g : TG} {tb : TS} {pos : Pos} (hp : PassesOwn (model X.prog X.w) X.A X.env X.xe) (hc : X.calm = true) (hi : PI X tg iter wi) (hg : PG X tg g) (hb : PSs X body tb)
   (hs : ∀ x, foldedSetIterable iter X.env x = pure x := by intro _; rfl) : PS X (.For tg iter body [] pos) (tFor wi g tb) := by
 intro pins s σ H D I h
 refine wpAny_For (thn (hi pins s σ H _ I h) fun v s1 h1 => thn h1 fun itv s2 h2 => ?_) hs
 obtain ⟨it, fp, tn, J, H2, e, I2, T, st2, f2, W, ⟨m0, w0⟩, turn⟩ := h2
 subst e
 -- what stays true of the iterator's objects through the loop
 have stat : ∀ {H' : Hp}, (∀ b ∈ fp, H' b = none) → ∀ b ∈ fp, FpOk X pins H' b := fun hn b hb => ⟨hn b hb, (f2 b hb).2⟩
 refine codeAny_forLoop_any (fun n s' => ∃ i σ' H', Inv X pins σ' H' s' ∧ tn i s'.heap ∧ (∀ b ∈ fp, H' b = none) ∧ W i n σ' H') ?_ m0 ⟨0, σ, H2, I2, st2, fun b hb => (f2 b hb).1, w0⟩
 rintro n s3 ⟨i, σ3, H3, I3, st3, fr3, w3⟩
 rcases turn i n σ3 H3 w3 with ⟨stop, qn⟩ | ⟨go, N, hN, step⟩
 · refine wpAny_passesOwn hp (thn (T.done X rfl rfl rfl hc i pins s3 σ3 H3 X.xe I3 (stat fr3) st3 stop) fun r s4 ⟨hr, I4⟩ => ?_)
   subst hr
   exact wpAny_execs_nil ⟨σ3, H3, I4, qn⟩
 · refine wpAny_passesOwn hp (thn (T.item X rfl rfl rfl hc i pins s3 σ3 H3 X.xe I3 (stat fr3) st3 go) fun r s4 ⟨u, hr, h4⟩ => ?_)
   subst hr
   refine wpAny_passesOwn hp (thn h4 fun _ s5 ⟨x, H5, I5, r5, y5, st5, fr5⟩ => ?_)
   have I5' := I5.pinned (stat fr5) (T.obj _ _ st5)
   refine wpAny_passesOwn hp (thn (hg _ s5 σ3 H5 x u _ I5' r5 (step x H5 y5)) fun _ s6 ⟨σ6, H6, I6, q6⟩ => ?_)
   refine wpAny_passesOwn hp (thn (hb _ s6 σ6 H6 _ I6 q6) fun f s7 q7 => ?_)
   have again : ∀ {σ7 : St} {H7 : Hp}, Inv X (pins ++ pinsAt fp s5.heap) σ7 H7 s7 → N σ7 H7 → ∃ m, m < n ∧ ∃ i σ' H', Inv X pins σ' H' s7 ∧ tn i s7.heap ∧ (∀ b ∈ fp, H' b = none) ∧ W i m σ' H' := fun {σ7 H7} I7 n7 => by
     obtain ⟨m', hm, w7⟩ := hN σ7 H7 n7
     refine ⟨m', hm, i + 1, σ7, H7, I7.unpinned, T.keep _ _ _ st5 fun b hb o e => (I7.pin (b, o) (List.mem_append_right _ (List.mem_append_right _ (mem_pinsAt hb e)))).1, fun b hb => ?_, w7⟩
     obtain ⟨o, e, d⟩ := T.obj _ _ st5 b hb
     exact (I7.pin (b, o) (List.mem_append_right _ (List.mem_append_right _ (mem_pinsAt hb e)))).2.1
   cases f with
   | next => obtain ⟨σ7, H7, I7, n7⟩ := q7; exact again I7 n7
   | cont => obtain ⟨σ7, H7, I7, n7⟩ := q7; exact again I7 n7
   | brk => obtain ⟨σ7, H7, I7, q7⟩ := q7; exact ⟨σ7, H7, I7.unpinned, q7⟩
   | ret v => obtain ⟨x7, σ7, H7, I7, r7, q7⟩ := q7; exact ⟨x7, σ7, H7, I7.unpinned, r7, q7⟩
end
theorem for_tup {K : PySem.W.Frag} {a : Addr} {xs : List V} {g : TG} {tb : TS} {D : Ends} {σ : St} {H : Hp} (Pv : Nat → St → Hp → Prop) (h0 : Pv 0 σ H) (hl : ∀ i σ H, i ≤ xs.length → Pv i σ H → SqT K H a xs)
   (hs : ∀ i x σ H, xs[i]? = some x → Pv i σ H → g x σ H fun σ2 H2 => tb { D with nx := Pv (i + 1), ct := Pv (i + 1), bk := D.nx } σ2 H2) (hd : ∀ σ H, Pv xs.length σ H → D.nx σ H) :
   ∃ W : Nat → Nat → St → Hp → Prop, (∃ m, W 0 m σ H) ∧ ∀ i m σ H, W i m σ H →
     ((Itt K a).stop i H ∧ D.nx σ H) ∨ ((Itt K a).go i H ∧ ∃ N : St → Hp → Prop, (∀ σ' H', N σ' H' → ∃ m', m' < m ∧ W (i + 1) m' σ' H') ∧ ∀ x H', (Itt K a).yld i H x H' → g x σ H' fun σ2 H2 => tb { D with nx := N, ct := N, bk := D.nx } σ2 H2) := by
 refine ⟨fun i m σ H => m = xs.length - i ∧ i ≤ xs.length ∧ Pv i σ H, ⟨xs.length, by simp, Nat.zero_le _, h0⟩, ?_⟩
 rintro i m σ H ⟨rfl, hi, p⟩
 have q := hl i σ H hi p
 by_cases hlt : i < xs.length
 · refine .inr ⟨⟨xs, xs[i], q, by simp [hlt]⟩, Pv (i + 1), fun σ' H' p' => ⟨xs.length - (i + 1), by omega, rfl, hlt, p'⟩, fun x H' y => ?_⟩
   obtain ⟨e, y⟩ := y
   subst e
   exact hs i x σ _ (y xs q) p
 · have e : i = xs.length := by omega
   subst e
   exact .inl ⟨⟨xs, q, Nat.le_refl _⟩, hd σ H p⟩
theorem for_range {lo : Int} {n : Nat} {g : TG} {tb : TS} {D : Ends} {σ : St} {H : Hp} (Pv : Nat → St → Hp → Prop) (h0 : Pv 0 σ H)
   (hs : ∀ i σ H, i < n → Pv i σ H → g (.int (lo + i)) σ H fun σ2 H2 => tb { D with nx := Pv (i + 1), ct := Pv (i + 1), bk := D.nx } σ2 H2) (hd : ∀ σ H, Pv n σ H → D.nx σ H) :
   ∃ W : Nat → Nat → St → Hp → Prop, (∃ m, W 0 m σ H) ∧ ∀ i m σ H, W i m σ H →
     ((Itr lo n).stop i H ∧ D.nx σ H) ∨ ((Itr lo n).go i H ∧ ∃ N : St → Hp → Prop, (∀ σ' H', N σ' H' → ∃ m', m' < m ∧ W (i + 1) m' σ' H') ∧ ∀ x H', (Itr lo n).yld i H x H' → g x σ H' fun σ2 H2 => tb { D with nx := N, ct := N, bk := D.nx } σ2 H2) := by
 refine ⟨fun i m σ H => m = n - i ∧ i ≤ n ∧ Pv i σ H, ⟨n, by simp, Nat.zero_le _, h0⟩, ?_⟩
 rintro i m σ H ⟨rfl, hi, p⟩
 by_cases hlt : i < n
 · refine .inr ⟨hlt, Pv (i + 1), fun σ' H' p' => ⟨n - (i + 1), by omega, rfl, hlt, p'⟩, fun x H' y => ?_⟩
   obtain ⟨e, y⟩ := y
   subst e y
   exact hs i σ _ hlt p
 · have e : i = n := by omega
   subst e
   exact .inl ⟨Nat.le_refl _, hd σ H p⟩
end L2
namespace L2
open PySem PySem.Spec PyProof.Rows
abbrev R2 := V → V → Hp → VK → Prop
def OpR (X : Cx) (f : Value → Value → Sem Value) (r : R2) : Prop :=
 ∀ (pins : List (Addr × Obj)) (s : Shared) (σ : St) (H : Hp) (x y : V) (v u : Value) (Q : VK), Inv X pins σ H s → RelV x v → RelV y u → r x y H Q →
   wpAny (model X.prog X.w) X.A (f v u) (EP X pins σ Q) X.xe s
def UnR (X : Cx) (f : Value → Sem Value) (r : V → Hp → VK → Prop) : Prop :=
 ∀ (pins : List (Addr × Obj)) (s : Shared) (σ : St) (H : Hp) (x : V) (v : Value) (Q : VK), Inv X pins σ H s → RelV x v → r x H Q →
   wpAny (model X.prog X.w) X.A (f v) (EP X pins σ Q) X.xe s
def CallR (X : Cx) (f : Value) (r : List V → Hp → VK → Prop) : Prop :=
 ∀ (pins : List (Addr × Obj)) (s : Shared) (σ : St) (H : Hp) (xs : List V) (us : List Value) (Q : VK), Inv X pins σ H s → Vals xs us → r xs H Q →
   wpAny (model X.prog X.w) X.A (call f us) (EP X pins σ Q) X.xe s
def TruR (X : Cx) (r : V → Hp → (Bool → Hp → Prop) → Prop) : Prop :=
 ∀ (pins : List (Addr × Obj)) (s : Shared) (σ : St) (H : Hp) (x : V) (v : Value) (Q : Bool → Hp → Prop), Inv X pins σ H s → RelV x v → r x H Q →
   wpAny (model X.prog X.w) X.A (truthy v) (TP X pins σ Q) X.xe s
def tOp (r : R2) (ta tb : TE) : TE := fun σ H Q => ta σ H fun x H1 => tb σ H1 fun y H2 => r x y H2 Q
def tUn (r : V → Hp → VK → Prop) (ta : TE) : TE := fun σ H Q => ta σ H fun x H1 => r x H1 Q
def rI (C : Int → Int → Prop) (g : Int → Int → V) : R2 := fun x y H Q => ∃ i j, x = .int i ∧ y = .int j ∧ C i j ∧ Q (g i j) H
def rI0 (g : Int → Int → V) : R2 := fun x y H Q => ∃ i j, x = .int i ∧ y = .int j ∧ Q (g i j) H
def rU (g : Int → V) : V → Hp → VK → Prop := fun x H Q => ∃ i, x = .int i ∧ Q (g i) H
section
variable {X : Cx} {a b c : Expr} {ta tb tc : TE} {pos : Pos}
theorem binT (ha : PE X a ta) (hb : PE X b tb) {pins : List (Addr × Obj)} {s : Shared} {σ : St} {H : Hp} {R : V → V → Hp → Prop} (I : Inv X pins σ H s)
   (h : ta σ H fun x H1 => tb σ H1 fun y H2 => R x y H2) {Q : Value → Shared → Prop} {f : Value → Value → Sem Value}
   (hf : ∀ v u s2 x y H2, Inv X pins σ H2 s2 → RelV x v → RelV y u → R x y H2 → wpAny (model X.prog X.w) X.A (f v u) Q X.xe s2) :
   wpAny (model X.prog X.w) X.A (eval a X.env) (fun v s₁ => wpAny (model X.prog X.w) X.A (eval b X.env) (fun u s₂ => wpAny (model X.prog X.w) X.A (f v u) Q X.xe s₂) X.xe s₁) X.xe s := by
 refine thn (ha pins s σ H _ I h) fun v s1 ⟨x, H1, I1, r1, q1⟩ => ?_
 refine thn (hb pins s1 σ H1 _ I1 q1) fun u s2 ⟨y, H2, I2, r2, q2⟩ => ?_
 exact hf v u s2 x y H2 I2 r1 r2 q2
theorem pe_op {op : Operator} {r : R2} (ho : OpR X (binaryOp op) r) (ha : PE X a ta) (hb : PE X b tb) : PE X (.BinOp a op b pos) (tOp r ta tb) := by
 intro pins s σ H Q I h
 exact wpAny_BinOp (binT ha hb I h fun v u s2 x y H2 I2 rx ry q => ho pins s2 σ H2 x y v u Q I2 rx ry q)
theorem pe_un {op : UnaryOp} {r : V → Hp → VK → Prop} (ho : UnR X (unaryOp op) r) (ha : PE X a ta) : PE X (.UnaryOp op a pos) (tUn r ta) := by
 intro pins s σ H Q I h
 exact UnaryOp_ (thn (ha pins s σ H _ I h) fun v s1 ⟨x, H1, I1, r1, q1⟩ => ho pins s1 σ H1 x v Q I1 r1 q1)
theorem opI {f : Value → Value → Sem Value} {C : Int → Int → Prop} {g : Int → Int → Int}
   (rule : ∀ (i j : Int) (t u : Tok) (s : Shared) (Q : Value → Shared → Prop) (E : Value → Shared → Prop), C i j → Q (.int (g i j) s.toks) { s with toks := s.toks + 1 } → wpAny (model X.prog X.w) X.A (f (.int i t) (.int j u)) Q E s) :
   OpR X f (rI C fun i j => .int (g i j)) := by
 intro pins s σ H x y v u Q I rx ry h
 obtain ⟨i, j, rfl, rfl, hc, q⟩ := h
 obtain ⟨t, rfl⟩ := rx
 obtain ⟨t', rfl⟩ := ry
 exact rule i j t t' s _ _ hc ⟨.int (g i j), H, I.tok _, ⟨_, rfl⟩, q⟩
theorem opI0 {f : Value → Value → Sem Value} {g : Int → Int → Int}
   (rule : ∀ (i j : Int) (t u : Tok) (s : Shared) (Q : Value → Shared → Prop) (E : Value → Shared → Prop), Q (.int (g i j) s.toks) { s with toks := s.toks + 1 } → wpAny (model X.prog X.w) X.A (f (.int i t) (.int j u)) Q E s) :
   OpR X f (rI0 fun i j => .int (g i j)) := by
 intro pins s σ H x y v u Q I rx ry h
 obtain ⟨i, j, rfl, rfl, q⟩ := h
 obtain ⟨t, rfl⟩ := rx
 obtain ⟨t', rfl⟩ := ry
 exact rule i j t t' s _ _ ⟨.int (g i j), H, I.tok _, ⟨_, rfl⟩, q⟩
theorem opB0 {f : Value → Value → Sem Value} {g : Int → Int → Bool}
   (rule : ∀ (i j : Int) (t u : Tok) (s : Shared) (Q : Value → Shared → Prop) (E : Value → Shared → Prop), Q (.bool (g i j)) s → wpAny (model X.prog X.w) X.A (f (.int i t) (.int j u)) Q E s) :
   OpR X f (rI0 fun i j => .bl (g i j)) := by
 intro pins s σ H x y v u Q I rx ry h
 obtain ⟨i, j, rfl, rfl, q⟩ := h
 obtain ⟨t, rfl⟩ := rx
 obtain ⟨t', rfl⟩ := ry
 exact rule i j t t' s _ _ ⟨.bl (g i j), H, I, rfl, q⟩
def CPow (i j : Int) : Prop := 0 ≤ j ∧ j ≤ 1000000 ∧ i.natAbs < 2 ^ 64
def CMul (i j : Int) : Prop := (-(2 ^ 64) < i ∧ i < 2 ^ 64) ∨ (-(2 ^ 64) < j ∧ j < 2 ^ 64)
theorem CMul.ok {i j : Int} (h : CMul i j) : IntMulOk i j := by
 rcases h with ⟨h1, h2⟩ | ⟨h1, h2⟩
 · exact .of_left (intBits_le_64 h1 h2)
 · exact .of_right (intBits_le_64 h1 h2)
theorem op_add : OpR X (binaryOp .Add) (rI0 fun i j => .int (i + j)) := opI0 fun _ _ _ _ _ _ _ q => add_int q
theorem op_sub : OpR X (binaryOp .Sub) (rI0 fun i j => .int (i - j)) := opI0 fun _ _ _ _ _ _ _ q => sub_int q
theorem op_mul : OpR X (binaryOp .Mult) (rI CMul fun i j => .int (i * j)) := opI fun _ _ _ _ _ _ _ hc q => mul_int q hc.ok
theorem op_mod : OpR X (binaryOp .Mod) (rI (fun _ j => 0 < j) fun i j => .int (i % j)) := opI fun i j _ _ _ _ _ hc q => by
 have h1 : (0 : Int) < j := hc
 exact mod_int' (by omega) (by rw [Int.fmod_eq_emod_of_nonneg i (by omega)]; exact q)
theorem op_pow : OpR X (binaryOp .Pow) (rI CPow fun i j => .int (i ^ j.toNat)) := opI fun _ _ _ _ _ _ _ hc q => pow_int_small hc.1 hc.2.1 hc.2.2 q
theorem unI {f : Value → Sem Value} {g : Int → Int}
   (rule : ∀ (i : Int) (t : Tok) (s : Shared) (Q : Value → Shared → Prop) (E : Value → Shared → Prop), Q (.int (g i) s.toks) { s with toks := s.toks + 1 } → wpAny (model X.prog X.w) X.A (f (.int i t)) Q E s) :
   UnR X f (rU fun i => .int (g i)) := by
 intro pins s σ H x v Q I rx h
 obtain ⟨i, rfl, q⟩ := h
 obtain ⟨t, rfl⟩ := rx
 exact rule i t s _ _ ⟨.int (g i), H, I.tok _, ⟨_, rfl⟩, q⟩
theorem un_neg : UnR X (unaryOp .USub) (rU fun i => .int (-i)) := unI fun _ _ _ _ _ q => neg_int q
end
def scal : V → V → Bool
 | .non, .non => true | .non, .int _ => true | .int _, .non => true | .non, .bl _ => true | .bl _, .non => true | .non, .str _ => true | .str _, .non => true
 | .int _, .int _ => true | .bl _, .bl _ => true | .str _, .str _ => true | .byt _, .byt _ => true
 | .int _, .str _ => true | .str _, .int _ => true | .bl _, .str _ => true | .str _, .bl _ => true
 | _, _ => false
def rEq : R2 := fun x y H Q => scal x y = true ∧ Q (.bl (decide (x = y))) H
def rNe : R2 := fun x y H Q => scal x y = true ∧ Q (.bl (!decide (x = y))) H
theorem dec_int {i j : Int} : decide (V.int i = V.int j) = (i == j) := by
 rw [Bool.eq_iff_iff]
 simp
theorem dec_bl {i j : Bool} : decide (V.bl i = V.bl j) = (i == j) := by
 rw [Bool.eq_iff_iff]
 simp
theorem dec_str {i j : Str} : decide (V.str i = V.str j) = (i == j) := by
 rw [Bool.eq_iff_iff]
 simp
theorem dec_byt {i j : Array UInt8} : decide (V.byt i = V.byt j) = (i.toList == j.toList) := by
 rw [Bool.eq_iff_iff]
 cases i
 cases j
 simp
section
variable {X : Cx} {a b c : Expr} {ta tb tc : TE} {pos : Pos}
theorem fin_bl {pins : List (Addr × Obj)} {σ : St} {H : Hp} {s : Shared} {Q : VK} {k k' : Bool} (I : Inv X pins σ H s) (q : Q (.bl k) H) (e : k = k') : EP X pins σ Q (.bool k') s := by
 subst e
 exact ⟨.bl k, H, I, rfl, q⟩
theorem op_eq : OpR X (compareOp .Eq) rEq := by
 intro pins s σ H x y v u Q I rx ry h
 obtain ⟨hs, q⟩ := h
 cases x with
 | non =>
   cases rx
   cases y with
   | non => cases ry; exact PySem.EqNone.eq_none_none (fin_bl I q (by simp))
   | bl j => cases ry; exact PySem.EqNone.eq_none_bool (fin_bl I q (by simp))
   | int j => obtain ⟨t', rfl⟩ := ry; exact PySem.EqNone.eq_none_int (fin_bl I q (by simp))
   | str j => obtain ⟨t', rfl⟩ := ry; exact PySem.EqNone.eq_none_str (fin_bl I q (by simp))
   | _ => exact absurd (show false = true from hs) Bool.false_ne_true
 | bl i =>
   cases rx
   cases y with
   | non => cases ry; exact PySem.EqNone.eq_bool_none (fin_bl I q (by simp))
   | bl j => cases ry; exact eq_bool (fin_bl I q dec_bl)
   | str j => obtain ⟨t', rfl⟩ := ry; exact PySem.EqMixed.eq_bool_str (fin_bl I q (by simp))
   | _ => exact absurd (show false = true from hs) Bool.false_ne_true
 | int i =>
   obtain ⟨t, rfl⟩ := rx
   cases y with
   | non => cases ry; exact PySem.EqNone.eq_int_none (fin_bl I q (by simp))
   | int j => obtain ⟨t', rfl⟩ := ry; exact eq_int (fin_bl I q dec_int)
   | str j => obtain ⟨t', rfl⟩ := ry; exact PySem.EqMixed.eq_int_str (fin_bl I q (by simp))
   | _ => exact absurd (show false = true from hs) Bool.false_ne_true
 | str i =>
   obtain ⟨t, rfl⟩ := rx
   cases y with
   | non => cases ry; exact PySem.EqNone.eq_str_none (fin_bl I q (by simp))
   | bl j => cases ry; exact PySem.EqMixed.eq_str_bool (fin_bl I q (by simp))
   | int j => obtain ⟨t', rfl⟩ := ry; exact PySem.EqMixed.eq_str_int (fin_bl I q (by simp))
   | str j => obtain ⟨t', rfl⟩ := ry; exact eq_str (fin_bl I q dec_str)
   | _ => exact absurd (show false = true from hs) Bool.false_ne_true
 | byt i =>
   obtain ⟨t, rfl⟩ := rx
   cases y with
   | byt j => obtain ⟨t', rfl⟩ := ry; exact PySem.W.eq_bytes (fin_bl I q dec_byt)
   | _ => exact absurd (show false = true from hs) Bool.false_ne_true
 | _ => cases y <;> exact absurd (show false = true from hs) Bool.false_ne_true
theorem op_ne : OpR X (compareOp .NotEq) rNe := by
 intro pins s σ H x y v u Q I rx ry h
 obtain ⟨hs, q⟩ := h
 cases x with
 | non =>
   cases rx
   cases y with
   | non => cases ry; exact PySem.EqNone.ne_none_none (fin_bl I q (by simp))
   | bl j => cases ry; exact PySem.EqNone.ne_none_bool (fin_bl I q (by simp))
   | int j => obtain ⟨t', rfl⟩ := ry; exact PySem.EqNone.ne_none_int (fin_bl I q (by simp))
   | str j => obtain ⟨t', rfl⟩ := ry; exact PySem.EqNone.ne_none_str (fin_bl I q (by simp))
   | _ => exact absurd (show false = true from hs) Bool.false_ne_true
 | bl i =>
   cases rx
   cases y with
   | non => cases ry; exact PySem.EqNone.ne_bool_none (fin_bl I q (by simp))
   | bl j => cases ry; exact ne_bool (fin_bl I q (congrArg not dec_bl))
   | str j => obtain ⟨t', rfl⟩ := ry; exact PySem.EqMixed.ne_bool_str (fin_bl I q (by simp))
   | _ => exact absurd (show false = true from hs) Bool.false_ne_true
 | int i =>
   obtain ⟨t, rfl⟩ := rx
   cases y with
   | non => cases ry; exact PySem.EqNone.ne_int_none (fin_bl I q (by simp))
   | int j => obtain ⟨t', rfl⟩ := ry; exact ne_int (fin_bl I q (congrArg not dec_int))
   | str j => obtain ⟨t', rfl⟩ := ry; exact PySem.EqMixed.ne_int_str (fin_bl I q (by simp))
   | _ => exact absurd (show false = true from hs) Bool.false_ne_true
 | str i =>
   obtain ⟨t, rfl⟩ := rx
   cases y with
   | non => cases ry; exact PySem.EqNone.ne_str_none (fin_bl I q (by simp))
   | bl j => cases ry; exact PySem.EqMixed.ne_str_bool (fin_bl I q (by simp))
   | int j => obtain ⟨t', rfl⟩ := ry; exact PySem.EqMixed.ne_str_int (fin_bl I q (by simp))
   | str j => obtain ⟨t', rfl⟩ := ry; exact ne_str (fin_bl I q (congrArg not dec_str))
   | _ => exact absurd (show false = true from hs) Bool.false_ne_true
 | byt i =>
   obtain ⟨t, rfl⟩ := rx
   cases y with
   | byt j => obtain ⟨t', rfl⟩ := ry; exact PySem.W.ne_bytes (fin_bl I q (congrArg not dec_byt))
   | _ => exact absurd (show false = true from hs) Bool.false_ne_true
 | _ => cases y <;> exact absurd (show false = true from hs) Bool.false_ne_true
theorem op_lt : OpR X (compareOp .Lt) (rI0 fun i j => .bl (decide (i < j))) := opB0 fun _ _ _ _ _ _ _ q => lt_int q
theorem op_le : OpR X (compareOp .LtE) (rI0 fun i j => .bl (decide (i ≤ j))) := opB0 fun _ _ _ _ _ _ _ q => le_int q
theorem op_gt : OpR X (compareOp .Gt) (rI0 fun i j => .bl (decide (j < i))) := opB0 fun _ _ _ _ _ _ _ q => gt_int q
theorem op_ge : OpR X (compareOp .GtE) (rI0 fun i j => .bl (decide (j ≤ i))) := opB0 fun _ _ _ _ _ _ _ q => ge_int q
theorem op_lt_str : OpR X (compareOp .Lt) (fun x y H Q => ∃ i j, x = .str i ∧ y = .str j ∧ Q (.bl (decide (i.cps.toList < j.cps.toList))) H) := by
 intro pins s σ H x y v u Q I rx ry h
 obtain ⟨i, j, rfl, rfl, q⟩ := h
 obtain ⟨t, rfl⟩ := rx
 obtain ⟨t', rfl⟩ := ry
 exact lt_str (fin_bl I q rfl)
theorem op_notN : OpR X (compareOp .IsNot) (fun x y H Q => y = .non ∧ Q (.bl (!decide (x = .non))) H) := by
 intro pins s σ H x y v u Q I rx ry h
 obtain ⟨rfl, q⟩ := h
 cases ry
 refine isnot_none_gen (fin_bl I q ?_)
 cases x <;> first
   | (cases rx; rfl)
   | (obtain ⟨t, rfl⟩ := rx; rfl)
theorem nomark (b : Expr) {op : CmpOp} (h : op ≠ .In := by decide) (h2 : op ≠ .NotIn := by decide) : behindInMarks op b = false := by
 have e1 : (op == CmpOp.In) = false := by cases op <;> first | rfl | exact absurd rfl h
 have e2 : (op == CmpOp.NotIn) = false := by cases op <;> first | rfl | exact absurd rfl h2
 cases b <;> simp [behindInMarks, e1, e2]
theorem pe_cmpR {op : CmpOp} {r : R2} (ho : OpR X (compareOp op) r) (ha : PE X a ta) (hb : PE X b tb) (hm : behindInMarks op b = false) : PE X (.Compare a [op] [b] pos) (tOp r ta tb) := by
 intro pins s σ H Q I h
 exact wpAny_Compare1 (binT ha hb I h fun v u s2 x y H2 I2 rx ry q => ho pins s2 σ H2 x y v u Q I2 rx ry q) hm
def TruV (K : PySem.W.Frag) (x : V) (H : Hp) (k : Bool) : Prop :=
 match x with
 | .non => k = false
 | .bl b => k = b
 | .int i => k = (i != 0)
 | .str y => y.length ≤ sizeLine ∧ k = ((y.length : Int) != 0)
 | .byt y => y.size ≤ sizeLine ∧ k = ((y.size : Int) != 0)
 | .ref p => (∃ xs, SqL K H p xs ∧ k = !xs.isEmpty) ∨ (∃ xs, SqT K H p xs ∧ k = !xs.isEmpty) ∨ ∃ kvs, H p = some (.dK kvs) ∧ k = !kvs.isEmpty
 | _ => False
theorem isEmpty_kv {κ : Type} {kvs : List (κ × V)} {vs : List (κ × Value)} (r : KV kvs vs) : (!vs.isEmpty) = !kvs.isEmpty := by
 cases r <;> rfl
theorem isEmpty_of {xs : List V} {its : List Value} (r : Vals xs its) : (!its.toArray.isEmpty) = !xs.isEmpty := by
 cases r <;> simp
theorem line63 : (sizeLine : Nat) < 2 ^ 63 := by rw [sizeLine_eq]; decide
theorem tru_ok : TruR X (fun x H Q => ∃ k, TruV X.K x H k ∧ Q k H) := by
 intro pins s σ H x v Q I rx h
 obtain ⟨k, e, q⟩ := h
 have hl := line63
 have hs : sizeLine = 16777216 := sizeLine_eq
 cases x with
 | non =>
   cases rx
   have e' : k = false := e
   subst e'
   exact truthy_none ⟨H, I, q⟩
 | bl b =>
   cases rx
   have e' : k = b := e
   subst e'
   exact wpAny_truthy_bool ⟨H, I, q⟩
 | int i =>
   obtain ⟨t, rfl⟩ := rx
   have e' : k = (i != 0) := e
   subst e'
   exact PySem.P.truthy_int ⟨H, I, q⟩
 | str y =>
   obtain ⟨t, rfl⟩ := rx
   obtain ⟨hy, e'⟩ : y.length ≤ sizeLine ∧ k = ((y.length : Int) != 0) := e
   subst e'
   exact PySem.P.truthy_str (by omega) ⟨H, I.tok _, q⟩
 | byt y =>
   obtain ⟨t, rfl⟩ := rx
   obtain ⟨hy, e'⟩ : y.size ≤ sizeLine ∧ k = ((y.size : Int) != 0) := e
   subst e'
   exact PySem.W.truthy_bytes (by omega) ⟨H, I.tok _, q⟩
 | ref p =>
   cases rx
   have e' : (∃ xs, SqL X.K H p xs ∧ k = !xs.isEmpty) ∨ (∃ xs, SqT X.K H p xs ∧ k = !xs.isEmpty) ∨ ∃ kvs, H p = some (.dK kvs) ∧ k = !kvs.isEmpty := e
   rcases e' with ⟨xs, hx, e'⟩ | ⟨xs, hx, e'⟩ | ⟨kvs, hx, e'⟩
   · subst e'
     obtain ⟨its, r, pl, hz⟩ := I.list hx
     have hlen := r.length
     exact wpAny_truthy_list pl.isList (by simp only [List.size_toArray]; omega) ⟨H, I.tok _, by rw [isEmpty_of r]; exact q⟩
   · subst e'
     obtain ⟨its, r, pl, hz⟩ := I.tuple hx
     have hlen := r.length
     exact truthy_tuple pl (by simp only [List.size_toArray]; omega) ⟨H, I.tok _, by rw [isEmpty_of r]; exact q⟩
   · subst e'
     obtain ⟨hz, hS, vs, r, m⟩ : kvs.length ≤ sizeLine ∧ (p == sysModules) = false ∧ ∃ vs, KV kvs vs ∧ s.heap.DictOf (mixKind X.prog X.w) p vs := I.hok p _ hx
     have hlen : kvs.length = vs.length := Paired.length r
     exact wpAny_truthy_dict hS m (by omega) ⟨H, I.tok _, by rw [isEmpty_kv r]; exact q⟩
 | _ => exact (show False from e).elim
theorem op_add_str : OpR X (binaryOp .Add) (fun x y H Q => ∃ i j, x = .str i ∧ y = .str j ∧ i.length + j.length ≤ sizeLine ∧ Q (.str (i ++ j)) H) := by
 intro pins s σ H x y v u Q I rx ry h
 obtain ⟨i, j, rfl, rfl, hz, q⟩ := h
 obtain ⟨t, rfl⟩ := rx
 obtain ⟨t', rfl⟩ := ry
 exact add_str (fun t' tk => ⟨.str (i ++ j), H, I.tok _, ⟨_, rfl⟩, q⟩) hz
theorem vals1 {x : V} {us : List Value} (r : Vals [x] us) : ∃ u, us = [u] ∧ RelV x u := by
 cases r with
 | cons r1 r2 => cases r2; exact ⟨_, rfl, r1⟩
theorem vals2 {x y : V} {us : List Value} (r : Vals [x, y] us) : ∃ u w', us = [u, w'] ∧ RelV x u ∧ RelV y w' := by
 cases r with
 | cons r1 r2 =>
   cases r2 with
   | cons r3 r4 => cases r4; exact ⟨_, _, rfl, r1, r3⟩
theorem call_max2 (hc : X.calm = true) : CallR X (.builtin "max") (fun xs H Q => ∃ i j, xs = [.int i, .int j] ∧ Q (.int (if j > i then j else i)) H) := by
 intro pins s σ H xs us Q I r h
 obtain ⟨i, j, rfl, q⟩ := h
 obtain ⟨u, w', rfl, ⟨t, rfl⟩, ⟨t', rfl⟩⟩ := vals2 r
 refine max_two_ints (I.ok.hd hc) fun h' tk k => ⟨_, H, I.kept k, ?_, q⟩
 by_cases hj : j > i
 · rw [if_pos hj, if_pos hj]; exact ⟨_, rfl⟩
 · rw [if_neg hj, if_neg hj]; exact ⟨_, rfl⟩
theorem call_min2 (hc : X.calm = true) : CallR X (.builtin "min") (fun xs H Q => ∃ i j, xs = [.int i, .int j] ∧ Q (.int (if j < i then j else i)) H) := by
 intro pins s σ H xs us Q I r h
 obtain ⟨i, j, rfl, q⟩ := h
 obtain ⟨u, w', rfl, ⟨t, rfl⟩, ⟨t', rfl⟩⟩ := vals2 r
 refine min_two_ints (I.ok.hd hc) fun h' tk k => ⟨_, H, I.kept k, ?_, q⟩
 by_cases hj : j < i
 · rw [if_pos hj, if_pos hj]; exact ⟨_, rfl⟩
 · rw [if_neg hj, if_neg hj]; exact ⟨_, rfl⟩
end
end L2
namespace L2
open PySem PySem.Spec PyProof.Rows
structure ObjM (h : Heap) (x dx C : Addr) (mA : Str → Option Value) : Prop where
 obj : h.get? x = some (PySem.W.instObj C dx)
 ns : h.Ns1 dx mA
 ne : dx ≠ x
theorem lookIn_ns {h : Heap} {dx : Addr} {mA : Str → Option Value} (n : h.Ns1 dx mA) : ∃ od, h.get? dx = some od ∧ ∀ name, PySem.W.lookIn name od = some (mA name) := by
 obtain ⟨o, es, ep, ho, hd, hk, _, hm⟩ := n
 refine ⟨o, ho, fun name => ?_⟩
 have e := hm name
 unfold nsFind findBy at e
 rw [← Array.find?_toList] at e
 unfold PySem.W.lookIn
 rw [hd]
 dsimp only
 split
 · rename_i y q
   rw [q] at e
   exact congrArg some e
 · rename_i q
   rw [q] at e
   have a : es.toList.any (·.refKey) = false := by
     rw [List.any_eq_false]
     intro y hy
     obtain ⟨z, t, hkey⟩ := hk y (Array.mem_toList_iff.mp hy)
     simp [DictEntry.refKey, hkey]
   have a' : ¬ es.toList.any (·.refKey) = true := by rw [a]; exact Bool.false_ne_true
   rw [if_neg a']
   exact congrArg some e
theorem ObjM.look {h : Heap} {x dx C : Addr} {mA : Str → Option Value} (I : ObjM h x dx C mA) : ∃ od, PySem.W.InstAt h x (PySem.W.instObj C dx) C (some od) ∧ ∀ name, PySem.W.lookIn name od = some (mA name) :=
 let ⟨od, ho, hl⟩ := lookIn_ns I.ns
 ⟨od, ⟨I.obj, rfl, rfl, ho⟩, hl⟩
section
variable {prog : Program} {w : World} {A : Around} {E : Value → Shared → Prop} {s : Shared} {K : PySem.W.Frag} {x dx C f : Addr} {mA : Str → Option Value} {name : Str} {v : Value}
theorem get_map {expr : Bool} {Q : Value → Shared → Prop} (X : K.In s.heap) (I : ObjM s.heap x dx C mA) (hg : PySem.W.plainGet K C name = true) (hh : PySem.W.hasDictIn K C = true)
   (ha : PySem.W.findIn K (.ref C) name = some none) (hv : mA name = some v) (hv' : PySem.W.handedIn v = true) (h : Q v { s with toks := s.toks + 1 }) :
   wpAny (model prog w) A (getAttr (.ref x) name expr) Q E s := by
 obtain ⟨od, J, hl⟩ := I.look
 exact PySem.W.get_value X J (PySem.W.plainGet_of hg).1 (PySem.W.findObj_own hh ha rfl (by rw [hl, hv])) hv' h
theorem get_meth {pl : Sem Bool} {Q : Value × List Value → Shared → Prop} (X : K.In s.heap) (I : ObjM s.heap x dx C mA) (hg : PySem.W.plainGet K C name = true)
   (hf : PySem.W.findIn K (.ref C) name = some (some (.ref f))) (ht : PySem.W.isFn K (.ref f) = true) (hv : mA name = none) (h : Q (.ref f, [.ref x]) s) :
   wpAny (model prog w) A (getMethod (.ref x) name pl) Q E s := by
 obtain ⟨od, J, hl⟩ := I.look
 exact PySem.W.method_fn X J (PySem.W.plainGet_of hg).1 (PySem.W.plainGet_of hg).2 hf (beq_iff_eq.mp ht) (by show (PySem.W.lookIn name od).map (·.isSome) = some false; rw [hl, hv]; rfl) h
theorem set_map {ns : List Str} {Q : Unit → Shared → Prop} (X : K.In s.heap) (I : ObjM s.heap x dx C mA)
   (hs : PySem.W.findIn K (.ref C) "__setattr__" = some (some (.builtin "object.__setattr__"))) (hp : PySem.W.plainOver K C = true) (ht : PySem.W.takerIn K C name = some none) (hh : PySem.W.hasDictIn K C = true)
   (hw : PySem.Within mA ns) (hsz : ns.length ≤ sizeLine)
   (h : ∀ h', ObjM h' x dx C (fun y => if y = name then some v else mA y) → Heap.SameBut dx s.heap h' → Q () { s with heap := h', toks := s.toks + 2 }) :
   wpAny (model prog w) A (setAttr (.ref x) name v) Q E s := by
 obtain ⟨od, J, hl⟩ := I.look
 refine PySem.W.set_plain X J hs (PySem.W.osa_open (s := { s with toks := s.toks + 1 }) (r := none) X J hp ht fun b => ?_)
 obtain ⟨cd, hc, hd'⟩ := PySem.W.any_some hh
 have hx : s.heap.get? x = some ⟨.ref C, some dx, .plain, #[]⟩ := I.obj
 refine wpAny_bind (wpAny_pure (wpAny_bind (wpAny_bind (wpAny_loadPart hx (wpAny_bind (PySem.W.Looks.here (s := { s with toks := s.toks + 1 }) (PySem.W.looks_clsIn X hc) ?_))))))
 rw [hd']
 refine wpAny_pure (a := some dx) (wpAny_bind (wpAny_pure (wpAny_bind ?_)))
 refine wpAny_nsSet1 (s := { s with toks := s.toks + 1 }) I.ns fun h' hn2 hs2 => ?_
 obtain ⟨oD, esD, epD, hoD, hdD, hcD⟩ := hn2.count (PySem.Within.cons name v hw)
 refine wpAny_bind (wpAny_lookBehind hoD (by rw [hdD]; exact pastItsLine_dict (Nat.le_trans hcD (by rw [List.length_cons]; omega))) ?_)
 exact wpAny_pure (h _ ⟨(hs2.2 _ (Ne.symm I.ne)).trans I.obj, hn2, I.ne⟩ hs2)
theorem make_map {R : Result → Shared → Prop} {vs : List Value} {kw : List (Str × Value)} (X : K.In s.heap) (hm : PySem.W.makesIn K C = true)
   (hi : PySem.W.findIn K (.ref C) "__init__" = some (some (.ref f))) (hf : PySem.W.typeIn K (.ref f) = some (.type "function"))
   (h : codeAny (model prog w) (A.under (.builtin "type.__call__" ⟨.ref C :: vs, kw⟩)) (.call (.ref f) ⟨.ref (s.heap.objs.size + 1) :: vs, kw⟩) (PySem.W.InitBack (s.heap.objs.size + 1) R)
     { s with heap := (s.heap.push PySem.W.emptyDict).push (PySem.W.instObj C s.heap.objs.size) }) :
   codeAny (model prog w) A (.call (.ref C) ⟨vs, kw⟩) R s := by
 obtain ⟨hh, g, d, t, os⟩ := s
 exact PySem.W.make_core (PySem.W.makes_of X hm) (PySem.W.looks_findIn X hi) (fun self => PySem.W.bind_fn X self hf) (.inl rfl) h
end
def putF (f : Str) (v : V) : List (Str × V) → List (Str × V)
 | [] => [(f, v)]
 | (g, x) :: r => if g = f then (g, v) :: r else (g, x) :: putF f v r
theorem lookup_putF (f g : Str) (v : V) : ∀ fs : List (Str × V), (putF f v fs).lookup g = if g = f then some v else fs.lookup g
 | [] => by
   show List.lookup g [(f, v)] = _
   by_cases h : g = f
   · have hb : (g == f) = true := beq_iff_eq.mpr h
     simp only [List.lookup, hb, if_pos h]
   · have hb : (g == f) = false := beq_eq_false_iff_ne.mpr h
     simp only [List.lookup, hb, if_neg h]
 | (k, x) :: r => by
   have ih := lookup_putF f g v r
   rw [show putF f v ((k, x) :: r) = (if k = f then (k, v) :: r else (k, x) :: putF f v r) from rfl]
   by_cases hk : k = f
   · rw [if_pos hk]
     by_cases h : g = k
     · have hb : (g == k) = true := beq_iff_eq.mpr h
       simp only [List.lookup, hb, if_pos (h.trans hk)]
     · have hb : (g == k) = false := beq_eq_false_iff_ne.mpr h
       simp only [List.lookup, hb, if_neg (fun e : g = f => h (e.trans hk.symm))]
   · rw [if_neg hk]
     by_cases h : g = k
     · have hb : (g == k) = true := beq_iff_eq.mpr h
       simp only [List.lookup, hb, if_neg (fun e : g = f => hk (h.symm.trans e))]
     · have hb : (g == k) = false := beq_eq_false_iff_ne.mpr h
       simp only [List.lookup, hb]
       exact ih
theorem keys_putF (f : Str) (v : V) : ∀ fs : List (Str × V), f ∈ (putF f v fs).map (·.1) ∧ ∀ g, g ∈ fs.map (·.1) → g ∈ (putF f v fs).map (·.1)
 | [] => ⟨by simp [putF], fun g h => by simp at h⟩
 | (k, x) :: r => by
   obtain ⟨i1, i2⟩ := keys_putF f v r
   rw [show putF f v ((k, x) :: r) = (if k = f then (k, v) :: r else (k, x) :: putF f v r) from rfl]
   by_cases hk : k = f
   · rw [if_pos hk]
     subst hk
     exact ⟨by simp, fun g h => by simpa using h⟩
   · rw [if_neg hk]
     refine ⟨?_, fun g h => ?_⟩
     · rw [List.map_cons]
       exact List.mem_cons_of_mem _ i1
     · rw [List.map_cons] at h ⊢
       rcases List.mem_cons.mp h with e | e
       · exact List.mem_cons.mpr (.inl e)
       · exact List.mem_cons_of_mem _ (i2 g e)
theorem length_putF (f : Str) (v : V) : ∀ fs : List (Str × V), (putF f v fs).length ≤ fs.length + 1
 | [] => by simp [putF]
 | (k, x) :: r => by
   have ih := length_putF f v r
   rw [show putF f v ((k, x) :: r) = (if k = f then (k, v) :: r else (k, x) :: putF f v r) from rfl]
   by_cases hk : k = f
   · rw [if_pos hk, List.length_cons, List.length_cons]; omega
   · rw [if_neg hk, List.length_cons, List.length_cons]; omega
theorem RelO.some_of {v : V} {o : Option Value} (r : RelO (some v) o) : ∃ u, o = some u ∧ RelV v u := by
 cases o with
 | none => exact (show False from r).elim
 | some u => exact ⟨u, rfl, r⟩
theorem RelO.none_of {o : Option Value} (r : RelO none o) : o = none := by
 cases o with
 | none => rfl
 | some u => exact (show False from r).elim
theorem handed_of {v : V} {u : Value} (r : RelV v u) : PySem.W.handedIn u = true := by
 cases v with
 | non => cases (show u = Value.none from r); rfl
 | bl b => cases (show u = Value.bool b from r); rfl
 | int i => obtain ⟨t, e⟩ := (show ∃ t, u = Value.int i t from r); cases e; rfl
 | str x => obtain ⟨t, e⟩ := (show ∃ t, u = Value.str x t from r); cases e; rfl
 | byt b => obtain ⟨t, e⟩ := (show ∃ t, u = Value.bytes b t from r); cases e; rfl
 | flt b => obtain ⟨t, e⟩ := (show ∃ t, u = Value.float b t from r); cases e; rfl
 | ref a => cases (show u = Value.ref a from r); rfl
 | ty n => cases (show u = Value.type n from r); rfl
section
variable {P : Program} {w : World} {H H' : Hp} {h h' : Heap} {a C dx : Addr} {fs fs' : List (Str × V)}
theorem ins_get (hok : HOk P w H h) (e : H a = some (.ins C dx fs)) : ∃ mA, ObjM h a dx C mA ∧ (∀ f, RelO (fs.lookup f) (mA f)) ∧ PySem.Within mA (fs.map (·.1)) ∧ fs.length ≤ 1000 ∧ H dx = some (.own a) := by
 obtain ⟨d, z, ne, ob, mA, n, r, q⟩ := (show ObjOk P w H h a (.ins C dx fs) from hok a _ e)
 exact ⟨mA, ⟨ob, n, ne⟩, r, q, z, d⟩
end
structure Cls (K : PySem.W.Frag) (C : Addr) : Prop where
 pg : PySem.W.plainGet K C Str.empty = true
 hd : PySem.W.hasDictIn K C = true
 po : PySem.W.plainOver K C = true
 sa : PySem.W.findIn K (.ref C) "__setattr__" = some (some (.builtin "object.__setattr__"))
theorem Cls.get {K : PySem.W.Frag} {C : Addr} (c : Cls K C) (f : Str) : PySem.W.plainGet K C f = true := c.pg
def NoAttr (K : PySem.W.Frag) (C : Addr) (f : Str) : Prop := PySem.W.findIn K (.ref C) f = some none
theorem NoAttr.taker {K : PySem.W.Frag} {C : Addr} {f : Str} (n : NoAttr K C f) : PySem.W.takerIn K C f = some none := by
 unfold PySem.W.takerIn
 rw [show PySem.W.findIn K (.ref C) f = some none from n]
 rfl
structure Con (K : PySem.W.Frag) (C : Addr) (f : Str) (v : V) (u : Value) : Prop where
 at_ : PySem.W.findIn K (.ref C) f = some (some u)
 rel : RelV v u
 get : PySem.W.specialIn K u "__get__" = some none
 cp : PySem.W.copiedNames.contains f = false
structure Meth (K : PySem.W.Frag) (C : Addr) (m : Str) (f : Addr) : Prop where
 at_ : PySem.W.findIn K (.ref C) m = some (some (.ref f))
 fn : PySem.W.isFn K (.ref f) = true
 kp : PySem.W.keepIn K (.ref f) = true
section
variable {X : Cx} {pins : List (Addr × Obj)} {σ : St} {H : Hp} {s : Shared} {a C dx : Addr} {fs : List (Str × V)} {f : Str} {v : V} {A : Around} {E : Value → Shared → Prop}
theorem getattr_ok {b : Bool} {Q : Value → Shared → Prop} (I : Inv X pins σ H s) (e : H a = some (.ins C dx fs)) (c : Cls X.K C) (n : NoAttr X.K C f) (l : fs.lookup f = some v)
   (h : ∀ u s', Inv X pins σ H s' → RelV v u → Q u s') : wpAny (model X.prog X.w) A (getAttr (.ref a) f b) Q E s := by
 obtain ⟨mA, O, r, _, _, _⟩ := ins_get I.hok e
 obtain ⟨u, hu, ru⟩ := RelO.some_of (v := v) (o := mA f) (by rw [← l]; exact r f)
 exact get_map I.kIn O (c.get f) c.hd n hu (handed_of ru) (h u _ (I.tok _) ru)
theorem getmeth_ok {m : Str} {g : Addr} {pl : Sem Bool} {Q : Value × List Value → Shared → Prop} (I : Inv X pins σ H s) (e : H a = some (.ins C dx fs)) (c : Cls X.K C) (k : Meth X.K C m g) (l : fs.lookup m = none)
   (h : Q (.ref g, [.ref a]) s) : wpAny (model X.prog X.w) A (getMethod (.ref a) m pl) Q E s := by
 obtain ⟨mA, O, r, _, _, _⟩ := ins_get I.hok e
 have hn : mA m = none := RelO.none_of (by rw [← l]; exact r m)
 exact get_meth I.kIn O (c.get m) k.at_ k.fn hn h
theorem setattr_ok {y : V} {u : Value} {Q : Unit → Shared → Prop} (I : Inv X pins σ H s) (e : H a = some (.ins C dx fs)) (c : Cls X.K C) (n : NoAttr X.K C f) (hl : fs.length < 1000) (ry : RelV y u)
   (h : ∀ s', Inv X pins σ (upd H a (.ins C dx (putF f y fs))) s' → Q () s') : wpAny (model X.prog X.w) A (setAttr (.ref a) f u) Q E s := by
 obtain ⟨mA, O, r, wi, _, ho⟩ := ins_get I.hok e
 have hz : (fs.map (·.1)).length ≤ sizeLine := by rw [List.length_map, sizeLine_eq]; omega
 refine set_map I.kIn O c.sa c.po n.taker c.hd wi hz fun h' O' sb => h _ ?_
 have hd : ∃ o, h'.get? dx = some o := let ⟨o, _, _, e', _⟩ := O'.ns; ⟨o, e'⟩
 refine I.write (x := a) (e := dx) (by rw [e]; exact True.intro) (.inr ho) (fun b q hb z => (sb.2 b hb).trans z) hd ?_
 refine ⟨by rw [upd_ne O.ne]; exact ho, ?_, O.ne, O'.obj, _, O'.ns, fun g => ?_, fun g hg => ?_⟩
 · have := length_putF f y fs; omega
 · show RelO ((putF f y fs).lookup g) (if g = f then some u else mA g)
   rw [lookup_putF]
   by_cases q : g = f
   · rw [if_pos q, if_pos q]; exact ry
   · rw [if_neg q, if_neg q]; exact r g
 · by_cases q : g = f
   · rw [q]; exact (keys_putF f y fs).1
   · refine (keys_putF f y fs).2 g (wi g fun z => hg ?_)
     show (if g = f then some u else mA g) = none
     rw [if_neg q]; exact z
theorem Inv.made (I : Inv X pins σ H s) : Inv X pins σ (upd (upd H s.heap.objs.size (.own (s.heap.objs.size + 1))) (s.heap.objs.size + 1) (.ins C s.heap.objs.size []))
   { s with heap := (s.heap.push PySem.W.emptyDict).push (PySem.W.instObj C s.heap.objs.size) } := by
 have e1 : (s.heap.push PySem.W.emptyDict).get? s.heap.objs.size = some PySem.W.emptyDict := Heap.get?_push_size s.heap rfl
 have e2 : ((s.heap.push PySem.W.emptyDict).push (PySem.W.instObj C s.heap.objs.size)).get? (s.heap.objs.size + 1) = some (PySem.W.instObj C s.heap.objs.size) := by
   have := Heap.get?_push_size (s.heap.push PySem.W.emptyDict) (o := PySem.W.instObj C s.heap.objs.size) rfl
   rwa [Heap.size_push] at this
 have e3 : (s.heap.push PySem.W.emptyDict).Ns s.heap.objs.size (fun _ => none) := ⟨PySem.W.emptyDict, #[], _, e1, rfl, (fun e he => absurd he (by simp)), fun _ => rfl⟩
 have I1 := I.laid (a := s.heap.objs.size) (o := .own (s.heap.objs.size + 1)) (h' := s.heap.push PySem.W.emptyDict) (t' := s.toks) (fun b u q => Heap.get?_push_of_some _ q) (Nat.le_refl _) ⟨_, e1⟩
 refine I1.laid (a := s.heap.objs.size + 1) (o := .ins C s.heap.objs.size []) (t' := s.toks) (fun b u q => Heap.get?_push_of_some _ q) (Nat.le_of_eq (Heap.size_push _ _)) ?_
 have ne : s.heap.objs.size ≠ s.heap.objs.size + 1 := Nat.ne_of_lt (Nat.lt_succ_self _)
 refine ⟨by rw [upd_ne ne, upd_same], Nat.zero_le _, ne, e2, fun _ => none, (Heap.Ns1.of_empty e3).at fun o q => Heap.get?_push_of_some _ q, fun _ => True.intro, fun y hy => absurd rfl hy⟩
theorem attr_of {prog : Program} {w : World} {env : Env} {e : Expr} {f : Str} {pos : Pos} {s : Shared} {Q : Value → Shared → Prop} (hb : attributeBase e f env (eval e env) = eval e env)
   (h : wpAny (model prog w) A (eval e env) (fun o s₁ => wpAny (model prog w) A (getAttr o f true) Q E s₁) E s) : wpAny (model prog w) A (eval (.Attribute e f pos) env) Q E s :=
 Attribute_any_ h (by rw [arm_eval_Attribute, hb])
end
def tFld (K : PySem.W.Frag) (ta : TE) (f : Str) : TE := fun σ H Q => ta σ H fun x H1 => ∃ a C dx fs v, x = .ref a ∧ H1 a = some (.ins C dx fs) ∧ Cls K C ∧ NoAttr K C f ∧ fs.lookup f = some v ∧ Q v H1
def sFld (K : PySem.W.Frag) (ta tv : TE) (f : Str) : TS := fun D σ H => tv σ H fun y H1 => ta σ H1 fun x H2 => ∃ a C dx fs, x = .ref a ∧ H2 a = some (.ins C dx fs) ∧ Cls K C ∧ NoAttr K C f ∧ fs.length < 1000 ∧
 D.nx σ (upd H2 a (.ins C dx (putF f y fs)))
section
variable {X : Cx} {o e value : Expr} {f : Str} {pos pos' tpos : Pos} {ta tv : TE}
theorem pe_fld (he : PE X e ta) (hb : attributeBase e f X.env (eval e X.env) = eval e X.env) : PE X (.Attribute e f pos) (tFld X.K ta f) := by
 intro pins s σ H Q I h
 refine attr_of hb (thn (he pins s σ H _ I h) fun u s1 ⟨x, H1, I1, rx, a, C, dx, fs, v, ex, ea, c, n, l, q⟩ => ?_)
 subst ex
 obtain rfl : u = Value.ref a := rx
 exact getattr_ok I1 ea c n l fun u' s2 I2 ru => ⟨v, H1, I2, ru, q⟩
theorem ps_fld (ha : PE X o ta) (hv : PE X value tv) (hs : swapsWith value (some (.Attribute o f pos')) pos.line X.env = pure false) : PS X (.Assign [.Attribute o f pos'] value pos) (sFld X.K ta tv f) := by
 intro pins s σ H D I h
 refine plainObj_wpAny_Assign_Attribute (thn (hv pins s σ H _ I h) fun u s1 ⟨y, H1, I1, ry, q⟩ => thn (ha pins s1 σ H1 _ I1 q) fun ov s2 ⟨x, H2, I2, rx, a, C, dx, fs, ex, ea, c, n, l, q2⟩ => ?_) hs
 subst ex
 obtain rfl : ov = Value.ref a := rx
 exact setattr_ok I2 ea c n l ry fun s3 I3 => ⟨σ, _, I3, q2⟩
end
section
variable {X : Cx} {pins : List (Addr × Obj)} {σ : St} {H : Hp} {s : Shared} {A : Around} {E : Value → Shared → Prop} {Q : Value → Shared → Prop} {c : Value} {b : Bool}
inductive TyOf (K : PySem.W.Frag) (H : Hp) : V → Value → Prop where
 | non : TyOf K H .non (.type "NoneType")
 | bl (x : Bool) : TyOf K H (.bl x) (.type "bool")
 | int (i : Int) : TyOf K H (.int i) (.type "int")
 | str (x : Str) : TyOf K H (.str x) (.type "str")
 | flt (x : UInt64) : TyOf K H (.flt x) (.type "float")
 | lst {a : Addr} {xs : List V} (e : H a = some (.lst xs)) : TyOf K H (.ref a) (.type "list")
 | frz {a : Addr} {o : Obj} {xs : List V} (e : H a = some (.frz o (.lst xs))) : TyOf K H (.ref a) (.type "list")
 | tup {a : Addr} {xs : List V} (e : H a = some (.tup xs)) : TyOf K H (.ref a) (.type "tuple")
 | dK {a : Addr} {kvs : List (Key × V)} (e : H a = some (.dK kvs)) : TyOf K H (.ref a) (.type "dict")
 | dT {a : Addr} {kvs : List (List Key × V)} (e : H a = some (.dT kvs)) : TyOf K H (.ref a) (.type "dict")
 | ins {a C dx : Addr} {fs : List (Str × V)} (e : H a = some (.ins C dx fs)) (cl : Cls K C) (ha : PySem.W.findIn K (.ref C) "__class__" = some (some (.builtin "object.__class__")))
     (hn : PySem.W.specialIn K (.builtin "object.__class__") "__get__" = some (some (.builtin "getset_descriptor.__get__"))) (htk : PySem.W.takesIn K (.builtin "object.__class__") = some true)
     (hm : PySem.W.mroIn K C (.type "object") = some true) : TyOf K H (.ref a) (.ref C)
end
end L2
namespace L2
open PySem PySem.Spec PyProof.Rows
structure Room (k : Nat) (A : Around) : Prop where
 hd : A.handled = none
 dp : A.depth + 3 * k + 5 < recursionLimit
 un : A.units + 16 * k + 200 < cLine
theorem Room.mono {j k : Nat} {A : Around} (r : Room k A) (h : j ≤ k) : Room j A := ⟨r.hd, by have := r.dp; omega, by have := r.un; omega⟩
theorem Room.deeper {k : Nat} {A : Around} (r : Room (k + 1) A) (env : Env) : Room k (A.deeper env) :=
 ⟨r.hd, by have := r.dp; show A.depth + 1 + 3 * k + 5 < _; omega, by have := r.un; show A.units + 3 + 16 * k + 200 < _; omega⟩
theorem make_depth {A : Around} {C : Addr} {us : List Value} {kw : List (Str × Value)} : (A.under (.builtin "type.__call__" ⟨.ref C :: us, kw⟩)).depth = A.depth + 1 := by
 first | rfl | simp [Around.under, Code.weight, Code.isCreation, Code.isGuard, Code.isCaller, Code.frames, Code.isFrame, guardIds]
theorem make_units {A : Around} {C : Addr} {us : List Value} {kw : List (Str × Value)} : (A.under (.builtin "type.__call__" ⟨.ref C :: us, kw⟩)).units = A.units + 1 := by
 first | rfl | simp [Around.under, Code.cUnits, Code.frames, Code.isFrame]
theorem Room.make {k : Nat} {A : Around} (r : Room (k + 1) A) (C : Addr) (us : List Value) (kw : List (Str × Value)) : Room k (A.under (.builtin "type.__call__" ⟨.ref C :: us, kw⟩)) :=
 ⟨r.hd, by have := r.dp; rw [make_depth]; omega, by have := r.un; rw [make_units]; omega⟩
theorem Room.depth {k : Nat} {A : Around} (r : Room k A) : A.depth < recursionLimit := by have := r.dp; omega
theorem Room.units {k : Nat} {A : Around} (r : Room k A) : A.units + 64 < cLine := by have := r.un; omega
def tNil : TA := fun _ H Q => Q [] H
def tCons (ta : TE) (tr : TA) : TA := fun σ H Q => ta σ H fun x H1 => tr σ H1 fun xs H2 => Q (x :: xs) H2
section
variable {X : Cx} {e : Expr} {es : List Expr} {te : TE} {t : TA} {pos : Pos}
theorem pa_nil : PA X [] tNil := fun _ _ _ _ H Q I h => Calls.spliced_nil ⟨[], H, I, .nil, h⟩
theorem pa_cons (ha : PE X e te) (hr : PA X es t) (hs : starEach (e :: es) X.env = (false, eval e X.env) :: starEach es X.env := by rfl) : PA X (e :: es) (tCons te t) := by
 intro pos pins s σ H Q I h
 rw [hs]
 show wpAny _ _ (spliced ((false, eval e X.env) :: backTo pos (starEach es X.env))) _ _ s
 refine Calls.spliced_cons (thn (ha pins s σ H _ I h) fun u s1 ⟨x, H1, I1, r1, q1⟩ => ?_)
 exact thn (hr pos pins s1 σ H1 _ I1 q1) fun us s2 ⟨xs, H2, I2, r2, q2⟩ => ⟨x :: xs, H2, I2, .cons r1 r2, q2⟩
def tTup (t : TA) : TE := fun σ H Q => t σ H fun xs H1 => xs.length ≤ sizeLine ∧ ∀ p, H1 p = none → Q (.ref p) (upd H1 p (.tup xs))
def tLst (t : TA) : TE := fun σ H Q => t σ H fun xs H1 => xs.length ≤ sizeLine ∧ ∀ p, H1 p = none → Q (.ref p) (upd H1 p (.lst xs))
theorem pe_tup {x1} (h : PA X es t) : PE X (.Tuple es x1 pos) (tTup t) := by
 intro pins s σ H Q I hq
 refine wpAny_Tuple_spliced (thn (h pos pins s σ H _ I hq) fun us s1 ⟨xs, H1, I1, r, z, q⟩ => ⟨by rw [← r.length]; exact z, ?_⟩)
 have hf : H1 s1.heap.objs.size = none := I1.hok.fresh (Nat.le_refl _)
 refine ⟨.ref s1.heap.objs.size, upd H1 s1.heap.objs.size (.tup xs), I1.laid (t' := s1.toks) (fun b u e => Heap.get?_push_of_some _ e) (Nat.le_refl _) ?_, rfl, q _ hf⟩
 exact ⟨z, us, r, ⟨_, Heap.get?_push_size _ rfl, rfl, _, rfl⟩⟩
theorem pe_lst (h : PA X es t) : PE X (.List es pos) (tLst t) := by
 intro pins s σ H Q I hq
 refine wpAny_List_spliced (thn (h pos pins s σ H _ I hq) fun us s1 ⟨xs, H1, I1, r, z, q⟩ => ⟨by rw [← r.length]; exact z, ?_⟩)
 have hf : H1 s1.heap.objs.size = none := I1.hok.fresh (Nat.le_refl _)
 refine ⟨.ref s1.heap.objs.size, upd H1 s1.heap.objs.size (.lst xs), I1.laid (t' := s1.toks) (fun b u e => Heap.get?_push_of_some _ e) (Nat.le_refl _) ?_, rfl, q _ hf⟩
 exact ⟨z, us, 0, r, Heap.get?_push_size _ rfl⟩
end
abbrev Sp := List V → Hp → VK → XK → Prop
abbrev CXT := List Env → Hp → Shared → XK → Value → Shared → Prop
structure Env0 (P : Program) (w : World) (K : PySem.W.Frag) (mg : Str → Option Value) (base : Heap) (A : Around) (outer : List Env) (s : Shared) (H : Hp) : Prop where
 frames : A.frames = some outer
 mod : Mod K mg base
 bs : ∀ b o, base.get? b = some o → s.heap.get? b = some o ∧ H b = none
 bsz : base.objs.size ≤ s.heap.objs.size
 funs : s.heap.FunFrames base outer
 frf : ∀ b ∈ frs outer, H b = none
 hok : HOk P w H s.heap
 bare : AllBare s.gens
def CE (outer : List Env) (P : Program) (w : World) (H : Hp) (s : Shared) (Q : VK) (u : Value) (s' : Shared) : Prop :=
 ∃ v H', s'.os = s.os ∧ AllBare s'.gens ∧ Un (frs outer) [] H H' s.heap s'.heap ∧ HOk P w H' s'.heap ∧ RelV v u ∧ Q v H'
def CR (CX : CXT) (outer : List Env) (P : Program) (w : World) (H : Hp) (s : Shared) (Q : VK) (E : XK) (r : Result) (s' : Shared) : Prop :=
 match r with
 | .ok (.ret u) => CE outer P w H s Q u s'
 | .ok _ => False
 | .error e => CX outer H s E e s'
structure FnOk (P : Program) (w : World) (K : PySem.W.Frag) (mg : Str → Option Value) (base : Heap) (CX : CXT) (k : Nat) (f : Addr) (fd : FuncData) (ps : List Str) (sp : Sp) : Prop where
 len : ∀ vs H Q E, sp vs H Q E → vs.length = ps.length
 run : ∀ (A : Around) (outer : List Env) (s : Shared) (H : Hp) (args : Args) (us : List Value) (vs : List V) (Q : VK) (E : XK), Room k A → Env0 P w K mg base A outer s H → BindsTo s fd args (ps.zip us) → Vals vs us → sp vs H Q E →
   codeAny (model P w) A (.call (.ref f) args) (CR CX outer P w H s Q E) s
theorem Env0.make {P : Program} {w : World} {K : PySem.W.Frag} {mg : Str → Option Value} {base : Heap} {A : Around} {outer : List Env} {s : Shared} {H : Hp} (e : Env0 P w K mg base A outer s H) (C : Addr) (us : List Value) (kw : List (Str × Value)) :
   Env0 P w K mg base (A.under (.builtin "type.__call__" ⟨.ref C :: us, kw⟩)) outer s H := ⟨by first | exact e.frames | (simpa [Around.under, Code.envs, Code.isFrame, pushEnvs] using e.frames), e.mod, e.bs, e.bsz, e.funs, e.frf, e.hok, e.bare⟩
section
variable {X : Cx} {pins : List (Addr × Obj)} {σ : St} {H : Hp} {s s' : Shared}
theorem Inv.env0 (I : Inv X pins σ H s) : Env0 X.prog X.w X.K X.mg X.base X.A X.stack s H :=
 ⟨I.ok.frames, I.ok.mod, I.bs, Nat.le_trans I.ok.bsz I.sz, I.stack, I.stkFree, I.hok, I.bare⟩
theorem Inv.after {Q : VK} {u : Value} (I : Inv X pins σ H s) (h : CE X.stack X.prog X.w H s Q u s') : EP X pins σ Q u s' := by
 obtain ⟨v, H', os, bare, un, hok, r, q⟩ := h
 obtain ⟨hh, g, d, t, os'⟩ := s'
 obtain rfl : os' = s.os := os
 exact ⟨v, H', I.call (h' := hh) (g' := g) (d' := d) (t' := t) (ch := []) un hok bare (fun b z => absurd z (by simp)), r, q⟩
end
def tCall (sp : Sp) (dvs : List V) (E : XK) (t : TA) : TE := fun σ H Q => t σ H fun vs H1 => sp (vs ++ dvs) H1 Q E
def tMake (C : Addr) (sp : Sp) (dvs : List V) (E : XK) (t : TA) : TE := fun σ H Q => t σ H fun vs H1 => ∀ x dx, H1 x = none → H1 dx = none → dx ≠ x →
 sp (.ref x :: (vs ++ dvs)) (upd (upd H1 dx (.own x)) x (.ins C dx [])) (fun v H2 => v = .non ∧ Q (.ref x) H2) E
def Binds (K : PySem.W.Frag) (fd : FuncData) (ps : List Str) (ds : List Value) : Prop :=
 ∀ (s : Shared) (us : List Value), K.In s.heap → (us ++ ds).length = ps.length → BindsTo s fd ⟨us, []⟩ (ps.zip (us ++ ds))
theorem Binds.all {K : PySem.W.Frag} {fd : FuncData} {ps : List Str} (h : ∀ us : List Value, us.length = ps.length → bindArgs fd ⟨us, []⟩ = pure (ps.zip us)) : Binds K fd ps [] := fun s us _ hl => by
 rw [List.append_nil] at hl ⊢
 exact .of_eq (h us hl)
def Passes (CX : CXT) (X : Cx) (E : XK) : Prop := ∀ (pins : List (Addr × Obj)) (σ : St) (H : Hp) (s : Shared) (e : Value) (s' : Shared), Inv X pins σ H s → CX X.stack H s E e s' → X.xe e s'
section
variable {X : Cx} {CX : CXT} {k : Nat} {f C : Addr} {fd : FuncData} {ps : List Str} {sp : Sp} {dvs : List V} {ds : List Value} {E : XK} {x m : Str} {p pos apos : Pos} {e o : Expr} {es : List Expr} {ta : TE} {t : TA}
theorem run_fn {pins : List (Addr × Obj)} {σ : St} {H : Hp} {s : Shared} {Q : VK} {us : List Value} {vs : List V} (F : FnOk X.prog X.w X.K X.mg X.base CX k f fd ps sp) (hr : Room k X.A) (hb : Binds X.K fd ps ds) (hd : Vals dvs ds) (hx : Passes CX X E)
   (I : Inv X pins σ H s) (r : Vals vs us) (h : sp (vs ++ dvs) H Q E) : wpAny (model X.prog X.w) X.A (call (.ref f) us) (EP X pins σ Q) X.xe s := by
 have r2 : Vals (vs ++ dvs) (us ++ ds) := r.append hd
 have hl : (us ++ ds).length = ps.length := by rw [← r2.length]; exact F.len _ _ _ _ h
 refine wpAny_call (codeAny_mono (F.run X.A X.stack s H ⟨us, []⟩ (us ++ ds) (vs ++ dvs) Q E hr I.env0 (hb s us I.kIn hl) r2 h) fun r s' hq => ?_)
 cases r with
 | error e => exact hx pins σ H s e s' I hq
 | ok fl =>
   cases fl with
   | ret u => exact I.after hq
   | next => exact False.elim hq
   | brk => exact False.elim hq
   | cont => exact False.elim hq
theorem pe_call (F : FnOk X.prog X.w X.K X.mg X.base CX k f fd ps sp) (hr : Room k X.A) (hg : Gl X x) (hm : X.mg x = some (.ref f)) (hk : PySem.W.keepIn X.K (.ref f) = true) (hb : Binds X.K fd ps ds) (hd : Vals dvs ds) (hx : Passes CX X E)
   (ha : PA X (e :: es) t) (hdb : (x == ("__debug__" : Str)) = false := by decide) (he : starEach (e :: es) X.env = (false, eval e X.env) :: starEach es X.env := by rfl) (hpl : (backTo pos (starEach es X.env)).any (·.1) = false := by rfl) :
   PE X (.Call (.Name x p) (e :: es) [] pos) (tCall sp dvs E t) := by
 intro pins s σ H Q I h
 refine wpAny_Call_Name_kw (ld_glob I hg hm ?_ hdb)
 refine PySem.W.callWith_K (h₀ := X.base) I.ok.mod.kin hk (thn (ha pos pins s σ H _ I h) fun us s1 ⟨vs, H1, I1, r, q⟩ => ⟨I1.kIn, ?_⟩) he hpl
 exact run_fn F hr hb hd hx I1 r q
theorem pe_call0 (F : FnOk X.prog X.w X.K X.mg X.base CX k f fd ps sp) (hr : Room k X.A) (hg : Gl X x) (hm : X.mg x = some (.ref f)) (hk : PySem.W.keepIn X.K (.ref f) = true) (hb : Binds X.K fd ps ds) (hd : Vals dvs ds) (hx : Passes CX X E)
   (hdb : (x == ("__debug__" : Str)) = false := by decide) : PE X (.Call (.Name x p) [] [] pos) (tCall sp dvs E tNil) := by
 intro pins s σ H Q I h
 refine wpAny_Call_Name_kw (ld_glob I hg hm ?_ hdb)
 exact PySem.W.callWith_K0 I.kIn hk (run_fn (us := []) F hr hb hd hx I .nil h)
structure Mk (K : PySem.W.Frag) (C f : Addr) : Prop where
 makes : PySem.W.makesIn K C = true
 init : PySem.W.findIn K (.ref C) "__init__" = some (some (.ref f))
 fn : PySem.W.isFn K (.ref f) = true
 kp : PySem.W.keepIn K (.ref C) = true
theorem run_make {pins : List (Addr × Obj)} {σ : St} {H : Hp} {s : Shared} {Q : VK} {us : List Value} {vs : List V} (M : Mk X.K C f) (F : FnOk X.prog X.w X.K X.mg X.base CX k f fd ps sp) (hr : Room (k + 1) X.A) (hb : Binds X.K fd ps ds) (hd : Vals dvs ds)
   (hx : Passes CX X E) (I : Inv X pins σ H s) (r : Vals vs us)
   (h : ∀ x dx, H x = none → H dx = none → dx ≠ x → sp (.ref x :: (vs ++ dvs)) (upd (upd H dx (.own x)) x (.ins C dx [])) (fun v H2 => v = .non ∧ Q (.ref x) H2) E) :
   wpAny (model X.prog X.w) X.A (call (.ref C) us) (EP X pins σ Q) X.xe s := by
 have hq := h (s.heap.objs.size + 1) s.heap.objs.size (I.hok.fresh (Nat.le_succ _)) (I.hok.fresh (Nat.le_refl _)) (Nat.ne_of_lt (Nat.lt_succ_self _))
 have I2 := Inv.made (C := C) I
 have r2 : Vals (V.ref (s.heap.objs.size + 1) :: (vs ++ dvs)) (Value.ref (s.heap.objs.size + 1) :: (us ++ ds)) := .cons rfl (r.append hd)
 have hl : (Value.ref (s.heap.objs.size + 1) :: us ++ ds).length = ps.length := by
   have e := r2.length
   rw [F.len _ _ _ _ hq] at e
   exact e.symm
 refine wpAny_call (make_map (f := f) I.kIn M.makes M.init (beq_iff_eq.mp M.fn) (codeAny_mono (F.run _ X.stack _ _ ⟨Value.ref (s.heap.objs.size + 1) :: us, []⟩ (Value.ref (s.heap.objs.size + 1) :: (us ++ ds)) _ _ E (hr.make C us [])
   (I2.env0.make C us []) (hb _ (Value.ref (s.heap.objs.size + 1) :: us) I2.kIn hl) r2 hq) fun r s' hq' => ?_))
 cases r with
 | error e => exact hx pins σ _ _ e s' I2 hq'
 | ok fl =>
   cases fl with
   | ret u =>
     obtain ⟨v, H', I3, rv, ev, q3⟩ := I2.after hq'
     subst ev
     exact ⟨rv, ⟨V.ref (s.heap.objs.size + 1), H', I3, rfl, q3⟩⟩
   | next => exact False.elim hq'
   | brk => exact False.elim hq'
   | cont => exact False.elim hq'
theorem pe_make0 (M : Mk X.K C f) (F : FnOk X.prog X.w X.K X.mg X.base CX k f fd ps sp) (hr : Room (k + 1) X.A) (hg : Gl X x) (hm : X.mg x = some (.ref C)) (hb : Binds X.K fd ps ds) (hd : Vals dvs ds) (hx : Passes CX X E)
   (hdb : (x == ("__debug__" : Str)) = false := by decide) : PE X (.Call (.Name x p) [] [] pos) (tMake C sp dvs E tNil) := by
 intro pins s σ H Q I h
 refine wpAny_Call_Name_kw (ld_glob I hg hm ?_ hdb)
 exact PySem.W.callWith_K0 I.kIn M.kp (run_make (us := []) M F hr hb hd hx I .nil h)
end
section
variable {X : Cx} {CX : CXT} {k : Nat} {f C : Addr} {fd : FuncData} {ps ks : List Str} {sp : Sp} {E : XK} {x m : Str} {p pos apos kpos : Pos} {e o : Expr} {es : List Expr} {kws : List Keyword} {te ta : TE} {t tk : TA} {nm : Option Str}
structure KBinds (K : PySem.W.Frag) (fd : FuncData) (ps ks : List Str) (g : List Value → List Value → List Value) (gV : List V → List V → List V) : Prop where
 to : ∀ (s : Shared) (us ws : List Value), K.In s.heap → (g us ws).length = ps.length → BindsTo s fd ⟨us, ks.zip ws⟩ (ps.zip (g us ws))
 rel : ∀ {vs : List V} {us : List Value} {zs : List V} {ws : List Value}, Vals vs us → Vals zs ws → Vals (gV vs zs) (g us ws)
variable {g : List Value → List Value → List Value} {gV : List V → List V → List V}
end
structure FnScope (N P : List Str) (sc : Scope) : Prop where
 kind : sc.kind = .function
 co : sc.isCoroutine = false
 gen : sc.isGenerator = false
 nd : N.Nodup
 pre : N.take P.length = P
 par : ∀ x ∈ P, sc.names.lookup x = some .local ∨ sc.names.lookup x = some .cell
 nofree : ∀ y ∈ sc.names, y.2 ≠ .free
theorem bindL_out {kindOf : Str → Option NameKind} {x : Str} : ∀ {binds : List (Str × Value)} {m : Str → Option Value}, (∀ v, (x, v) ∉ binds) → bindL kindOf binds m x = m x
 | [], _, _ => rfl
 | (n, v) :: r, m, h => by
   unfold bindL
   rw [bindL_out fun w hw => h w (List.mem_cons_of_mem _ hw)]
   split
   · have : x ≠ n := by rintro rfl; exact h v List.mem_cons_self
     simp [this]
   · rfl
theorem bindC_out {kindOf : Str → Option NameKind} {x : Str} : ∀ {binds : List (Str × Value)} {m : Str → Option Value}, (∀ v, (x, v) ∉ binds) → bindC kindOf binds m x = m x
 | [], _, _ => rfl
 | (n, v) :: r, m, h => by
   unfold bindC
   rw [bindC_out fun w hw => h w (List.mem_cons_of_mem _ hw)]
   split
   · rfl
   · have : x ≠ n := by rintro rfl; exact h v List.mem_cons_self
     simp [this]
theorem bindL_get {kindOf : Str → Option NameKind} {x : Str} {v : Value} : ∀ {P : List Str} {vs : List Value} {i : Nat} {m : Str → Option Value}, P.Nodup → P[i]? = some x → vs[i]? = some v → kindOf x = some .local →
   bindL kindOf (P.zip vs) m x = some v
 | [], _, _, _, _, h, _, _ => by simp at h
 | _ :: _, [], _, _, _, _, h, _ => by simp at h
 | p :: P, w :: vs, 0, m, nd, h1, h2, hk => by
   simp at h1 h2; subst h1; subst h2
   show bindL kindOf ((p, w) :: P.zip vs) m p = _
   unfold bindL
   rw [bindL_out fun v hv => (List.nodup_cons.mp nd).1 (List.of_mem_zip hv).1, if_pos hk]
   simp
 | p :: P, w :: vs, i + 1, m, nd, h1, h2, hk => by
   show bindL kindOf ((p, w) :: P.zip vs) m x = _
   unfold bindL
   exact bindL_get (i := i) (List.nodup_cons.mp nd).2 (by simpa using h1) (by simpa using h2) hk
theorem bindC_get {kindOf : Str → Option NameKind} {x : Str} {v : Value} : ∀ {P : List Str} {vs : List Value} {i : Nat} {m : Str → Option Value}, P.Nodup → P[i]? = some x → vs[i]? = some v → kindOf x ≠ some .local →
   bindC kindOf (P.zip vs) m x = some v
 | [], _, _, _, _, h, _, _ => by simp at h
 | _ :: _, [], _, _, _, _, h, _ => by simp at h
 | p :: P, w :: vs, 0, m, nd, h1, h2, hk => by
   simp at h1 h2; subst h1; subst h2
   show bindC kindOf ((p, w) :: P.zip vs) m p = _
   unfold bindC
   rw [bindC_out fun v hv => (List.nodup_cons.mp nd).1 (List.of_mem_zip hv).1, if_neg hk]
   simp
 | p :: P, w :: vs, i + 1, m, nd, h1, h2, hk => by
   show bindC kindOf ((p, w) :: P.zip vs) m x = _
   unfold bindC
   exact bindC_get (i := i) (List.nodup_cons.mp nd).2 (by simpa using h1) (by simpa using h2) hk
def start (N : List Str) (vs : List V) : St := vs.map some ++ List.replicate (N.length - vs.length) none
def cxOf (CX : CXT) (P : Program) (w : World) (K : PySem.W.Frag) (mg : Str → Option Value) (base : Heap) (N : List Str) (qual : Str) (scope : Scope) (f : Addr) (cd : Value) (A : Around) (outer : List Env) (s : Shared) (H : Hp) (E : XK) : Cx where
 prog := P
 w := w
 K := K
 mg := mg
 base := base
 A := A.deeper (envOfC qual scope s.heap.objs.size f cd)
 N := N
 s₀ := s
 H₀ := H
 env := envOfC qual scope s.heap.objs.size f cd
 outer := outer
 stack := envOfC qual scope s.heap.objs.size f cd :: outer
 ex := []
 calm := true
 fn := fun _ => true
 pn := []
 xe := fun e s' => wpAny (model P w) (A.deeper (envOfC qual scope s.heap.objs.size f cd)) (leaving (envOfC qual scope s.heap.objs.size f cd) e) (fun _ s'' => CX outer H s E e s'') (fun e' s'' => CX outer H s E e' s'') s'
theorem cell_has {sc : Scope} {n : Nat} {x : Str} (h : sc.names.lookup x = some .cell) : ∃ c, (cellsFrom n sc.names []).lookup x = some c := by
 have q := PySem.W.cellsFrom_some sc.names n [] (.inl h)
 exact Option.isSome_iff_exists.mp q
theorem inv_start {CX : CXT} {P : Program} {w : World} {K : PySem.W.Frag} {mg : Str → Option Value} {base : Heap} {N ps : List Str} {qual : Str} {scope : Scope} {f : Addr} {cd : Value} {A : Around} {outer : List Env} {s s1 : Shared} {H : Hp} {E : XK} {us : List Value} {vs : List V}
   (S : FnScope N ps scope) (hd : A.handled = none) (e0 : Env0 P w K mg base A outer s H) (hl : vs.length = ps.length) (r : Vals vs us)
   (x : InCallC s s.heap.objs.size (bindL (envOfC qual scope s.heap.objs.size f cd).kindOf (ps.zip us) fun _ => none) (cellsFrom (s.heap.objs.size + 1) scope.names []) (bindC (envOfC qual scope s.heap.objs.size f cd).kindOf (ps.zip us) fun _ => none) s1) :
   Inv (cxOf CX P w K mg base N qual scope f cd A outer s H E) [] (start N vs) H s1 := by
 have hpl : ps.length ≤ N.length := by have := congrArg List.length S.pre; rw [List.length_take] at this; omega
 obtain ⟨h1, tk, rfl, hk⟩ := x.done
 have noA : ∀ b : Addr, b ∉ (cxOf CX P w K mg base N qual scope f cd A outer s H E).ex := fun b z => absurd (show b ∈ ([] : List Addr) from z) (by simp)
 refine ⟨⟨e0.mod, S.kind, rfl, rfl, Nat.le_refl _, fun y z c h1 h2 => ?_, fun y hy => ?_, fun y c _ h => ?_, fun _ => hd, Around.frames_deeper e0.frames, .inr ⟨rfl, rfl⟩, fun b z => absurd z (noA b), e0.bs, e0.bsz, fun b _ _ => noA b, fun b z => absurd z (noA b), e0.funs, e0.frf⟩,
   rfl, e0.bare, Un.kept hk, ⟨_, x.toInCall.ns, fun i y v h1 h2 h3 => ?_⟩, fun y c h => ⟨_, x.cell y c h⟩, e0.hok.fresh (Nat.le_refl _), fun y c h => ?_, fun p hp => absurd (show p ∈ ([] : List (Addr × Obj)) from hp) (by simp), e0.hok.kept hk, ?_⟩
 · exact name_of_addr x.apart (PySem.mem_of_lookup h1) (PySem.mem_of_lookup h2)
 · have hy : scope.names.lookup y = some .cell ∨ scope.names.lookup y = some .free := hy
   rcases hy with hy | hy
   · exact cell_has hy
   · exact absurd rfl (S.nofree _ (PySem.mem_of_lookup hy))
 · exact Nat.le_of_lt (x.above y c (PySem.mem_of_lookup h))
 · have hi : i < vs.length := by
     unfold start at h2
     by_cases hi : i < vs.length
     · exact hi
     · rw [List.getElem?_append_right (by simpa using hi)] at h2
       rw [List.getElem?_replicate] at h2
       split at h2 <;> cases h2
   have ha : vs[i]? = some v := by
     unfold start at h2
     rw [List.getElem?_append_left (by simpa using hi), List.getElem?_map] at h2
     cases e : vs[i]? with
     | none => rw [e] at h2; cases h2
     | some a => rw [e] at h2; cases h2; rfl
   obtain ⟨u, hu, rv⟩ := r.get ha
   have hp : ps[i]? = some y := by
     rw [← S.pre, List.getElem?_take_of_lt (by omega)]; exact h1
   have ndP : ps.Nodup := by rw [← S.pre]; exact S.nd.sublist (List.take_sublist _ _)
   refine ⟨u, rv, ?_⟩
   rcases S.par y (List.mem_of_getElem? hp) with k | k
   · exact .inl ⟨k, bindL_get ndP hp hu k⟩
   · obtain ⟨c, e⟩ := cell_has (n := s.heap.objs.size + 1) k
     refine .inr ⟨.inl k, c, e, ?_⟩
     have q := x.cell y c e
     rw [bindC_get ndP hp hu (by show scope.names.lookup y ≠ _; rw [k]; decide)] at q
     exact q
 · exact e0.hok.fresh (Nat.le_of_lt (x.above y c (PySem.mem_of_lookup h)))
 · unfold start
   show _ = N.length
   rw [List.length_append, List.length_map, List.length_replicate]
   omega
theorem fn_of {CX : CXT} {P : Program} {w : World} {K : PySem.W.Frag} {mg : Str → Option Value} {base : Heap} {k : Nat} {f : Addr} {name qual : Str} {params : Arguments} {body : List Stmt} {scope : Scope} {dV kV doc pm cdv ct oc : Value} {an od : Option Addr}
   {osl : Array (Option Value)} {N ps : List Str} {sp : Sp} (lk : K.lookup f = some ⟨oc, od, .func (PySem.W.fnOf name qual params body scope dV kV doc pm an cdv ct), osl⟩) (hcd : PySem.W.codeIn K cdv qual = true) (S : FnScope N ps scope)
   (len : ∀ vs H Q E, sp vs H Q E → vs.length = ps.length)
   (hbody : ∀ (A : Around) (outer : List Env) (s : Shared) (H : Hp) (vs : List V) (Q : VK) (E : XK), Room k (A.deeper (envOfC qual scope s.heap.objs.size f cdv)) → sp vs H Q E →
     ∃ t, PSs (cxOf CX P w K mg base N qual scope f cdv A outer s H E) body t ∧ t { nx := fun _ H' => Q .non H', rt := Q } (start N vs) H) :
   FnOk P w K mg base CX (k + 1) f (PySem.W.fnOf name qual params body scope dV kV doc pm an cdv ct) ps sp := by
 refine ⟨len, fun A outer s H args us vs Q E hr e0 hb r hsp => ?_⟩
 have hl := len _ _ _ _ hsp
 have KX : K.In s.heap := e0.mod.kin.keeps fun b o e => (e0.bs b o e).1
 have lim : s.heap.NoLimit := e0.mod.nolimit.keeps fun b o e => (e0.bs b o e).1
 have hkind : ∀ y ∈ ps.zip us, scope.names.lookup y.1 = some .local ∨ (scope.names.lookup y.1 = some .cell ∧ ((cellsFrom (s.heap.objs.size + 1) scope.names []).lookup y.1).isSome = true) := fun ⟨n, v⟩ hy => by
   rcases S.par n (List.of_mem_zip hy).1 with q | q
   · exact .inl q
   · exact .inr ⟨q, PySem.W.cellsFrom_some _ _ _ (.inl q)⟩
 refine codeAny_call_function hr.depth (KX _ _ lk) rfl S.co S.gen rfl (PySem.W.codeRec_of KX hcd) (hb _ _ _ _ ?_)
 refine wpAny_newFunctionEnv_cells S.kind hkind fun env he s1 x => ?_
 subst he
 refine ⟨lim.keeps x.toInCall.keep, codeAny_func ?_⟩
 obtain ⟨t, ht, hq⟩ := hbody A outer s H vs Q E (hr.deeper _) hsp
 have I : Inv (cxOf CX P w K mg base N qual scope f cdv A outer s H E) [] (start N vs) H s1 := inv_start S hr.hd e0 hl r x
 refine wpAny_mono (ht [] s1 (start N vs) H _ I hq) (fun fl s' hs => ?_) fun e s' hs => hs
 have fin : ∀ {σ' : St} {H' : Hp} {v : V} {u : Value}, Inv (cxOf CX P w K mg base N qual scope f cdv A outer s H E) [] σ' H' s' → RelV v u → Q v H' → CE outer P w H s Q u s' :=
   fun {σ' H' v u} J rv q => ⟨v, H', J.os, J.bare, J.base, J.hok, rv, q⟩
 cases fl with
 | ret u =>
   obtain ⟨v, σ', H', J, rv, q⟩ := hs
   exact fin J rv q
 | next =>
   obtain ⟨σ', H', J, q⟩ := hs
   exact fin (v := V.non) (u := Value.none) J rfl q
 | brk =>
   obtain ⟨_, _, _, q⟩ := hs
   exact False.elim q
 | cont =>
   obtain ⟨_, _, _, q⟩ := hs
   exact False.elim q
end L2
namespace L2
open PySem PySem.Spec PyProof.Rows
section
variable {X : Cx} {x : Str} {p pos : Pos} {e : Expr} {es : List Expr} {t : TA} {id T : String} {r : List V → Hp → VK → Prop}
def tCB (r : List V → Hp → VK → Prop) (t : TA) : TE := fun σ H Q => t σ H fun vs H1 => r vs H1 Q
theorem pe_callB (hc : CallR X (.builtin id) r) (hg : Gl X x) (hm : X.mg x = none) (hv : bootBuiltins x = some (.builtin id)) (ha : PA X (e :: es) t) (hn : x ≠ "__name__" := by decide) (hdb : (x == ("__debug__" : Str)) = false := by decide)
   (he : starEach (e :: es) X.env = (false, eval e X.env) :: starEach es X.env := by rfl) (hpl : (backTo pos (starEach es X.env)).any (·.1) = false := by rfl) : PE X (.Call (.Name x p) (e :: es) [] pos) (tCB r t) := by
 intro pins s σ H Q I h
 refine wpAny_Call_Name_kw (ld_blt I hg hm hv ?_ hn hdb)
 exact PyProof.Rows.callWith_builtin1 (thn (ha pos pins s σ H _ I h) fun us s1 ⟨vs, H1, I1, r1, q1⟩ => hc pins s1 σ H1 vs us Q I1 r1 q1) he hpl
theorem pe_callTy (hc : CallR X (.type T) r) (hg : Gl X x) (hm : X.mg x = none) (hv : bootBuiltins x = some (.type T)) (ha : PA X (e :: es) t) (hn : x ≠ "__name__" := by decide) (hdb : (x == ("__debug__" : Str)) = false := by decide)
   (he : starEach (e :: es) X.env = (false, eval e X.env) :: starEach es X.env := by rfl) (hpl : (backTo pos (starEach es X.env)).any (·.1) = false := by rfl) : PE X (.Call (.Name x p) (e :: es) [] pos) (tCB r t) := by
 intro pins s σ H Q I h
 refine wpAny_Call_Name_kw (ld_blt I hg hm hv ?_ hn hdb)
 exact PyProof.Rows.callWith_type1 (thn (ha pos pins s σ H _ I h) fun us s1 ⟨vs, H1, I1, r1, q1⟩ => hc pins s1 σ H1 vs us Q I1 r1 q1) he hpl
end
end L2
namespace HT
open PySem PyProof.Rows
section
open PySem.SeqAt
open PySem.AutoSeq1 (wpAny_loadPart')
open PySem.MeetsSeq PySem.MeetsSeq2 PySem.MeetsSeq3
end
section
variable {prog : Program} {w : World} {A : Around} {E : Value → Shared → Prop} {s : Shared}
def sIx (n d : Nat) : Option Int → Nat
 | none => d
 | some v => if v < 0 then (v + (n : Int)).toNat else min v.toNat n
theorem sIx_le (n d : Nat) (hd : d ≤ n) (o : Option Int) : sIx n d o ≤ n := by
 cases o with
 | none => exact hd
 | some v =>
   show (if v < 0 then (v + (n : Int)).toNat else min v.toNat n) ≤ n
   by_cases hv : v < 0
   · rw [if_pos hv]; omega
   · rw [if_neg hv]; exact Nat.min_le_right _ _
end
end HT
namespace L2
open PySem PySem.Spec PyProof.Rows
abbrev TO := St → Hp → (Option Int → Hp → Prop) → Prop
def PO (X : Cx) (e : Option Expr) (t : TO) : Prop :=
 ∀ (pins : List (Addr × Obj)) (s : Shared) (σ : St) (H : Hp) (Q : Option Int → Hp → Prop), Inv X pins σ H s → t σ H Q →
   wpAny (model X.prog X.w) X.A (evalPart e X.env) (fun u s' => ∃ o H', Inv X pins σ H' s' ∧ IsPart u o ∧ Q o H') X.xe s
def tNoPart : TO := fun _ H Q => Q none H
def tPart (t : TE) : TO := fun σ H Q => t σ H fun x H1 => ∃ i, x = .int i ∧ Q (some i) H1
section
variable {X : Cx} {e : Expr} {te : TE} {lo hi : Option Expr} {tl th : TO} {pos p2 : Pos}
theorem po_none : PO X none tNoPart := by
 intro pins s σ H Q I h
 rw [evalPart_none]
 exact wpAny_pure ⟨none, H, I, .none, h⟩
theorem po_some (h : PE X e te) : PO X (some e) (tPart te) := by
 intro pins s σ H Q I hw
 rw [evalPart_some]
 refine thn (h pins s σ H _ I hw) fun u s1 ⟨x, H1, I1, r1, q1⟩ => ?_
 obtain ⟨i, rfl, q⟩ := q1
 obtain ⟨t, rfl⟩ := r1
 exact ⟨some i, H1, I1, .int i t, q⟩
def SlR (X : Cx) (r : V → Option Int → Option Int → Hp → VK → Prop) : Prop :=
 ∀ (pins : List (Addr × Obj)) (s : Shared) (σ : St) (H : Hp) (x : V) (v vl vu : Value) (lo hi : Option Int) (sl : Addr) (Q : VK), Inv X pins σ H s → RelV x v → s.heap.IsSliceOf sl vl vu .none → IsPart vl lo → IsPart vu hi → r x lo hi H Q →
   ∃ T id, typeLookup (.type T) "__getitem__" = pure (some (.builtin id)) ∧ s.TypeIs v T ∧ wpAny (model X.prog X.w) X.A (getItem v (.ref sl)) (EP X pins σ Q) X.xe s
def tSl (r : V → Option Int → Option Int → Hp → VK → Prop) (te : TE) (tl th : TO) : TE := fun σ H Q => te σ H fun x H1 => tl σ H1 fun l H2 => th σ H2 fun u H3 => r x l u H3 Q
theorem pe_slice {r : V → Option Int → Option Int → Hp → VK → Prop} (hr : SlR X r) (he : PE X e te) (hl : PO X lo tl) (hu : PO X hi th) : PE X (.Subscript e (.Slice lo hi none p2) pos) (tSl r te tl th) := by
 intro pins s σ H Q I h
 refine Subscript_ (thn (he pins s σ H _ I h) fun v s1 ⟨x, H1, I1, r1, q1⟩ => ?_)
 refine wpAny_Slice (thn (hl pins s1 σ H1 _ I1 q1) fun vl s2 ⟨l, H2, I2, pl, q2⟩ => thn (hu pins s2 σ H2 _ I2 q2) fun vu s3 ⟨u, H3, I3, pu, q3⟩ => ?_)
 rw [evalPart_none]
 refine wpAny_pure ?_
 have I4 : Inv X pins σ H3 { s3 with heap := s3.heap.push { cls := .type "slice", data := .fields #[vl, vu, .none] } } := I3.kept (t' := s3.toks) fun b ob q => Heap.get?_push_of_some _ q
 obtain ⟨T, id, hT, ht, hg⟩ := hr pins { s3 with heap := s3.heap.push { cls := .type "slice", data := .fields #[vl, vu, .none] } } σ H3 x v vl vu l u s3.heap.objs.size Q I4 r1 (Heap.IsSliceOf.new ..) pl pu q3
 show wpAny (model X.prog X.w) X.A (subscriptTail e (.Slice lo hi none p2) v (.ref s3.heap.objs.size)) (EP X pins σ Q) X.xe { s3 with heap := s3.heap.push { cls := .type "slice", data := .fields #[vl, vu, .none] } }
 exact tail_any (ops := [.ref s3.heap.objs.size, v]) ht hT hg (by with_unfolding_all rfl)
def cutV (xs : List V) (lo hi : Option Int) : List V := (xs.drop (HT.sIx xs.length 0 lo)).take (HT.sIx xs.length xs.length hi - HT.sIx xs.length 0 lo)
theorem cutV_length (xs : List V) (lo hi : Option Int) : (cutV xs lo hi).length ≤ xs.length := by
 unfold cutV
 rw [List.length_take, List.length_drop]
 omega
end
end L2
namespace L2
open PySem PySem.Spec PyProof.Rows
def ixN (n : Nat) (i : Int) : Option Nat := if 0 ≤ i then (if i < n then some i.toNat else none) else if -(n : Int) ≤ i then some (i + n).toNat else none
def atI {α : Type} (xs : List α) (i : Int) : Option α := (ixN xs.length i).bind fun j => xs[j]?
theorem ixN_seq {n : Nat} {i : Int} {j : Nat} (h : ixN n i = some j) : seqIndex? i n = some j ∧ j < n ∧ -(n : Int) ≤ i ∧ i < n := by
 unfold ixN at h
 by_cases h0 : 0 ≤ i
 · rw [if_pos h0] at h
   by_cases h1 : i < n
   · rw [if_pos h1] at h
     have e : i.toNat = j := Option.some.inj h
     exact ⟨by rw [seqIndex_of h0 h1, e], by omega, by omega, h1⟩
   · rw [if_neg h1] at h; cases h
 · rw [if_neg h0] at h
   by_cases h1 : -(n : Int) ≤ i
   · rw [if_pos h1] at h
     have e : (i + n).toNat = j := Option.some.inj h
     exact ⟨by rw [seqIndex_neg (by omega) h1, e], by omega, h1, by omega⟩
   · rw [if_neg h1] at h; cases h
theorem atI_get {α : Type} {xs : List α} {i : Int} {v : α} (h : atI xs i = some v) : ∃ j, seqIndex? i xs.length = some j ∧ xs[j]? = some v ∧ j < xs.length ∧ -(xs.length : Int) ≤ i ∧ i < xs.length := by
 unfold atI at h
 cases e : ixN xs.length i with
 | none => rw [e] at h; cases h
 | some j =>
   rw [e] at h
   obtain ⟨h1, h2, h3, h4⟩ := ixN_seq e
   exact ⟨j, h1, h, h2, h3, h4⟩
def PlainIx (b : Expr) : Prop := ∀ o i, subscripted b false o i = operate [o, i] (getItem o i)
def IxR (X : Cx) (r : R2) : Prop :=
 ∀ (value slice : Expr) (pins : List (Addr × Obj)) (s : Shared) (σ : St) (H : Hp) (x y : V) (v u : Value) (Q : VK), Inv X pins σ H s → RelV x v → RelV y u → r x y H Q →
   subscripted slice false v u = operate [v, u] (getItem v u) → wpAny (model X.prog X.w) X.A (subscriptTail value slice v u) (EP X pins σ Q) X.xe s
def MtR (X : Cx) (id : String) (r : V → List V → Hp → VK → Prop) : Prop :=
 ∀ (pins : List (Addr × Obj)) (s : Shared) (σ : St) (H : Hp) (x : V) (xs : List V) (v : Value) (us : List Value) (Q : VK), Inv X pins σ H s → RelV x v → Vals xs us → r x xs H Q →
   wpAny (model X.prog X.w) X.A (call (.builtin id) (v :: us)) (EP X pins σ Q) X.xe s
section
variable {X : Cx} {a b : Expr} {ta tb : TE} {pos : Pos}
theorem pe_ix {r : R2} (hr : IxR X r) (ha : PE X a ta) (hb : PE X b tb) (hs : PlainIx b) : PE X (.Subscript a b pos) (tOp r ta tb) := by
 intro pins s σ H Q I h
 exact Subscript_ (binT ha hb I h fun v u s2 x y H2 I2 rx ry q => hr a b pins s2 σ H2 x y v u Q I2 rx ry q (hs _ _))
def rIxL (K : PySem.W.Frag) : R2 := fun x y H Q => ∃ p xs i v, x = .ref p ∧ y = .int i ∧ SqL K H p xs ∧ atI xs i = some v ∧ Q v H
def rIxT (K : PySem.W.Frag) : R2 := fun x y H Q => ∃ p xs i v, x = .ref p ∧ y = .int i ∧ SqT K H p xs ∧ atI xs i = some v ∧ Q v H
def rIxS : R2 := fun x y H Q => ∃ z i c, x = .str z ∧ y = .int i ∧ z.length ≤ sizeLine ∧ atI z.cps.toList i = some c ∧ Q (.str ⟨#[c]⟩) H
theorem ix_list : IxR X (rIxL X.K) := by
 intro value slice pins s σ H x y v u Q I rx ry h hs
 obtain ⟨p, xs, i, z, rfl, rfl, hq, he, q⟩ := h
 cases rx
 obtain ⟨t, rfl⟩ := ry
 obtain ⟨its, r, pl, hz⟩ := I.list hq
 obtain ⟨j, h1, h2, h3, h4, h5⟩ := atI_get he
 obtain ⟨w, ew, rw'⟩ := r.get h2
 have hl := r.length
 have hn := line63
 have fin : EP X pins σ Q w s := ⟨z, H, I, rw', q⟩
 by_cases h0 : 0 ≤ i
 · have hj : i.toNat = j := by
     rw [seqIndex_of h0 h5] at h1
     exact Option.some.inj h1
   exact item_listR pl.isList h0 (by omega) (by rw [hj]; simpa using ew) fin hs
 · have hj : (i + (its.toArray.size : Int)).toNat = j := by
     rw [seqIndex_neg (by omega) h4] at h1
     rw [List.size_toArray, ← hl]
     exact Option.some.inj h1
   exact subscriptTail_builtinR (x := w) pl.isList.typeIs slot_list_getitem.lookup
     (wpAny_getItem_list_neg (Q := fun r s' => r = w ∧ EP X pins σ Q r s') pl.isList (by omega) (by rw [List.size_toArray] <;> omega) (by omega) (by rw [hj]; simpa using ew) ⟨rfl, fin⟩) hs
theorem ix_tup : IxR X (rIxT X.K) := by
 intro value slice pins s σ H x y v u Q I rx ry h hs
 obtain ⟨p, xs, i, z, rfl, rfl, hq, he, q⟩ := h
 cases rx
 obtain ⟨t, rfl⟩ := ry
 obtain ⟨its, r, pl, hz⟩ := I.tuple hq
 obtain ⟨j, h1, h2, h3, h4, h5⟩ := atI_get he
 obtain ⟨w, ew, rw'⟩ := r.get h2
 have hl := r.length
 have hn := line63
 have fin : EP X pins σ Q w s := ⟨z, H, I, rw', q⟩
 exact subscriptTail_builtinR (x := w) pl.typeIs slot_tuple_getitem.lookup
   (getItem_tuple (j := j) (Q := fun r s' => r = w ∧ EP X pins σ Q r s') pl (by omega) (by omega) (by rw [List.size_toArray, ← hl]; exact h1) (by simpa using ew) ⟨rfl, fin⟩) hs
theorem ix_str : IxR X rIxS := by
 intro value slice pins s σ H x y v u Q I rx ry h hs
 obtain ⟨z, i, c, rfl, rfl, hz, he, q⟩ := h
 obtain ⟨t, rfl⟩ := rx
 obtain ⟨t', rfl⟩ := ry
 obtain ⟨j, h1, h2, h3, h4, h5⟩ := atI_get he
 have hl : z.cps.toList.length = z.length := by simp [Str.length]
 rw [hl] at h1 h4 h5
 have hn := line63
 exact tail_any (typeIs_str s z t) slot_str_getitem.lookup (getItem_str (c := c) (by
   have e1 : decide (i < -(2 ^ 63 : Int)) = false := decide_eq_false (by omega)
   have e2 : decide (i ≥ 2 ^ 63) = false := decide_eq_false (by omega)
   rw [e1, e2, Bool.or_false]) (by rw [h1]; simpa using h2) ⟨.str ⟨#[c]⟩, H, I.tok _, ⟨_, rfl⟩, q⟩) hs
theorem mapSeq_set (its : List Value) (n j : Nat) (u : Value) : Obj.mapSeq (·.setIfInBounds j u) { cls := .type "list", data := .seq its.toArray n } = { cls := .type "list", data := .seq (its.set j u).toArray n } := by
 simp [Obj.mapSeq]
theorem Inv.lst {pins : List (Addr × Obj)} {σ : St} {H : Hp} {s : Shared} {p : Addr} {xs : List V} (I : Inv X pins σ H s) (h : H p = some (.lst xs)) :
   ∃ (its : List Value) (n : Nat), Vals xs its ∧ s.heap.get? p = some { cls := .type "list", data := .seq its.toArray n } ∧ xs.length ≤ sizeLine := by
 obtain ⟨z, its, n, r, e⟩ := I.hok p _ h
 exact ⟨its, n, r, e, z⟩
theorem Inv.lstUpd {pins : List (Addr × Obj)} {σ : St} {H : Hp} {s : Shared} {p : Addr} {xs ys : List V} {its its' : List Value} {n n' : Nat} {f : Obj → Obj} (I : Inv X pins σ H s) (h : H p = some (.lst xs))
   (ho : s.heap.get? p = some { cls := .type "list", data := .seq its.toArray n }) (hf : f { cls := .type "list", data := .seq its.toArray n } = { cls := .type "list", data := .seq its'.toArray n' }) (r : Vals ys its') (hz : ys.length ≤ sizeLine) (t : Nat) :
   Inv X pins σ (upd H p (.lst ys)) { s with heap := s.heap.update p f, toks := t } := by
 have e : (s.heap.update p f).get? p = some { cls := .type "list", data := .seq its'.toArray n' } := by
   rw [Heap.get?_update_self f ho (by rw [hf] <;> rfl), hf]
 refine I.write (x := p) (e := p) (by rw [h]; trivial) (.inl rfl) (fun b u hb q => (Heap.get?_update_other _ _ (Ne.symm hb)).trans q) ⟨_, e⟩ ?_
 exact ⟨hz, its', n', r, e⟩
def rSetL : V → V → V → Hp → (Hp → Prop) → Prop := fun o i v H Q => ∃ p xs k j, o = .ref p ∧ i = .int k ∧ H p = some (.lst xs) ∧ ixN xs.length k = some j ∧ Q (upd H p (.lst (xs.set j v)))
theorem set_list : PSet X rSetL := by
 intro pins s σ H o i v ov iv u Q I ro ri rv h
 obtain ⟨p, xs, k, j, rfl, rfl, hp, hj, q⟩ := h
 cases ro
 obtain ⟨t, rfl⟩ := ri
 obtain ⟨its, n, r, ho, hz⟩ := I.lst hp
 obtain ⟨h1, h2, h3, h4⟩ := ixN_seq hj
 have hl := r.length
 have hn := line63
 have I' : Inv X pins σ (upd H p (.lst (xs.set j v))) { s with heap := s.heap.update p (Obj.mapSeq (·.setIfInBounds j u)) } :=
   I.lstUpd hp ho (mapSeq_set its n j u) (r.set rv j) (by rw [List.length_set]; exact hz) s.toks
 by_cases h0 : 0 ≤ k
 · have hk : k.toNat = j := by
     rw [seqIndex_of h0 h4] at h1
     exact Option.some.inj h1
   exact PySem.W.ki_setAt ho h0 (by omega) (by rw [List.size_toArray, ← hl]; exact h4) (by rw [hk]; exact ⟨_, I', q⟩)
 · have hk : (k + (its.toArray.size : Int)).toNat = j := by
     rw [seqIndex_neg (by omega) h3] at h1
     rw [List.size_toArray, ← hl]
     exact Option.some.inj h1
   exact PySem.W.ki_setBack ho (by omega) (by rw [List.size_toArray, ← hl]; exact h3) (by omega) (by rw [hk]; exact ⟨_, I', q⟩)
theorem slice_bounds (lo hi : Option Int) (n : Nat) : (sliceBounds lo hi none n).1 = ((HT.sIx n 0 lo : Nat) : Int) ∧ (sliceBounds lo hi none n).2.1 = ((HT.sIx n n hi : Nat) : Int) ∧ (sliceBounds lo hi none n).2.2 = 1 := by
 refine ⟨?_, ?_, rfl⟩
 · cases lo with
   | none => simp [sliceBounds, HT.sIx]
   | some i =>
     simp only [sliceBounds, HT.sIx, Option.getD_none, show (1 : Int) > 0 by decide, if_true]
     by_cases h : i < 0
     · simp only [h, if_true] <;> omega
     · simp only [h, if_false] <;> omega
 · cases hi with
   | none => simp [sliceBounds, HT.sIx]
   | some i =>
     simp only [sliceBounds, HT.sIx, Option.getD_none, show (1 : Int) > 0 by decide, if_true]
     by_cases h : i < 0
     · simp only [h, if_true] <;> omega
     · simp only [h, if_false] <;> omega
theorem slicePick_cut (its : List Value) (lo hi : Option Int) : slicePick its.toArray lo hi none = ((its.drop (HT.sIx its.length 0 lo)).take (HT.sIx its.length its.length hi - HT.sIx its.length 0 lo)).toArray := by
 obtain ⟨h1, h2, h3⟩ := slice_bounds lo hi its.toArray.size
 unfold slicePick
 rw [h1, h2, h3]
 simp only [sliceRange_one, pick_run, List.size_toArray] <;> rfl
def rSlL (K : PySem.W.Frag) : V → Option Int → Option Int → Hp → VK → Prop := fun x lo hi H Q => ∃ a xs, x = .ref a ∧ SqL K H a xs ∧ ∀ p, H p = none → Q (.ref p) (upd H p (.lst (cutV xs lo hi)))
theorem sl_list : SlR X (rSlL X.K) := by
 intro pins s σ H x v vl vu lo hi sl Q I rx hs pl pu h
 obtain ⟨a, xs, rfl, hx, q⟩ := h
 cases rx
 obtain ⟨its, r, ht, hz⟩ := I.list hx
 have hlen := r.length
 refine ⟨"list", _, slot_list_getitem.lookup, ht.isList.typeIs, ?_⟩
 refine wpAny_getItem_list_slice ht.isList hs pl pu .none (by simp) ?_ (by rw [List.size_toArray] <;> omega)
 rw [slicePick_cut, ← hlen]
 refine ⟨.ref s.heap.objs.size, _, I.laid (t' := s.toks) (o := .lst (cutV xs lo hi)) (fun b ob q => Heap.get?_push_of_some _ q) (Nat.le_refl _) ?_, rfl, q _ (I.hok.fresh (Nat.le_refl _))⟩
 exact ⟨Nat.le_trans (cutV_length xs lo hi) hz, _, 0, (r.drop (HT.sIx xs.length 0 lo)).take (HT.sIx xs.length xs.length hi - HT.sIx xs.length 0 lo), Heap.get?_push_size _ rfl⟩
def flatV : V → Bool
 | .non => true
 | .bl _ => true
 | .int _ => true
 | .str _ => true
 | _ => false
def eqV : V → V → Bool
 | .non, .non => true
 | .bl a, .bl b => a == b
 | .bl a, .int b => (if a then 1 else 0) == b
 | .int a, .bl b => a == (if b then 1 else 0)
 | .int a, .int b => a == b
 | .str a, .str b => a == b
 | _, _ => false
theorem eqAt_V {A : Around} {s : Shared} {y x : V} {u v : Value} (ry : RelV y u) (rx : RelV x v) (fy : flatV y = true) (fx : flatV x = true) : SeqAt.EqAt A s u v (eqV y x) := by
 cases y with
 | non =>
   cases ry
   cases x with
   | non => cases rx; exact SeqAt.EqAt.same _
   | bl b => cases rx; exact SeqAt.EqAt.none_bool b
   | int b => obtain ⟨t, rfl⟩ := rx; exact SeqAt.EqAt.none_int b t
   | str b => obtain ⟨t, rfl⟩ := rx; exact SeqAt.EqAt.none_str b t
   | _ => exact absurd (show false = true from fx) Bool.false_ne_true
 | bl a =>
   cases ry
   cases x with
   | non => cases rx; exact SeqAt.EqAt.bool_none a
   | bl b => cases rx; exact SeqAt.EqAt.bool_bool a b
   | int b => obtain ⟨t, rfl⟩ := rx; exact SeqAt.EqAt.bool_int a b t
   | str b => obtain ⟨t, rfl⟩ := rx; exact SeqAt.EqAt.bool_str a b t
   | _ => exact absurd (show false = true from fx) Bool.false_ne_true
 | int a =>
   obtain ⟨t', rfl⟩ := ry
   cases x with
   | non => cases rx; exact SeqAt.EqAt.int_none a t'
   | bl b => cases rx; exact SeqAt.EqAt.int_bool a t' b
   | int b => obtain ⟨t, rfl⟩ := rx; exact SeqAt.EqAt.int_int a t' b t
   | str b => obtain ⟨t, rfl⟩ := rx; exact SeqAt.EqAt.int_str a t' b t
   | _ => exact absurd (show false = true from fx) Bool.false_ne_true
 | str a =>
   obtain ⟨t', rfl⟩ := ry
   cases x with
   | non => cases rx; exact SeqAt.EqAt.str_none a t'
   | bl b => cases rx; exact SeqAt.EqAt.str_bool a t' b
   | int b => obtain ⟨t, rfl⟩ := rx; exact SeqAt.EqAt.str_int a t' b t
   | str b => obtain ⟨t, rfl⟩ := rx; exact SeqAt.EqAt.str_str a t' b t
   | _ => exact absurd (show false = true from fx) Bool.false_ne_true
 | _ => exact absurd (show false = true from fy) Bool.false_ne_true
def eqU (x : V) (u : Value) : Bool := match u with
 | .none => eqV .non x
 | .bool b => eqV (.bl b) x
 | .int i _ => eqV (.int i) x
 | .str z _ => eqV (.str z) x
 | _ => false
theorem eqU_of {x y : V} {u : Value} (r : RelV y u) (f : flatV y = true) : eqU x u = eqV y x := by
 cases y with
 | non => cases r; rfl
 | bl b => cases r; rfl
 | int i => obtain ⟨t, rfl⟩ := r; rfl
 | str z => obtain ⟨t, rfl⟩ := r; rfl
 | _ => exact absurd (show false = true from f) Bool.false_ne_true
theorem any_eqU {x : V} : ∀ {xs : List V} {us : List Value}, Vals xs us → xs.all flatV = true → us.any (eqU x) = xs.any fun y => eqV y x
 | _, _, .nil, _ => rfl
 | y :: xs, u :: us, .cons r t, f => by
   rw [List.all_cons, Bool.and_eq_true] at f
   rw [List.any_cons, List.any_cons, eqU_of r f.1, any_eqU t f.2]
theorem mem_eqAt {A : Around} {s : Shared} {x : V} {v : Value} (rx : RelV x v) (fx : flatV x = true) : ∀ {xs : List V} {us : List Value}, Vals xs us → xs.all flatV = true → ∀ u ∈ us, SeqAt.EqAt A s u v (eqU x u)
 | _, _, .nil, _ => fun u hu => by cases hu
 | y :: xs, u :: us, .cons r t, f => fun u' hu => by
   rw [List.all_cons, Bool.and_eq_true] at f
   rcases List.mem_cons.mp hu with rfl | hu
   · rw [eqU_of r f.1]; exact eqAt_V r rx f.1 fx
   · exact mem_eqAt rx fx t f.2 u' hu
def inV (x : V) (xs : List V) : Bool := xs.any fun y => eqV y x
def rIn (K : PySem.W.Frag) (neg : Bool) : R2 := fun x y H Q => ∃ p xs, y = .ref p ∧ (SqL K H p xs ∨ SqT K H p xs) ∧ flatV x = true ∧ xs.all flatV = true ∧ Q (.bl (if neg then !inV x xs else inV x xs)) H
theorem op_in_seq : OpR X (compareOp .In) (rIn X.K false) := by
 intro pins s σ H x y v u Q I rx ry h
 obtain ⟨p, xs, rfl, hq, fx, fs, q⟩ := h
 cases ry
 rcases hq with hq | hq
 · obtain ⟨its, r, pl, hz⟩ := I.list hq
   refine SeqAt.in_listAt (eqU x) pl.isList (fun w hw => mem_eqAt rx fx r fs w (by simpa using hw)) ⟨.bl _, H, I, rfl, ?_⟩
   rw [show its.toArray.any (eqU x) = its.any (eqU x) by simp, any_eqU r fs]
   exact q
 · obtain ⟨its, r, pl, hz⟩ := I.tuple hq
   refine SeqAt.in_tupleAt (eqU x) pl (fun w hw => mem_eqAt rx fx r fs w (by simpa using hw)) ⟨.bl _, H, I, rfl, ?_⟩
   rw [show its.toArray.any (eqU x) = its.any (eqU x) by simp, any_eqU r fs]
   exact q
theorem call_len_seq : CallR X (.builtin "len") (fun xs H Q => ∃ p ys, xs = [.ref p] ∧ (SqL X.K H p ys ∨ SqT X.K H p ys) ∧ Q (.int ys.length) H) := by
 intro pins s σ H xs us Q I r h
 obtain ⟨p, ys, rfl, hq, q⟩ := h
 obtain ⟨u, rfl, rx⟩ := vals1 r
 cases rx
 have hn := line63
 rcases hq with hq | hq
 · obtain ⟨its, r', pl, hz⟩ := I.list hq
   have hlen := r'.length
   exact Calls.call_len_list pl.isList (by simp only [List.size_toArray] <;> omega) ⟨.int ys.length, H, I.tok _, ⟨s.toks + 1, by rw [List.size_toArray, hlen]⟩, q⟩
 · obtain ⟨its, r', pl, hz⟩ := I.tuple hq
   have hlen := r'.length
   exact len_tuple pl (by simp only [List.size_toArray] <;> omega) ⟨.int ys.length, H, I.tok _, ⟨s.toks + 1, by rw [List.size_toArray, hlen]⟩, q⟩
theorem call_len_str : CallR X (.builtin "len") (fun xs H Q => ∃ z, xs = [.str z] ∧ z.length ≤ sizeLine ∧ Q (.int z.length) H) := by
 intro pins s σ H xs us Q I r h
 obtain ⟨z, rfl, hz, q⟩ := h
 obtain ⟨u, rfl, t, rfl⟩ := vals1 r
 have hn := line63
 exact len_str (by omega) ⟨.int z.length, H, I.tok _, ⟨_, rfl⟩, q⟩
def tyV (K : PySem.W.Frag) (T : String) (x : V) (H : Hp) : Prop := match x with
 | .str _ => T = "str"
 | .int _ => T = "int"
 | .ref p => (T = "list" ∧ ∃ xs, SqL K H p xs) ∨ (T = "tuple" ∧ ∃ o, K.lookup p = some o ∧ o.cls = .type "tuple" ∧ o.dict = none) ∨
     (T = "dict" ∧ ((∃ kvs, H p = some (.dK kvs)) ∨ ∃ kvs, H p = some (.dT kvs))) ∨ (T = "set" ∧ ∃ S n, H p = some (.set S n))
 | _ => False
theorem tyV_is {pins : List (Addr × Obj)} {σ : St} {H : Hp} {s : Shared} {T : String} {x : V} {v : Value} (I : Inv X pins σ H s) (r : RelV x v) (ty : tyV X.K T x H) :
   s.TypeIs v T ∧ ∀ a, v = .ref a → ∃ ob, s.heap.get? a = some ob ∧ ob.dict = none := by
 cases x with
 | str z =>
   obtain ⟨t, rfl⟩ := r
   cases (show T = "str" from ty)
   exact ⟨typeIs_str s z t, fun _ e => nomatch e⟩
 | int i =>
   obtain ⟨t, rfl⟩ := r
   cases (show T = "int" from ty)
   exact ⟨typeIs_int s i t, fun _ e => nomatch e⟩
 | ref p =>
   cases r
   rcases ty with ⟨rfl, xs, hq⟩ | ⟨rfl, o, hk, hc, hd⟩ | ⟨rfl, hk⟩ | ⟨rfl, S, n, hk⟩
   · obtain ⟨its, _, pl, _⟩ := I.list hq
     refine ⟨pl.isList.typeIs, fun a e => ?_⟩
     cases e
     obtain ⟨o, n, e, c, hd, _⟩ := pl
     exact ⟨o, e, hd⟩
   · refine ⟨⟨o, I.kIn p o hk, hc⟩, fun a e => ?_⟩
     cases e
     exact ⟨o, I.kIn _ o hk, hd⟩
   · have z : ∃ o, s.heap.get? p = some o ∧ o.ExactDict := by
       rcases hk with ⟨kvs, hk⟩ | ⟨kvs, hk⟩
       · obtain ⟨_, _, _, _, o, _, _, e, ex, _⟩ := I.hok p _ hk
         exact ⟨o, e, ex⟩
       · exact False.elim (show ObjOk X.prog X.w H s.heap p (.dT kvs) from I.hok p _ hk)
     obtain ⟨o, e, ex⟩ := z
     refine ⟨⟨o, e, ex.1⟩, fun a e2 => ?_⟩
     cases e2
     exact ⟨o, e, ex.2.1⟩
   · obtain ⟨o, _, _, _, e, ex, _⟩ := I.hok p _ hk
     refine ⟨⟨o, e, ex.1⟩, fun a e2 => ?_⟩
     cases e2
     exact ⟨o, e, ex.2.1⟩
 | _ => exact False.elim ty
def tBM (K : PySem.W.Frag) (T : String) (r : V → List V → Hp → VK → Prop) (to : TE) (t : TA) : TE := fun σ H Q => to σ H fun x H1 => tyV K T x H1 ∧ t σ H1 fun xs H2 => r x xs H2 Q
variable {o e : Expr} {es : List Expr} {to : TE} {t : TA} {name : Str} {apos cpos : Pos} {T id : String} {r : V → List V → Hp → VK → Prop}
theorem pe_bm (pa : PlainAttrs T) (slot : Slot T name id) (hty : typeOf (.builtin id) = pure (.type "method_descriptor")) (hm : MtR X id r) (ho : PE X o to) (ha : PA X (e :: es) t)
   (hbase : attributeBase o name X.env (eval o X.env) = eval o X.env := by rfl)
   (hfew : ((backTo cpos (starEach (e :: es) X.env)).all (fun x => !x.1) && (backToKw cpos (keywordEach [] X.env)).all (fun x => x.1.isSome)
     && decide ((e :: es).length + ([] : List Keyword).length + (if ([] : List Keyword).isEmpty then 0 else 1) < 30)) = true := by rfl)
   (hline : (apos.endLine == cpos.line) = true := by rfl) (hs : starEach (e :: es) X.env = (false, eval e X.env) :: starEach es X.env := by rfl) (hplain : (backTo cpos (starEach es X.env)).any (·.1) = false := by rfl) :
   PE X (.Call (.Attribute o name apos) (e :: es) [] cpos) (tBM X.K T r to t) := by
 intro pins s σ H Q I h
 refine wpAny_Call_method_late hbase hfew hline rfl (thn (ho pins s σ H _ I h) fun v s1 ⟨x, H1, I1, r1, ty, q1⟩ => ?_)
 obtain ⟨h1, h2⟩ := tyV_is I1 r1 ty
 refine ⟨T, id, pa, slot, hty, h1, h2, ?_⟩
 have hA := ha cpos pins s1 σ H1 _ I1 q1
 rw [hs] at hA ⊢
 refine Calls.callWith_builtin (by show (false || (backTo cpos (starEach es X.env)).any (·.1)) = false; rw [hplain] <;> rfl) (Calls.evalArgs_plain ?_)
 exact thn hA fun us s2 ⟨vs, H2, I2, r2, q2⟩ => hm pins s2 σ H2 x vs v us Q I2 r1 r2 q2
/- xs.append(e), list.index on a module's tuple .. are MtR facts of 06m -/
end
end L2
namespace L2
open PySem PySem.Spec PyProof.Rows
theorem Vals.one : ∀ {x : V} {us : List Value}, Vals [x] us → ∃ u, us = [u] ∧ RelV x u
 | _, _, .cons r .nil => ⟨_, rfl, r⟩
theorem Vals.rep {xs : List V} {us : List Value} (h : Vals xs us) : ∀ k : Nat, Vals (List.replicate k xs).flatten (List.replicate k us).flatten
 | 0 => .nil
 | k + 1 => by
   rw [List.replicate_succ, List.replicate_succ, List.flatten_cons, List.flatten_cons]
   exact Vals.append h (Vals.rep h k)
theorem foldl_rep (its : List Value) : ∀ (k : Nat) (acc : List Value),
   List.foldl (fun x1 x2 => x1 ++ x2) acc.toArray (List.replicate k its.toArray) = (acc ++ (List.replicate k its).flatten).toArray
 | 0, acc => by simp
 | k + 1, acc => by
   have e : acc.toArray ++ its.toArray = (acc ++ its).toArray := by simp
   have e2 : (acc ++ its) ++ (List.replicate k its).flatten = acc ++ (List.replicate (k + 1) its).flatten := by
     rw [List.replicate_succ, List.flatten_cons, List.append_assoc]
   rw [← e2, ← foldl_rep its k (acc ++ its), ← e, List.replicate_succ, List.foldl_cons]
section
variable {X : Cx} {pins : List (Addr × Obj)} {σ : St} {H : Hp} {s : Shared} {l b : Addr} {xs ys zs : List V}
theorem Inv.lnew {its : List Value} {t' : Nat} (I : Inv X pins σ H s) (hv : Vals ys its) (hz : ys.length ≤ sizeLine) :
   Inv X pins σ (upd H s.heap.objs.size (.lst ys)) { s with heap := s.heap.push { cls := .type "list", data := .seq its.toArray }, toks := t' } :=
 I.laid (fun _ _ q => Heap.get?_push_of_some _ q) (Nat.le_refl _) ⟨hz, its, 0, hv, Heap.get?_push_size _ rfl⟩
theorem Inv.fresh (I : Inv X pins σ H s) : H s.heap.objs.size = none := I.hok.fresh (Nat.le_refl _)
theorem Inv.lstM (I : Inv X pins σ H s) (hH : H l = some (.lst xs)) : xs.length ≤ sizeLine ∧ ∃ (its : List Value) (n : Nat), Vals xs its ∧ xs.length = its.length ∧ s.heap.get? l = some { cls := .type "list", data := .seq its.toArray n } := by
 obtain ⟨z, its, n, r, e⟩ := I.hok l _ hH
 exact ⟨z, its, n, r, r.length, e⟩
theorem notLongL {n : Nat} (h : n ≤ sizeLine) : Builtin.List.listTooLong n = false := by
 unfold Builtin.List.listTooLong
 exact decide_eq_false (by omega)
end
section
variable {X : Cx}
def rCat : R2 := fun x y H Q => ∃ l b xs zs, x = .ref l ∧ y = .ref b ∧ H l = some (.lst xs) ∧ H b = some (.lst zs) ∧ xs.length + zs.length ≤ sizeLine ∧ ∀ p, H p = none → Q (.ref p) (upd H p (.lst (xs ++ zs)))
theorem op_cat : OpR X (binaryOp .Add) rCat := by
 intro pins s σ H x y v u Q I rx ry h
 obtain ⟨l, b, xs, zs, rfl, rfl, hH, hB, hz, q⟩ := h
 cases rx
 cases ry
 obtain ⟨z, its, n, r, hl, e⟩ := I.lstM hH
 obtain ⟨z2, its2, n2, r2, hl2, e2⟩ := I.lstM hB
 refine PySem.P.add_list e e2 ?_ (by rw [List.size_toArray, List.size_toArray]; omega)
 have ea : its.toArray ++ its2.toArray = (its ++ its2).toArray := by simp
 rw [ea]
 exact ⟨.ref _, _, I.lnew (t' := s.toks) (r.append r2) (by rw [List.length_append]; omega), rfl, q _ I.fresh⟩
def rRep : R2 := fun x y H Q => ∃ l k xs, x = .ref l ∧ y = .int k ∧ H l = some (.lst xs) ∧ -(2 ^ 63) ≤ k ∧ k < 2 ^ 63 ∧ xs.length * k.toNat ≤ sizeLine ∧
 ∀ p, H p = none → Q (.ref p) (upd H p (.lst (List.replicate k.toNat xs).flatten))
theorem len_rep {α : Type} (xs : List α) (k : Nat) : (List.replicate k xs).flatten.length = k * xs.length := by
 induction k with
 | zero => simp
 | succ k ih => rw [List.replicate_succ, List.flatten_cons, List.length_append, ih, Nat.succ_mul, Nat.add_comm]
theorem op_rep : OpR X (binaryOp .Mult) rRep := by
 intro pins s σ H x y v u Q I rx ry h
 obtain ⟨l, k, xs, rfl, rfl, hH, h1, h2, hz, q⟩ := h
 cases rx
 obtain ⟨t, rfl⟩ := ry
 obtain ⟨z, its, n, r, hl, e⟩ := I.lstM hH
 have hlen : its.toArray.size * k.toNat ≤ sizeLine := by rw [List.size_toArray, ← hl]; exact hz
 have hcap : ¬ its.toArray.size * k.toNat > (2 ^ 63 - 1) / 8 := by
   have : (sizeLine : Nat) ≤ (2 ^ 63 - 1) / 8 := by decide
   omega
 have hfit : ¬ (!Builtin.List.listFitsIndex k) = true := by
   rw [fitsIndex_both h1 h2]
   exact Bool.false_ne_true
 have hlong : ¬ Builtin.List.listTooLong (its.toArray.size * k.toNat) = true := by
   rw [notLongL hlen]
   exact Bool.false_ne_true
 have hnew : List.foldl (fun x1 x2 => x1 ++ x2) #[] (List.replicate (if its.toArray.isEmpty = true then 0 else k.toNat) its.toArray) = (List.replicate k.toNat its).flatten.toArray := by
   have f0 : ∀ m : Nat, List.foldl (fun x1 x2 => x1 ++ x2) #[] (List.replicate m its.toArray) = (List.replicate m its).flatten.toArray := fun m => by
     have := foldl_rep its m []
     rw [List.nil_append] at this
     exact this
   rw [f0]
   cases its with
   | nil => simp
   | cons a r' => rw [if_neg (by simp)]
 refine wpAny_binaryOp_repeat_ref (T := "list") (U := "int") (by decide) ⟨_, e, rfl⟩ (fun s' => typeIs_int s' k t) noFill_list_mul F.fills_int_mul F.slot_int_rmul repeat_list F.slot_int_index.lookup
   (call_meets F.slot_int_rmul (typeIs_int s k t) F.entry_int_rmul (F.args_int_rmul_2 _ _) (int___rmul___int_list k t l its.toArray n)
     ⟨e, rfl, ⟨_, e, rfl⟩, call_meets F.slot_list_mul ⟨_, e, rfl⟩ F.entry_list_mul (F.args_list_mul_2 _ _) (AutoListH.list___mul___list_int_3 l its.toArray n k t hfit hcap hlong) ⟨e, ?_⟩⟩)
 rw [hnew]
 exact ⟨.ref _, _, I.lnew (t' := s.toks) (r.rep k.toNat) (by rw [len_rep, Nat.mul_comm]; exact hz), rfl, q _ I.fresh⟩
end
section
variable {prog : Program} {w : World} {A : Around} {E : Value → Shared → Prop} {s : Shared}
end
section
variable {X : Cx}
end
end L2
namespace Att
open PySem PySem.W PySem.Calls PyProof.Rows
theorem ints_of_wellAll {P : Params} {h : Heap} : ∀ (ns : List Int) (vs : List Value), WellAll P h vs (ns.map WData.int) → IntsAre vs ns := by
 intro ns
 induction ns with
 | nil =>
   intro vs w
   rw [List.map_nil] at w
   cases w
   exact .nil
 | cons n ns ih =>
   intro vs w
   rw [List.map_cons] at w
   cases w with
   | cons a b =>
     cases a
     exact .cons _ _ (ih _ b)
theorem script_of {l : OpenLaw} {n : Nat} (hn : l.most = some n) {P : Params} {h : Heap} {args : List WData} {vals : List Value}
   (hpre : l.row.toRowW.claim.pre args = true) (hwl : WellAll P h vals args) :
   ∃ a vs ns, vals = [Value.ref a] ∧ args = [WData.list (ns.map WData.int)] ∧ h.get? a = some { cls := .type "list", data := .seq vs.toArray } ∧ IntsAre vs ns ∧ ns.length ≤ n := by
 have hsh : WShape.hasAll [] args [.list .int] = true := (pre_splitW hpre).1
 have hc : l.pre.holds [] { args := args } = true := (pre_splitW hpre).2
 obtain ⟨d, r, rfl, h1, h2⟩ := hasAllW_cons hsh
 obtain rfl := hasAllW_nil h2
 obtain ⟨xs, rfl, h3⟩ := hasW_list h1
 obtain ⟨ns, rfl⟩ := items_int h3
 have hlen : ns.length ≤ n := by
   unfold OpenLaw.pre at hc
   have h4 : (WTm.not (.lt (.lit (.int (n : Int))) (.len (.arg 0)))).holds [] { args := [.list (ns.map .int)] } = true := by
     have h4 := (holds_andW hc).1
     rw [hn] at h4
     exact h4
   have h5 := condW_of h4 (w_not (w_lt w_lit (w_len_list (w_arg rfl))))
   rw [List.length_map] at h5
   refine Nat.le_of_not_lt fun q => ?_
   have q' : (n : Int) < ((ns.length : Nat) : Int) := by omega
   first
     | (rw [decide_eq_true q'] at h5; exact absurd h5 (by decide))
     | (simp at h5; omega)
 cases hwl with
 | cons w1 w2 =>
   cases w2
   cases w1 with
   | list ho hall => exact ⟨_, _, ns, rfl, rfl, ho, ints_of_wellAll ns _ hall, hlen⟩
theorem post_true (l : OpenLaw) (args : List WData) : l.row.toRowW.claim.post args (.bool true) args = true :=
 postW_of (r := l.row.toRowW) (X := (true == true))
   (show WShape.has [] (.bool true) .bool = true by first | rfl | decide | simp [WShape.has, WShape.arms, WShape.armsAll])
   (show (WTm.eq .res (.lit (.bool true))).value [] { args := args, res := some (.bool true), after := args } = some (.bool (true == true)) from w_eq_bool (w_res rfl) w_lit) rfl
theorem attach_call {l : OpenLaw} {n : Nat} {q : Program} {loose : List Str} {XP : (Str → Option Value) → Heap → Prop} {YP : World → Heap → Prop} {d : DefRec}
   (hn : l.most = some n) (hdf : d.params.defaults = [])
   (call : ∀ (w : World) (s₀ s₁ : Shared) (mg mb : Str → Option Value) (fa : Addr) (o : Obj) (pm cd doc : Value) (a : Addr) (vs : List Value) (ns : List Int),
     Ground q loose [] XP w s₀ mg mb s₁.heap → YP w s₁.heap →
     s₁.heap.get? fa = some o → o.data = .func (docDef d.name d.params d.body d.scope pm cd doc) → s₁.heap.CodeRec cd d.name → mg d.name = some (.ref fa) →
     s₁.heap.get? a = some { cls := .type "list", data := .seq vs.toArray } → IntsAre vs ns → ns.length ≤ n → s₁.gens = #[] →
     codeAny (model l.prog w) callerA (.call (.ref fa) ⟨[.ref a], []⟩) (fun r s' => r = .ok (.ret (.bool true)) ∧ OldK s₁.heap s'.heap ∧ s'.os = s₁.os ∧ AllBare s'.gens) s₁) :
   WalkO q loose XP YP l.row.toRowW d [] (fun f vs => PySem.call f vs) := by
 intro w s₀ s₁ mg mb G Y fa o pm cd doc dV kV ho hd hcd hD hmg hg args vals as hpre hlay hrd hwl hlo
 obtain rfl : dV = .none := Dflts.none hD hdf
 obtain rfl : kV = .none := Dflts.noKw hD
 obtain ⟨a, vs, ns, rfl, rfl, hobj, hints, hlen⟩ := script_of hn hpre hwl
 refine enter_call (codeAny_mono (call w s₀ s₁ mg mb fa o pm cd doc a vs ns G Y ho (fd_plain hd) hcd hmg hobj hints hlen hg) fun r s' hq => ?_)
 obtain ⟨rfl, h2, h3, h4⟩ := hq
 exact ⟨.inl ⟨.bool true, .bool true, [], rfl, fun _ => rfl, .bool true, post_true l _, fun _ => ⟨List.Pairwise.nil, fun _ hm => (nomatch hm)⟩⟩, h2, h3, h4⟩
section
variable {prog : Program} {w : World} {A : Around} {E : Value → Shared → Prop} {s : Shared} {K : Frag}
end
end Att
namespace L2
open PySem PySem.Spec PyProof.Rows
theorem vals_ints : ∀ {vs : List Value} {ns : List Int}, IntsAre vs ns → Vals (ns.map V.int) vs
 | _, _, .nil => .nil
 | _, _, .cons n t h => .cons ⟨t, rfl⟩ (vals_ints h)
end L2
namespace L2
open PySem PySem.Spec PyProof.Rows
end L2
namespace L2
open PySem PySem.Spec PyProof.Rows
def defArgs (s : Stmt) : Arguments := match s with
 | .FunctionDef _ a _ _ _ _ _ _ _ _ => a
 | _ => { posonlyargs := [], args := [], vararg := none, kwonlyargs := [], kw_defaults := [], kwarg := none, defaults := [] }
def defBody (s : Stmt) : List Stmt := match s with
 | .FunctionDef _ _ b _ _ _ _ _ _ _ => b
 | _ => []
def defScope (s : Stmt) : Scope := match s with
 | .FunctionDef _ _ _ _ _ _ sc _ _ _ => sc
 | _ => { kind := .function, names := [], isGenerator := false, isCoroutine := false }
abbrev CX0 : CXT := fun _ _ _ _ _ _ => False
abbrev E0 : XK := fun _ _ _ => False
theorem pass0 {X : Cx} : Passes CX0 X E0 := fun _ _ _ _ _ _ _ h => h.elim
structure Fun (K : PySem.W.Frag) (x qual : Str) (st : Stmt) (f : Addr) (fd : FuncData) : Prop where
 ex : ∃ (oc : Value) (od : Option Addr) (kV doc pm : Value) (an : Option Addr) (cdv ct : Value) (osl : Array (Option Value)),
   fd = PySem.W.fnOf x qual (defArgs st) (defBody st) (defScope st) .none kV doc pm an cdv ct ∧ K.lookup f = some ⟨oc, od, .func fd, osl⟩ ∧ PySem.W.codeIn K cdv qual = true
 kp : PySem.W.keepIn K (.ref f) = true
section
variable {P : Program} {w : World} {K : PySem.W.Frag} {mg : Str → Option Value} {base : Heap}
theorem Fun.ok {x qual : Str} {st : Stmt} {f : Addr} {fd : FuncData} {N ps : List Str} {k : Nat} {sp : Sp} (F : Fun K x qual st f fd) (S : FnScope N ps (defScope st)) (len : ∀ vs H Q E, sp vs H Q E → vs.length = ps.length)
   (hbody : ∀ (cdv : Value) (A : Around) (outer : List Env) (s : Shared) (H : Hp) (vs : List V) (Q : VK) (E : XK), Room k (A.deeper (envOfC qual (defScope st) s.heap.objs.size f cdv)) → sp vs H Q E →
     ∃ t, PSs (cxOf CX0 P w K mg base N qual (defScope st) f cdv A outer s H E).nox (defBody st) t ∧ t { nx := fun _ H' => Q .non H', rt := Q } (start N vs) H) : FnOk P w K mg base CX0 (k + 1) f fd ps sp := by
 obtain ⟨oc, od, kV, doc, pm, an, cdv, ct, osl, rfl, lk, hcd⟩ := F.ex
 refine fn_of lk hcd S len fun A outer s H vs Q E hr hsp => ?_
 obtain ⟨t, h, q⟩ := hbody cdv A outer s H vs Q E hr hsp
 exact ⟨t, h.nox, q⟩
theorem Fun.binds {x qual : Str} {st : Stmt} {f : Addr} {fd : FuncData} {ps : List Str} (F : Fun K x qual st f fd)
   (h : ∀ (kV doc pm : Value) (an : Option Addr) (cdv ct : Value) (us : List Value), us.length = ps.length → bindArgs (PySem.W.fnOf x qual (defArgs st) (defBody st) (defScope st) .none kV doc pm an cdv ct) ⟨us, []⟩ = pure (ps.zip us)) : Binds K fd ps [] := by
 obtain ⟨oc, od, kV, doc, pm, an, cdv, ct, osl, rfl, lk, hcd⟩ := F.ex
 exact .all (h kV doc pm an cdv ct)
theorem fun_mk {x qual : Str} {st : Stmt} {f : Addr} {oc : Value} {od an : Option Addr} {osl : Array (Option Value)} {kV doc pm cdv ct : Value} (l : K.lookup f = some ⟨oc, od, .func (PySem.W.fnOf x qual (defArgs st) (defBody st) (defScope st) .none kV doc pm an cdv ct), osl⟩)
   (c : PySem.W.codeIn K cdv qual = true) (k : PySem.W.keepIn K (.ref f) = true) : Fun K x qual st f (PySem.W.fnOf x qual (defArgs st) (defBody st) (defScope st) .none kV doc pm an cdv ct) := ⟨⟨oc, od, kV, doc, pm, an, cdv, ct, osl, rfl, l, c⟩, k⟩
end
theorem hu_of {A : Around} {k : Nat} (hr : Room k A) : A.units + 1 < cLine := Nat.lt_of_le_of_lt (Nat.add_le_add_left (by decide : 1 ≤ 64) _) hr.units
section
variable {X : Cx}
theorem pv (i : Nat) {x : Str} {pos : Pos} (hN : X.N[i]? = some x := by rfl) (hv : Vis X.env.scope x := by first | exact Or.inl rfl | exact Or.inr (Or.inl rfl) | exact Or.inr (Or.inr rfl)) (hd : (x == ("__debug__" : Str)) = false := by decide)
   (hcd : (x == ("__classdict__" : Str)) = false := by decide) : PE X (.Name x pos) (tVar i) := pe_var hN hv hd hcd
end
theorem iteF {A B : Prop} (h : B) : if false = true then A else B := by
 rw [if_neg Bool.false_ne_true]
 exact h
theorem iteT {A B : Prop} (h : A) : if true = true then A else B := by
 rw [if_pos rfl]
 exact h
theorem ite2 {c A B : Prop} [Decidable c] (h1 : c → A) (h2 : ¬ c → B) : if c then A else B := by
 by_cases h : c
 · rw [if_pos h]
   exact h1 h
 · rw [if_neg h]
   exact h2 h
def Same (H H' : Hp) : Prop := ∀ b o, H b = some o → H' b = some o
theorem Same.refl (H : Hp) : Same H H := fun _ _ h => h
theorem Same.trans {H H1 H2 : Hp} (a : Same H H1) (b : Same H1 H2) : Same H H2 := fun c o h => b c o (a c o h)
theorem Same.free {H H' : Hp} (e : Same H H') {l : Addr} (h : H' l = Option.none) : H l = Option.none := by
 cases q : H l with
 | none => rfl
 | some o =>
   rw [e l o q] at h
   cases h
theorem Same.seq {K : PySem.W.Frag} {H H' : Hp} {a : Addr} {xs : List V} (e : Same H H') (h : SqL K H a xs) : SqL K H' a xs := by
 rcases h with (h | ⟨o, h⟩) | h
 · exact .inl (.inl (e _ _ h))
 · exact .inl (.inr ⟨o, e _ _ h⟩)
 · exact .inr h
end L2
namespace L2
open PySem PySem.Spec PyProof.Rows
def T (l : List Nat) : Str := ⟨l.toArray⟩
def L (z : Str) : List Nat := z.cps.toList
theorem L_T (l : List Nat) : L (T l) = l := by
 unfold L T
 simp
theorem T_L (z : Str) : T (L z) = z := by
 cases z
 simp [T, L]
theorem L_len (z : Str) : (L z).length = z.length := by simp [L, Str.length]
theorem T_len (l : List Nat) : (T l).length = l.length := by simp [T, Str.length]
theorem T_app (a b : List Nat) : T a ++ T b = T (a ++ b) := by
 show Str.append (T a) (T b) = T (a ++ b)
 simp [Str.append, T]
theorem T_inj {a b : List Nat} : T a = T b ↔ a = b := by
 constructor
 · intro h
   have := congrArg L h
   rwa [L_T, L_T] at this
 · intro h
   rw [h]
def gS : St → Nat → Option V
 | [], _ => none
 | a :: _, 0 => a
 | _ :: r, n + 1 => gS r n
theorem gS_get : ∀ {σ : St} {i : Nat} {v : V}, gS σ i = some v → σ[i]? = some (some v)
 | [], _, _, h => by simp [gS] at h
 | a :: _, 0, v, h => by
   have h : a = some v := h
   simp [h]
 | _ :: r, n + 1, v, h => by
   have h : gS r n = some v := h
   simpa using gS_get h
def rVar (i : Nat) : TE := fun σ H Q => match gS σ i with
 | some v => Q v H
 | none => False
section
variable {X : Cx}
theorem qv (i : Nat) {x : Str} {pos : Pos} (hN : X.N[i]? = some x := by rfl) (hv : Vis X.env.scope x := by first | exact Or.inl rfl | exact Or.inr (Or.inl rfl) | exact Or.inr (Or.inr rfl)) (hd : (x == ("__debug__" : Str)) = false := by decide)
   (hcd : (x == ("__classdict__" : Str)) = false := by decide) : PE X (.Name x pos) (rVar i) := by
 intro pins s σ H Q I h
 refine pv i hN hv hd hcd pins s σ H Q I ?_
 unfold rVar at h
 cases e : gS σ i with
 | none => rw [e] at h; exact h.elim
 | some v => rw [e] at h; exact ⟨v, gS_get e, h⟩
def addV : R2 := fun x y H Q => match x, y with
 | .int i, .int j => Q (.int (i + j)) H
 | .str a, .str b => (L a).length + (L b).length ≤ sizeLine ∧ Q (.str (T (L a ++ L b))) H
 | .ref l, .ref b => rCat (.ref l) (.ref b) H Q
 | _, _ => False
theorem o_add : OpR X (binaryOp .Add) addV := by
 intro pins s σ H x y v u Q I rx ry h
 cases x <;> cases y <;> first
   | exact False.elim h
   | exact op_add pins s σ H _ _ v u Q I rx ry ⟨_, _, rfl, rfl, h⟩
   | exact op_cat pins s σ H _ _ v u Q I rx ry h
   | (refine op_add_str pins s σ H _ _ v u Q I rx ry ⟨_, _, rfl, rfl, ?_, ?_⟩
      · rw [← L_len, ← L_len]; exact h.1
      · rename_i a b
        have e := T_app (L a) (L b)
        rw [T_L, T_L] at e
        rw [e]; exact h.2)
def int2 (C : Int → Int → Prop) (g : Int → Int → V) : R2 := fun x y H Q => match x, y with
 | .int i, .int j => C i j ∧ Q (g i j) H
 | _, _ => False
def int2' (g : Int → Int → V) : R2 := fun x y H Q => match x, y with
 | .int i, .int j => Q (g i j) H
 | _, _ => False
theorem o_int2 {f : Value → Value → Sem Value} {C : Int → Int → Prop} {g : Int → Int → V} (h : OpR X f (rI C g)) : OpR X f (int2 C g) := by
 intro pins s σ H x y v u Q I rx ry q
 cases x <;> cases y <;> first
   | exact False.elim q
   | exact h pins s σ H _ _ v u Q I rx ry ⟨_, _, rfl, rfl, q.1, q.2⟩
theorem o_int2' {f : Value → Value → Sem Value} {g : Int → Int → V} (h : OpR X f (rI0 g)) : OpR X f (int2' g) := by
 intro pins s σ H x y v u Q I rx ry q
 cases x <;> cases y <;> first
   | exact False.elim q
   | exact h pins s σ H _ _ v u Q I rx ry ⟨_, _, rfl, rfl, q⟩
abbrev subV : R2 := int2' fun i j => .int (i - j)
theorem o_sub : OpR X (binaryOp .Sub) subV := o_int2' op_sub
abbrev modV : R2 := int2 (fun _ j => 0 < j) fun i j => .int (i % j)
theorem o_mod : OpR X (binaryOp .Mod) modV := o_int2 op_mod
abbrev powV : R2 := int2 CPow fun i j => .int (i ^ j.toNat)
theorem o_pow : OpR X (binaryOp .Pow) powV := o_int2 op_pow
def rep (n : Nat) (l : List Nat) : List Nat := (List.replicate n l).flatten
theorem foldl_app (c : List (Array Nat)) : ∀ a : Array Nat, (c.foldl (fun x y => x ++ y) a).toList = a.toList ++ (c.map Array.toList).flatten := by
 induction c with
 | nil => intro a; simp
 | cons x r ih => intro a; simp [ih]
theorem mul_T (z : Str) (n : Int) : Txt.mul z n = T (rep n.toNat (L z)) := by
 unfold Txt.mul rep
 by_cases h1 : n < 1
 · rw [if_pos h1]
   have : n.toNat = 0 := by omega
   rw [this]
   rfl
 · rw [if_neg h1]
   by_cases h2 : (n == 1 || z.length == 0) = true
   · rw [if_pos h2]
     rcases Bool.or_eq_true _ _ |>.mp h2 with e | e
     · have : n = 1 := by simpa using e
       subst this
       show z = T (List.flatten [L z])
       simp [T_L]
     · have e0 : z.length = 0 := by simpa using e
       have e1 : L z = [] := List.eq_nil_of_length_eq_zero (by rw [L_len]; exact e0)
       rw [e1]
       have e2 : z = T [] := by rw [← e1, T_L]
       rw [e2]
       congr 1
       simp
   · rw [if_neg h2]
     have e := foldl_app (List.replicate n.toNat z.cps) #[]
     rw [← T_L ⟨_⟩]
     congr 1
     show (List.foldl (fun x y => x ++ y) #[] (List.replicate n.toNat z.cps)).toList = _
     rw [e]
     simp [L]
def mulV : R2 := fun x y H Q => match x, y with
 | .int i, .int j => CMul i j ∧ Q (.int (i * j)) H
 | .str a, .int n => (-(2 ^ 63) ≤ n ∧ n < 2 ^ 63 ∧ (L a).length * n.toNat ≤ sizeLine) ∧ Q (.str (T (rep n.toNat (L a)))) H
 | .ref l, .int k => rRep (.ref l) (.int k) H Q
 | _, _ => False
theorem o_mul : OpR X (binaryOp .Mult) mulV := by
 intro pins s σ H x y v u Q I rx ry h
 cases x <;> cases y <;> first
   | exact False.elim h
   | exact op_mul pins s σ H _ _ v u Q I rx ry ⟨_, _, rfl, rfl, h.1, h.2⟩
   | exact op_rep pins s σ H _ _ v u Q I rx ry h
   | (rename_i a n
      obtain ⟨t, e⟩ := rx
      obtain ⟨t', e'⟩ := ry
      subst e e'
      obtain ⟨⟨h1, h2, h3⟩, q⟩ := h
      rw [L_len] at h3
      have hl : sizeLine = 16777216 := sizeLine_eq
      refine SB.mul ⟨?_, fun h4 h5 => ?_, fun h4 h5 => ?_⟩ fun t' k => ?_
      · rw [decide_eq_false (by omega), decide_eq_false (by omega)]; rfl
      · intro h6
        have h7 : n ≤ (a.length : Int) * n := by
          have h8 : a.length ≠ 0 := by
            intro z
            rw [z] at h5
            simp at h5
          have h9 : (1 : Int) ≤ (a.length : Int) := by omega
          calc n = 1 * n := by omega
            _ ≤ (a.length : Int) * n := Int.mul_le_mul_of_nonneg_right h9 (by omega)
        have h10 : (a.length : Int) * n ≤ 16777216 := by
          have : ((a.length * n.toNat : Nat) : Int) ≤ 16777216 := by omega
          rw [Int.natCast_mul, Int.toNat_of_nonneg (by omega)] at this
          exact this
        have h11 : (a.length : Int) ≤ (2 ^ 63 - 1) / n := by
          rw [Int.le_ediv_iff_mul_le (by omega)]
          omega
        omega
      · unfold Builtin.Str.tooLong
        exact decide_eq_false (by omega)
      · exact ⟨.str (T (rep n.toNat (L a))), H, I.tok _, ⟨_, by rw [mul_T]⟩, q⟩)
def ltV : R2 := fun x y H Q => match x, y with
 | .int i, .int j => Q (.bl (decide (i < j))) H
 | .str a, .str b => Q (.bl (decide (L a < L b))) H
 | _, _ => False
theorem o_lt : OpR X (compareOp .Lt) ltV := by
 intro pins s σ H x y v u Q I rx ry h
 cases x <;> cases y <;> first
   | exact False.elim h
   | exact op_lt pins s σ H _ _ v u Q I rx ry ⟨_, _, rfl, rfl, h⟩
   | exact op_lt_str pins s σ H _ _ v u Q I rx ry ⟨_, _, rfl, rfl, h⟩
abbrev leV : R2 := int2' fun i j => .bl (decide (i ≤ j))
abbrev gtV : R2 := int2' fun i j => .bl (decide (j < i))
abbrev geV : R2 := int2' fun i j => .bl (decide (j ≤ i))
theorem o_le : OpR X (compareOp .LtE) leV := o_int2' op_le
theorem o_gt : OpR X (compareOp .Gt) gtV := o_int2' op_gt
theorem o_ge : OpR X (compareOp .GtE) geV := o_int2' op_ge
def sc : V → V → Option Bool
 | .int i, .int j => some (decide (i = j))
 | .str a, .str b => some (decide (L a = L b))
 | .bl a, .bl b => some (decide (a = b))
 | .non, .non => some true
 | .non, .int _ => some false | .int _, .non => some false | .non, .bl _ => some false | .bl _, .non => some false | .non, .str _ => some false | .str _, .non => some false
 | .int _, .str _ => some false | .str _, .int _ => some false | .bl _, .str _ => some false | .str _, .bl _ => some false
 | _, _ => none
theorem L_inj {a b : Str} : L a = L b ↔ a = b := by
 constructor
 · intro h
   rw [← T_L a, ← T_L b, h]
 · intro h
   rw [h]
theorem sc_eq {x y : V} {b : Bool} (h : sc x y = some b) : scal x y = true ∧ b = decide (x = y) := by
 cases x <;> cases y <;> first
   | exact (nomatch (show (none : Option Bool) = some b from h))
   | (have h := Option.some.inj h
      subst h
      refine ⟨rfl, ?_⟩
      simp [L_inj])
def eqR : R2 := fun x y H Q => match sc x y with
 | some b => Q (.bl b) H
 | none => False
def neR : R2 := fun x y H Q => match sc x y with
 | some b => Q (.bl (!b)) H
 | none => False
theorem o_eq : OpR X (compareOp .Eq) eqR := by
 intro pins s σ H x y v u Q I rx ry h
 unfold eqR at h
 cases e : sc x y with
 | none => rw [e] at h; exact h.elim
 | some b =>
   rw [e] at h
   obtain ⟨h1, h2⟩ := sc_eq e
   subst h2
   exact op_eq pins s σ H x y v u Q I rx ry ⟨h1, h⟩
theorem o_ne : OpR X (compareOp .NotEq) neR := by
 intro pins s σ H x y v u Q I rx ry h
 unfold neR at h
 cases e : sc x y with
 | none => rw [e] at h; exact h.elim
 | some b =>
   rw [e] at h
   obtain ⟨h1, h2⟩ := sc_eq e
   subst h2
   exact op_ne pins s σ H x y v u Q I rx ry ⟨h1, h⟩
def isntV : R2 := fun x y H Q => match y, x with
 | .non, x => Q (.bl (!decide (x = .non))) H
 | .bl b, .bl c => Q (.bl (c != b)) H
 | _, _ => False
theorem o_isnt : OpR X (compareOp .IsNot) isntV := by
 intro pins s σ H x y v u Q I rx ry h
 cases y with
 | non => exact op_notN pins s σ H x _ v u Q I rx ry ⟨rfl, h⟩
 | bl b =>
   cases x with
   | bl c =>
     cases rx
     cases ry
     exact isnot_bool (fin_bl I h rfl)
   | _ => exact False.elim h
 | _ => cases x <;> exact False.elim h
def ixV (K : PySem.W.Frag) : R2 := fun x y H Q => match x, y with
 | .str z, .int i => (L z).length ≤ sizeLine ∧ ∃ c, atI (L z) i = some c ∧ Q (.str (T [c])) H
 | .ref p, .int i => ∃ xs v, (SqL K H p xs ∨ SqT K H p xs) ∧ atI xs i = some v ∧ Q v H
 | _, _ => False
theorem i_ix : IxR X (ixV X.K) := by
 intro value slice pins s σ H x y v u Q I rx ry h hs
 cases x <;> cases y <;> first
   | exact False.elim h
   | (obtain ⟨hz, c, e, q⟩ := h
      exact ix_str value slice pins s σ H _ _ v u Q I rx ry ⟨_, _, c, rfl, rfl, (by rw [← L_len]; exact hz), e, q⟩ hs)
   | (obtain ⟨xs, w, e | e, ei, q⟩ := h
      · exact ix_list value slice pins s σ H _ _ v u Q I rx ry ⟨_, xs, _, w, rfl, rfl, e, ei, q⟩ hs
      · exact ix_tup value slice pins s σ H _ _ v u Q I rx ry ⟨_, xs, _, w, rfl, rfl, e, ei, q⟩ hs)
def cut {α : Type} (xs : List α) (lo hi : Option Int) : List α := (xs.drop (HT.sIx xs.length 0 lo)).take (HT.sIx xs.length xs.length hi - HT.sIx xs.length 0 lo)
theorem cut_len {α : Type} (xs : List α) (lo hi : Option Int) : (cut xs lo hi).length ≤ xs.length := by
 unfold cut
 rw [List.length_take, List.length_drop]
 omega
theorem range_eq (a b : Nat) : sliceRange (a : Int) (b : Int) 1 = (List.range (b - a)).map fun k => a + k := by
 unfold sliceRange
 have h1 : (1 : Int) > 0 := by decide
 simp only [h1, if_true]
 have e2 : (if (a : Int) < (b : Int) then ((b : Int) - (a : Int) + 1 - 1) / 1 else 0).toNat = b - a := by
   split <;> omega
 rw [e2]
 apply List.map_congr_left
 intro k _
 omega
theorem ixs_eq (lo hi : Option Int) (n : Nat) : Builtin.Str.strSliceIndices lo hi 1 n = (List.range (HT.sIx n n hi - HT.sIx n 0 lo)).map fun k => HT.sIx n 0 lo + k := by
 rw [← range_eq]
 have h1 : (1 : Int) > 0 := by decide
 have cl : ∀ (i : Int) (d : Nat), max 0 (min (if i < 0 then i + (n : Int) else i) (n : Int)) = ((HT.sIx n d (some i) : Nat) : Int) := by
   intro i d
   show max 0 (min (if i < 0 then i + (n : Int) else i) (n : Int)) = (((if i < 0 then (i + (n : Int)).toNat else min i.toNat n) : Nat) : Int)
   by_cases hi : i < 0
   · rw [if_pos hi, if_pos hi]; omega
   · rw [if_neg hi, if_neg hi]; omega
 unfold Builtin.Str.strSliceIndices
 simp only [h1, if_true]
 cases lo with
 | none =>
   cases hi with
   | none => rfl
   | some j =>
     simp only [cl j n]
     rfl
 | some i =>
   cases hi with
   | none =>
     simp only [cl i 0]
     rfl
   | some j => simp only [cl i 0, cl j n]
theorem pick_L (l : List Nat) (a : Nat) : ∀ k : Nat, ((List.range k).map fun m => a + m).filterMap (fun i => l[i]?) = (l.drop a).take k
 | 0 => by simp
 | k + 1 => by
   rw [List.range_succ, List.map_append, List.filterMap_append, pick_L l a k, List.take_succ, List.getElem?_drop]
   cases e : l[a + k]? <;> simp [e]
theorem slice_T (z : Str) (lo hi : Option Int) : Txt.slice z lo hi = T (cut (L z) lo hi) := by
 unfold Txt.slice
 rw [ixs_eq]
 have e0 : (fun i : Nat => z.cps[i]?) = fun i : Nat => (L z)[i]? := by
   funext i
   simp [L]
 have hl : (L z).length = z.length := L_len z
 have h1 := HT.sIx_le z.length z.length (Nat.le_refl _) hi
 have e : T (cut (L z) lo hi) = ⟨(((List.range (HT.sIx z.length z.length hi - HT.sIx z.length 0 lo)).map fun k => HT.sIx z.length 0 lo + k).filterMap fun i => z.cps[i]?).toArray⟩ := by
   rw [e0, pick_L]
   unfold cut T
   rw [hl]
 rw [← e]
 split
 · rename_i h
   rw [List.length_map, List.length_range] at h
   have h2 : HT.sIx z.length z.length hi - HT.sIx z.length 0 lo = z.length := by simpa using h
   have h3 : HT.sIx z.length 0 lo = 0 := by
     by_cases hz : z.length = 0
     · have := HT.sIx_le z.length 0 (Nat.zero_le _) lo
       omega
     · omega
   unfold cut
   rw [hl, h2, h3, List.drop_zero, ← hl, List.take_length, T_L]
 · rfl
def slV (K : PySem.W.Frag) : V → Option Int → Option Int → Hp → VK → Prop := fun x lo hi H Q => match x with
 | .str z => (L z).length ≤ sizeLine ∧ Q (.str (T (cut (L z) lo hi))) H
 | .ref p => ∃ xs, SqL K H p xs ∧ ∀ q, H q = none → Q (.ref q) (upd H q (.lst (cut xs lo hi)))
 | _ => False
theorem part_of {v : Value} {o : Option Int} (h : IsPart v o) : ∃ q : Option (Int × Tok), v = partValue q ∧ q.map (·.1) = o := by
 cases h with
 | none => exact ⟨none, rfl, rfl⟩
 | int i t => exact ⟨some (i, t), rfl, rfl⟩
theorem s_sl : SlR X (slV X.K) := by
 intro pins s σ H x v vl vu lo hi sl Q I rx hs pl pu h
 cases x with
 | str z =>
   obtain ⟨hz, q⟩ := h
   obtain ⟨t, rfl⟩ := rx
   obtain ⟨l, rfl, el⟩ := part_of pl
   obtain ⟨u, rfl, eu⟩ := part_of pu
   refine ⟨"str", _, F.slot_str_getitem.lookup, typeIs_str _ _ _, ?_⟩
   refine wpAny_getItem_str_slice (l := l) (u := u) (st := none) hs rfl ?_
   refine post_val_or_str ⟨?_, fun t' k => ?_⟩
   · show (Txt.slice z (l.map (·.1)) (u.map (·.1))).length ≤ sizeLine
     refine Nat.le_trans (Txt.slice_le z _ _) ?_
     rw [← L_len]
     exact hz
   · refine ⟨.str (T (cut (L z) lo hi)), H, I.tok _, ⟨t', ?_⟩, q⟩
     show Value.str (Txt.slice z (l.map (·.1)) (u.map (·.1))) t' = _
     rw [slice_T, el, eu]
 | ref p =>
   obtain ⟨xs, hx, q⟩ := h
   exact sl_list pins s σ H _ v vl vu lo hi sl Q I rx hs pl pu ⟨p, xs, rfl, hx, q⟩
 | _ => exact False.elim h
def lenV (K : PySem.W.Frag) : List V → Hp → VK → Prop := fun xs H Q => match xs with
 | [.str z] => (L z).length ≤ sizeLine ∧ Q (.int (L z).length) H
 | [.ref p] => ∃ ys, (SqL K H p ys ∨ SqT K H p ys) ∧ Q (.int ys.length) H
 | _ => False
theorem c_len : CallR X (.builtin "len") (lenV X.K) := by
 intro pins s σ H xs us Q I r h
 unfold lenV at h
 split at h
 · exact call_len_str pins s σ H _ us Q I r ⟨_, rfl, by rw [← L_len]; exact h.1, by rw [← L_len]; exact h.2⟩
 · obtain ⟨ys, hy, q⟩ := h
   exact call_len_seq pins s σ H _ us Q I r ⟨_, ys, rfl, hy, q⟩
 · exact h.elim
def stAt (l p : List Nat) (k : Nat) : Bool := decide (k + p.length ≤ l.length ∧ (l.drop k).take p.length = p)
theorem sub_T (x y : Str) (k : Nat) : (decide (k + y.length ≤ x.length) && Builtin.Str.subAt x y k) = stAt (L x) (L y) k := by
 unfold stAt Builtin.Str.subAt
 rw [L_len, L_len]
 rw [Bool.eq_iff_iff]
 simp only [Bool.and_eq_true, decide_eq_true_eq, beq_iff_eq]
 refine and_congr_right fun _ => ?_
 have e : (x.cps.extract k (k + y.length)).toList = ((L x).drop k).take y.length := by
   simp [L, List.extract_eq_drop_take]
 constructor
 · intro h
   rw [← e, h]
   rfl
 · intro h
   apply Array.ext'
   rw [e, h]
   rfl
def joinL (sep : List Nat) : List (List Nat) → List Nat
 | [] => []
 | [x] => x
 | x :: y :: r => x ++ sep ++ joinL sep (y :: r)
theorem joinL_nil : ∀ xs : List (List Nat), joinL [] xs = xs.flatten
 | [] => rfl
 | [x] => by simp [joinL]
 | x :: y :: r => by
   rw [joinL, joinL_nil (y :: r)]
   simp
theorem join_T (sep : Str) : ∀ ys : List Str, Str.join sep ys = T (joinL (L sep) (ys.map L))
 | [] => rfl
 | [x] => by
   show x = T (L x)
   rw [T_L]
 | x :: y :: r => by
   show x ++ sep ++ Str.join sep (y :: r) = T (L x ++ L sep ++ joinL (L sep) ((y :: r).map L))
   rw [join_T sep (y :: r), ← T_app, ← T_app, T_L, T_L]
theorem strs_of : ∀ {zs : List Str} {us : List Value}, Vals (zs.map V.str) us → StrsAre us zs := by
 intro zs
 induction zs with
 | nil => intro us r; cases r; exact .nil
 | cons z r ih =>
   intro us h
   rw [List.map_cons] at h
   cases h with
   | cons r1 r2 =>
     obtain ⟨t, rfl⟩ := r1
     exact .cons z t (ih r2)
def joinV (K : PySem.W.Frag) : V → List V → Hp → VK → Prop := fun x xs H Q => match x, xs with
 | .str a, [.ref p] => ∃ zs : List (List Nat), SqL K H p (zs.map fun l => V.str (T l)) ∧ (zs.map List.length).sum + zs.length * (L a).length ≤ sizeLine ∧ Q (.str (T (joinL (L a) zs))) H
 | _, _ => False
theorem m_join : MtR X "str.join" (joinV X.K) := by
 intro pins s σ H x xs v us Q I rx rs h
 unfold joinV at h
 split at h
 · rename_i a p
   obtain ⟨zs, hp, hz, q⟩ := h
   obtain ⟨t, rfl⟩ := rx
   obtain ⟨u, rfl, ru⟩ := vals1 rs
   cases ru
   obtain ⟨its, r', pl, _⟩ := I.list hp
   have e : (zs.map fun l => V.str (T l)) = (zs.map T).map V.str := by simp
   rw [e] at r'
   have hl : sizeLine = 16777216 := sizeLine_eq
   refine join_list (ys := zs.map T) pl.isList (by simpa using strs_of r') ?_ fun t' k => ?_
   · rw [List.map_map, List.length_map, ← L_len a]
     have : (Str.length ∘ T) = List.length := by
       funext l
       exact T_len l
     rw [← hl]
     show (List.map (Str.length ∘ T) zs).sum + _ ≤ _
     rw [this]
     exact hz
   · refine ⟨.str (T (joinL (L a) zs)), H, I.tok _, ⟨t', ?_⟩, q⟩
     show Value.str (Txt.join a (zs.map T)) t' = _
     have e2 : Txt.join a (zs.map T) = Str.join a (zs.map T) := StrLaws.glued_eq_join _ _
     rw [e2, join_T, List.map_map]
     congr 3
     simp [L_T, Function.comp_def]
 · exact h.elim
end
end L2
namespace L2
open PySem PySem.Spec PyProof.Rows
theorem ObjOk.forget {P : Program} {w : World} {H H' : Hp} {h h' : Heap} {a : Addr} {o : HO} (x : ObjOk P w H h a o) (y : ObjOk P w H' h' a o) : ObjOk P w H h' a o := by
 induction o with
 | frz ob u ih => exact ⟨y.1, ih x.2 y.2⟩
 | ins C dx fs => exact ⟨x.1, y.2⟩
 | dT kvs => exact False.elim x
 | _ => exact y
theorem HOk.forget {P : Program} {w : World} {H H' : Hp} {h h' : Heap} (x : HOk P w H h) (y : HOk P w H' h') (sm : Same H H') : HOk P w H h' := fun a o e => (x a o e).forget (y a o (sm a o e))
section
variable {X : Cx} {pins : List (Addr × Obj)} {σ σ' : St} {H H' : Hp} {s s' : Shared}
theorem Same.upd {H H' : Hp} {a : Addr} {o : HO} (e : Same H H') (n : H' a = none) : Same H (upd H' a o) := fun b u q => by
 have q' := e b u q
 rw [upd_ne (ne_of_none q' n)]
 exact q'
theorem Same.updN {H : Hp} {a : Addr} {o : HO} (n : H a = none) : Same H (L2.upd H a o) := Same.upd (Same.refl H) n
end
structure Fn (P : Program) (w : World) (K : PySem.W.Frag) (mg : Str → Option Value) (base : Heap) (k : Nat) (x : Str) (ps : List Str) (sp : Sp) : Prop where
 ex : ∃ f fd, FnOk P w K mg base CX0 k f fd ps sp ∧ mg x = some (.ref f) ∧ PySem.W.keepIn K (.ref f) = true ∧ Binds K fd ps []
section
variable {P : Program} {w : World} {K : PySem.W.Frag} {mg : Str → Option Value} {base : Heap}
theorem Fun.pure {x qual : Str} {st : Stmt} {f : Addr} {fd : FuncData} {N ps : List Str} {k : Nat} {sp : Sp} (F : Fun K x qual st f fd) (S : FnScope N ps (defScope st)) (len : ∀ vs H Q E, sp vs H Q E → vs.length = ps.length)
   (hbody : ∀ (cdv : Value) (A : Around) (outer : List Env) (s : Shared) (H : Hp) (vs : List V) (Q : VK) (E : XK), Room k (A.deeper (envOfC qual (defScope st) s.heap.objs.size f cdv)) → sp vs H Q E →
     ∃ t, PSs (cxOf CX0 P w K mg base N qual (defScope st) f cdv A outer s H E).nox (defBody st) t ∧ t { nx := fun _ H' => Same H H' ∧ Q .non H, rt := fun v H' => Same H H' ∧ Q v H } (start N vs) H) : FnOk P w K mg base CX0 (k + 1) f fd ps sp := by
 have F1 : FnOk P w K mg base CX0 (k + 1) f fd ps (fun vs H Q' E => ∃ Q, sp vs H Q E ∧ Q' = fun v H' => Same H H' ∧ Q v H) := by
   refine F.ok S (fun vs H Q E ⟨Q0, h, _⟩ => len vs H Q0 E h) fun cdv A outer s H vs Q E hr ⟨Q0, h, e⟩ => ?_
   subst e
   exact hbody cdv A outer s H vs Q0 E hr h
 refine ⟨len, fun A outer s H args us vs Q E hr e0 hb r hsp => ?_⟩
 refine codeAny_mono (F1.run A outer s H args us vs (fun v H' => Same H H' ∧ Q v H) E hr e0 hb r ⟨Q, hsp, rfl⟩) fun r s' h => ?_
 cases r with
 | error e => exact h
 | ok fl =>
   cases fl with
   | ret u =>
     obtain ⟨v, H', os, bare, un, hok, rv, sm, q⟩ := h
     exact ⟨v, H, os, bare, ⟨un.keep, un.slot, fun _ _ _ n _ => n, un.there, fun _ _ q => q, fun _ _ _ q => q, fun _ ps q => ⟨#[], by rw [q]; simp⟩⟩, e0.hok.forget hok sm, rv, q⟩
   | next => exact h
   | brk => exact h
   | cont => exact h
end
section
variable {X : Cx} {k : Nat} {x : Str} {ps : List Str} {sp : Sp} {p pos : Pos} {e : Expr} {es : List Expr} {t : TA}
def tFn (sp : Sp) (t : TA) : TE := fun σ H Q => t σ H fun vs H1 => sp vs H1 Q E0
theorem pe_fn (F : Fn X.prog X.w X.K X.mg X.base k x ps sp) (hr : Room k X.A) (ha : PA X (e :: es) t) (hg : Gl X x := by rfl) (hdb : (x == ("__debug__" : Str)) = false := by decide)
   (he : starEach (e :: es) X.env = (false, eval e X.env) :: starEach es X.env := by rfl) (hpl : (backTo pos (starEach es X.env)).any (·.1) = false := by rfl) : PE X (.Call (.Name x p) (e :: es) [] pos) (tFn sp t) := by
 obtain ⟨f, fd, F, hm, hk, hb⟩ := F.ex
 intro pins s σ H Q I h
 refine pe_call F hr hg hm hk hb .nil pass0 ha hdb he hpl pins s σ H Q I ?_
 show t σ H fun vs H1 => sp (vs ++ []) H1 Q E0
 simp only [List.append_nil]
 exact h
theorem pe_fn0 (F : Fn X.prog X.w X.K X.mg X.base k x ps sp) (hr : Room k X.A) (hg : Gl X x := by rfl) (hdb : (x == ("__debug__" : Str)) = false := by decide) : PE X (.Call (.Name x p) [] [] pos) (fun _ H Q => sp [] H Q E0) := by
 obtain ⟨f, fd, F, hm, hk, hb⟩ := F.ex
 intro pins s σ H Q I h
 exact pe_call0 F hr hg hm hk hb .nil pass0 hdb pins s σ H Q I h
end
def closL : List (Str × NameKind) → List (Str × Addr) → List (Str × Addr) → Option (List (Str × Addr))
 | [], _, acc => some acc
 | (n, k) :: r, cells, acc => if k == .free then (match cells.lookup n with
     | some c => closL r cells ((n, c) :: acc)
     | none => none) else closL r cells acc
theorem closureFor_L {scope : Scope} {env : Env} {cl : List (Str × Addr)} (h : closL scope.names env.cells [] = some cl) : closureFor scope env = pure cl := by
 have all : ∀ (names : List (Str × NameKind)) (acc : List (Str × Addr)), closL names env.cells acc = some cl →
     (do
       let mut cs := acc
       for (name, kind) in names do
         if kind == .free then cs := (name, ← cellOf env name) :: cs
       return cs : Sem (List (Str × Addr))) = pure cl := by
   intro names
   induction names with
   | nil =>
     intro acc h
     cases Option.some.inj (show some acc = some cl from h)
     rfl
   | cons x r ih =>
     intro acc h
     obtain ⟨n, k⟩ := x
     unfold closL at h
     dsimp only at ih ⊢
     rw [List.forIn_cons]
     dsimp only
     cases hk : (k == NameKind.free) with
     | false =>
       rw [hk] at h
       simp only [hk, Bool.false_eq_true, if_false] at h ⊢
       exact ih acc h
     | true =>
       rw [hk] at h
       simp only [hk, if_true] at h ⊢
       cases hc : env.cells.lookup n with
       | none => rw [hc] at h; cases h
       | some c =>
         rw [hc] at h
         unfold cellOf
         simp only [hc]
         exact ih ((n, c) :: acc) h
 exact all scope.names [] h
theorem closL_in {cells : List (Str × Addr)} {cl : List (Str × Addr)} : ∀ (names : List (Str × NameKind)) (acc : List (Str × Addr)), closL names cells acc = some cl →
   (∀ x c, acc.lookup x = some c → cells.lookup x = some c) → (∀ x c, cl.lookup x = some c → cells.lookup x = some c) ∧ ∀ x, ((∃ c, acc.lookup x = some c) ∨ names.lookup x = some .free) → ∃ c, cl.lookup x = some c
 | [], acc, h, ha => by
   cases Option.some.inj (show some acc = some cl from h)
   exact ⟨ha, fun x hx => hx.elim id fun z => by simp at z⟩
 | (n, k) :: r, acc, h, ha => by
   unfold closL at h
   cases hk : (k == NameKind.free) with
   | false =>
     rw [hk] at h
     simp only [Bool.false_eq_true, if_false] at h
     obtain ⟨h1, h2⟩ := closL_in r acc h ha
     refine ⟨h1, fun x hx => h2 x (hx.imp id fun z => ?_)⟩
     rw [List.lookup_cons] at z
     cases hx : x == n with
     | true =>
       rw [hx] at z
       cases Option.some.inj z
       cases hk
     | false => rw [hx] at z; exact z
   | true =>
     rw [hk] at h
     simp only [if_true] at h
     cases hc : cells.lookup n with
     | none => rw [hc] at h; cases h
     | some c =>
       rw [hc] at h
       obtain ⟨h1, h2⟩ := closL_in r ((n, c) :: acc) h (fun x d hx => by
         rw [List.lookup_cons] at hx
         cases e : x == n with
         | true =>
           rw [e] at hx
           cases Option.some.inj hx
           rw [eq_of_beq e]
           exact hc
         | false => rw [e] at hx; exact ha x d hx)
       refine ⟨h1, fun x hx => ?_⟩
       cases e : x == n with
       | true => exact h2 x (.inl ⟨c, by rw [List.lookup_cons, e]⟩)
       | false =>
         refine h2 x ?_
         rcases hx with ⟨d, hd⟩ | hx
         · exact .inl ⟨d, by rw [List.lookup_cons, e]; exact hd⟩
         · rw [List.lookup_cons, e] at hx
           exact .inr hx
theorem relabel_of {scope : Scope} {env : Env} {x : Str} {k : NameKind} (h : scope.names.lookup x = some k) : (relabel scope env).names.lookup x = some (if (k == .free && env.scope.kind == .function && env.kindOf x == some .cell) = true then .cell else k) := by
 unfold relabel
 dsimp only
 generalize scope.names = names at h
 induction names with
 | nil => simp at h
 | cons y r ih =>
   obtain ⟨n, j⟩ := y
   rw [List.map_cons]
   rw [List.lookup_cons] at h
   cases e : x == n with
   | true =>
     rw [e] at h
     cases Option.some.inj h
     have en := eq_of_beq e
     subst en
     dsimp only
     split <;> rw [List.lookup_cons, beq_self_eq_true]
   | false =>
     rw [e] at h
     have := ih h
     dsimp only
     split <;> (rw [List.lookup_cons, e]; exact this)
theorem relabel_none {scope : Scope} {env : Env} {x : Str} (h : scope.names.lookup x = none) : (relabel scope env).names.lookup x = none := by
 unfold relabel
 dsimp only
 generalize scope.names = names at h
 induction names with
 | nil => rfl
 | cons y r ih =>
   obtain ⟨n, j⟩ := y
   rw [List.map_cons]
   rw [List.lookup_cons] at h
   cases e : x == n with
   | true => rw [e] at h; cases h
   | false =>
     rw [e] at h
     have := ih h
     dsimp only
     split <;> (rw [List.lookup_cons, e]; exact this)
def PFs (X : Cx) (ifs : List Expr) (t : TT) : Prop :=
 ∀ (pins : List (Addr × Obj)) (s : Shared) (σ : St) (H : Hp) (Q : Bool → Hp → Prop), Inv X pins σ H s → t σ H Q →
   wpAny (model X.prog X.w) X.A (forIn ifs true fun c r => if r = true then do let ok ← isTrue c X.env (eval c X.env); pure (ForInStep.yield ok) else pure (ForInStep.yield r)) (TP X pins σ Q) X.xe s
theorem pf_nil {X : Cx} : PFs X [] (fun _ H Q => Q true H) := fun _ _ _ H _ I h => wpAny_tests_nil ⟨H, I, h⟩
theorem pf_one {X : Cx} {c : Expr} {t : TT} (h : PT X c t) : PFs X [c] t := fun pins s σ H Q I q => wpAny_tests_one (h pins s σ H Q I q)
def CapOk (X : Cx) (scope : Scope) : List (Str × Nat) → Prop
 | [] => True
 | (x, j) :: r => (X.N[j]? = some x ∧ X.env.scope.names.lookup x = some .cell ∧ scope.names.lookup x = some .free) ∧ CapOk X scope r
theorem CapOk.get {X : Cx} {scope : Scope} : ∀ {cp : List (Str × Nat)} {i : Nat} {x : Str} {j : Nat}, CapOk X scope cp → cp[i]? = some (x, j) → X.N[j]? = some x ∧ X.env.scope.names.lookup x = some .cell ∧ scope.names.lookup x = some .free
 | [], _, _, _, _, e => by simp at e
 | (y, k) :: r, 0, x, j, h, e => by
   simp at e
   obtain ⟨rfl, rfl⟩ := e
   exact h.1
 | _ :: r, i + 1, x, j, h, e => CapOk.get (cp := r) (i := i) h.2 (by simpa using e)
def capS (n : Nat) (cp : List (Str × Nat)) (σ : St) : St := List.replicate n none ++ cp.map fun p => gS σ p.2
def cxC (X : Cx) (scope : Scope) (cl : List (Str × Addr)) (N : List Str) (fp : List Addr) (C : Addr) (s : Shared) (H : Hp) : Cx :=
 { X with N := N, s₀ := s, H₀ := H, env := compEnvC scope cl C X.env, outer := X.stack, stack := X.stack, ex := fp, fn := fun _ => false, pn := [], xe := fun _ _ => False }
def GKeep (n : Nat) (g : TG) : Prop := ∀ x σ H Q, g x σ H Q → g x σ H fun σ' H' => Q σ' H' ∧ ∀ j : Nat, n ≤ j → σ'[j]? = σ[j]?
theorem gk_name {n i : Nat} (h : i < n) : GKeep n (gName i) := fun x σ H Q q => ⟨q, fun j hj => List.getElem?_set_ne (by omega)⟩
def tComp (n : Nat) (cp : List (Str × Nat)) (wi : TI) (g : TG) (tc : TT) (te : TE) : TE := fun σ H Q => wi σ H fun J H1 => ∃ W : Nat → Nat → Hp → List V → Prop, (∃ m, W 0 m H1 []) ∧ ∀ i m H2 acc, W i m H2 acc →
 acc.length < sizeLine ∧ ((J.stop i H2 ∧ ∀ l, H2 l = none → Q (.ref l) (upd H2 l (.lst acc))) ∨
   (J.go i H2 ∧ ∀ x H3, J.yld i H2 x H3 → g x (capS n cp σ) H3 fun σ' H4 => tc σ' H4 fun b H5 => if b = true then te σ' H5 fun y H6 => ∃ m', m' < m ∧ W (i + 1) m' H6 (acc ++ [y]) else ∃ m', m' < m ∧ W (i + 1) m' H5 acc))
abbrev lobj (its : List Value) (n : Nat) : Obj := { cls := .type "list", data := .seq its.toArray n }
section
variable {X : Cx} {pins : List (Addr × Obj)} {σ : St} {H2 : Hp} {s2 : Shared} {scope : Scope} {cl : List (Str × Addr)} {own : List Str} {cp : List (Str × Nat)} {fp : List Addr} {C D : Addr} {h1 : Heap}
theorem comp_ok (I : Inv X pins σ H2 s2) (hcl : closL scope.names X.env.cells [] = some cl) (hk : scope.kind = .function) (hnc : ∀ y ∈ scope.names, y.2 ≠ .cell)
   (f2 : ∀ b ∈ fp, FpOk X pins H2 b) (hC : s2.heap.objs.size ≤ C) (hlt : ∀ b ∈ fp, b < s2.heap.objs.size) (N : List Str) : (cxC X scope cl N fp C s2 H2).Ok := by
 have c1 := (closL_in scope.names [] hcl (fun x c h => by simp at h)).1
 have c2 := (closL_in scope.names [] hcl (fun x c h => by simp at h)).2
 refine ⟨I.ok.mod, hk, I.ok.glob, I.ok.blt, hC, fun x y c h1 h2 => I.ok.inj x y c (c1 x c h1) (c1 y c h2), fun x hx => ?_, fun x c h _ => absurd h (by simp [cxC]), I.ok.hd, I.ok.frames, .inl rfl, fun b hb => ⟨?_, fun x c h => ?_⟩, I.bs, Nat.le_trans I.ok.bsz I.sz, fun b o e hb => ?_, fun b hb hf => ?_, I.stack, I.stkFree⟩
 · have hx : (relabel scope X.env).names.lookup x = some .cell ∨ (relabel scope X.env).names.lookup x = some .free := hx
   cases e : scope.names.lookup x with
   | none => rw [relabel_none e] at hx; rcases hx with z | z <;> cases z
   | some k =>
     rw [relabel_of e] at hx
     refine c2 x (.inr ?_)
     by_cases hf : (k == .free && X.env.scope.kind == .function && X.env.kindOf x == some .cell) = true
     · have : k = .free := by
         simp only [Bool.and_eq_true] at hf
         exact eq_of_beq hf.1.1
       rw [e, this]
     · rw [if_neg hf] at hx
       rcases hx with z | z
       · cases Option.some.inj z
         exact absurd rfl (hnc _ (PySem.mem_of_lookup e))
       · cases Option.some.inj z
         exact e
 · exact Nat.ne_of_lt (Nat.lt_of_lt_of_le (hlt b hb) hC)
 · exact (f2 b hb).2.2.2.2.1 x c (c1 x c h)
 · rcases (f2 b hb).2.2.2.1 with z | z
   · exact I.ok.noex b o e z
   · exact absurd (Nat.lt_of_lt_of_le (Heap.lt_size e) (Nat.le_trans I.ok.bsz z)) (Nat.lt_irrefl _)
 · have hf : b ∈ frs X.stack := hf
   rcases List.mem_cons.mp (I.stkSub b hf) with z | z
   · exact (f2 b hb).2.1 z
   · exact (f2 b hb).2.2.1 z
theorem comp_start {tk : Nat} (I : Inv X pins σ H2 s2) (hcl : closL scope.names X.env.cells [] = some cl) (hk : scope.kind = .function) (hnc : ∀ y ∈ scope.names, y.2 ≠ .cell) (hcp : CapOk X scope cp)
   (f2 : ∀ b ∈ fp, FpOk X pins H2 b) (hC : s2.heap.objs.size < C) (hlt : ∀ b ∈ fp, b < s2.heap.objs.size) (hns : h1.Ns C (fun _ => none)) (old : ∀ b o, s2.heap.get? b = some o → h1.get? b = some o)
   (hD : h1.get? s2.heap.objs.size = some (lobj [] 0)) :
   Inv (cxC X scope cl (own ++ cp.map (·.1)) fp C s2 H2) [(s2.heap.objs.size, lobj [] 0)] (capS own.length cp σ) H2 { s2 with heap := h1, toks := tk } := by
 have ok := comp_ok I hcl hk hnc f2 (Nat.le_of_lt hC) hlt (own ++ cp.map (·.1))
 have c1 := (closL_in scope.names [] hcl (fun x c h => by simp at h)).1
 have c2 := (closL_in scope.names [] hcl (fun x c h => by simp at h)).2
 obtain ⟨m, hm, hl⟩ := id I.loc
 refine ⟨ok, rfl, I.bare, Un.kept old, ⟨_, hns, fun i x v e1 e2 e3 => ?_⟩, fun x c e => ?_, I.hok.fresh (Nat.le_of_lt hC), fun x c e => I.freeC x c (c1 x c e), fun p hp => ?_, I.hok.kept old, ?_⟩
 · have e1 : (own ++ cp.map (·.1))[i]? = some x := e1
   unfold capS at e2
   by_cases hi : i < own.length
   · rw [List.getElem?_append_left (by simpa using hi), List.getElem?_replicate] at e2
     split at e2 <;> cases e2
   · rw [List.getElem?_append_right (by simpa using hi), List.length_replicate, List.getElem?_map] at e2
     rw [List.getElem?_append_right (by omega), List.getElem?_map] at e1
     cases q : cp[i - own.length]? with
     | none => rw [q] at e1; cases e1
     | some p =>
       rw [q] at e1 e2
       obtain ⟨y, j⟩ := p
       cases Option.some.inj e1
       obtain ⟨g1, g2, g3⟩ := hcp.get q
       have e4 : gS σ j = some v := Option.some.inj e2
       obtain ⟨u, r, lk⟩ := hl j y v g1 (gS_get e4) (.inr (.inl g2))
       refine ⟨u, r, .inr ⟨?_, ?_⟩⟩
       · left
         show (relabel scope X.env).names.lookup y = some .cell
         rw [relabel_of g3]
         rw [if_pos]
         have : X.env.kindOf y = some .cell := g2
         rw [this, I.ok.kind]
         rfl
       · rcases lk with ⟨z, _⟩ | ⟨_, c, z, zc⟩
         · have z' : X.env.scope.names.lookup y = some .local := z
           rw [g2] at z'
           cases z'
         · obtain ⟨d, hd⟩ := c2 y (.inr g3)
           have hd' := c1 y d hd
           rw [z] at hd'
           cases Option.some.inj hd'
           obtain ⟨o, ho, hdt⟩ := zc
           exact ⟨c, hd, o, old _ _ ho, hdt⟩
 · obtain ⟨v, o, ho, hd⟩ := I.cell x c (c1 x c e)
   exact ⟨v, o, old _ _ ho, hd⟩
 · have hp : p ∈ [(s2.heap.objs.size, lobj [] 0)] := hp
   cases List.mem_singleton.mp hp
   refine ⟨hD, I.hok.fresh (Nat.le_refl _), Nat.ne_of_lt hC, fun hf => ?_, fun v z => by cases z⟩
   have hf : s2.heap.objs.size ∈ frs X.stack := hf
   rcases List.mem_cons.mp (I.stkSub _ hf) with z | z
   · exact Nat.ne_of_gt I.lt z
   · exact I.nofs (Nat.le_refl _) z
 · show (capS own.length cp σ).length = (own ++ cp.map (·.1)).length
   unfold capS
   simp
theorem comp_end {X' : Cx} {σ' : St} {H' : Hp} {s' : Shared} {h'' : Heap} {acc : List V} {its : List Value} {n : Nat} (I : Inv X pins σ H2 s2) (f2 : ∀ b ∈ fp, FpOk X pins H2 b)
   (hX : X' = cxC X scope cl (own ++ cp.map (·.1)) fp C s2 H2) (hC : s2.heap.objs.size < C) (J : Inv X' [(s2.heap.objs.size, lobj its n)] σ' H' s') (rv : Vals acc its) (hz : acc.length ≤ sizeLine)
   (hsb : Heap.SameBut C s'.heap h'') : H' s2.heap.objs.size = none ∧ Inv X pins σ (upd H' s2.heap.objs.size (.lst acc)) { s' with heap := h'' } := by
 subst hX
 obtain ⟨p1, p2, p3, p4, p5⟩ := J.pin (s2.heap.objs.size, lobj its n) (List.mem_append_right _ (List.mem_singleton.mpr rfl))
 have p1 : s'.heap.get? s2.heap.objs.size = some (lobj its n) := p1
 have p2 : H' s2.heap.objs.size = none := p2
 have hfC : H' C = none := J.free
 have up : ∀ b o, b ≠ C → s'.heap.get? b = some o → h''.get? b = some o := fun b o hb e => (hsb.2 b hb).trans e
 have ltC : ∀ b o, s2.heap.get? b = some o → b ≠ C := fun b o e => Nat.ne_of_lt (Nat.lt_trans (Heap.lt_size e) hC)
 have ltD : ∀ b o, s2.heap.get? b = some o → b ≠ s2.heap.objs.size := fun b o e => Nat.ne_of_lt (Heap.lt_size e)
 have B : Un (frs X.stack) fp H2 H' s2.heap s'.heap := J.base
 refine ⟨p2, I.call' (ch := fp) J.os ⟨fun b o e n hb hx => up b o (ltC b o e) (B.keep b o e n hb hx), fun b o e n hb hx => ?_, fun b o e n hx => ?_, fun b o e hx => ?_, fun b xs e => ?_, fun b o u e => ?_, fun b ps e => ?_⟩ (fun a o e => ?_) J.bare
   fun b hb => ⟨(f2 b hb).2.2.2.1, (f2 b hb).2.1, (f2 b hb).2.2.2.2.1, (f2 b hb).2.2.2.2.2⟩⟩
 · obtain ⟨sl, e1⟩ := B.slot b o e n hb hx
   exact ⟨sl, up b _ (ltC b o e) e1⟩
 · rw [upd_ne (ltD b o e)]
   exact B.free b o e n hx
 · obtain ⟨o', e1⟩ := B.there b o e hx
   exact ⟨o', up b o' (ltC b o e) e1⟩
 · have q := B.tups b xs e
   rw [upd_ne (ne_of_none q p2)]
   exact q
 · have q := B.frzs b o u e
   rw [upd_ne (ne_of_none q p2)]
   exact q
 · obtain ⟨more, q⟩ := B.tbls b ps e
   exact ⟨more, by rw [upd_ne (ne_of_none q p2)]; exact q⟩
 · by_cases ha : a = s2.heap.objs.size
   · subst ha
     rw [upd_same] at e
     cases e
     exact ⟨hz, its, n, rv, up _ _ (Nat.ne_of_lt hC) p1⟩
   · rw [upd_ne ha] at e
     refine (J.hok a o e).stay (fun b u hb q => up b u ?_ q) (fun b q => ?_) fun b xs q => ?_
     · rintro rfl
       rcases hb with z | z
       · subst z
         rw [hfC] at e
         cases e
       · rw [hfC] at z
         cases z
     · rw [upd_ne (ne_of_none q p2)]
       exact q
     · rw [upd_ne (ne_of_none q p2)]
       exact q
end
theorem thnE {α : Type} {t : Sem α} {Q Q' : α → Shared → Prop} {M : Model} {A : Around} {E : Value → Shared → Prop} {s : Shared} (h : wpAny M A t Q (fun _ _ => False) s) (hQ : ∀ a s, Q a s → Q' a s) : wpAny M A t Q' E s := wpAny_mono h hQ fun _ _ x => x.elim
section
variable {X : Cx}
theorem pe_comp {elt iter target : Expr} {ifs : List Expr} {scope : Scope} {pos : Pos} {cl : List (Str × Addr)} {own : List Str} {cp : List (Str × Nat)} {wi : TI} {g : TG} {tc : TT} {te : TE}
   (hc : X.calm = true) (hcl : closL scope.names X.env.cells [] = some cl) (hk : scope.kind = .function) (hnc : ∀ y ∈ scope.names, y.2 ≠ .cell)
   (hnm : ∀ x ∈ scope.names, x.2 = .local → scope.names.lookup x.1 = some .local) (hcp : CapOk X scope cp) (hi : PI X target iter wi) (gk : GKeep own.length g)
   (hg : ∀ fp C s H, PG (cxC X scope cl (own ++ cp.map (·.1)) fp C s H) target g) (ht : ∀ fp C s H, PFs (cxC X scope cl (own ++ cp.map (·.1)) fp C s H) ifs tc) (he : ∀ fp C s H, PE (cxC X scope cl (own ++ cp.map (·.1)) fp C s H) elt te)
   (hs : ∀ x, foldedSetIterable iter X.env x = pure x := by intro _; rfl) : PE X (.ListComp elt [⟨target, iter, ifs, 0⟩] scope pos) (tComp own.length cp wi g tc te) := by
 intro pins s σ H Q I h
 rw [eval_ListComp]
 refine wpAny_comprehension_free (use := none) rfl hs (closureFor_L hcl) hk hnm (thn (hi pins s σ H _ I h) fun xv s1 h1 => thn h1 fun itv s2 h2 => ?_)
 obtain ⟨it, fp, tn, J, H2, e, I2, Tn, st2, f2, W, ⟨m0, w0⟩, turn⟩ := h2
 subst e
 have hlt : ∀ b ∈ fp, b < s2.heap.objs.size := fun b hb => by
   obtain ⟨o, e, _⟩ := Tn.obj _ _ st2 b hb
   exact Heap.lt_size e
 refine wpAny_newObj_type (wpAny_newFunctionEnv hnc (by intro y hy; simp at hy) (fun h1 hns hsb => ?_) hk)
 dsimp only at hns hsb ⊢
 generalize hP : s2.heap.push { cls := .type "list", dict := none, data := .seq ([] : List Value).toArray } = h0 at hns hsb ⊢
 have hCs : h0.objs.size = s2.heap.objs.size + 1 := by rw [← hP, Heap.size_push]
 generalize hCg : h0.objs.size = C at hns hsb hCs ⊢
 have hC : s2.heap.objs.size < C := by omega
 have neC : ∀ b : Addr, b < s2.heap.objs.size → b ≠ C := fun b h => Nat.ne_of_lt (Nat.lt_trans h hC)
 have old : ∀ b o, s2.heap.get? b = some o → h1.get? b = some o := fun b o e =>
   (hsb.2 b (neC b (Heap.lt_size e))).trans (by rw [Heap.get?_push_of_some _ (by rw [← hP]; exact Heap.get?_push_of_some _ e)])
 have hD : h1.get? s2.heap.objs.size = some (lobj [] 0) :=
   (hsb.2 _ (Nat.ne_of_lt hC)).trans (by rw [Heap.get?_push_of_some _ (by rw [← hP]; exact Heap.get?_push_size _ rfl)])
 have fpok : ∀ {its : List Value} {k : Nat} {H' : Hp}, (∀ b ∈ fp, H' b = none) → ∀ b ∈ fp, FpOk (cxC X scope cl (own ++ cp.map (·.1)) fp C s2 H2) [(s2.heap.objs.size, lobj its k)] H' b := fun {its k H'} fr b hb => by
   refine ⟨fr b hb, neC b (hlt b hb), fun hf => ?_, .inl hb, fun x c e => ?_, fun p hp => ?_⟩
   · have hf : b ∈ frs X.stack := hf
     rcases List.mem_cons.mp (I2.stkSub b hf) with z | z
     · exact (f2 b hb).2.1 z
     · exact (f2 b hb).2.2.1 z
   · exact (f2 b hb).2.2.2.2.1 x c ((closL_in scope.names [] hcl (fun x c h => by simp at h)).1 x c e)
   · have hp : p ∈ [(s2.heap.objs.size, lobj its k)] := hp
     cases List.mem_singleton.mp hp
     exact Nat.ne_of_gt (hlt b hb)
 have loop : ∀ s4 : Shared, s4 = { s2 with heap := h1, toks := s2.toks + ([] : List (Str × Value)).length } →
     codeAny (model X.prog X.w) X.A (.compLoop (.ListComp elt [⟨target, iter, ifs, 0⟩] scope pos) 0 (.ref it) (.ref s2.heap.objs.size) (compEnvC scope cl C X.env))
       (compPost (model X.prog X.w) X.A X.xe none (EP X pins σ Q) (.ref s2.heap.objs.size) C) s4 := by
   intro s4 e4
   have I4 : Inv (cxC X scope cl (own ++ cp.map (·.1)) fp C s2 H2) [(s2.heap.objs.size, lobj [] 0)] (capS own.length cp σ) H2 s4 := by
     rw [e4]
     exact comp_start I2 hcl hk hnc hcp f2 hC hlt (by simpa using hns) old hD
   have st4 : tn 0 s4.heap := by
     rw [e4]
     exact Tn.keep _ _ _ st2 fun b _ o e => old b o e
   refine codeAny_loop rfl (fun n s' => ∃ i H' acc its k, Inv (cxC X scope cl (own ++ cp.map (·.1)) fp C s2 H2) [(s2.heap.objs.size, lobj its k)] (capS own.length cp σ) H' s' ∧ Vals acc its ∧ tn i s'.heap ∧ (∀ b ∈ fp, H' b = none) ∧ W i n H' acc)
     (fun n s' hI => ?_) m0 ⟨0, H2, [], [], 0, I4, .nil, st4, fun b hb => (f2 b hb).1, w0⟩
   obtain ⟨i, H', acc, its, k, I', rv, st, fr, w⟩ := hI
   show wpAny _ X.A ((compTurn (.ListComp elt [⟨target, iter, ifs, 0⟩] scope pos) 0 (.ref it) (.ref s2.heap.objs.size) (compEnvC scope cl C X.env)).onRaise (fun x => do noteFrame x (compEnvC scope cl C X.env); theTreesLotGoes x)) _ _ s'
   refine wpAny_noted ?_
   rw [compTurn_list]
   refine wpAny_bind (wpAny_standAt (wpAny_bind ?_))
   obtain ⟨hz, ⟨stop, fin⟩ | ⟨go, step⟩⟩ := turn i n H' acc w
   · refine thnE (Tn.done (cxC X scope cl (own ++ cp.map (·.1)) fp C s2 H2) rfl rfl rfl hc i _ s' _ H' (fun _ _ => False) I' (fpok fr) st stop) fun r s5 ⟨hr, I5⟩ => ?_
     subst hr
     refine wpAny_pure ?_
     obtain ⟨mm, hmm, _⟩ := I5.loc
     refine ⟨mm, hmm, fun h'' hs'' => ?_⟩
     obtain ⟨hn, I6⟩ := comp_end I2 f2 rfl hC I5 rv (Nat.le_of_lt hz) hs''
     exact ⟨.ref s2.heap.objs.size, _, I6, rfl, fin _ hn⟩
   · refine thnE (Tn.item (cxC X scope cl (own ++ cp.map (·.1)) fp C s2 H2) rfl rfl rfl hc i _ s' _ H' (fun _ _ => False) I' (fpok fr) st go) fun r s5 ⟨u, hr, h5⟩ => ?_
     subst hr
     refine wpAny_bind (thnE h5 fun _ s6 ⟨x, H6, I6, r6, y6, st6, fr6⟩ => ?_)
     have I6' := I6.pinned (fpok fr6) (Tn.obj _ _ st6)
     refine wpAny_bind (thnE (hg fp C s2 H2 _ s6 _ H6 x u _ I6' r6 (gk _ _ _ _ (step x H6 y6))) fun _ s7 ⟨σ7, H7, I7, q7, kp7⟩ => ?_)
     refine wpAny_bind (thnE (ht fp C s2 H2 _ s7 σ7 H7 _ I7 q7) fun b s8 ⟨H8, I8, q8⟩ => ?_)
     have weak : ∀ {H9 : Hp} {s9 : Shared} {ps : List (Addr × Obj)}, Inv (cxC X scope cl (own ++ cp.map (·.1)) fp C s2 H2) ps σ7 H9 s9 → Inv (cxC X scope cl (own ++ cp.map (·.1)) fp C s2 H2) ps (capS own.length cp σ) H9 s9 := fun {H9 s9 ps} I9 =>
       I9.weak (by rw [I9.len]; exact I'.len) fun j v e => by
         by_cases hj : own.length ≤ j
         · rw [kp7 j hj]
           exact e
         · unfold capS at e
           rw [List.getElem?_append_left (by rw [List.length_replicate]; omega), List.getElem?_replicate] at e
           split at e <;> cases e
     have turned : ∀ {H9 : Hp} {s9 : Shared}, Inv (cxC X scope cl (own ++ cp.map (·.1)) fp C s2 H2) ([(s2.heap.objs.size, lobj its k)] ++ pinsAt fp s6.heap) σ7 H9 s9 → (∀ b ∈ fp, H9 b = none) ∧ ∀ b ∈ fp, ∀ o, s6.heap.get? b = some o → s9.heap.get? b = some o := fun {H9 s9} I9 => by
       refine ⟨fun b hb => ?_, fun b hb o e => ?_⟩
       · obtain ⟨o, e, _⟩ := Tn.obj _ _ st6 b hb
         exact (I9.pin (b, o) (List.mem_append_right _ (List.mem_append_right _ (mem_pinsAt hb e)))).2.1
       · exact (I9.pin (b, o) (List.mem_append_right _ (List.mem_append_right _ (mem_pinsAt hb e)))).1
     cases b with
     | false =>
       obtain ⟨m', hm', w8⟩ := q8
       refine wpAny_pure ⟨rfl, m', hm', i + 1, H8, acc, its, k, weak I8.unpinned, rv, Tn.keep _ _ _ st6 (turned I8).2, (turned I8).1, w8⟩
     | true =>
       refine wpAny_bind (wpAny_bind (thnE (he fp C s2 H2 _ s8 σ7 H8 _ I8 q8) fun uy s9 ⟨y, H9, I9, r9, m', hm', w9⟩ => ?_))
       have pD := I9.pin (s2.heap.objs.size, lobj its k) (List.mem_append_right _ (List.mem_append_left _ (List.mem_singleton.mpr rfl)))
       have lenI := rv.length
       refine wpAny_bind (wpAny_list_append_plain (items := its.toArray) ⟨k, pD.1⟩ (fun h10 pl sb => ?_) (by rw [List.size_toArray]; omega))
       obtain ⟨k', hk'⟩ := pl
       have I10 : Inv (cxC X scope cl (own ++ cp.map (·.1)) fp C s2 H2) (pinsAt fp s6.heap) σ7 H9 { s9 with heap := h10 } := by
         have I9' : Inv (cxC X scope cl (own ++ cp.map (·.1)) fp C s2 H2) (pinsAt fp s6.heap) σ7 H9 s9 := I9.pins_of fun p hp => I9.pin p (List.mem_append_right _ (List.mem_append_right _ hp))
         refine I9'.turned (t' := s9.toks) (it := s2.heap.objs.size) (fun b o hb e => (sb.2 b hb).trans e) pD.2.1 pD.2.2.1 (.inr (Nat.le_refl _)) (fun x c e z => ?_) fun p hp z => ?_
         · obtain ⟨v, o, ho, hd⟩ := I9.cell x c e
           rw [z, pD.1] at ho
           cases ho
           cases hd
         · have hp : p ∈ pinsAt fp s6.heap := hp
           exact Nat.ne_of_lt (hlt p.1 (of_pinsAt hp).1) z
       have kk : ∀ b ∈ fp, ∀ o, s6.heap.get? b = some o → h10.get? b = some o := fun b hb o e => (sb.2 b (Nat.ne_of_lt (hlt b hb))).trans ((turned I9).2 b hb o e)
       have I11 : Inv (cxC X scope cl (own ++ cp.map (·.1)) fp C s2 H2) [(s2.heap.objs.size, lobj (its ++ [uy]) k')] σ7 H9 { s9 with heap := h10 } := I10.pins_of fun p hp => by
         cases List.mem_singleton.mp hp
         refine ⟨?_, pD.2.1, pD.2.2.1, pD.2.2.2.1, fun v z => by cases z⟩
         rw [hk']
         simp
       exact wpAny_pure (wpAny_pure ⟨rfl, m', hm', i + 1, H9, acc ++ [y], its ++ [uy], k', weak I11, rv.append (.cons r9 .nil), Tn.keep _ _ _ st6 kk, (turned I9).1, w9⟩)
 exact codeAny_compStart_list (loop _ rfl) (Tn.self _ 0 _ _ _ (Tn.keep _ _ _ st2 fun b _ o e => old b o e) (loop _ rfl))
end
end L2
namespace L2
open PySem PySem.Spec PyProof.Rows
section
variable {X : Cx} {pos : Pos}
def trV (K : PySem.W.Frag) (t : TE) : TT := fun σ H Q => t σ H fun x H' => match x with
 | .bl b => Q b H'
 | .int i => Q (i != 0) H'
 | .non => Q false H'
 | .str z => (L z).length ≤ sizeLine ∧ Q (((L z).length : Int) != 0) H'
 | .ref p => ∃ k, TruV K (.ref p) H' k ∧ Q k H'
 | _ => False
theorem pt_tr {a : Expr} {ta : TE} (ha : PE X a ta) (he : ∀ whole, isTrue a X.env whole = (do let v ← whole; standAt a.pos; holding [v] (truthy v)) := by intro _; rfl) : PT X a (trV X.K ta) := by
 intro pins s σ H Q I h
 refine isTrue_plain (thn (ha pins s σ H _ I h) fun v s1 ⟨x, H1, I1, r1, q1⟩ => tru_ok pins s1 σ H1 x v Q I1 r1 ?_) (he _)
 cases x with
 | bl b => exact ⟨b, rfl, q1⟩
 | int i => exact ⟨_, rfl, q1⟩
 | non => exact ⟨false, rfl, q1⟩
 | str z => exact ⟨_, ⟨by rw [← L_len]; exact q1.1, rfl⟩, by rw [← L_len]; exact q1.2⟩
 | ref p => exact q1
 | _ => exact False.elim q1
def tB2 (r : R2) (ta tb : TE) : TT := fun σ H Q => ta σ H fun x H1 => tb σ H1 fun y H2 => r x y H2 fun z H3 => match z with
 | .bl b => Q b H3
 | _ => False
theorem pt_c2 {op : CmpOp} {r : R2} {a b : Expr} {ta tb : TE} (ho : OpR X (compareOp op) r) (ha : PE X a ta) (hb : PE X b tb) (hm : behindInMarks op b = false := by first | exact nomark _ | with_unfolding_all rfl) : PT X (.Compare a [op] [b] pos) (tB2 r ta tb) := by
 intro pins s σ H Q I h
 refine wpAny_isTrue_Compare1 (thn (ha pins s σ H _ I h) fun v s1 ⟨x, H1, I1, r1, q1⟩ => thn (hb pins s1 σ H1 _ I1 q1) fun u s2 ⟨y, H2, I2, r2, q2⟩ =>
   thn (ho pins s2 σ H2 x y v u _ I2 r1 r2 q2) fun c s3 ⟨z, H3, I3, r3, q3⟩ => ?_) hm
 cases z with
 | bl k => cases r3; exact wpAny_truthy_bool ⟨H3, I3, q3⟩
 | _ => exact False.elim q3
theorem pe_c2 {op : CmpOp} {r : R2} {a b : Expr} {ta tb : TE} (ho : OpR X (compareOp op) r) (ha : PE X a ta) (hb : PE X b tb) (hm : behindInMarks op b = false := by first | exact nomark _ | with_unfolding_all rfl) : PE X (.Compare a [op] [b] pos) (tOp r ta tb) := pe_cmpR ho ha hb hm
def vAnd (ta tb : TE) : TE := fun σ H Q => ta σ H fun x H1 => match x with
 | .bl c => if c = true then tb σ H1 Q else Q (.bl false) H1
 | _ => False
theorem mono_val {a : Expr} {ta : TE} (h : PE X a ta) (pins : List (Addr × Obj)) (s : Shared) (σ : St) (H : Hp) (Q Q' : VK) (I : Inv X pins σ H s) (q : ta σ H Q) (hq : ∀ v H', Q v H' → Q' v H') : wpAny (model X.prog X.w) X.A (eval a X.env) (EP X pins σ Q') X.xe s :=
 thn (h pins s σ H Q I q) fun u s1 ⟨v, H1, I1, r, q⟩ => ⟨v, H1, I1, r, hq v H1 q⟩
theorem PE.imp {e : Expr} {t : TE} (h : PE X e t) {t' : TE} (hi : ∀ σ H Q, t' σ H Q → ∃ Q0, t σ H Q0 ∧ ∀ v H', Q0 v H' → Q v H') : PE X e t' := fun pins s σ H Q I q => by
 obtain ⟨Q0, h0, h1⟩ := hi σ H Q q
 exact mono_val h pins s σ H Q0 Q I h0 h1
theorem pe_and2 {a b : Expr} {rest : List Expr} {ta tb : TE} (ha : PE X a ta) (hb : PE X (.BoolOp .And (b :: rest) pos) tb) : PE X (.BoolOp .And (a :: b :: rest) pos) (vAnd ta tb) := by
 have ha' : PE X a (fun σ H Q => ∃ Q0 : VK, ta σ H Q0 ∧ ∀ v H', Q0 v H' → Q v H') := ha.imp fun σ H Q h => h
 intro pins s σ H Q I h
 refine pe_and (ta := fun σ H Q => ∃ Q0 : VK, ta σ H Q0 ∧ ∀ v H', Q0 v H' → Q v H') ha' hb pins s σ H Q I ?_
 refine ⟨_, h, fun v H' q => ?_⟩
 cases v with
 | bl c => exact ⟨c, rfl, q⟩
 | _ => exact False.elim q
def negV : V → Hp → VK → Prop := fun x H Q => match x with
 | .int i => Q (.int (-i)) H
 | _ => False
theorem u_neg : UnR X (unaryOp .USub) negV := by
 intro pins s σ H x v Q I rx h
 cases x with
 | int i => exact un_neg pins s σ H _ v Q I rx ⟨i, rfl, h⟩
 | _ => exact False.elim h
def pT (t : TE) : TO := fun σ H Q => t σ H fun x H1 => match x with
 | .int i => Q (some i) H1
 | _ => False
theorem po_t {e : Expr} {te : TE} (h : PE X e te) : PO X (some e) (pT te) := by
 have h' : PE X e (fun σ H Q => ∃ Q0 : VK, te σ H Q0 ∧ ∀ v H', Q0 v H' → Q v H') := h.imp fun σ H Q h => h
 intro pins s σ H Q I hw
 refine po_some h' pins s σ H Q I ?_
 refine ⟨_, hw, fun v H' q => ?_⟩
 cases v with
 | int i => exact ⟨i, rfl, q⟩
 | _ => exact False.elim q
def tWh (c : TT) (tb : TS) : TS := fun D σ H => ∃ W : Nat → St → Hp → Prop, (∃ m, W m σ H) ∧ ∀ m σ H, W m σ H →
 c σ H fun b H1 => if b = true then tb { nx := fun σ' H' => ∃ m', m' < m ∧ W m' σ' H', rt := D.rt, bk := D.nx, ct := fun σ' H' => ∃ m', m' < m ∧ W m' σ' H' } σ H1 else D.nx σ H1
theorem ps_wh {c : Expr} {body : List Stmt} {tc : TT} {tb : TS} (hp : PassesOwn (model X.prog X.w) X.A X.env X.xe) (hc : PT X c tc) (hb : PSs X body tb) : PS X (.While c body [] pos) (tWh tc tb) := by
 have hc' : PT X c (fun σ H Q => ∃ Q0 : Bool → Hp → Prop, tc σ H Q0 ∧ ∀ v H', Q0 v H' → Q v H') := fun pins s σ H Q I ⟨Q0, h0, h1⟩ => thn (hc pins s σ H Q0 I h0) fun b s1 ⟨H1, I1, q⟩ => ⟨H1, I1, h1 b H1 q⟩
 intro pins s σ H D I h
 obtain ⟨W, w0, turn⟩ := h
 refine ps_while hp hc' hb pins s σ H D I ⟨W, w0, fun m σ1 H1 w => ⟨_, turn m σ1 H1 w, fun b H2 q => ?_⟩⟩
 cases b with
 | true => exact ⟨_, fun _ _ z => z, q⟩
 | false => exact q
def forR (lo : Int) (n : Nat) (i : Nat) (tb : TS) : TS := fun D σ H => ∃ Pv : Nat → St → Hp → Prop, Pv 0 σ H ∧ (∀ k σ H, k < n → Pv k σ H → tb { nx := Pv (k + 1), rt := D.rt, bk := D.nx, ct := Pv (k + 1) } (σ.set i (some (.int (lo + k)))) H) ∧ ∀ σ H, Pv n σ H → D.nx σ H
def tRng (ta : TA) (i : Nat) (tb : TS) : TS := fun D σ H => ta σ H fun vs H1 => match vs with
 | [.int j] => (-(2 ^ 62) ≤ j ∧ j < 2 ^ 62) ∧ forR 0 j.toNat i tb D σ H1
 | _ => False
theorem PA.imp {es : List Expr} {t : TA} (h : PA X es t) {t' : TA} (hi : ∀ σ H Q, t' σ H Q → ∃ Q0 : List V → Hp → Prop, t σ H Q0 ∧ ∀ v H', Q0 v H' → Q v H') : PA X es t' := fun p pins s σ H Q I q => by
 obtain ⟨Q0, h0, h1⟩ := hi σ H Q q
 exact thn (h p pins s σ H Q0 I h0) fun us s1 ⟨vs, H1, I1, r, q⟩ => ⟨vs, H1, I1, r, h1 vs H1 q⟩
theorem ps_rng1 {a : Expr} {x : Str} {i : Nat} {p p' pos' : Pos} {body : List Stmt} {ta : TA} {tb : TS} (hp : PassesOwn (model X.prog X.w) X.A X.env X.xe) (hc : X.calm = true) (hm : X.mg "range" = none) (ha : PA X [a] ta)
   (hg : PG X (.Name x pos') (gName i)) (hb : PSs X body tb) (hgl : Gl X "range" := by rfl) (hs : starEach [a] X.env = [(false, eval a X.env)] := by rfl) (hf : ∀ x, foldedSetIterable (.Call (.Name "range" p) [a] [] p') X.env x = pure x := by intro _; rfl) :
   PS X (.For (.Name x pos') (.Call (.Name "range" p) [a] [] p') body [] pos) (tRng ta i tb) := by
 have ha' : PA X [a] (fun σ H Q => ∃ Q0 : List V → Hp → Prop, ta σ H Q0 ∧ ∀ v H', Q0 v H' → Q v H') := ha.imp fun σ H Q h => h
 intro pins s σ H D I h
 refine ps_for hp hc (pi_range1 hgl hm ha' hs) hg hb hf pins s σ H D I ⟨_, h, fun vs H1 q => ?_⟩
 split at q
 · obtain ⟨⟨h1, h2⟩, Pv, h0, hs', hd⟩ := q
   exact ⟨_, rfl, h1, h2, for_range Pv h0 (fun k σ H hk pv => hs' k σ H hk pv) hd⟩
 · exact q.elim
end
end L2
namespace LW
open PySem L2
def byL : List Int := [48271, 69621, 16807, 39373, 21401, 60493, 87721, 31337]
def primeL : List Int := [99991, 99989, 99971, 99961, 99929, 99923, 99907, 99901]
def signs : List Nat := (List.range 5).map (fun k => 32 + k) ++ (List.range 89).map fun k => 38 + k
def cellAt (ns : List Int) (k : Int) : Int := if k < ns.length then ns.getD k.toNat 0 else 0
theorem rep_len (n : Nat) (l : List Nat) : (rep n l).length = n * l.length := by
 unfold rep
 simp
theorem atI_getD {α : Type} {xs : List α} {i : Int} (d : α) (h0 : 0 ≤ i) (h1 : i < xs.length) : atI xs i = some (xs.getD i.toNat d) := by
 unfold atI ixN
 rw [if_pos h0, if_pos h1]
 show xs[i.toNat]? = _
 rw [List.getD_eq_getElem?_getD]
 have : i.toNat < xs.length := by omega
 rw [List.getElem?_eq_getElem this]
 rfl
theorem getD_int (l : List Int) (i : Nat) : (l.map V.int).getD i (V.int 0) = V.int (l.getD i 0) := by
 rw [List.getD_eq_getElem?_getD, List.getD_eq_getElem?_getD, List.getElem?_map]
 cases l[i]? <;> rfl
theorem atI_int {l : List Int} {i : Int} (h0 : 0 ≤ i) (h1 : i < l.length) : atI (l.map V.int) i = some (V.int (l.getD i.toNat 0)) := by
 rw [atI_getD (V.int 0) h0 (by simpa using h1), getD_int]
theorem prime_pos {i : Int} (h0 : 0 ≤ i) (h1 : i < 8) : 0 < primeL.getD i.toNat 0 := by
 have : i.toNat < 8 := by omega
 generalize i.toNat = n at this
 have h : ∀ n : Nat, n < 8 → 0 < primeL.getD n 0 := by decide
 exact h n this
theorem flat1 {α β : Type} (g : α → β) : ∀ l : List α, (l.map fun c => [g c]).flatten = l.map g
 | [] => rfl
 | x :: r => by
   rw [List.map_cons, List.map_cons, List.flatten_cons, flat1 g r]
   rfl
theorem sum1 {α β : Type} (g : α → β) : ∀ l : List α, ((l.map fun c => [g c]).map List.length).sum = l.length
 | [] => rfl
 | x :: r => by
   rw [List.map_cons, List.map_cons, List.sum_cons, sum1 g r, List.length_cons]
   show 1 + r.length = r.length + 1
   omega
theorem upd_old {H : Hp} {p p' : Addr} {o o' : HO} (h : upd H p o p' = none) : upd (upd H p o) p' o' p = some o := by
 have : p ≠ p' := by
   rintro rfl
   rw [upd_same] at h
   cases h
 rw [upd_ne this, upd_same]
end LW
namespace L2
open PySem PySem.Spec PyProof.Rows
section
variable {X : Cx} {pos : Pos}
def minV : List V → Hp → VK → Prop := fun xs H Q => match xs with
 | [.int i, .int j] => Q (.int (min i j)) H
 | _ => False
def maxV : List V → Hp → VK → Prop := fun xs H Q => match xs with
 | [.int i, .int j] => Q (.int (max i j)) H
 | _ => False
theorem c_min (hc : X.calm = true) : CallR X (.builtin "min") minV := by
 intro pins s σ H xs us Q I r h
 unfold minV at h
 split at h
 · rename_i i j
   refine call_min2 hc pins s σ H _ us Q I r ⟨i, j, rfl, ?_⟩
   have : (if j < i then j else i) = min i j := by split <;> omega
   rw [this]; exact h
 · exact h.elim
theorem c_max (hc : X.calm = true) : CallR X (.builtin "max") maxV := by
 intro pins s σ H xs us Q I r h
 unfold maxV at h
 split at h
 · rename_i i j
   refine call_max2 hc pins s σ H _ us Q I r ⟨i, j, rfl, ?_⟩
   have : (if j > i then j else i) = max i j := by split <;> omega
   rw [this]; exact h
 · exact h.elim
end
end L2
namespace L2
open PySem PySem.Spec PyProof.Rows
section
variable {X : Cx} {K : PySem.W.Frag} {pos : Pos}
theorem i_ixK (h : X.K = K) : IxR X (ixV K) := h ▸ i_ix
theorem s_slK (h : X.K = K) : SlR X (slV K) := h ▸ s_sl
theorem c_lenK (h : X.K = K) : CallR X (.builtin "len") (lenV K) := h ▸ c_len
theorem m_joinK (h : X.K = K) : MtR X "str.join" (joinV K) := h ▸ m_join
theorem pt_trK {a : Expr} {ta : TE} (hK : X.K = K) (ha : PE X a ta) (he : ∀ whole, isTrue a X.env whole = (do let v ← whole; standAt a.pos; holding [v] (truthy v)) := by intro _; rfl) : PT X a (trV K ta) := by
 subst hK
 exact pt_tr ha he
variable {o e : Expr} {es : List Expr} {to : TE} {t : TA} {name : Str} {apos cpos : Pos} {T id : String} {r : V → List V → Hp → VK → Prop}
theorem pe_bmK (hK : X.K = K) (pa : PlainAttrs T) (slot : Slot T name id) (hty : typeOf (.builtin id) = pure (.type "method_descriptor")) (hm : MtR X id r) (ho : PE X o to) (ha : PA X (e :: es) t)
   (hbase : attributeBase o name X.env (eval o X.env) = eval o X.env := by rfl)
   (hfew : ((backTo cpos (starEach (e :: es) X.env)).all (fun x => !x.1) && (backToKw cpos (keywordEach [] X.env)).all (fun x => x.1.isSome)
     && decide ((e :: es).length + ([] : List Keyword).length + (if ([] : List Keyword).isEmpty then 0 else 1) < 30)) = true := by rfl)
   (hline : (apos.endLine == cpos.line) = true := by rfl) (hs : starEach (e :: es) X.env = (false, eval e X.env) :: starEach es X.env := by rfl) (hplain : (backTo cpos (starEach es X.env)).any (·.1) = false := by rfl) :
   PE X (.Call (.Attribute o name apos) (e :: es) [] cpos) (tBM K T r to t) := by
 subst hK
 exact pe_bm pa slot hty hm ho ha hbase hfew hline hs hplain
end
end L2
namespace L2
open PySem
theorem bt_len : bootBuiltins "len" = some (.builtin "len") := by decide +kernel
theorem bt_isinstance : bootBuiltins "isinstance" = some (.builtin "isinstance") := by decide +kernel
theorem bt_min : bootBuiltins "min" = some (.builtin "min") := by decide +kernel
theorem bt_max : bootBuiltins "max" = some (.builtin "max") := by decide +kernel
theorem bt_sorted : bootBuiltins "sorted" = some (.builtin "sorted") := by decide +kernel
theorem bt_int : bootBuiltins "int" = some (.type "int") := by decide +kernel
theorem bt_dict : bootBuiltins "dict" = some (.type "dict") := by decide +kernel
theorem bt_range : bootBuiltins "range" = some (.type "range") := by decide +kernel
theorem bt_enumerate : bootBuiltins "enumerate" = some (.type "enumerate") := by decide +kernel
theorem bt_zip : bootBuiltins "zip" = some (.type "zip") := by decide +kernel
end L2
namespace L2
open PySem PySem.Spec PyProof.Rows
section
variable {X : Cx} {tg : Expr}
end
end L2
namespace LW
open PySem L2
def com : List Nat → List Nat → Nat
 | a :: x, b :: y => if a = b then com x y + 1 else 0
 | _, _ => 0
end LW
namespace LS
open PySem PySem.W PyProof.Rows
abbrev gt (p : Array Nat) (k : Nat) : Nat := p.getD k 0
theorem gt_of {p r : Array Nat} {k l : Nat} (h : p[k]? = r[l]?) : gt p k = gt r l := by
 unfold gt
 rw [Array.getD_eq_getD_getElem?, Array.getD_eq_getD_getElem?, h]
theorem gt_rev {p : Array Nat} {i j : Nat} (hj : j ≤ p.size) (k : Nat) : gt (kas_rev p i j) k = if i ≤ k ∧ k < j then gt p (i + j - 1 - k) else gt p k := by
 have e := getElem?_mirror_all (i := i) hj k
 by_cases h : i ≤ k ∧ k < j
 · rw [if_pos h] at e ⊢; exact gt_of e
 · rw [if_neg h] at e ⊢; exact gt_of e
theorem gt_bub {p : Array Nat} {a d : Nat} (hs : a < p.size) (hd : d ≤ a) (k : Nat) : gt (bubble p a d) k = if k = a - d then gt p a else if a - d < k ∧ k ≤ a then gt p (k - 1) else gt p k := by
 have e := getElem?_bubble hs d hd k
 by_cases h1 : k = a - d
 · rw [if_pos h1] at e ⊢; exact gt_of e
 · rw [if_neg h1] at e ⊢
   by_cases h2 : a - d < k ∧ k ≤ a
   · rw [if_pos h2] at e ⊢; exact gt_of e
   · rw [if_neg h2] at e ⊢; exact gt_of e
def Pm (n : Nat) (p : Array Nat) : Prop := p.toList.Perm (List.range n)
theorem Pm.size {n : Nat} {p : Array Nat} (h : Pm n p) : p.size = n := by
 have := h.length_eq
 simpa using this
theorem Pm.lt {n : Nat} {p : Array Nat} (h : Pm n p) {k : Nat} (hk : k < n) : gt p k < n := by
 have hs := h.size
 have : gt p k ∈ p.toList := by
   have hk' : k < p.size := by omega
   unfold gt
   rw [Array.getD_eq_getD_getElem?, Array.getElem?_eq_getElem hk']
   simp
 have := h.mem_iff.mp this
 simpa using this
theorem Pm.rev {n : Nat} {p : Array Nat} (h : Pm n p) (i j : Nat) : Pm n (kas_rev p i j) := (Array.perm_iff_toList_perm.mp (mirror_perm p i j _)).trans h
theorem Pm.bub {n : Nat} {p : Array Nat} (h : Pm n p) (a d : Nat) : Pm n (bubble p a d) := (Array.perm_iff_toList_perm.mp (bubble_perm p a d)).trans h
section
variable {O : KeyOrd} {key : Nat → O.α} {n : Nat}
def Up (key : Nat → O.α) (p : Array Nat) (k : Nat) : Prop := ∀ i j, i ≤ j → j < k → O.kle (key (gt p i)) (key (gt p j))
def Dn (key : Nat → O.α) (p : Array Nat) (k : Nat) : Prop := ∀ i j, i ≤ j → j < k → O.kle (key (gt p j)) (key (gt p i))
theorem up_one {p : Array Nat} : Up key p 1 := fun i j hij hj => by
 have : i = j := by omega
 subst this
 exact KeyOrd.kle_refl _
theorem rev_same {p : Array Nat} {i j : Nat} (hj : j ≤ p.size) (h : ∀ k, i ≤ k → k < j → key (gt p k) = key (gt p (j - 1))) (k : Nat) : key (gt (kas_rev p i j) k) = key (gt p k) := by
 rw [gt_rev hj]
 split
 · rw [h _ (by omega) (by omega), h k (by omega) (by omega)]
 · rfl
structure Asks (key : Nat → O.α) (n : Nat) (J : Shared → Prop) (cmp : Nat → Nat → (Bool → Shared → Prop) → Shared → Prop) : Prop where
 ask : ∀ i j C s, i < n → j < n → J s → (∀ s', J s' → C (O.blt (key i) (key j)) s') → cmp i j C s
variable {J : Shared → Prop} {cmp : Nat → Nat → (Bool → Shared → Prop) → Shared → Prop}
theorem place_ok (hc : Asks key n J cmp) {p : Array Nat} {k : Nat} (hp : Pm n p) (hk : k < n) (hu : Up key p k) {Q : Nat → Shared → Prop} : ∀ (f l r : Nat) (s : Shared), l ≤ r → r ≤ k → r - l ≤ f → (∀ i, i < l → O.kle (key (gt p i)) (key (gt p k))) → (∀ i, r ≤ i → i < k → O.klt (key (gt p k)) (key (gt p i))) → J s →
   (∀ l s', J s' → l ≤ k → (∀ i, i < l → O.kle (key (gt p i)) (key (gt p k))) → (∀ i, l ≤ i → i < k → O.klt (key (gt p k)) (key (gt p i))) → Q l s') → (kas_place p k f l r).kasWp cmp Q s
 | 0, l, r, s, h1, h2, h3, hlo, hhi, hj, h => by
   have : l = r := by omega
   subst this
   exact h l s hj h2 hlo hhi
 | f + 1, l, r, s, h1, h2, h3, hlo, hhi, hj, h => by
   unfold kas_place
   by_cases hge : l ≥ r
   · rw [if_pos hge]
     have : l = r := by omega
     subst this
     exact h l s hj h2 hlo hhi
   · rw [if_neg hge]
     refine hc.ask _ _ _ _ (hp.lt (by omega)) (hp.lt (by omega)) hj fun s' hj' => ?_
     cases e : O.blt (key (gt p k)) (key (gt p ((l + r) / 2))) with
     | true =>
       dsimp only
       rw [if_pos rfl]
       exact place_ok hc hp hk hu f l ((l + r) / 2) s' (by omega) (by omega) (by omega) hlo (fun i z1 z2 => KeyOrd.klt_of_klt_of_kle e (hu _ _ z1 z2)) hj' h
     | false =>
       dsimp only
       rw [if_neg Bool.false_ne_true]
       exact place_ok hc hp hk hu f ((l + r) / 2 + 1) r s' (by omega) (by omega) (by omega) (fun i z => KeyOrd.kle_trans (hu i ((l + r) / 2) (by omega) (by omega)) e) hhi hj' h
end
end LS
namespace LS
open PySem PySem.W PyProof.Rows
theorem Pm.inj {n : Nat} {p : Array Nat} (h : Pm n p) {i j : Nat} (hi : i < n) (hj : j < n) (e : gt p i = gt p j) : i = j := by
 have hs := h.size
 have nd : p.toList.Nodup := h.nodup_iff.mpr List.nodup_range
 have gi : gt p i = p.toList[i]'(by simp; omega) := by
   unfold gt
   rw [Array.getD_eq_getD_getElem?, Array.getElem?_eq_getElem (by omega)]
   simp
 have gj : gt p j = p.toList[j]'(by simp; omega) := by
   unfold gt
   rw [Array.getD_eq_getD_getElem?, Array.getElem?_eq_getElem (by omega)]
   simp
 rw [gi, gj] at e
 rcases Nat.lt_trichotomy i j with h1 | h1 | h1
 · exact absurd e (List.pairwise_iff_getElem.mp nd i j (by simp; omega) (by simp; omega) h1)
 · exact h1
 · exact absurd e.symm (List.pairwise_iff_getElem.mp nd j i (by simp; omega) (by simp; omega) h1)
def Fx (n : Nat) (p : Array Nat) (a : Nat) : Prop := ∀ k, a ≤ k → k < n → gt p k = k
theorem Fx.mono {n a b : Nat} {p : Array Nat} (h : Fx n p a) (hab : a ≤ b) : Fx n p b := fun k h1 h2 => h k (Nat.le_trans hab h1) h2
theorem Fx.low {n a i : Nat} {p : Array Nat} (h : Fx n p a) (hp : Pm n p) (ha : a ≤ n) (hi : i < a) : gt p i < a := by
 have hl := hp.lt (k := i) (by omega)
 refine Nat.lt_of_not_le fun hge => ?_
 have e := h (gt p i) hge hl
 have := hp.inj hl (by omega) e
 omega
theorem Fx.rev {n a i j : Nat} {p : Array Nat} (h : Fx n p a) (hp : Pm n p) (hj : j ≤ a) (ha : a ≤ n) : Fx n (kas_rev p i j) a := fun k h1 h2 => by
 have hs := hp.size
 rw [gt_rev (by omega), if_neg (by omega)]
 exact h k h1 h2
section
variable {O : KeyOrd} {key : Nat → O.α} {n : Nat}
def St (key : Nat → O.α) (p : Array Nat) (k : Nat) : Prop := ∀ i j, i < j → j < k → key (gt p i) = key (gt p j) → gt p i < gt p j
def Sd (key : Nat → O.α) (p : Array Nat) (k : Nat) : Prop := ∀ i j, i < j → j < k → key (gt p i) = key (gt p j) → gt p j < gt p i
def Ust (key : Nat → O.α) (p : Array Nat) (k : Nat) : Prop := Up key p k ∧ St key p k
variable {J : Shared → Prop} {cmp : Nat → Nat → (Bool → Shared → Prop) → Shared → Prop}
theorem st_step {p : Array Nat} (hp : Pm n p) {a : Nat} (ha : a < n) (fx : Fx n p a) (st : St key p a) : St key p (a + 1) := fun i j hij hj e => by
 by_cases h : j < a
 · exact st i j hij h e
 · have : j = a := by omega
   subst this
   rw [fx j (Nat.le_refl _) ha]
   exact fx.low hp (by omega) hij
theorem asc_st (hc : Asks key n J cmp) {p : Array Nat} (hp : Pm n p) {Q : Nat → Shared → Prop} : ∀ (f a : Nat) (s : Shared), 1 ≤ a → a + f ≤ n → Ust key p a → Fx n p a → J s →
   (∀ m s', J s' → a ≤ m → m ≤ a + f → Ust key p m → Fx n p m → (m = a + f ∨ O.klt (key (gt p m)) (key (gt p (m - 1)))) → Q m s') → (kas_asc p f a).kasWp cmp Q s
 | 0, a, s, h1, h2, hu, fx, hj, h => h a s hj (Nat.le_refl _) (Nat.le_refl _) hu fx (.inl rfl)
 | f + 1, a, s, h1, h2, hu, fx, hj, h => by
   refine hc.ask _ _ _ _ (hp.lt (by omega)) (hp.lt (by omega)) hj fun s' hj' => ?_
   cases e : O.blt (key (gt p a)) (key (gt p (a - 1))) with
   | true =>
     show (if true = true then KasT.ret a else kas_asc p f (a + 1)).kasWp cmp Q s'
     rw [if_pos rfl]
     exact h a s' hj' (Nat.le_refl _) (by omega) hu fx (.inr e)
   | false =>
     show (if false = true then KasT.ret a else kas_asc p f (a + 1)).kasWp cmp Q s'
     rw [if_neg Bool.false_ne_true]
     refine asc_st hc hp f (a + 1) s' (by omega) (by omega) ⟨fun i j hij hj2 => ?_, st_step hp (by omega) fx hu.2⟩ (fx.mono (by omega)) hj' fun m s2 q1 q2 q3 q4 q5 q6 => h m s2 q1 (by omega) (by omega) q4 q5 (q6.imp (fun z => by omega) id)
     by_cases hja : j < a
     · exact hu.1 i j hij hja
     · have : j = a := by omega
       subst this
       by_cases hi : i = j
       · subst hi; exact KeyOrd.kle_refl _
       · exact KeyOrd.kle_trans (hu.1 i (j - 1) (by omega) (by omega)) e
structure Ds (key : Nat → O.α) (n : Nat) (p : Array Nat) (a q : Nat) : Prop where
 dn : Dn key p a
 sd : Sd key p (a - (q + 1))
 lt : ∀ i j, i < a - (q + 1) → a - (q + 1) ≤ j → j < a → O.klt (key (gt p j)) (key (gt p i))
 up : ∀ i j, a - (q + 1) ≤ i → i < j → j < a → gt p i < gt p j
 fx : Fx n p a
 eq : ∀ i, a - (q + 1) ≤ i → i < a → key (gt p i) = key (gt p (a - 1))
theorem klt_ne {x y : O.α} (h : O.klt x y) : x ≠ y := fun e => by
 subst e
 have : O.blt x x = true := h
 rw [O.irrefl] at this
 cases this
theorem Ds.turn {p : Array Nat} {a q : Nat} (hp : Pm n p) (ha : a ≤ n) (hq : q + 1 ≤ a) (d : Ds key n p a q) : Sd key (kas_rev p (a - (q + 1)) a) a := fun i j hij hj e => by
 have hs := hp.size
 have rs := rev_same (key := key) (p := p) (i := a - (q + 1)) (j := a) (by omega) d.eq
 rw [rs, rs] at e
 rw [gt_rev (by omega), gt_rev (by omega)]
 by_cases h1 : a - (q + 1) ≤ i
 · rw [if_pos ⟨by omega, hj⟩, if_pos ⟨h1, by omega⟩]
   exact d.up _ _ (by omega) (by omega) (by omega)
 · by_cases h2 : a - (q + 1) ≤ j
   · exact absurd e.symm (klt_ne (d.lt i j (by omega) h2 hj))
   · rw [if_neg (by omega), if_neg (by omega)]
     exact d.sd i j hij (by omega) e
theorem Ds.one {p : Array Nat} {a : Nat} (ha : 1 ≤ a) (d : Ds key n p a 0) : Sd key p a := fun i j hij hj e => by
 by_cases h2 : j < a - 1
 · exact d.sd i j hij (by omega) e
 · exact absurd e.symm (klt_ne (d.lt i j (by omega) (by omega) hj))
theorem desc_st (hc : Asks key n J cmp) {Q : Array Nat × Nat × Nat → Shared → Prop} : ∀ (f : Nat) (p : Array Nat) (a q : Nat) (s : Shared), Pm n p → 1 ≤ a → a + f ≤ n → q + 1 ≤ a → Ds key n p a q → J s →
   (∀ p' m q' s', J s' → Pm n p' → a ≤ m → m ≤ a + f → q' + 1 ≤ m → Ds key n p' m q' → Q (p', m, q') s') → (kas_desc f p a q).kasWp cmp Q s
 | 0, p, a, q, s, hp, h1, h2, hq, d, hj, h => h p a q s hj hp (Nat.le_refl _) (Nat.le_refl _) hq d
 | f + 1, p, a, q, s, hp, h1, h2, hq, d, hj, h => by
   refine hc.ask _ _ _ _ (hp.lt (by omega)) (hp.lt (by omega)) hj fun s' hj' => ?_
   have hsz := hp.size
   cases e : O.blt (key (gt p a)) (key (gt p (a - 1))) with
   | true =>
     show (if true = true then (if q > 0 then kas_desc f (kas_rev p (a - (q + 1)) a) (a + 1) 0 else kas_desc f p (a + 1) 0) else _).kasWp cmp Q s'
     rw [if_pos rfl]
     have go : ∀ r : Array Nat, Pm n r → (∀ k, key (gt r k) = key (gt p k)) → Sd key r a → Fx n r a → (kas_desc f r (a + 1) 0).kasWp cmp Q s' := fun r hr hk sd fx => by
       have low : ∀ i, i < a → O.klt (key (gt p a)) (key (gt p i)) := fun i hi => by
         refine KeyOrd.klt_of_klt_of_kle e ?_
         exact d.dn i (a - 1) (by omega) (by omega)
       refine desc_st hc f r (a + 1) 0 s' hr (by omega) (by omega) (by omega) ⟨fun i j hij hj2 => ?_, ?_, fun i j hi hj1 hj2 => ?_, fun i j h1 h2 h3 => by omega, fx.mono (by omega), fun i z1 z2 => by congr 2; omega⟩ hj' fun p' m q' s2 y1 y2 y3 y4 y5 y6 => h p' m q' s2 y1 y2 (by omega) (by omega) y5 y6
       · rw [hk, hk]
         by_cases hja : j < a
         · exact d.dn i j hij hja
         · have : j = a := by omega
           subst this
           by_cases hi : i = j
           · subst hi; exact KeyOrd.kle_refl _
           · exact KeyOrd.kle_of_klt (low i (by omega))
       · rw [show a + 1 - (0 + 1) = a by omega]
         exact sd
       · have : j = a := by omega
         subst this
         rw [hk, hk]
         exact low i (by omega)
     by_cases h0 : q > 0
     · rw [if_pos h0]
       exact go _ (hp.rev _ _) (rev_same (by omega) d.eq) (d.turn hp (by omega) hq) (d.fx.rev hp (Nat.le_refl _) (by omega))
     · rw [if_neg h0]
       have : q = 0 := by omega
       subst this
       exact go _ hp (fun _ => rfl) (d.one h1) d.fx
   | false =>
     show (if false = true then _ else KasT.ask (gt p (a - 1)) (gt p a) fun d => if d = true then .ret (p, a, q) else kas_desc f p (a + 1) (q + 1)).kasWp cmp Q s'
     rw [if_neg Bool.false_ne_true]
     refine hc.ask _ _ _ _ (hp.lt (by omega)) (hp.lt (by omega)) hj' fun s2 hj2 => ?_
     cases e2 : O.blt (key (gt p (a - 1))) (key (gt p a)) with
     | true =>
       show (if true = true then KasT.ret (p, a, q) else kas_desc f p (a + 1) (q + 1)).kasWp cmp Q s2
       rw [if_pos rfl]
       exact h p a q s2 hj2 hp (Nat.le_refl _) (by omega) hq d
     | false =>
       show (if false = true then KasT.ret (p, a, q) else kas_desc f p (a + 1) (q + 1)).kasWp cmp Q s2
       rw [if_neg Bool.false_ne_true]
       have ex : key (gt p a) = key (gt p (a - 1)) := KeyOrd.kle_antisymm e2 e
       have eB : a + 1 - (q + 1 + 1) = a - (q + 1) := by omega
       refine desc_st hc f p (a + 1) (q + 1) s2 hp (by omega) (by omega) (by omega) ⟨fun i j hij hj3 => ?_, ?_, fun i j hi hj1 hj3 => ?_, fun i j k1 k2 k3 => ?_, d.fx.mono (by omega), fun i z1 z2 => ?_⟩ hj2 fun p' m q' s3 y1 y2 y3 y4 y5 y6 => h p' m q' s3 y1 y2 (by omega) (by omega) y5 y6
       · by_cases hja : j < a
         · exact d.dn i j hij hja
         · have : j = a := by omega
           subst this
           by_cases hi : i = j
           · subst hi; exact KeyOrd.kle_refl _
           · rw [ex]; exact d.dn i (j - 1) (by omega) (by omega)
       · rw [eB]
         exact d.sd
       · rw [eB] at hi hj1
         by_cases hja : j < a
         · exact d.lt i j hi hj1 hja
         · have : j = a := by omega
           subst this
           rw [ex]
           exact d.lt i (j - 1) hi (by omega) (by omega)
       · rw [eB] at k1
         by_cases hja : j < a
         · exact d.up i j k1 k2 hja
         · have : j = a := by omega
           subst this
           rw [d.fx j (Nat.le_refl _) (by omega)]
           exact d.fx.low hp (by omega) (by omega)
       · rw [show a + 1 - 1 = a by omega]
         by_cases hi : i = a
         · subst hi; rfl
         · rw [ex]; exact d.eq i (by omega) (by omega)
theorem tail_st (hc : Asks key n J cmp) {p : Array Nat} {a nrem : Nat} {s : Shared} {Q : Nat × Array Nat → Shared → Prop} (hp : Pm n p) (h1 : 1 ≤ a) (h2 : a ≤ nrem) (h3 : nrem ≤ n) (hd : Dn key p a) (sd : Sd key p a) (fx : Fx n p a) (hj : J s)
   (h : ∀ m p' s', J s' → Pm n p' → 1 ≤ m → m ≤ nrem → Ust key p' m → Fx n p' m → Q (m, p') s') : (kas_tail3 a nrem p).kasWp cmp Q s := by
 unfold kas_tail3
 rw [KasT.kasWp_bind]
 have hsz := hp.size
 refine asc_st hc (hp.rev 0 a) (nrem - a) a s h1 (by omega) ⟨fun i j hij hj2 => ?_, fun i j hij hj2 e => ?_⟩ (fx.rev hp (Nat.le_refl _) (by omega)) hj fun m s' y1 y2 y3 y4 y5 _ => h m _ s' y1 (hp.rev 0 a) (by omega) (by omega) y4 y5
 · rw [gt_rev (by omega), gt_rev (by omega), if_pos (by omega), if_pos (by omega)]
   exact hd _ _ (by omega) (by omega)
 · rw [gt_rev (by omega), gt_rev (by omega), if_pos (by omega), if_pos (by omega)] at e ⊢
   exact sd _ _ (by omega) (by omega) e.symm
theorem descPart_st (hc : Asks key n J cmp) {p : Array Nat} {a nrem : Nat} {s : Shared} {Q : Nat × Array Nat → Shared → Prop} (hp : Pm n p) (h2 : a + 1 ≤ nrem) (h3 : nrem ≤ n) (d : Ds key n p (a + 1) 0) (hj : J s)
   (h : ∀ m p' s', J s' → Pm n p' → 1 ≤ m → m ≤ nrem → Ust key p' m → Fx n p' m → Q (m, p') s') : (kas_descPart a nrem p).kasWp cmp Q s := by
 unfold kas_descPart
 rw [KasT.kasWp_bind]
 refine desc_st hc (nrem - (a + 1)) p (a + 1) 0 s hp (by omega) (by omega) (by omega) d hj fun p' m q' s' y1 y2 y3 y4 y5 y6 => ?_
 dsimp only
 have hsz := y2.size
 by_cases h0 : q' > 0
 · rw [if_pos h0]
   refine tail_st hc (y2.rev _ _) (by omega) (by omega) h3 (fun i j hij hj2 => ?_) (y6.turn y2 (by omega) y5) (y6.fx.rev y2 (Nat.le_refl _) (by omega)) y1 h
   rw [rev_same (by omega) y6.eq, rev_same (by omega) y6.eq]
   exact y6.dn i j hij hj2
 · rw [if_neg h0]
   have : q' = 0 := by omega
   subst this
   exact tail_st hc y2 (by omega) (by omega) h3 y6.dn (y6.one (by omega)) y6.fx y1 h
theorem count_st (hc : Asks key n J cmp) {p : Array Nat} {s : Shared} {Q : Nat × Array Nat → Shared → Prop} (hp : Pm n p) (h1 : 1 ≤ n) (fx : Fx n p 1) (hj : J s)
   (h : ∀ m p' s', J s' → Pm n p' → 1 ≤ m → m ≤ n → Ust key p' m → Fx n p' m → Q (m, p') s') : (kas_count n p).kasWp cmp Q s := by
 unfold kas_count
 rw [KasT.kasWp_bind]
 have hsz := hp.size
 refine asc_st hc hp (n - 1) 1 s (Nat.le_refl _) (by omega) ⟨up_one, fun i j h1 h2 => by omega⟩ fx hj fun m s' y1 y2 y3 y4 y6 y5 => ?_
 by_cases hm : m = n
 · rw [if_pos (by simpa using hm)]
   exact h m p s' y1 hp y2 (by omega) y4 y6
 · rw [if_neg (by simpa using hm)]
   have hlt : O.klt (key (gt p m)) (key (gt p (m - 1))) := y5.resolve_left (by omega)
   by_cases hg : m > 1
   · rw [if_pos hg]
     refine hc.ask _ _ _ _ (hp.lt (by omega)) (hp.lt (by omega)) y1 fun s2 hj2 => ?_
     cases e : O.blt (key (gt p 0)) (key (gt p (m - 1))) with
     | true =>
       dsimp only
       rw [if_pos rfl]
       exact h m p s2 hj2 hp y2 (by omega) y4 y6
     | false =>
       dsimp only
       rw [if_neg Bool.false_ne_true]
       have hall : ∀ k, 0 ≤ k → k < m → key (gt p k) = key (gt p (m - 1)) := fun k _ hk =>
         KeyOrd.kle_antisymm (y4.1 k (m - 1) (by omega) (by omega)) (KeyOrd.kle_trans e (y4.1 0 k (by omega) hk))
       have rs := rev_same (key := key) (p := p) (i := 0) (j := m) (by omega) hall
       refine descPart_st hc (hp.rev 0 m) (by omega) (Nat.le_refl _) ⟨fun i j hij hj3 => ?_, fun i j hij hj3 _ => ?_, fun i j hi hj1 hj3 => ?_, fun i j k1 k2 k3 => by omega, (y6.rev hp (Nat.le_refl _) (by omega)).mono (by omega), fun i z1 z2 => by congr 2; omega⟩ hj2 h
       · rw [rs, rs]
         by_cases hjm : j < m
         · rw [hall i (by omega) (by omega), hall j (by omega) hjm]; exact KeyOrd.kle_refl _
         · have : j = m := by omega
           subst this
           by_cases hi : i = j
           · subst hi; exact KeyOrd.kle_refl _
           · rw [hall i (by omega) (by omega)]; exact KeyOrd.kle_of_klt hlt
       · rw [gt_rev (by omega), gt_rev (by omega), if_pos (by omega), if_pos (by omega)]
         refine y4.2 _ _ (by omega) (by omega) ?_
         rw [hall _ (by omega) (by omega), hall (0 + m - 1 - i) (by omega) (by omega)]
       · have : j = m := by omega
         subst this
         rw [rs, rs, hall i (by omega) (by omega)]
         exact hlt
   · rw [if_neg hg]
     have : m = 1 := by omega
     subst this
     refine descPart_st hc hp (by omega) (Nat.le_refl _) ⟨fun i j hij hj3 => ?_, fun i j hij hj3 _ => by omega, fun i j hi hj1 hj3 => ?_, fun i j k1 k2 k3 => by omega, y6.mono (by omega), fun i z1 z2 => by congr 2; omega⟩ y1 h
     · by_cases hi : i = j
       · subst hi; exact KeyOrd.kle_refl _
       · have hi0 : i = 0 := by omega
         have hj1 : j = 1 := by omega
         subst hi0 hj1
         exact KeyOrd.kle_of_klt hlt
     · have hi0 : i = 0 := by omega
       have hj1 : j = 1 := by omega
       subst hi0 hj1
       exact hlt
theorem bin_st (hc : Asks key n J cmp) {Q : Array Nat → Shared → Prop} : ∀ (f : Nat) (p : Array Nat) (k : Nat) (s : Shared), Pm n p → k + f = n → Ust key p k → Fx n p k → J s → (∀ p' s', J s' → Pm n p' → Ust key p' n → Q p' s') → (kas_bin f p k).kasWp cmp Q s
 | 0, p, k, s, hp, hk, hu, fx, hj, h => by
   have : k = n := by omega
   subst this
   exact h p s hj hp hu
 | f + 1, p, k, s, hp, hk, hu, fx, hj, h => by
   unfold kas_bin
   rw [KasT.kasWp_bind]
   have hsz := hp.size
   refine place_ok hc hp (by omega) hu.1 k 0 k s (by omega) (Nat.le_refl _) (by omega) (fun i z => by omega) (fun i z1 z2 => by omega) hj fun l s' hj' hl hlo hhi => ?_
   refine bin_st hc f (bubble p k (k - l)) (k + 1) s' (hp.bub _ _) (by omega) ⟨fun i j hij hj2 => ?_, fun i j hij hj2 e => ?_⟩ (fun x h1 h2 => ?_) hj' h
   · rw [gt_bub (by omega) (by omega), gt_bub (by omega) (by omega), show k - (k - l) = l by omega]
     repeat' split
     all_goals first
       | (exfalso; omega)
       | exact KeyOrd.kle_refl _
       | exact hlo _ (by omega)
       | exact KeyOrd.kle_of_klt (hhi _ (by omega) (by omega))
       | exact hu.1 _ _ (by omega) (by omega)
   · rw [gt_bub (by omega) (by omega), gt_bub (by omega) (by omega), show k - (k - l) = l by omega] at e ⊢
     have ek := fx k (Nat.le_refl _) (by omega)
     have low : ∀ x, x < k → gt p x < gt p k := fun x hx => by rw [ek]; exact fx.low hp (by omega) hx
     by_cases i1 : i = l
     · rw [if_pos i1] at e ⊢
       rw [if_neg (by omega), if_pos (by omega)] at e ⊢
       exact absurd e (klt_ne (hhi (j - 1) (by omega) (by omega)))
     · rw [if_neg i1] at e ⊢
       by_cases i2 : l < i
       · rw [if_pos (by omega), if_neg (by omega), if_pos (by omega)] at e ⊢
         exact hu.2 _ _ (by omega) (by omega) e
       · rw [if_neg (by omega)] at e ⊢
         by_cases j1 : j = l
         · rw [if_pos j1] at e ⊢
           exact low i (by omega)
         · rw [if_neg j1] at e ⊢
           by_cases j2 : l < j
           · rw [if_pos (by omega)] at e ⊢
             exact hu.2 _ _ (by omega) (by omega) e
           · rw [if_neg (by omega)] at e ⊢
             exact hu.2 _ _ hij (by omega) e
   · rw [gt_bub (by omega) (by omega), if_neg (by omega), if_neg (by omega)]
     exact fx x (by omega) h2
theorem sort_st (hc : Asks key n J cmp) {s : Shared} {Q : Array Nat → Shared → Prop} (h1 : 1 ≤ n) (hj : J s) (h : ∀ p s', J s' → Pm n p → Ust key p n → Q p s') : (kas_sort n).kasWp cmp Q s := by
 unfold kas_sort
 rw [KasT.kasWp_bind]
 have hp : Pm n (List.toArray (List.range n)) := by
   unfold Pm
   simp
 refine count_st hc hp h1 (fun k hk1 hk => ?_) hj fun m p' s' y1 y2 y3 y4 y5 y6 => ?_
 · unfold gt
   rw [Array.getD_eq_getD_getElem?, List.getElem?_toArray, List.getElem?_range hk]
   rfl
 dsimp only
 by_cases hm : m < n
 · rw [if_pos hm]
   refine bin_st hc (n - max m 1) p' (max m 1) s' y2 (by omega) ?_ ?_ y1 h
   · rw [show max m 1 = m by omega]
     exact y5
   · rw [show max m 1 = m by omega]
     exact y6
 · rw [if_neg hm]
   have : m = n := by omega
   subst this
   exact h p' s' y1 y2 y5
theorem sort_ok2 (hc : Asks key n J cmp) {s : Shared} {Q : Array Nat → Shared → Prop} (h1 : 1 ≤ n) (hj : J s) (h : ∀ p s', J s' → Pm n p → Up key p n → Q p s') : (kas_sort n).kasWp cmp Q s := sort_st hc h1 hj fun p s' a b u => h p s' a b u.1
end
end LS
namespace LO
def eLe (l : List Nat) (i j : Nat) : Bool := decide (l.drop i ≤ l.drop j)
def ord (l : List Nat) : List Nat := (List.range (l.length + 1)).mergeSort (eLe l)
def rank (l : List Nat) (j : Nat) : Nat := (List.range (l.length + 1)).countP (fun i => decide (l.drop i < l.drop j))
def ahead (l : List Nat) (p : Nat) : Option Nat := if p = 0 then none else l[p - 1]?
def rows (l : List Nat) : List (Option Nat) := (ord l).map (ahead l)
def letters (l : List Nat) : List Nat := (ord l).filterMap (ahead l)
def home (l : List Nat) : Nat := rank l 0
def lessP (c : Nat) : Option Nat → Bool
 | some d => decide (d < c)
 | none => false
def less (rs : List (Option Nat)) (c : Nat) : Nat := rs.countP (lessP c)
def before (rs : List (Option Nat)) (c k : Nat) : Nat := (rs.take k).countP (fun o => o == some c)
end LO
namespace LO
abbrev Rs := List (Option Nat)
def bk (rs : Rs) (k : Nat) : Option Nat := match rs[k]? with
 | some (some c) => some (1 + less rs c + before rs c k)
 | _ => none
def lets (rs : Rs) : List Nat := rs.filterMap id
def rd (rs : Rs) : Nat → Option Nat
 | 0 => some 0
 | k + 1 => (rd rs k).bind (bk rs)
def Whole (rs : Rs) : Prop := ∃ r, rd rs ((lets rs).length) = some r
end LO
namespace LO
def low (l t : List Nat) : Nat := (List.range (l.length + 1)).countP (fun i => decide (l.drop i < t))
def hasAt (l t : List Nat) (i : Nat) : Bool := t.isPrefixOf (l.drop i)
def many (l t : List Nat) : Nat := (List.range (l.length + 1)).countP (fun i => hasAt l t i)
def upto (l t : List Nat) (i : Nat) : Bool := decide (l.drop i < t) || hasAt l t i
def high (l t : List Nat) : Nat := low l t + many l t
end LO
namespace L2
open PySem PySem.Spec PyProof.Rows
def cxL (X : Cx) (A : Around) (env : Env) (N : List Str) (s : Shared) (H : Hp) : Cx :=
 { X with A := A.deeper env, N := N, s₀ := s, H₀ := H, env := env, outer := X.stack, stack := env :: X.stack, ex := [], fn := fun _ => false, pn := [], xe := fun _ _ => False }
def lamS (v : V) (cp : List (Str × Nat)) (σ : St) : St := some v :: cp.map fun p => gS σ p.2
section
variable {X : Cx} {pins : List (Addr × Obj)} {σ : St} {H : Hp} {s : Shared} {scope : Scope} {cl : List (Str × Addr)} {cp : List (Str × Nat)} {A : Around} {env : Env} {x : Str} {v : V} {u : Value} {h1 : Heap}
theorem lam_start {tk : Nat} (I : Inv X pins σ H s) (hA : A.frames = some X.stack) (hh : A.handled = none) (hcl : closL scope.names X.env.cells [] = some cl) (hk : scope.kind = .function) (hnc : ∀ y ∈ scope.names, y.2 ≠ .cell) (hcp : CapOk X scope cp)
   (hx : scope.names.lookup x = some .local) (hnx : x ∉ cp.map (·.1)) (r : RelV v u) (e1 : env.scope = scope) (e2 : env.locals = s.heap.objs.size) (e3 : env.globals = mainGlobals) (e4 : env.cells = cl) (e5 : env.frame = some s.heap.objs.size) (e6 : env.builtins = builtinsNs)
   (hns : h1.Ns s.heap.objs.size (fun y => [(x, u)].reverse.lookup y)) (old : ∀ b o, s.heap.get? b = some o → h1.get? b = some o) :
   Inv (cxL X A env (x :: cp.map (·.1)) s H) [] (lamS v cp σ) H { s with heap := h1, toks := tk } := by
 have c1 := (closL_in scope.names [] hcl (fun x c h => by simp at h)).1
 have c2 := (closL_in scope.names [] hcl (fun x c h => by simp at h)).2
 obtain ⟨m, hm, hl⟩ := id I.loc
 have kOf : ∀ y, env.kindOf y = scope.names.lookup y := fun y => by unfold Env.kindOf; rw [e1]
 refine ⟨⟨I.ok.mod, ?_, e3, e6, ?_, ?_, ?_, fun y c z => absurd z (by simp [cxL]), fun _ => hh, ?_, .inr ⟨rfl, ?_⟩, fun b z => absurd (show b ∈ ([] : List Addr) from z) (by simp), I.bs, Nat.le_trans I.ok.bsz I.sz, fun b o _ z => absurd (show b ∈ ([] : List Addr) from z) (by simp), fun b z => absurd (show b ∈ ([] : List Addr) from z) (by simp), I.stack, I.stkFree⟩,
   rfl, I.bare, Un.kept old, ⟨fun y => [(x, u)].reverse.lookup y, ?_, fun i y w' q1 q2 q3 => ?_⟩, fun y c q => ?_, ?_, fun y c q => ?_, fun p hp => absurd (show p ∈ ([] : List (Addr × Obj)) from hp) (by simp), I.hok.kept old, ?_⟩
 · show env.scope.kind = .function
   rw [e1]; exact hk
 · show s.heap.objs.size ≤ env.locals
   rw [e2]; exact Nat.le_refl _
 · intro y z c h1 h2
   have h1 : env.cells.lookup y = some c := h1
   have h2 : env.cells.lookup z = some c := h2
   rw [e4] at h1 h2
   exact I.ok.inj y z c (c1 y c h1) (c1 z c h2)
 · intro y hy
   show ∃ c, env.cells.lookup y = some c
   rw [e4]
   have hy : env.kindOf y = some .cell ∨ env.kindOf y = some .free := hy
   rw [kOf] at hy
   rcases hy with z | z
   · exact absurd rfl (hnc _ (PySem.mem_of_lookup z))
   · exact c2 y (.inr z)
 · exact Around.frames_deeper hA
 · show env.frame = some env.locals
   rw [e5, e2]
 · show h1.Ns env.locals _
   rw [e2]; exact hns
 · have q1 : (x :: cp.map (·.1))[i]? = some y := q1
   unfold lamS at q2
   cases i with
   | zero =>
     cases q1
     cases (show some v = some w' from by simpa using q2)
     exact ⟨u, r, .inl ⟨by show env.kindOf x = _; rw [kOf]; exact hx, by simp⟩⟩
   | succ i =>
     have q1 : (cp.map (·.1))[i]? = some y := by simpa using q1
     have q2 : (cp.map fun p => gS σ p.2)[i]? = some (some w') := by simpa using q2
     rw [List.getElem?_map] at q1 q2
     cases q : cp[i]? with
     | none => rw [q] at q1; cases q1
     | some p =>
       rw [q] at q1 q2
       obtain ⟨y', j⟩ := p
       cases Option.some.inj q1
       obtain ⟨g1, g2, g3⟩ := hcp.get q
       have e4' : gS σ j = some w' := Option.some.inj q2
       obtain ⟨u', r', lk⟩ := hl j y' w' g1 (gS_get e4') (.inr (.inl g2))
       refine ⟨u', r', .inr ⟨.inr (by show env.kindOf y' = _; rw [kOf]; exact g3), ?_⟩⟩
       rcases lk with ⟨z, _⟩ | ⟨_, c, z, zc⟩
       · have z' : X.env.scope.names.lookup y' = some .local := z
         rw [g2] at z'
         cases z'
       · obtain ⟨d, hd⟩ := c2 y' (.inr g3)
         have hd' := c1 y' d hd
         rw [z] at hd'
         cases Option.some.inj hd'
         obtain ⟨o, ho, hdt⟩ := zc
         exact ⟨c, by show env.cells.lookup y' = _; rw [e4]; exact hd, o, old _ _ ho, hdt⟩
 · have q : env.cells.lookup y = some c := q
   rw [e4] at q
   obtain ⟨w', o, ho, hd⟩ := I.cell y c (c1 y c q)
   exact ⟨w', o, old _ _ ho, hd⟩
 · show H env.locals = none
   rw [e2]; exact I.hok.fresh (Nat.le_refl _)
 · have q : env.cells.lookup y = some c := q
   rw [e4] at q
   exact I.freeC y c (c1 y c q)
 · show (lamS v cp σ).length = (x :: cp.map (·.1)).length
   unfold lamS
   simp
theorem lam_call {name qual : Str} {params : Arguments} {body : Expr} {pm ctv : Value} {c' f : Addr} {te : TE} {Q : VK} (I : Inv X pins σ H s) (hA : A.frames = some X.stack) (hh : A.handled = none) (hd : A.depth < recursionLimit)
   (hcl : closL scope.names X.env.cells [] = some cl) (hk : scope.kind = .function) (hnc : ∀ y ∈ scope.names, y.2 ≠ .cell) (hcp : CapOk X scope cp) (hx : scope.names.lookup x = some .local) (hnx : x ∉ cp.map (·.1)) (hco : scope.isCoroutine = false) (hgen : scope.isGenerator = false)
   (ho : s.heap.get? f = some (PySem.W.kla_obj name qual params body scope cl pm c' ctv)) (hcd : s.heap.CodeRec (.ref c') qual)
   (hb : ∀ u : Value, bindArgs (PySem.W.kla_fn name qual params body scope cl pm (.ref c') ctv) ⟨[u], []⟩ = pure [(x, u)]) (r : RelV v u)
   (he : ∀ A L f c' s H, PE (cxL X A (newEnv scope L mainGlobals cl (qual ++ ".<locals>.") (some f) (.ref c') none builtinsNs) (x :: cp.map (·.1)) s H) body te) (h : te (lamS v cp σ) H Q) :
   wpAny (model X.prog X.w) A (call (.ref f) [u]) (EP X pins σ Q) (fun _ _ => False) s := by
 refine wpAny_call (PySem.W.kla_callFunE hd ho rfl hco hgen rfl hcd ?_)
 rw [hb u]
 refine wpAny_pure (wpAny_newFunctionEnv hnc (fun y hy => ?_) (fun h1 hns hsb => ?_) hk)
 · cases List.mem_singleton.mp hy
   exact hx
 · have old : ∀ b o, s.heap.get? b = some o → h1.get? b = some o := fun b o e => (hsb.2 b (Nat.ne_of_lt (Heap.lt_size e))).trans (Heap.get?_push_of_some _ e)
   refine ⟨I.nolimit.keeps old, PySem.W.kla_codeExpr ?_⟩
   generalize hE : newEnv scope s.heap.objs.size mainGlobals cl (qual ++ ".<locals>.") (some f) (.ref c') none builtinsNs = env
   have e1 : env.scope = scope := by rw [← hE]; rfl
   have e4 : env.cells = cl := by rw [← hE]; rfl
   have J : Inv (cxL X A env (x :: cp.map (·.1)) s H) [] (lamS v cp σ) H { s with heap := h1, toks := s.toks + [(x, u)].length } :=
     lam_start I hA hh hcl hk hnc hcp hx hnx r e1 (by rw [← hE]; rfl) (by rw [← hE]; rfl) e4 (by rw [← hE]; rfl) (by rw [← hE]; rfl) hns old
   refine wpAny_mono ((hE ▸ he A s.heap.objs.size f c' s H : PE (cxL X A env (x :: cp.map (·.1)) s H) body te) [] _ _ H Q J h) (fun w' s' ⟨y, H', J', ry, q⟩ => ?_) fun _ _ z => False.elim z
   exact I.after ⟨y, H', J'.os, J'.bare, J'.base, J'.hok, ry, q⟩
end
end L2
namespace L2
open PySem PySem.Spec PyProof.Rows
def CodeO (c : Addr) (q : Str) : HO := .ext fun h => h.CodeRec (.ref c) q
theorem codeO_ok {P : Program} {w : World} {H : Hp} {h : Heap} {c : Addr} {q : Str} (x : h.CodeRec (.ref c) q) : ObjOk P w H h c (CodeO c q) := by
 obtain ⟨c2, o, vs, t, e, ho, hd, hv⟩ := id x
 cases e
 refine ⟨x, ⟨o, ho⟩, fun h1 h2 z k => ?_⟩
 obtain ⟨c3, o', vs', t', e, a, b, d⟩ := z
 cases e
 exact ⟨_, o', vs', t', rfl, k o' a, b, d⟩
def Bk (P : Addr) (pos : Pos) (q : Str) (H : Hp) : Prop := H P = some (.tbl #[]) ∨ ∃ c', H P = some (.tbl #[rawInt pos.line, rawInt pos.col, .ref c']) ∧ H c' = some (CodeO c' q)
def SameN (H H' : Hp) : Prop := ∀ b o, H b = some o → H' b ≠ none ∧ ((∀ ps, o ≠ .tbl ps) → H' b = some o)
theorem SameN.at {H H' : Hp} (a : SameN H H') {b : Addr} {o : HO} (h : H b = some o) (n : ∀ ps, o ≠ .tbl ps) : H' b = some o := (a b o h).2 n
theorem SameN.free {H H' : Hp} (a : SameN H H') {b : Addr} (h : H' b = none) : H b = none := by
 cases q : H b with
 | none => rfl
 | some o => exact absurd h (a b o q).1
theorem SameN.refl (H : Hp) : SameN H H := fun _ _ h => ⟨by rw [h]; simp, fun _ => h⟩
theorem SameN.trans {H H1 H2 : Hp} (a : SameN H H1) (b : SameN H1 H2) : SameN H H2 := fun c o h => ⟨fun z => (a c o h).1 (b.free z), fun n => b.at ((a c o h).2 n) n⟩
theorem Same.toN {H H' : Hp} (a : Same H H') : SameN H H' := fun c o h => ⟨by rw [a c o h]; simp, fun _ => a c o h⟩
theorem SameN.upd {H H' : Hp} {a : Addr} {o : HO} (e : SameN H H') (n : H' a = none) : SameN H (L2.upd H' a o) := fun b u q => by
 have hb : b ≠ a := by
   rintro rfl
   exact (e b u q).1 n
 rw [upd_ne hb]
 exact e b u q
theorem SameN.seq {K : PySem.W.Frag} {H H' : Hp} {a : Addr} {xs : List V} (e : SameN H H') (h : SqL K H a xs) : SqL K H' a xs := by
 rcases h with (h | ⟨o, h⟩) | h
 · exact .inl (.inl (e.at h (by intro ps z; cases z)))
 · exact .inl (.inr ⟨o, e.at h (by intro ps z; cases z)⟩)
 · exact .inr h
theorem Bk.put {P : Addr} {pos : Pos} {q : Str} {H : Hp} {a : Addr} {o : HO} (h : Bk P pos q H) (n : H a = none) : Bk P pos q (L2.upd H a o) := by
 rcases h with h | ⟨c', h, g⟩
 · exact .inl (by rw [upd_ne (ne_of_none h n)]; exact h)
 · exact .inr ⟨c', by rw [upd_ne (ne_of_none h n)]; exact h, by rw [upd_ne (ne_of_none g n)]; exact g⟩
def SameE (P : Addr) (H H' : Hp) : Prop := ∀ b o, b ≠ P → H b = some o → H' b = some o
theorem SameE.refl (P : Addr) (H : Hp) : SameE P H H := fun _ _ _ h => h
structure LamAt (X : Cx) (c P : Addr) : Prop where
 code : X.env.code = .ref c
 hd : PySem.W.CodeHd X.base c P
 bm : ∃ bm ob, X.mg "__builtins__" = some (.ref bm) ∧ bm ≠ builtinsNs ∧ X.base.get? bm = some ob ∧ ob.cls = .type "module" ∧ ob.dict = some builtinsNs ∧ ob.data = .plain
section
variable {X : Cx} {pins : List (Addr × Obj)} {σ : St} {H : Hp} {s : Shared} {scope : Scope} {cl : List (Str × Addr)} {A : Around} {c P : Addr} {params : Arguments} {body : Expr} {pos : Pos} {q : Str} {M : Model} {E : Value → Shared → Prop} {Q : Value → Shared → Prop}
theorem lam_bt (I : Inv X pins σ H s) (L : LamAt X c P) {o : HO} (hP : H P = some o) : s.heap.BuiltinsAt X.mg P ∧ mainGlobals ≠ P := by
 obtain ⟨bm, ob, b1, b2, b3, b4, b5, b6⟩ := L.bm
 have hb := I.bs bm ob b3
 obtain ⟨og, es, ep, g1, g2, _⟩ := id I.mod.glob
 have hg := I.bs mainGlobals og g1
 refine ⟨⟨bm, ob, b1, b2, ?_, ?_, hb.1, b4, b5, b6⟩, ?_⟩
 · rintro rfl
   rw [g1] at b3
   cases b3
   rw [g2] at b6
   cases b6
 · rintro rfl
   rw [hb.2] at hP
   cases hP
 · intro z
   rw [← z, hg.2] at hP
   cases hP
theorem lam_make (I : Inv X pins σ H s) (L : LamAt X c P) (hcl : closL scope.names X.env.cells [] = some cl) (hdef : defaultsOf params X.env = ([], [])) (bk : Bk P pos q H) (hq : X.env.qual ++ "<lambda>" = q)
   (hQ : ∀ f c' pm ctv H' s', Inv X (pins ++ [(f, PySem.W.kla_obj "<lambda>" q params body scope cl pm c' ctv)]) σ H' s' → H' c' = some (CodeO c' q) → Bk P pos q H' → SameN H H' → SameE P H H' → Q (.ref f) s') :
   wpAny M A (eval (.Lambda params body scope pos) X.env) Q E s := by
 refine PySem.W.kla_eval hdef ?_
 rw [hq]
 have hg : s.heap.Ns mainGlobals X.mg := I.mod.glob.keeps I.bk
 have C : PySem.W.CodeHd s.heap c P := L.hd.keeps I.bk
 rcases bk with hP | ⟨c', hP, hc'⟩
 · have hPo : s.heap.get? P = some (PySem.W.tabObj #[]) := I.hok P _ hP
   obtain ⟨hb, hgP⟩ := lam_bt I L hP
   refine PySem.W.kla_makeFunction (mg := X.mg) (closureFor_L hcl) I.ok.glob hg L.code C hPo trivial rfl hgP hb fun c' ctv h' tk hx hge hlt hrec htb => ?_
   have hnc : H c' = none := I.hok.fresh hge
   have hPc : P ≠ c' := ne_of_none hP hnc
   have nP : ∀ b, H b = none → b ≠ P := fun b n z => by rw [z, hP] at n; cases n
   have old : ∀ b o, b ≠ P → s.heap.get? b = some o → (h'.push (PySem.W.kla_obj "<lambda>" q params body scope cl ((X.mg "__name__").getD .none) c' ctv)).get? b = some o := fun b o hb e => Heap.get?_push_of_some _ (hx b o hb e)
   have htb' : (h'.push (PySem.W.kla_obj "<lambda>" q params body scope cl ((X.mg "__name__").getD .none) c' ctv)).get? P = some (PySem.W.tabObj #[rawInt pos.line, rawInt pos.col, .ref c']) := Heap.get?_push_of_some _ (by simpa using htb)
   have I1 : Inv X pins σ (upd (upd H P (.tbl #[rawInt pos.line, rawInt pos.col, .ref c'])) c' (CodeO c' q)) { s with heap := h'.push (PySem.W.kla_obj "<lambda>" q params body scope cl ((X.mg "__name__").getD .none) c' ctv), toks := tk } := by
     have other : ∀ b, b ≠ P → b ≠ c' → upd (upd H P (.tbl #[rawInt pos.line, rawInt pos.col, .ref c'])) c' (CodeO c' q) b = H b := fun b h1 h2 => by rw [upd_ne h2, upd_ne h1]
     refine I.un ⟨fun b o e n _ _ => old b o (nP b n) e, fun b o e n _ _ => ⟨o.slots, old b o (nP b n) e⟩, fun b o e n _ => ?_, fun b o e _ => ?_, fun b xs e => ?_, fun b o u e => ?_, fun b ps e => ?_⟩ fun b o e => ?_
     · rw [other b (nP b n) (Nat.ne_of_lt (Nat.lt_of_lt_of_le (Heap.lt_size e) hge))]
       exact n
     · by_cases hb : b = P
       · subst hb; exact ⟨_, htb'⟩
       · exact ⟨o, old b o hb e⟩
     · rw [other b (ne_of e hP (by intro z; cases z)) (ne_of_none e hnc)]
       exact e
     · rw [other b (ne_of e hP (by intro z; cases z)) (ne_of_none e hnc)]
       exact e
     · by_cases hb : b = P
       · subst hb
         rw [hP] at e
         cases e
         exact ⟨#[rawInt pos.line, rawInt pos.col, .ref c'], by rw [upd_ne hPc, upd_same]; simp⟩
       · exact ⟨#[], by rw [other b hb (ne_of_none e hnc), e]; simp⟩
     · by_cases hb : b = c'
       · subst hb
         rw [upd_same] at e
         cases e
         exact codeO_ok (hrec.push _)
       · rw [upd_ne hb] at e
         by_cases hb2 : b = P
         · subst hb2
           rw [upd_same] at e
           cases e
           exact htb'
         · rw [upd_ne hb2] at e
           refine (I.hok b o e).stay (fun d u hd z => old d u ?_ z) (fun d z => ?_) fun d xs z => ?_
           · rcases hd with rfl | hd
             · exact hb2
             · exact ne_of hd hP (by intro z; cases z)
           · rw [other d (ne_of z hP (by intro z; cases z)) (ne_of_none z hnc)]
             exact z
           · rw [other d (ne_of z hP (by intro z; cases z)) (ne_of_none z hnc)]
             exact z
   have hsz : s.heap.objs.size ≤ h'.objs.size := Nat.le_of_lt (Nat.lt_of_le_of_lt hge hlt)
   refine hQ h'.objs.size c' ((X.mg "__name__").getD .none) ctv _ _ (I1.pins_of fun p hp => ?_) upd_same (.inr ⟨c', by rw [upd_ne hPc, upd_same], upd_same⟩) (fun b o e => ?_) fun b o hb e => by rw [upd_ne (ne_of_none e hnc), upd_ne hb]; exact e
   · rcases List.mem_append.mp hp with hp | hp
     · exact I1.pin p (List.mem_append_right _ hp)
     · cases List.mem_singleton.mp hp
       refine ⟨Heap.get?_push_size _ rfl, ?_, Nat.ne_of_gt (Nat.lt_of_lt_of_le I.lt hsz), I.nofs hsz, fun v z => by cases z⟩
       show upd (upd H P _) c' _ h'.objs.size = none
       rw [upd_ne (Nat.ne_of_gt hlt), upd_ne fun z => ?_]
       · exact I.hok.fresh hsz
       · have := Heap.lt_size hPo
         rw [← z] at this
         exact absurd (Nat.lt_of_lt_of_le this hsz) (Nat.lt_irrefl _)
   · rw [upd_ne (ne_of_none e hnc)]
     by_cases hb : b = P
     · subst hb
       rw [hP] at e
       cases e
       rw [upd_same]
       exact ⟨by simp, fun nt => absurd rfl (nt _)⟩
     · rw [upd_ne hb, e]
       exact ⟨by simp, fun _ => rfl⟩
 · have hPo : s.heap.get? P = some (PySem.W.tabObj #[rawInt pos.line, rawInt pos.col, .ref c']) := I.hok P _ hP
   obtain ⟨hb, hgP⟩ := lam_bt I L hP
   refine PySem.W.kla_makeFunctionHit (cv := .ref c') (mg := X.mg) (closureFor_L hcl) I.ok.glob hg L.code C hPo trivial ?_ hb fun ctv h' tk hk hsz => ?_
   · show (if _ then _ else _) = _
     rw [if_pos (by simp)]
   · have I1 : Inv X pins σ H { s with heap := h'.push (PySem.W.kla_obj "<lambda>" q params body scope cl ((X.mg "__name__").getD .none) c' ctv), toks := tk } := I.kept fun b o e => Heap.get?_push_of_some _ (hk b o e)
     refine hQ h'.objs.size c' ((X.mg "__name__").getD .none) ctv H _ (I1.pins_of fun p hp => ?_) hc' (.inr ⟨c', hP, hc'⟩) (SameN.refl _) (SameE.refl _ _)
     rcases List.mem_append.mp hp with hp | hp
     · exact I1.pin p (List.mem_append_right _ hp)
     · cases List.mem_singleton.mp hp
       exact ⟨Heap.get?_push_size _ rfl, I.hok.fresh hsz, Nat.ne_of_gt (Nat.lt_of_lt_of_le I.lt hsz), I.nofs hsz, fun v z => by cases z⟩
end
end L2
namespace L2
open PySem PySem.Spec PyProof.Rows
section
variable {X : Cx} {pins : List (Addr × Obj)} {σ : St} {H : Hp} {s : Shared}
structure Own (X : Cx) (pins : List (Addr × Obj)) (H : Hp) (D : Addr) : Prop where
 old : X.s₀.heap.objs.size ≤ D
 free : H D = none
 nl : D ≠ X.env.locals
 np : ∀ p ∈ X.pn ++ pins, p.1 ≠ D
theorem Own.fresh (I : Inv X pins σ H s) {D : Addr} (h : s.heap.objs.size ≤ D) : Own X pins H D :=
 ⟨Nat.le_trans I.sz h, I.hok.fresh h, Nat.ne_of_gt (Nat.lt_of_lt_of_le I.lt h), fun p hp z => absurd (Nat.lt_of_lt_of_le (Heap.lt_size (I.pin p hp).1) h) (by rw [z]; exact Nat.lt_irrefl _)⟩
theorem Inv.cellne (I : Inv X pins σ H s) {D : Addr} {o : Obj} (ho : s.heap.get? D = some o) (hd : ∀ v, o.data ≠ .cell v) : ∀ x c, X.env.cells.lookup x = some c → c ≠ D := fun x c e z => by
 obtain ⟨v, o', ho', hd'⟩ := I.cell x c e
 rw [z, ho] at ho'
 cases ho'
 exact hd v hd'
theorem Inv.alter (I : Inv X pins σ H s) {D : Addr} {o : Obj} {h' : Heap} (W : Own X pins H D) (ho : s.heap.get? D = some o) (hd : ∀ v, o.data ≠ .cell v) (k : ∀ b u, b ≠ D → s.heap.get? b = some u → h'.get? b = some u) : Inv X pins σ H { s with heap := h' } :=
 I.turned (t' := s.toks) k W.free W.nl (.inr W.old) (I.cellne ho hd) W.np
theorem Inv.ownfs (I : Inv X pins σ H s) {D : Addr} (W : Own X pins H D) : D ∉ X.fs := fun hb => by
 obtain ⟨_, o, ho, _⟩ := I.ok.funs.mem hb
 exact absurd (Nat.lt_of_lt_of_le (Heap.lt_size ho) W.old) (Nat.lt_irrefl _)
theorem Inv.pin1 (I : Inv X pins σ H s) {D : Addr} {o : Obj} (W : Own X pins H D) (ho : s.heap.get? D = some o) (hd : ∀ v, o.data ≠ .cell v) : Inv X (pins ++ [(D, o)]) σ H s := I.pins_of fun p hp => by
 rcases List.mem_append.mp hp with q | q
 · exact I.pin p (List.mem_append_right _ q)
 · cases List.mem_singleton.mp q
   exact ⟨ho, W.free, W.nl, I.ownfs W, hd⟩
theorem Inv.unpin {ps : List (Addr × Obj)} (I : Inv X (pins ++ ps) σ H s) : Inv X pins σ H s := I.pins_of fun p hp => I.pin p (List.mem_append_right _ (List.mem_append_left _ hp))
theorem Inv.track (I : Inv X pins σ H s) {D : Addr} {o : HO} (W : Own X pins H D) (hc : ∀ x c, X.env.cells.lookup x = some c → c ≠ D) (new : ObjOk X.prog X.w (upd H D o) s.heap D o) : Inv X pins σ (upd H D o) s := by
 have ne : ∀ b u, H b = some u → b ≠ D := fun b u e => ne_of_none e W.free
 refine ⟨I.ok, I.os, I.bare, ⟨I.base.keep, I.base.slot, fun b u e n hx => ?_, I.base.there, fun b xs e => ?_, fun b u v e => ?_, fun b ps e => ?_⟩, I.loc, I.cell, ?_, fun x c e => ?_, fun p hp => ?_, fun b u e => ?_, I.len⟩
 · rw [upd_ne (Nat.ne_of_lt (Nat.lt_of_lt_of_le (Heap.lt_size e) W.old))]
   exact I.base.free b u e n hx
 · have := I.base.tups b xs e
   rw [upd_ne (ne b _ this)]
   exact this
 · have := I.base.frzs b u v e
   rw [upd_ne (ne b _ this)]
   exact this
 · obtain ⟨m, z⟩ := I.base.tbls b ps e
   exact ⟨m, by rw [upd_ne (ne b _ z)]; exact z⟩
 · rw [upd_ne (Ne.symm W.nl)]
   exact I.free
 · rw [upd_ne (hc x c e)]
   exact I.freeC x c e
 · obtain ⟨a1, a2, a3⟩ := I.pin p hp
   exact ⟨a1, by rw [upd_ne (W.np p hp)]; exact a2, a3⟩
 · by_cases hb : b = D
   · subst hb
     rw [upd_same] at e
     cases e
     exact new
   · rw [upd_ne hb] at e
     refine (I.hok b u e).stay (fun _ _ _ z => z) (fun d z => ?_) fun d xs z => ?_
     · rw [upd_ne (ne d _ z)]; exact z
     · rw [upd_ne (ne d _ z)]; exact z
theorem rest_ok {A : Around} {E : Value → Shared → Prop} {P : PySem.Fin → Shared → Prop} {f : Value} {a kS : Addr} {e1 : Nat} {vs : List Value} {xs kV : List V} (rv : Vals xs vs) (hl : kV.length = vs.length) (hz : vs.length ≤ 100000) (I : Inv X pins σ H s) (Wa : Own X pins H a)
   (ha : s.heap.get? a = some (seqObj "list" #[] e1)) (Wk : Own X (pins ++ [(a, seqObj "list" #[] e1)]) H kS) (hk : s.heap.get? kS = some (seqObj "list" #[] 0))
   (hcall : ∀ ps s' (i : Nat) (x : V) (k : V) (u : Value), Inv X (pins ++ ps) σ H s' → xs[i]? = some x → kV[i]? = some k → RelV x u → wpAny (model X.prog X.w) A (call f [u]) (EP X (pins ++ ps) σ fun y H' => H' = H ∧ y = k) (fun _ _ => False) s')
   (h : ∀ s' ks e, Inv X (pins ++ [(a, seqObj "list" #[] e1)]) σ H s' → s'.heap.get? kS = some (seqObj "list" (List.toArray ks) e) → Vals kV ks → wpAny (model X.prog X.w) A (ksk_end a false vs.toArray e1 (.ref kS) (List.toArray ks)) P E s') :
   wpAny (model X.prog X.w) A (ksk_rest a f false vs.toArray e1 (.ref kS)) P E s := by
 unfold ksk_rest
 refine wpAny_bind (wpAny_rule ?_)
 first
   | rw [List.forIn_toArray]
   | rw [← Array.forIn_toList]
 have hsl : sizeLine = 16777216 := sizeLine_eq
 refine wpAny_bind (ksk_fold (fun i s' => ∃ ks e, Inv X (pins ++ [(a, seqObj "list" #[] e1)]) σ H s' ∧ s'.heap.get? kS = some (seqObj "list" (List.toArray ks) e) ∧ Vals (kV.take i) ks) vs 0 s ⟨[], 0, I.pin1 Wa ha (fun v z => by cases z), hk, .nil⟩ (fun j u s' hu hI => ?_) fun s' hI => ?_)
 · obtain ⟨ks, e, I1, hk1, rk⟩ := hI
   rw [Nat.zero_add] at rk ⊢
   have hj : j < vs.length := (List.getElem?_eq_some_iff.mp hu).1
   obtain ⟨x, hx, rx⟩ : ∃ x, xs[j]? = some x ∧ RelV x u := by
     have hxl : j < xs.length := by rw [rv.length]; exact hj
     have e1 : xs[j]? = some xs[j] := List.getElem?_eq_getElem hxl
     obtain ⟨u', hu', r'⟩ := rv.get e1
     rw [hu] at hu'
     cases hu'
     exact ⟨_, e1, r'⟩
   have hkj : kV[j]? = some (kV[j]'(by omega)) := List.getElem?_eq_getElem (by omega)
   have I2 : Inv X (pins ++ ([(a, seqObj "list" #[] e1)] ++ [(kS, seqObj "list" (List.toArray ks) e)])) σ H s' := by
     rw [← List.append_assoc]
     exact I1.pin1 Wk hk1 (fun v z => by cases z)
   refine wpAny_bind (wpAny_attempt (wpAny_mono (hcall _ s' j x _ u I2 hx hkj rx) (fun y s2 ⟨yv, H2, I3, ry, eH, ey⟩ => ?_) fun _ _ z => z.elim))
   subst eH ey
   have hk3 := (I3.pin (kS, seqObj "list" (List.toArray ks) e) (List.mem_append_right _ (List.mem_append_right _ (List.mem_append_right _ (List.mem_singleton.mpr rfl))))).1
   have I4 : Inv X (pins ++ [(a, seqObj "list" #[] e1)]) σ H2 s2 := by
     rw [← List.append_assoc] at I3
     exact I3.unpin
   have lk := rk.length
   rw [List.length_take] at lk
   have hsb := Heap.SameBut.update s2.heap kS (Obj.mapSeq (·.push y))
   obtain ⟨c2, hg⟩ : ∃ c2, (s2.heap.update kS (Obj.mapSeq (·.push y))).get? kS = some (seqObj "list" (List.toArray (ks ++ [y])) c2) := by
     have : (List.toArray ks).push y = List.toArray (ks ++ [y]) := by simp
     rw [← this]
     exact ⟨_, get?_update_seq hk3 (·.push y)⟩
   dsimp only
   refine wpAny_bind (listUpdate_at hk3 rfl ?_ (by rw [List.size_toArray]; omega) (by rw [Array.size_push, List.size_toArray]; omega))
   refine wpAny_pure ⟨rfl, ks ++ [y], c2, I4.alter Wk hk3 (fun v z => by cases z) (fun b u hb z => (hsb.2 b hb).trans z), hg, ?_⟩
   rw [List.take_succ, hkj]
   exact rk.append (.cons ry .nil)
 · obtain ⟨ks, e, I1, hk1, rk⟩ := hI
   rw [Nat.zero_add, ← hl, List.take_length] at rk
   refine wpAny_bind (listItems_at hk1 rfl ?_)
   exact h s' ks e I1 hk1 rk
theorem end_ok {A : Around} {E : Value → Shared → Prop} {P : PySem.Fin → Shared → Prop} {a kS : Addr} {e e1 : Nat} {vs ks : List Value} {xs : List V} {κ : SortKind} {O : KeyOrd} {key : Nat → O.α} (rv : Vals xs vs) (hl : ks.length = vs.length) (h64 : vs.length < 64)
   (I : Inv X (pins ++ [(a, seqObj "list" #[] e1)]) σ H s) (Wa : Own X pins H a) (Wk : Own X (pins ++ [(a, seqObj "list" #[] e1)]) H kS) (hk : s.heap.get? kS = some (seqObj "list" (List.toArray ks) e))
   (hkind : 2 ≤ vs.length → ∀ Q : SortKind → Shared → Prop, Q κ s → wpAny (model X.prog X.w) A (keyKind' (List.toArray ks)) Q E s)
   (hask : LS.Asks key vs.length (fun s' => s' = s) (PySem.W.kas_ask X.prog X.w A κ ks))
   (h : ∀ (p : Array Nat) s', LS.Pm vs.length p → LS.Ust key p vs.length → Inv X pins σ (upd H a (.lst (p.toList.map fun i => xs.getD i .non))) s' → P (.done (.ret .none)) s') :
   wpAny (model X.prog X.w) A (ksk_end a false vs.toArray e1 (.ref kS) (List.toArray ks)) P E s := by
 have hsl : sizeLine = 16777216 := sizeLine_eq
 have ha := (I.pin (a, seqObj "list" #[] e1) (List.mem_append_right _ (List.mem_append_right _ (List.mem_singleton.mpr rfl)))).1
 have hka : kS ≠ a := fun z => Wk.np (a, seqObj "list" #[] e1) (List.mem_append_right _ (List.mem_append_right _ (List.mem_singleton.mpr rfl))) z.symm
 have lv := rv.length
 -- the last steps
 have tail : ∀ (st : SortSt) (p : Array Nat), LS.Pm vs.length p → LS.Ust key p vs.length → arrOf st = p.map (PySem.W.kas_item (ks.toArray.zip vs.toArray)) → failedOf st = none → wpAny (model X.prog X.w) A (ksk_tail a false e1 (.ref kS) st) P E s := by
   intro st p hp hu har hf
   have hout := PySem.W.kat_snds hl har
   have hps := hp.size
   unfold ksk_tail
   dsimp only
   rw [hout]
   have hs1 := Heap.SameBut.update s.heap kS (Obj.mapSeq fun _ => (#[] : Array Value))
   have ha1 := (hs1.2 a hka.symm).trans ha
   have hs2 := Heap.SameBut.update (s.heap.update kS (Obj.mapSeq fun _ => (#[] : Array Value))) a (Obj.mapSeq fun _ => List.toArray (p.toList.map fun i => vs.getD i Value.none))
   obtain ⟨c2, hg⟩ : ∃ c2, ((s.heap.update kS (Obj.mapSeq fun _ => (#[] : Array Value))).update a (Obj.mapSeq fun _ => List.toArray (p.toList.map fun i => vs.getD i Value.none))).get? a = some (seqObj "list" (List.toArray (p.toList.map fun i => vs.getD i Value.none)) c2) := ⟨_, get?_update_seq ha1 (fun _ => List.toArray (p.toList.map fun i => vs.getD i Value.none))⟩
   refine wpAny_bind (listUpdate_at hk rfl ?_ (by rw [List.size_toArray]; omega) (Nat.zero_le _))
   refine wpAny_bind (wpAny_letGo ?_)
   refine wpAny_bind (seqEpoch_at ha1 rfl ?_)
   refine wpAny_bind (listUpdate_at ha1 rfl ?_ (Nat.zero_le _) (by show (List.toArray _).size ≤ _; rw [List.size_toArray, List.length_map, Array.length_toList]; omega))
   rw [hf]
   simp only [bne_self_eq_false, Bool.false_eq_true, if_false]
   have I1 : Inv X (pins ++ [(a, seqObj "list" #[] e1)]) σ H { s with heap := s.heap.update kS (Obj.mapSeq fun _ => (#[] : Array Value)) } := I.alter Wk hk (fun v z => by cases z) fun b u hb z => (hs1.2 b hb).trans z
   have I2 : Inv X pins σ H { s with heap := (s.heap.update kS (Obj.mapSeq fun _ => (#[] : Array Value))).update a (Obj.mapSeq fun _ => List.toArray (p.toList.map fun i => vs.getD i Value.none)) } := I1.unpin.alter (s := { s with heap := s.heap.update kS (Obj.mapSeq fun _ => (#[] : Array Value)) }) Wa ha1 (fun v z => by cases z) fun b u hb z => (hs2.2 b hb).trans z
   refine wpAny_pure (h p _ hp hu (I2.track Wa (I2.cellne hg fun v z => by cases z) ?_))
   refine ⟨by rw [List.length_map, Array.length_toList]; omega, p.toList.map fun i => vs.getD i Value.none, c2, ?_, hg⟩
   have all : ∀ l : List Nat, (∀ i ∈ l, i < vs.length) → Vals (l.map fun i => xs.getD i .non) (l.map fun i => vs.getD i Value.none) := by
     intro l
     induction l with
     | nil => intro _; exact .nil
     | cons i r ih =>
       intro hi
       have hi0 := hi i List.mem_cons_self
       refine .cons ?_ (ih fun j hj => hi j (List.mem_cons_of_mem _ hj))
       have hx : xs[i]? = some (xs.getD i .non) := by
         rw [List.getD_eq_getElem?_getD, List.getElem?_eq_getElem (by omega)]
         rfl
       obtain ⟨u, hu, r'⟩ := rv.get hx
       show RelV (xs.getD i .non) (vs.getD i Value.none)
       have e : vs.getD i Value.none = u := by rw [List.getD_eq_getElem?_getD, hu]; rfl
       rw [e]
       exact r'
   exact all p.toList fun i hi => by
     have := hp.mem_iff.mp hi
     exact List.mem_range.mp this
 unfold ksk_end
 dsimp only
 rw [if_neg Bool.false_ne_true]
 by_cases h2 : vs.toArray.size < 2
 · rw [if_pos h2, if_pos h2]
   refine wpAny_bind (wpAny_pure ?_)
   rw [StateT.run_pure]
   refine wpAny_bind (wpAny_pure ?_)
   dsimp only
   rw [if_neg Bool.false_ne_true]
   rw [List.size_toArray] at h2
   refine tail _ (List.toArray (List.range vs.length)) (by unfold LS.Pm; simp) ⟨fun i j hij hj => ?_, fun i j hij hj => by omega⟩ ?_ rfl
   · have : i = j := by omega
     subst this
     exact KeyOrd.kle_refl _
   · have e := PySem.W.kas_range (ks.toArray.zip vs.toArray)
     rw [show (ks.toArray.zip vs.toArray).size = vs.length by simp [hl]] at e
     exact e.symm
 · rw [if_neg h2, if_neg h2]
   rw [List.size_toArray] at h2
   refine wpAny_bind (hkind (by omega) _ ?_)
   rw [if_neg Bool.false_ne_true]
   refine wpAny_bind (wpAny_mono (PySem.W.kat_run (E := E) (Q := fun st' s' => s' = s ∧ ∃ p : Array Nat, LS.Pm vs.length p ∧ LS.Ust key p vs.length ∧ arrOf st' = p.map (PySem.W.kas_item (ks.toArray.zip vs.toArray)) ∧ failedOf st' = none) (G := fun p s' => s' = s ∧ LS.Pm vs.length p ∧ LS.Ust key p vs.length) hl (by omega) h64 (fun p st' s' _ q2 q3 q4 => ⟨q4.1, p, q4.2.1, q4.2.2, q2, q3⟩) (LS.sort_st hask (by omega) rfl fun p s' q1 q2 q3 => ⟨q1, q2, q3⟩)) ?_ fun _ _ z => z)
   rintro ⟨⟨⟩, st'⟩ s' ⟨rfl, p, q1, q2, q3, q4⟩
   exact tail st' p q1 q2 q3 q4
end
end L2
namespace L2
open PySem PySem.Spec PyProof.Rows
def rngL (lo hi : Int) : List V := (List.range (hi - lo).toNat).map fun i : Nat => V.int (lo + (i : Int))
def Src (K : PySem.W.Frag) (H : Hp) (a : Addr) (xs : List V) : Prop := SqL K H a xs ∨ SqT K H a xs ∨ ∃ lo hi : Int, H a = some (.rng lo hi) ∧ xs = rngL lo hi ∧ -(2 ^ 62) ≤ lo ∧ lo < 2 ^ 62 ∧ -(2 ^ 62) ≤ hi ∧ hi < 2 ^ 62
section
variable {X : Cx} {pins : List (Addr × Obj)} {σ : St} {H : Hp} {s : Shared}
def rngV : List V → Hp → VK → Prop := fun xs H Q => match xs with
 | [.int j] => ∀ r, H r = none → Q (.ref r) (upd H r (.rng 0 j))
 | [.int l, .int j] => ∀ r, H r = none → Q (.ref r) (upd H r (.rng l j))
 | _ => False
theorem c_range : CallR X (.type "range") rngV := by
 intro pins s σ H xs us Q I r h
 unfold rngV at h
 split at h
 · rename_i j
   obtain ⟨u, rfl, ru⟩ := vals1 r
   obtain ⟨t, rfl⟩ := ru
   have hn := I.hok.fresh (Nat.le_refl s.heap.objs.size)
   exact call_range_1 ⟨.ref s.heap.objs.size, _, I.laid (o := .rng 0 j) (t' := s.toks + 1 + 1) (fun b u e => Heap.get?_push_of_some _ e) (Nat.le_refl _) ⟨_, _, _, Heap.get?_push_size _ rfl⟩, rfl, h _ hn⟩
 · rename_i l j
   obtain ⟨u, w', rfl, ru, rw'⟩ := vals2 r
   obtain ⟨t, rfl⟩ := ru
   obtain ⟨t', rfl⟩ := rw'
   have hn := I.hok.fresh (Nat.le_refl s.heap.objs.size)
   exact call_range_2 ⟨.ref s.heap.objs.size, _, I.laid (o := .rng l j) (t' := s.toks + 1) (fun b u e => Heap.get?_push_of_some _ e) (Nat.le_refl _) ⟨_, _, _, Heap.get?_push_size _ rfl⟩, rfl, h _ hn⟩
 · exact h.elim
theorem rng_vals {lo hi : Int} {acc : Array Value} {n : Nat} (hn : n = (hi - lo).toNat) (h : ItemsOf (fun i v => ∃ t, v = .int (lo + i * 1) t) acc n) : Vals (rngL lo hi) acc.toList := by
 obtain ⟨h1, h2⟩ := h
 have key : ∀ (l : List Value) (k : Nat), (∀ j v, l[j]? = some v → ∃ t, v = Value.int (lo + ((k + j : Nat) : Int)) t) → Vals ((List.range l.length).map fun i => V.int (lo + ((k + i : Nat) : Int))) l := by
   intro l
   induction l with
   | nil => intro k _; exact .nil
   | cons x r ih =>
     intro k hx
     rw [List.length_cons, List.range_succ_eq_map, List.map_cons, List.map_map]
     obtain ⟨t, e⟩ := hx 0 x rfl
     refine .cons ⟨t, by simpa using e⟩ ?_
     have := ih (k + 1) fun j v hv => by
       obtain ⟨t, e⟩ := hx (j + 1) v (by simpa using hv)
       exact ⟨t, by rw [e]; congr 2; omega⟩
     have e2 : ((fun i => V.int (lo + ((k + i : Nat) : Int))) ∘ Nat.succ) = fun i => V.int (lo + ((k + 1 + i : Nat) : Int)) := by
       funext i
       show V.int (lo + ((k + (i + 1) : Nat) : Int)) = _
       congr 2
       omega
     rw [e2]
     exact this
 have := key acc.toList 0 fun j v hv => by
   obtain ⟨t, e⟩ := h2 j v (by simpa using hv)
   exact ⟨t, by rw [e]; simp⟩
 rw [Array.length_toList, h1, hn] at this
 unfold rngL
 simpa using this
theorem collect_ok {A : Around} {E : Value → Shared → Prop} {Q : List Value → Shared → Prop} {a : Addr} {xs : List V} (I : Inv X pins σ H s) (hh : A.handled = none) (hx : Src X.K H a xs) (hz : xs.length ≤ 16777216)
   (h : ∀ vs h' tk, Vals xs vs → (∀ b o, s.heap.get? b = some o → h'.get? b = some o) → Q vs { s with heap := h', toks := tk }) : wpAny (model X.prog X.w) A (collect (.ref a)) Q E s := by
 have hsl : sizeLine = 16777216 := sizeLine_eq
 rcases hx with hx | hx | ⟨lo, hi, hx, rfl, b1, b2, b3, b4⟩
 · obtain ⟨its, rv, p, hz'⟩ := I.list hx
   obtain ⟨o, ho, hc, n, hd⟩ := p.isList
   have := rv.length
   exact wpAny_collect_seq a (.inl rfl) ho hc hd (fun h' k => h its h' s.toks rv k) (by rw [List.size_toArray]; omega)
 · obtain ⟨its, rv, p, hz'⟩ := I.tuple hx
   obtain ⟨o, ho, hc, n, hd⟩ := id p
   have := rv.length
   exact wpAny_collect_seq a (.inr rfl) ho hc hd (fun h' k => h its h' s.toks rv k) (by rw [List.size_toArray]; omega)
 · obtain ⟨t, u, v, hr⟩ := I.hok a _ hx
   have hl : (rngL lo hi).length = (hi - lo).toNat := by unfold rngL; simp
   have hr1 : IsRange (s.heap.push { cls := .type "list", data := .seq ([] : List Value).toArray }) a lo hi 1 t u v := Heap.get?_push_of_some _ hr
   unfold collect
   refine wpAny_bind (wpAny_runValue (codeAny_builtin F.entry_proto_collect ?_))
   rw [Around.under_plainId F.plain_proto_collect _]
   show wpAny _ A.in1 (newList [] >>= fun l => again (.builtin "list.__iadd__" ⟨[l, .ref a], []⟩)) _ _ s
   refine wpAny_bind (wpAny_newObj_type ?_)
   refine wpAny_pure ⟨plainId_quiet F.plain_list_iadd _, codeAny_builtin F.entry_list_iadd ?_⟩
   rw [Around.under_plainId F.plain_list_iadd _]
   show wpAny _ A.in1 (Builtin.List.listExtendWith (.ref s.heap.objs.size) (.ref a) (.ref s.heap.objs.size)) _ _ _
   have fin : ∀ s' : Shared, (∃ h' tk acc c', (∀ b o, b ≠ s.heap.objs.size → (s.heap.push { cls := .type "list", data := .seq ([] : List Value).toArray }).get? b = some o → h'.get? b = some o) ∧ h'.get? s.heap.objs.size = some { cls := .type "list", dict := none, data := .seq acc c', slots := #[] } ∧
       ItemsOf (fun i v => ∃ t, v = .int (lo + i * 1) t) acc (hi - lo).toNat ∧ s' = { s with heap := h', toks := tk }) → wpAny (model X.prog X.w) A (match Value.ref s.heap.objs.size with
     | Value.ref a => do
       match (← load a).data with
         | Data.seq xs _ => pure xs.toList
         | _ => unsupported "internal:collect"
     | _ => unsupported "internal:collect") Q E s' := by
     rintro s' ⟨h', tk, acc, c', k, hS, hi', rfl⟩
     show wpAny _ A (load s.heap.objs.size >>= _) _ _ _
     refine wpAny_bind (wpAny_load hS ?_)
     exact wpAny_pure (h _ h' tk (rng_vals rfl hi') fun b o e => k b o (Nat.ne_of_lt (Heap.lt_size e)) (Heap.get?_push_of_some _ e))
   refine wpAny_mono (wpAny_extend_range (s := { s with heap := s.heap.push { cls := .type "list", data := .seq ([] : List Value).toArray } }) (R := fun r s' => r = .ok (.ret (.ref s.heap.objs.size)) ∧ ∃ h' tk acc c', (∀ b o, b ≠ s.heap.objs.size → (s.heap.push { cls := .type "list", data := .seq ([] : List Value).toArray }).get? b = some o → h'.get? b = some o) ∧ h'.get? s.heap.objs.size = some { cls := .type "list", dict := none, data := .seq acc c', slots := #[] } ∧
       ItemsOf (fun i v => ∃ t, v = .int (lo + i * 1) t) acc (hi - lo).toNat ∧ s' = { s with heap := h', toks := tk }) (n := (hi - lo).toNat) hh hr1 (small_one b1 b2 b3 b4) (by rw [rangeSize_one]; split <;> omega) (by omega) s.heap.objs.size (.ref s.heap.objs.size) 0 (Heap.get?_push_size _ rfl) fun h' tk acc c' k hS hi' => ⟨rfl, h', tk, acc, c', k, hS, hi', rfl⟩) (fun fn s' hf => ?_) fun e s' he => ?_
   · cases fn with
     | done fl =>
       obtain ⟨e, hf⟩ := hf
       cases e
       exact fin s' hf
     | again c' =>
       refine ⟨hf.1, codeAny_mono hf.2 fun r s2 hr => ?_⟩
       obtain ⟨e, hr⟩ := hr
       subst e
       exact fin s2 hr
   · exact absurd he.1 (by intro z; cases z)
theorem str_at {kL : List (List Nat)} {ks : List Value} (r : Vals (kL.map fun k => V.str (T k)) ks) {i : Nat} (hi : i < kL.length) : ∃ t, ks.getD i Value.none = .str (T (kL.getD i [])) t := by
 have e : (kL.map fun k => V.str (T k))[i]? = some (V.str (T (kL.getD i []))) := by
   rw [List.getElem?_map, List.getD_eq_getElem?_getD, List.getElem?_eq_getElem hi]
   rfl
 obtain ⟨u, hu, t, rfl⟩ := r.get e
 exact ⟨t, by rw [List.getD_eq_getElem?_getD, hu]; rfl⟩
theorem ask_str {prog : Program} {w : World} {A : Around} {kL : List (List Nat)} {ks : List Value} (r : Vals (kL.map fun k => V.str (T k)) ks) : LS.Asks (O := strKind.toKeyOrd) (fun i => kL.getD i []) kL.length (fun s' => s' = s) (PySem.W.kas_ask prog w A oneType' ks) := by
 refine ⟨fun i j C s1 hi hj e h => ?_⟩
 subst e
 unfold PySem.W.kas_ask
 obtain ⟨t, e1⟩ := str_at r hi
 obtain ⟨t', e2⟩ := str_at r hj
 rw [e1, e2]
 refine PySem.W.kas_lt_str ?_
 have h := h s1 rfl
 have e3 : (T (kL.getD i [])).cps.toList = kL.getD i [] := L_T _
 have e4 : (T (kL.getD j [])).cps.toList = kL.getD j [] := L_T _
 rw [e3, e4]
 exact h
theorem kind_str {M : Model} {A : Around} {E : Value → Shared → Prop} {kL : List (List Nat)} {ks : List Value} (r : Vals (kL.map fun k => V.str (T k)) ks) (h2 : 2 ≤ kL.length) {Q : SortKind → Shared → Prop} (h : Q oneType' s) : wpAny M A (keyKind' (List.toArray ks)) Q E s := by
 have hl := r.length
 rw [List.length_map] at hl
 refine PySem.W.kas_kind (T := .type "str") (by omega) (fun v hv => ?_) (by decide) (by decide) h
 obtain ⟨i, hi⟩ := List.getElem?_of_mem hv
 have hlt : i < kL.length := by
   have := (List.getElem?_eq_some_iff.mp hi).1
   omega
 obtain ⟨t, e⟩ := str_at r hlt
 rw [List.getD_eq_getElem?_getD, hi] at e
 have e : v = .str (T (kL.getD i [])) t := e
 rw [e]
 exact PySem.W.Looks.of_pure rfl
theorem sorted_by {Q : VK} {E : Value → Shared → Prop} {f a : Addr} {xs : List V} {kL : List (List Nat)} (hc : X.calm = true) (hr : Room 1 X.A) (I : Inv X pins σ H s) (hx : Src X.K H a xs) (h64 : xs.length < 64) (hl : kL.length = xs.length)
   (hcall : ∀ ps s' (i : Nat) (x : V) (k : V) (u : Value), Inv X (pins ++ ps) σ H s' → xs[i]? = some x → (kL.map fun k => V.str (T k))[i]? = some k → RelV x u → wpAny (model X.prog X.w) X.A.in1.in1 (call (.ref f) [u]) (EP X (pins ++ ps) σ fun y H' => H' = H ∧ y = k) (fun _ _ => False) s')
   (h : ∀ l (p : List Nat), H l = none → p.Perm (List.range xs.length) → p.Pairwise (fun i j => kL.getD i [] ≤ kL.getD j [] ∧ (kL.getD i [] = kL.getD j [] → i < j)) → Q (.ref l) (upd H l (.lst (p.map fun i => xs.getD i .non)))) :
   wpAny (model X.prog X.w) X.A (call (.builtin "sorted") [.ref a] [(Str.ofString "key", .ref f)]) (EP X pins σ Q) E s := by
 have hsl : sizeLine = 16777216 := sizeLine_eq
 have hh : X.A.handled = none := I.ok.hd hc
 refine call_function_entry_kw kind_sorted plain_sorted entry_sorted (ksk_s1 _ _) ?_
 unfold Builtin.«sorted»
 refine wpAny_bind (m := checkCount "sorted" 1 1 _) (wpAny_pure ?_)
 refine wpAny_bind (collect_ok I hh hx (by omega) fun vs h1 tk rv k => ?_)
 have lv := rv.length
 refine wpAny_bind (wpAny_newList ?_ (by omega))
 have k2 : ∀ b o, s.heap.get? b = some o → (h1.push { cls := .type "list", data := .seq vs.toArray }).get? b = some o := fun b o e => Heap.get?_push_of_some _ (k b o e)
 have I2 : Inv X pins σ H { s with heap := h1.push { cls := .type "list", data := .seq vs.toArray }, toks := tk } := I.kept k2
 have I1 : Inv X pins σ H { s with heap := h1, toks := tk } := I.kept k
 have Wa : Own X pins H h1.objs.size := Own.fresh I1 (Nat.le_refl _)
 have ho : (h1.push { cls := .type "list", data := .seq vs.toArray }).get? h1.objs.size = some (seqObj "list" vs.toArray 0) := Heap.get?_push_size _ rfl
 refine wpAny_bind (wpAny_holding (wpAny_call_entry_kw slot_list_sort ⟨_, ho, rfl⟩ entry_list_sort ?_ (ksk_l1 _ _)))
 rw [ksk_t1]
 unfold ksk_tree
 refine wpAny_bind (listItems_at ho rfl ?_)
 refine wpAny_bind (listUpdate_at ho rfl ?_ (by rw [List.size_toArray]; omega) (Nat.zero_le _))
 have hs1 := Heap.SameBut.update (h1.push { cls := .type "list", data := .seq vs.toArray }) h1.objs.size (Obj.mapSeq fun _ => (#[] : Array Value))
 obtain ⟨e1, ho1⟩ : ∃ e1, ((h1.push { cls := .type "list", data := .seq vs.toArray }).update h1.objs.size (Obj.mapSeq fun _ => (#[] : Array Value))).get? h1.objs.size = some (seqObj "list" #[] e1) := ⟨_, get?_update_seq ho fun _ => #[]⟩
 refine wpAny_bind (seqEpoch_at ho1 rfl ?_)
 refine wpAny_bind (wpAny_newTuple ?_ (by show vs.length ≤ _; omega))
 refine wpAny_bind (wpAny_newList ?_ (Nat.zero_le _))
 refine wpAny_holding ?_
 have I3 : Inv X pins σ H { s with heap := (h1.push { cls := .type "list", data := .seq vs.toArray }).update h1.objs.size (Obj.mapSeq fun _ => (#[] : Array Value)), toks := tk } :=
   I2.alter (s := { s with heap := h1.push { cls := .type "list", data := .seq vs.toArray }, toks := tk }) Wa ho (fun v z => by cases z) fun b u hb z => (hs1.2 b hb).trans z
 generalize hg4 : (h1.push { cls := .type "list", data := .seq vs.toArray }).update h1.objs.size (Obj.mapSeq fun _ => (#[] : Array Value)) = h4 at *
 have I5 : Inv X pins σ H { s with heap := (h4.push { cls := .type "tuple", data := .seq vs.toArray }).push { cls := .type "list", data := .seq ([] : List Value).toArray }, toks := tk } :=
   I3.kept (s := { s with heap := h4, toks := tk }) (t' := tk) fun b o e => Heap.get?_push_of_some _ (Heap.get?_push_of_some _ e)
 have ha5 : ((h4.push { cls := .type "tuple", data := .seq vs.toArray }).push { cls := .type "list", data := .seq ([] : List Value).toArray }).get? h1.objs.size = some (seqObj "list" #[] e1) := Heap.get?_push_of_some _ (Heap.get?_push_of_some _ ho1)
 have I4 : Inv X pins σ H { s with heap := h4.push { cls := .type "tuple", data := .seq vs.toArray }, toks := tk } := I3.kept (s := { s with heap := h4, toks := tk }) (t' := tk) fun b o e => Heap.get?_push_of_some _ e
 have ha4 : (h4.push { cls := .type "tuple", data := .seq vs.toArray }).get? h1.objs.size = some (seqObj "list" #[] e1) := Heap.get?_push_of_some _ ho1
 have Wk : Own X (pins ++ [(h1.objs.size, seqObj "list" #[] e1)]) H (h4.push { cls := .type "tuple", data := .seq vs.toArray }).objs.size :=
   Own.fresh (I4.pin1 (s := { s with heap := h4.push { cls := .type "tuple", data := .seq vs.toArray }, toks := tk }) Wa ha4 fun v z => by cases z) (Nat.le_refl _)
 refine rest_ok (s := { s with heap := (h4.push { cls := .type "tuple", data := .seq vs.toArray }).push { cls := .type "list", data := .seq ([] : List Value).toArray }, toks := tk }) (kV := kL.map fun k => V.str (T k)) rv (by rw [List.length_map]; omega) (by omega) I5 Wa ha5 Wk (Heap.get?_push_size _ rfl) hcall fun s6 ks e I6 hk6 rk => ?_
 have lk := rk.length
 rw [List.length_map] at lk
 refine end_ok (O := strKind.toKeyOrd) (key := fun i => kL.getD i []) (κ := oneType') rv (by omega) (by omega) I6 Wa Wk hk6 (fun h2 Q' q' => kind_str rk (by omega) q') ?_ fun p s7 hp hu I7 => ⟨_, rfl, wpAny_pure ⟨_, rfl, .ref h1.objs.size, _, I7, rfl, ?_⟩⟩
 · have := ask_str (s := s6) (prog := X.prog) (w := X.w) (A := X.A.in1.in1) rk
   rw [show kL.length = vs.length by omega] at this
   exact this
 · refine h _ p.toList Wa.free (by unfold LS.Pm at hp; rw [lv]; exact hp) ?_
   have hps := hp.size
   refine List.pairwise_iff_getElem.mpr fun i j hi hj hij => ?_
   have := hu.1 i j (Nat.le_of_lt hij) (by rw [Array.length_toList] at hj; omega)
   have st := hu.2 i j hij (by rw [Array.length_toList] at hj; omega)
   have gi : LS.gt p i = p.toList[i] := by
     unfold LS.gt
     rw [Array.getD_eq_getD_getElem?]
     rw [Array.length_toList] at hi
     simp [hi]
   have gj : LS.gt p j = p.toList[j] := by
     unfold LS.gt
     rw [Array.getD_eq_getD_getElem?]
     rw [Array.length_toList] at hj
     simp [hj]
   rw [gi, gj] at this st
   have this : decide (kL.getD p.toList[j] [] < kL.getD p.toList[i] []) = false := this
   exact ⟨List.not_lt.mp (of_decide_eq_false this), st⟩
end
end L2
namespace L2
open PySem PySem.Spec PyProof.Rows
def Ctx0 (e : Addr) (h : Heap) : Prop := ∃ o vs, h.get? e = some o ∧ o.data = .fields vs ∧ vs[2]? = some .none
theorem Ctx0.push {e : Addr} {h : Heap} (x : Ctx0 e h) (o' : Obj) : Ctx0 e (h.push o') := by
 obtain ⟨o, vs, h1, h2, h3⟩ := x
 exact ⟨o, vs, Heap.get?_push_of_some _ h1, h2, h3⟩
theorem Ctx0.upd {e a : Addr} {h : Heap} (x : Ctx0 e h) (f : Obj → Obj) (hf : ∀ o vs, o.data = .fields vs → vs[2]? = some .none → ∃ vs', (f o).data = .fields vs' ∧ vs'[2]? = some .none) : Ctx0 e (h.update a f) := by
 obtain ⟨o, vs, h1, h2, h3⟩ := x
 by_cases q : a = e
 · subst q
   obtain ⟨vs', g1, g2⟩ := hf o vs h2 h3
   exact ⟨f o, vs', Heap.get?_update_self f h1 (Obj.isFreed_of_fields g1), g1, g2⟩
 · exact ⟨o, vs, (Heap.get?_update_other _ _ q).trans h1, h2, h3⟩
def Kp {α : Type} (t : Sem α) : Prop := ∀ (M : Model) (Γ : PySem.Ctx) (Q : α → Pos → Shared → Prop) (E : Value → Pos → Shared → Prop) (p : Pos) (s : Shared) (e : Addr), Ctx0 e s.heap → Sem.wp M Γ t Q E p s → Sem.wp M Γ t (fun a p' s' => Q a p' s' ∧ Ctx0 e s'.heap) E p s
section
variable {α β : Type}
theorem Kp.pure (a : α) : Kp (Pure.pure a : Sem α) := fun M Γ Q E p s e x h => by
 rw [Sem.wp_pure'] at h ⊢
 exact ⟨h, x⟩
theorem Kp.bind {m : Sem α} {f : α → Sem β} (hm : Kp m) (hf : ∀ a, Kp (f a)) : Kp (m >>= f) := fun M Γ Q E p s e x h => by
 rw [Sem.wp_bind'] at h ⊢
 exact Sem.wp_mono M Γ m (fun a p' s' z => hf a M Γ Q E p' s' e z.2 z.1) (fun _ _ _ z => z) p s (hm M Γ _ E p s e x h)
theorem Kp.unsupported (w : String) : Kp (PySem.unsupported w : Sem α) := fun M Γ Q E p s e x h => by
 have : Sem.wp M Γ (Sem.unsupported w : Sem α) Q E p s := h
 rw [Sem.wp_unsupported] at this
 exact this.elim
theorem Kp.load (a : Addr) : Kp (PySem.load a) := fun M Γ Q E p s e x h => by
 have h : Sem.wp M Γ (Sem.load a none Sem.pure) Q E p s := h
 show Sem.wp M Γ (Sem.load a none Sem.pure) _ E p s
 rw [Sem.wp_load] at h ⊢
 obtain ⟨o, h1, h2⟩ := h
 refine ⟨o, h1, ?_⟩
 rw [Sem.wp_pure] at h2 ⊢
 exact ⟨h2, x⟩
theorem Kp.update (a : Addr) (f : Obj → Obj) (hf : ∀ o vs, o.data = .fields vs → vs[2]? = some .none → ∃ vs', (f o).data = .fields vs' ∧ vs'[2]? = some .none) : Kp (PySem.update a f) := fun M Γ Q E p s e x h => by
 have h : Sem.wp M Γ (Sem.update a none f Sem.pure) Q E p s := h
 show Sem.wp M Γ (Sem.update a none f Sem.pure) _ E p s
 rw [Sem.wp_update] at h ⊢
 refine ⟨h.1, ?_⟩
 have h2 := h.2
 rw [Sem.wp_pure] at h2 ⊢
 exact ⟨h2, x.upd f hf⟩
theorem Kp.alloc (o : Obj) : Kp (PySem.alloc o) := fun M Γ Q E p s e x h => by
 have h : Sem.wp M Γ (Sem.alloc o Sem.pure) Q E p s := h
 show Sem.wp M Γ (Sem.alloc o Sem.pure) _ E p s
 rw [Sem.wp_alloc] at h ⊢
 rw [Sem.wp_pure] at h ⊢
 exact ⟨h, x.push o⟩
theorem Kp.stack : Kp PySem.stack := fun M Γ Q E p s e x h => ⟨h, x⟩
theorem Kp.ite {c : Prop} [Decidable c] {a b : Sem α} (ha : Kp a) (hb : Kp b) : Kp (if c then a else b) := by
 split
 · exact ha
 · exact hb
theorem Kp.fieldsOf (v : Value) : Kp (PySem.fieldsOf v) := by
 unfold PySem.fieldsOf
 split
 · refine Kp.bind (Kp.load _) fun o => ?_
   split
   · exact Kp.pure _
   · exact Kp.unsupported _
 · exact Kp.unsupported _
theorem Kp.field (v : Value) (i : Nat) : Kp (PySem.field v i) := by
 unfold PySem.field
 refine Kp.bind (Kp.fieldsOf v) fun vs => ?_
 split
 · exact Kp.pure _
 · exact Kp.unsupported _
theorem Kp.setField (v : Value) {i : Nat} (hi : i ≠ 2) (x : Value) : Kp (PySem.setField v i x) := by
 unfold PySem.setField
 split
 · unfold PySem.updateField
   refine Kp.bind (Kp.load _) fun o => ?_
   split
   · refine Kp.ite (Kp.update _ _ fun o vs h1 h2 => ⟨_, Obj.data_mapFields h1 _, ?_⟩) (Kp.unsupported _)
     rw [Array.getElem?_setIfInBounds_ne hi]
     exact h2
   · exact Kp.unsupported _
 · exact Kp.unsupported _
theorem Kp.newFields (ty : String) (vs : List Value) : Kp (PySem.newFields ty vs) := by
 unfold PySem.newFields PySem.newObj
 dsimp only
 have as : Kp (PySem.newObjAsIs (.type ty) (.fields vs.toArray)) := by
   unfold PySem.newObjAsIs
   exact Kp.bind (Kp.alloc _) fun a => Kp.pure _
 exact Kp.ite (Kp.bind (Kp.unsupported _) fun _ => as) as
theorem Kp.readyFrames : ∀ l : List Env, Kp (PySem.readyFrames l)
 | [] => Kp.pure _
 | env :: outer => by
   unfold PySem.readyFrames
   split
   · refine Kp.bind (Kp.load _) fun o => Kp.ite (Kp.pure _) (Kp.bind ?_ fun _ => Kp.bind ?_ fun _ => Kp.bind ?_ fun _ => Kp.readyFrames outer)
     · unfold PySem.behindIsImport
       exact Kp.ite (Kp.pure _) (Kp.ite (Kp.pure _) (Kp.bind (Kp.field _ _) fun _ => Kp.pure _))
     · unfold PySem.keptBack
       split
       · exact Kp.ite (Kp.pure _) (Kp.bind (Kp.bind Kp.stack fun _ => Kp.pure _) fun _ => Kp.pure _)
       · exact Kp.pure _
     · exact Kp.update _ _ fun o vs h1 h2 => ⟨vs, h1, h2⟩
   · exact Kp.unsupported _
theorem Kp.frameOf (env : Env) : Kp (PySem.frameOf env) := by
 unfold PySem.frameOf
 refine Kp.bind (Kp.bind Kp.stack fun _ => Kp.pure _) fun l => Kp.bind ?_ fun r => ?_
 · unfold PySem.frameObject
   split
   · exact Kp.pure _
   · exact Kp.bind (Kp.readyFrames _) fun _ => Kp.pure _
 · split
   · exact Kp.pure _
   · exact Kp.unsupported _
theorem Kp.entryPlaceOf (f : Addr) (b : Bool) : Kp (PySem.entryPlaceOf f b) := by
 unfold PySem.entryPlaceOf
 refine Kp.bind Kp.stack fun acts => ?_
 split
 · exact Kp.pure _
 · exact Kp.pure _
theorem Kp.setFlight (v : Value) (f : Option Addr) : Kp (PySem.setFlight v f) := by
 unfold PySem.setFlight
 refine Kp.bind (Kp.field _ _) fun tb => Kp.ite (Kp.setField _ (by decide) _) (Kp.pure _)
theorem Kp.noteFrame (v : Value) (env : Env) : Kp (PySem.noteFrame v env) := by
 unfold PySem.noteFrame
 split
 · rename_i f _
   refine Kp.bind (Kp.field _ _) fun hd => ?_
   have rest : Kp (do PySem.setField v 1 (← EntryCells.newEntry hd (← PySem.frameOf env) .none (rawInt f) .none (← PySem.entryPlaceOf f (hd != .none)))) :=
     Kp.bind (Kp.frameOf env) fun _ => Kp.bind (Kp.entryPlaceOf _ _) fun _ => Kp.bind (Kp.newFields _ _) fun _ => Kp.setField _ (by decide) _
   refine Kp.ite (Kp.bind (Kp.field _ _) fun _ => Kp.ite (Kp.pure _) (Kp.bind (Kp.setField _ (by decide) _) fun _ => rest)) rest
 · exact Kp.unsupported _
theorem Kp.leaving (env : Env) (v : Value) : Kp (PySem.leaving env v) := by
 unfold PySem.leaving
 exact Kp.bind (Kp.noteFrame _ _) fun _ => Kp.setFlight _ _
theorem Kp.any {t : Sem α} (k : Kp t) {M : Model} {A : Around} {Q : α → Shared → Prop} {E : Value → Shared → Prop} {s : Shared} {e : Addr} (x : Ctx0 e s.heap) (h : wpAny M A t Q E s) : wpAny M A t (fun a s' => Q a s' ∧ Ctx0 e s'.heap) E s := fun Γ p hΓ => k M Γ _ _ p s e x (h Γ p hΓ)
end
def FlyX (base : Heap) (l : List Env) (e : Addr) (cls a0 : Value) (h : Heap) : Prop := Heap.FlyingW base l e cls a0 h ∧ Ctx0 e h
section
variable {M : Model} {A : Around} {E : Value → Shared → Prop} {s : Shared} {base : Heap} {env : Env} {outer l : List Env} {L e : Addr} {cls a0 : Value} {Q : Unit → Shared → Prop}
theorem leaves_onX (hfr : A.frames = some (env :: outer)) (hf : env.frame = some L) (hfl : FlyX base (env :: outer) e cls a0 s.heap)
   (hQ : ∀ h', FlyX base outer e cls a0 h' → s.heap.UpToSlots h' → Q () { s with heap := h' }) : wpAny M A (leaving env (.ref e)) Q E s := by
 have w := wpAny_leaves_onW (M := M) (A := A) (E := E) (Q := fun _ s' => ∃ h', s' = { s with heap := h' } ∧ Heap.FlyingW base outer e cls a0 h' ∧ s.heap.UpToSlots h') hfr hf hfl.1 fun h' x1 x2 => ⟨h', rfl, x1, x2⟩
 refine wpAny_mono ((Kp.leaving env (.ref e)).any hfl.2 w) (fun a s' z => ?_) fun _ _ z => z
 obtain ⟨⟨h', rfl, x1, x2⟩, c⟩ := z
 exact hQ h' ⟨x1, c⟩ x2
theorem leaves_madeX {h : Heap} {args : List Value} (hfr : A.frames = some (env :: outer)) (hf : env.frame = some L) (hkb : base.StaysIn h) (hl : h.FunFrames base (env :: outer)) (hx : Heap.MadeExcOf h s.heap e cls args)
   (hQ : ∀ h' t, FlyX base outer e cls (.ref t) h' → h'.TupAt t args → base.get? t = none → s.heap.UpToSlots h' → Q () { s with heap := h' }) : wpAny M A (leaving env (.ref e)) Q E s := by
 have w := wpAny_leaves_madeW (M := M) (A := A) (E := E) (Q := fun _ s' => ∃ h' t, s' = { s with heap := h' } ∧ Heap.FlyingW base outer e cls (.ref t) h' ∧ h'.TupAt t args ∧ base.get? t = none ∧ s.heap.UpToSlots h') hfr hf hkb hl hx fun h' t x1 x2 x3 x4 => ⟨h', t, rfl, x1, x2, x3, x4⟩
 have c0 : Ctx0 e s.heap := by
   obtain ⟨t, h1, _⟩ := hx.there
   exact ⟨_, _, h1, rfl, rfl⟩
 refine wpAny_mono ((Kp.leaving env (.ref e)).any c0 w) (fun a s' z => ?_) fun _ _ z => z
 obtain ⟨⟨h', t, rfl, x1, x2, x3, x4⟩, c⟩ := z
 exact hQ h' t ⟨x1, c⟩ x2 x3 x4
theorem looks_onX (hfr : A.frames = some (env :: outer)) (hf : env.frame = some L) (hfl : FlyX base (env :: outer) e cls a0 s.heap)
   (hQ : ∀ h', Heap.HeldW base (env :: outer) e cls a0 L h' ∧ Ctx0 e h' → s.heap.UpToSlots h' → Q () { s with heap := h' }) : wpAny M A (noteFrame (.ref e) env) Q E s := by
 have w := wpAny_looks_onW (M := M) (A := A) (E := E) (Q := fun _ s' => ∃ h', s' = { s with heap := h' } ∧ Heap.HeldW base (env :: outer) e cls a0 L h' ∧ s.heap.UpToSlots h') hfr hf hfl.1 fun h' x1 x2 => ⟨h', rfl, x1, x2⟩
 refine wpAny_mono ((Kp.noteFrame (.ref e) env).any hfl.2 w) (fun a s' z => ?_) fun _ _ z => z
 obtain ⟨⟨h', rfl, x1, x2⟩, c⟩ := z
 exact hQ h' ⟨x1, c⟩ x2
theorem landsX (hh : Heap.HeldW base l e cls a0 L s.heap ∧ Ctx0 e s.heap) (hQ : ∀ h', FlyX base l e cls a0 h' → s.heap.UpToSlots h' → Q () { s with heap := h' }) : wpAny M A (setFlight (.ref e) none) Q E s := by
 have w := wpAny_landsW (M := M) (A := A) (E := E) (Q := fun _ s' => ∃ h', s' = { s with heap := h' } ∧ Heap.FlyingW base l e cls a0 h' ∧ s.heap.UpToSlots h') hh.1 fun h' x1 x2 => ⟨h', rfl, x1, x2⟩
 refine wpAny_mono ((Kp.setFlight (.ref e) none).any hh.2 w) (fun a s' z => ?_) fun _ _ z => z
 obtain ⟨⟨h', rfl, x1, x2⟩, c⟩ := z
 exact hQ h' ⟨x1, c⟩ x2
theorem lands_againX (hh : FlyX base l e cls a0 s.heap) (hQ : ∀ h', FlyX base l e cls a0 h' → s.heap.UpToSlots h' → Q () { s with heap := h' }) : wpAny M A (setFlight (.ref e) none) Q E s := by
 have w := lands_againW (M := M) (A := A) (E := E) (Q := fun _ s' => ∃ h', s' = { s with heap := h' } ∧ Heap.FlyingW base l e cls a0 h' ∧ s.heap.UpToSlots h') hh.1 fun h' x1 x2 => ⟨h', rfl, x1, x2⟩
 refine wpAny_mono ((Kp.setFlight (.ref e) none).any hh.2 w) (fun a s' z => ?_) fun _ _ z => z
 obtain ⟨⟨h', rfl, x1, x2⟩, c⟩ := z
 exact hQ h' ⟨x1, c⟩ x2
end
end L2
namespace L2
open PySem PySem.Spec PyProof.Rows
def CX1 (P : Program) (w : World) : CXT := fun outer H s E e s' => ∃ (a C : Addr) (a0 : Value) (B : Heap) (H' : Hp), e = .ref a ∧ s'.os = s.os ∧ AllBare s'.gens ∧ Un (frs outer) [] H H' s.heap s'.heap ∧ HOk P w H' B ∧
 (∀ b o, s.heap.get? b = some o → H b = none → b ∉ frs outer → B.get? b = some o) ∧ (∀ b o, s.heap.get? b = some o → b ∉ frs outer → ∃ o', B.get? b = some o') ∧ FlyX B outer a (.ref C) a0 s'.heap ∧ E (.ref C) none H'
theorem cx1_none {P : Program} {w : World} {outer : List Env} {H : Hp} {s : Shared} {e : Value} {s' : Shared} (h : CX1 P w outer H s (fun _ _ _ => False) e s') : False := by
 obtain ⟨_, _, _, _, _, _, _, _, _, _, _, _, _, q⟩ := h
 exact q
theorem frs_mem {l : List Env} {env : Env} {b : Addr} (h : env ∈ l) (hf : env.frame = some b) : b ∈ frs l := List.mem_filterMap.mpr ⟨env, h, hf⟩
structure Tk (X : Cx) (F : St → XK) : Prop where
 pass : ∀ (pins : List (Addr × Obj)) (σ : St) (H : Hp) (s : Shared) (e : Value) (s' : Shared), Inv X pins σ H s → CX1 X.prog X.w X.stack H s (F σ) e s' → X.xe e s'
 own : PassesOwn (model X.prog X.w) X.A X.env X.xe
structure TkN (X : Cx) (F : St → XK) : Prop extends Tk X F where
 new : ∀ (pins : List (Addr × Obj)) (σ : St) (H : Hp) (s : Shared) (h' : Heap) (a C : Addr) (args : List Value), Inv X pins σ H s → Heap.MadeExcOf s.heap h' a (.ref C) args → F σ (.ref C) none H → X.xe (.ref a) { s with heap := h' }
section
variable {P : Program} {w : World} {K : PySem.W.Frag} {mg : Str → Option Value} {base : Heap} {N : List Str} {qual : Str} {scope : Scope} {f : Addr} {cdv : Value} {A : Around} {outer : List Env} {s : Shared} {H : Hp} {E : XK}
theorem tk_def : TkN (cxOf (CX1 P w) P w K mg base N qual scope f cdv A outer s H E) (fun _ => E) := by
 refine ⟨⟨fun pins σ H1 s1 e s2 I h => ?_, PassesOwn.leaving⟩, fun pins σ H1 s1 h' a C args I hm hE => ?_⟩
 · obtain ⟨a, C, a0, B, H', rfl, h1, h2, h3, h4, h5, h5', h6, h7⟩ := h
   have hfr : (A.deeper (envOfC qual scope s.heap.objs.size f cdv)).frames = some (envOfC qual scope s.heap.objs.size f cdv :: outer) := I.ok.frames
   refine leaves_onX hfr rfl h6 fun h3' hfl hup => ?_
   have nL : ∀ b o, s.heap.get? b = some o → b ≠ s.heap.objs.size := fun b o e => Nat.ne_of_lt (Heap.lt_size e)
   have inB : ∀ b o, s.heap.get? b = some o → H b = none → b ∉ frs outer → B.get? b = some o := fun b o e n hb => by
     refine h5 b o (I.base.keep b o e n hb (by simp [cxOf])) (I.base.free b o e n (by simp [cxOf])) fun z => ?_
     rcases List.mem_cons.mp (I.stkSub b z) with z | z
     · exact nL b o e z
     · exact hb z
   have thB : ∀ b o, s.heap.get? b = some o → b ∉ frs outer → ∃ o', B.get? b = some o' := fun b o e hb => by
     obtain ⟨o1, e1⟩ := I.base.there b o e (by simp [cxOf])
     refine h5' b o1 e1 fun z => ?_
     rcases List.mem_cons.mp (I.stkSub b z) with z | z
     · exact nL b o e z
     · exact hb z
   have frame : ∀ b o, s.heap.get? b = some o → b ∈ frs outer → ∃ sl, h3'.get? b = some { o with slots := sl } := fun b o e hb => by
     have n : H b = none := I.ok.frf b hb
     obtain ⟨sl, e1⟩ := I.base.slot b o e n hb (by simp [cxOf])
     obtain ⟨sl2, e2⟩ := h3.any e1 (I.base.free b o e n (by simp [cxOf])) (by simp)
     have hd : ∀ vs, o.data ≠ .fields vs := by
       obtain ⟨_, o', ho', hd'⟩ := I.ok.funs.mem hb
       have ho' : s.heap.get? b = some o' := ho'
       rw [e] at ho'
       cases ho'
       exact hd'
     obtain ⟨sl3, e3⟩ := hup b _ e2 hd
     exact ⟨sl3, e3⟩
   refine ⟨a, C, a0, B, H', rfl, h1.trans I.os, h2, ⟨fun b o e n hb _ => hfl.1.1 b o (inB b o e n hb), fun b o e n hb _ => frame b o e hb, fun b o e n _ => ?_, fun b o e _ => ?_, fun b xs e => h3.tups b xs (I.base.tups b xs e), fun b o u e => h3.frzs b o u (I.base.frzs b o u e), fun b ps e => ?_⟩, h4, inB, thB, hfl, h7⟩
   · obtain ⟨o', e1⟩ := I.base.there b o e (by simp [cxOf])
     exact h3.free b o' e1 (I.base.free b o e n (by simp [cxOf])) (by simp)
   · by_cases hb : b ∈ frs outer
     · obtain ⟨sl, e1⟩ := frame b o e hb
       exact ⟨_, e1⟩
     · obtain ⟨o', e1⟩ := thB b o e hb
       exact ⟨o', hfl.1.1 b o' e1⟩
   · obtain ⟨m1, e1⟩ := I.base.tbls b ps e
     obtain ⟨m2, e2⟩ := h3.tbls b _ e1
     exact ⟨m1 ++ m2, by rw [e2, Array.append_assoc]⟩
 · have hfr : (A.deeper (envOfC qual scope s.heap.objs.size f cdv)).frames = some (envOfC qual scope s.heap.objs.size f cdv :: outer) := I.ok.frames
   have hin : ∀ env ∈ (envOfC qual scope s.heap.objs.size f cdv :: outer), ∀ b, env.frame = some b → b ∈ frs (envOfC qual scope s.heap.objs.size f cdv :: outer) := fun env he b hb => frs_mem he hb
   have hfun : s1.heap.FunFrames (PySem.W.hideAll s1.heap (frs (envOfC qual scope s.heap.objs.size f cdv :: outer))) (envOfC qual scope s.heap.objs.size f cdv :: outer) := PySem.W.funFrames_hide I.stack hin
   refine leaves_madeX hfr rfl (fun b o e => PySem.W.of_hideAll _ e) hfun hm fun h2 t hfl htup ht hup => ?_
   have nL : ∀ b o, s.heap.get? b = some o → b ≠ s.heap.objs.size := fun b o e => Nat.ne_of_lt (Heap.lt_size e)
   have notf : ∀ b o, s.heap.get? b = some o → b ∉ frs outer → b ∉ frs (envOfC qual scope s.heap.objs.size f cdv :: outer) := fun b o e hb z => by
     rcases List.mem_cons.mp (I.stkSub b z) with z | z
     · exact nL b o e z
     · exact hb z
   have toB : ∀ b o, s1.heap.get? b = some o → b ∉ frs (envOfC qual scope s.heap.objs.size f cdv :: outer) → (PySem.W.hideAll s1.heap (frs (envOfC qual scope s.heap.objs.size f cdv :: outer))).get? b = some o := fun b o e hb => PySem.W.hideAll_get _ e hb
   have inB : ∀ b o, s.heap.get? b = some o → H b = none → b ∉ frs outer → (PySem.W.hideAll s1.heap (frs (envOfC qual scope s.heap.objs.size f cdv :: outer))).get? b = some o := fun b o e n hb => toB b o (I.base.keep b o e n hb (by simp [cxOf])) (notf b o e hb)
   have thB : ∀ b o, s.heap.get? b = some o → b ∉ frs outer → ∃ o', (PySem.W.hideAll s1.heap (frs (envOfC qual scope s.heap.objs.size f cdv :: outer))).get? b = some o' := fun b o e hb => by
     obtain ⟨o1, e1⟩ := I.base.there b o e (by simp [cxOf])
     exact ⟨o1, toB b o1 e1 (notf b o e hb)⟩
   have frame : ∀ b o, s.heap.get? b = some o → b ∈ frs outer → ∃ sl, h2.get? b = some { o with slots := sl } := fun b o e hb => by
     have n : H b = none := I.ok.frf b hb
     obtain ⟨sl, e1⟩ := I.base.slot b o e n hb (by simp [cxOf])
     have hd : ∀ vs, o.data ≠ .fields vs := by
       obtain ⟨_, o', ho', hd'⟩ := I.ok.funs.mem hb
       have ho' : s.heap.get? b = some o' := ho'
       rw [e] at ho'
       cases ho'
       exact hd'
     obtain ⟨sl3, e3⟩ := hup b _ (hm.keeps b _ e1) hd
     exact ⟨sl3, e3⟩
   have hokB : HOk P w H1 (PySem.W.hideAll s1.heap (frs (envOfC qual scope s.heap.objs.size f cdv :: outer))) := fun b o e => by
     refine (I.hok b o e).stay (fun d u hd z => toB d u z fun y => ?_) (fun _ z => z) fun _ _ z => z
     have := I.stkFree d y
     rcases hd with rfl | hd
     · rw [e] at this; cases this
     · rw [hd] at this; cases this
   refine ⟨a, C, .ref t, _, H1, rfl, I.os, I.bare, ⟨fun b o e n hb _ => hfl.1.1 b o (inB b o e n hb), fun b o e n hb _ => frame b o e hb, fun b o e n _ => I.base.free b o e n (by simp [cxOf]), fun b o e _ => ?_, I.base.tups, I.base.frzs, I.base.tbls⟩, hokB, inB, thB, hfl, hE⟩
   by_cases hb : b ∈ frs outer
   · obtain ⟨sl, e1⟩ := frame b o e hb
     exact ⟨_, e1⟩
   · obtain ⟨o', e1⟩ := thB b o e hb
     exact ⟨o', hfl.1.1 b o' e1⟩
end
end L2
namespace L2
open PySem PySem.Spec PyProof.Rows
abbrev VE : List Value := [.type "ValueError", .type "Exception", .type "BaseException", .type "object"]
def clsMro (K : PySem.W.Frag) (C : Addr) : List Value := match K.lookup C with
 | some ⟨_, _, .cls cd, _⟩ => cd.mro
 | _ => []
def ExC (K : PySem.W.Frag) (C : Addr) : Prop := PySem.W.excIn K C VE "ValueError.__new__" = true
theorem exc_obj {K : PySem.W.Frag} {h : Heap} {C : Addr} (X : K.In h) (q : ExC K C) : ∃ bm N nm qn bs hdct sn sub ab col dd k0 k1 k2 k3 k5 mN, h.get? C = some (excClassObj nm qn C N bs bm hdct sn sub ab col dd k0 k1 k2 k3 k5 "ValueError.__new__") ∧ h.Ns N mN ∧ mN "__init__" = none ∧ OwnTail h VE bm ∧ clsMro K C = .ref C :: bm := by
 unfold ExC PySem.W.excIn at q
 split at q
 · rename_i dd cd sl ho
   split at q
   · rename_i C' bm k0 k1 k2 k3 n k5 hm hs
     simp only [Bool.and_eq_true, beq_iff_eq, Bool.not_eq_true'] at q
     obtain ⟨⟨⟨⟨⟨rfl, rfl⟩, hdel⟩, ht⟩, hok⟩, hni⟩ := q
     obtain ⟨nm, bs, mro, ns, qn, hd, sn, sub, ab, col, del⟩ := cd
     dsimp only at hm hdel hok hni
     subst hm hdel
     have hsl : sl = #[k0, k1, k2, k3, some (.builtin "ValueError.__new__"), k5] := by
       obtain ⟨l⟩ := sl
       simp only at hs
       rw [hs]
     subst hsl
     exact ⟨bm, ns, nm, qn, bs, hd, sn, sub, ab, col, dd, k0, k1, k2, k3, k5, _, X _ _ ho, .of_isNs (PySem.W.isNs_of_in X hok), PySem.W.nsMap_none_of_in X hok hni, PySem.W.tail_of_in X ht, by unfold clsMro; rw [ho]⟩
   · cases q
 · cases q
section
variable {X : Cx} {F : St → XK} {x : Str} {C : Addr} {e : Expr} {es : List Expr} {t : TA} {np cpos pos : Pos}
def tRaise (F : St → XK) (C : Addr) (t : TA) : TS := fun _ σ H => t σ H fun vs H1 => vs.length ≤ 1000 ∧ F σ (.ref C) none H1
theorem ps_raise (T : TkN X F) (hc : X.calm = true) (q : ExC X.K C) (hg : Gl X x) (hm : X.mg x = some (.ref C)) (ha : PA X (e :: es) t) (hdb : (x == ("__debug__" : Str)) = false := by decide)
   (he : starEach (e :: es) X.env = (false, eval e X.env) :: starEach es X.env := by rfl) (hpl : (backTo cpos (starEach es X.env)).any (·.1) = false := by rfl) : PS X (.Raise (some (.Call (.Name x np) (e :: es) [] cpos)) none pos) (tRaise F C t) := by
 intro pins s σ H D I h
 obtain ⟨bm, N, nm, qn, bs, hdct, sn, sub, ab, col, dd, k0, k1, k2, k3, k5, mN, hC, hN, hni, TL, _⟩ := exc_obj I.mod.kin q
 refine wpAny_Raise_call_subT (C := C) (nm := nm) (q := qn) (N := N) (bs := bs) (bm := bm) (hdct := hdct) (sn := sn) (sub := sub) (ab := ab) (col := col) (dd := dd) (k0 := k0) (k1 := k1) (k2 := k2) (k3 := k3) (k5 := k5) PySem.F.excBase_ValueError (mN := mN) (TL.hasType PySem.F.excBase_ValueError.hasBase) (I.ok.hd hc) ?_ hni ?_
 · rw [he]
   show (false || (backTo cpos (starEach es X.env)).any (·.1)) = false
   rw [hpl]
   rfl
 · refine ld_glob I hg hm ⟨rfl, ?_⟩ hdb
   have hp := ha cpos pins s σ H _ I h
   rw [he] at hp ⊢
   have hsl : sizeLine = 16777216 := sizeLine_eq
   refine Calls.evalArgs_plain (thn hp fun us s2 ⟨vs, H2, I2, rv, hl, hf⟩ => ⟨rfl, ?_, I2.bk _ _ hC, hN.keeps I2.bk, TL.keeps I2.bk, fun h' a hm => T.new pins σ H2 s2 h' a C us I2 hm hf⟩)
   have := rv.length
   show us.length ≤ sizeLine
   omega
end
section
variable {X : Cx} {pos : Pos}
def PJ (X : Cx) (es : List Expr) (t : List Nat → St → Hp → (List Nat → Hp → Prop) → Prop) : Prop :=
 ∀ (pins : List (Addr × Obj)) (s : Shared) (σ : St) (H : Hp) (acc : List Nat) (Q : List Nat → Hp → Prop), Inv X pins σ H s → t acc σ H Q →
   wpAny (model X.prog X.w) X.A (joinParts (T acc) (evalEach es X.env)) (EP X pins σ fun v H' => ∃ l, v = .str (T l) ∧ Q l H') X.xe s
theorem pj_nil : PJ X [] (fun acc _ H Q => acc.length ≤ sizeLine ∧ Q acc H) := by
 intro pins s σ H acc Q I h
 exact joinParts_nil ⟨.str (T acc), H, I.tok _, ⟨_, rfl⟩, acc, rfl, h.2⟩ (by rw [T_len]; exact h.1)
def tJPart (te : TE) (t : List Nat → St → Hp → (List Nat → Hp → Prop) → Prop) : List Nat → St → Hp → (List Nat → Hp → Prop) → Prop := fun acc σ H Q => te σ H fun v H1 => match v with
 | .str z => acc.length + (L z).length ≤ sizeLine ∧ t (acc ++ L z) σ H1 Q
 | _ => False
theorem pj_cons {e : Expr} {es : List Expr} {te : TE} {t : List Nat → St → Hp → (List Nat → Hp → Prop) → Prop} (h1 : PE X e te) (h2 : PJ X es t) (hev : evalEach (e :: es) X.env = eval e X.env :: evalEach es X.env := by rfl) : PJ X (e :: es) (tJPart te t) := by
 intro pins s σ H acc Q I h
 rw [hev]
 refine joinParts_cons (thn (h1 pins s σ H _ I h) fun u s1 ⟨v, H1, I1, r, q⟩ => ?_)
 cases v with
 | str z =>
   obtain ⟨tk, rfl⟩ := r
   have e := T_app acc (L z)
   rw [T_L] at e
   refine ⟨?_, ?_⟩
   · show (T acc ++ z).length ≤ sizeLine
     rw [e, T_len, List.length_append]
     exact q.1
   · rw [e]
     exact h2 pins s1 σ H1 _ Q I1 q.2
 | _ => exact False.elim q
def tJoin (t : List Nat → St → Hp → (List Nat → Hp → Prop) → Prop) : TE := fun σ H Q => t [] σ H fun l H' => Q (.str (T l)) H'
theorem pe_join {e1 e2 : Expr} {es : List Expr} {t : List Nat → St → Hp → (List Nat → Hp → Prop) → Prop} (h : PJ X (e1 :: e2 :: es) t) (hev : evalEach (e1 :: e2 :: es) X.env = eval e1 X.env :: eval e2 X.env :: evalEach es X.env := by rfl) : PE X (.JoinedStr (e1 :: e2 :: es) pos) (tJoin t) := by
 intro pins s σ H Q I q
 refine JoinedStr_many ?_
 have := h pins s σ H [] _ I q
 rw [hev] at this
 refine thn this fun u s1 ⟨v, H1, I1, r, l, e, q⟩ => ?_
 subst e
 exact ⟨_, H1, I1, r, q⟩
def numL (i : Int) : List Nat := L (toString i : Str)
def tFmt (te : TE) : TE := fun σ H Q => te σ H fun v H1 => match v with
 | .str z => (L z).length ≤ sizeLine ∧ Q (.str z) H1
 | .int i => i.natAbs.log2 < 1920 ∧ Q (.str (T (numL i))) H1
 | _ => False
theorem pe_fmt {e : Expr} {te : TE} (h : PE X e te) : PE X (.FormattedValue e (-1) none pos) (tFmt te) := by
 intro pins s σ H Q I q
 refine FormattedValue_plain (thn (h pins s σ H _ I q) fun u s1 ⟨v, H1, I1, r, q⟩ => ?_)
 cases v with
 | str z =>
   obtain ⟨tk, rfl⟩ := r
   exact formatField_str (fun t' tk => ⟨.str z, H1, I1.tok _, ⟨_, rfl⟩, q.2⟩) (by rw [← L_len]; exact q.1)
 | int i =>
   obtain ⟨tk, rfl⟩ := r
   have e : T (numL i) = (toString i : Str) := T_L _
   have q : i.natAbs.log2 < 1920 ∧ Q (V.str (T (numL i))) H1 := q
   rw [e] at q
   exact formatField_int_small q.1 ⟨.str (toString i), H1, I1.tok _, ⟨_, rfl⟩, q.2⟩
 | _ => exact False.elim q
end
end L2
namespace L2
open PySem PySem.Spec PyProof.Rows
structure FnX (P : Program) (w : World) (K : PySem.W.Frag) (mg : Str → Option Value) (base : Heap) (k : Nat) (x : Str) (ps : List Str) (sp : Sp) : Prop where
 ex : ∃ f fd, FnOk P w K mg base (CX1 P w) k f fd ps sp ∧ mg x = some (.ref f) ∧ PySem.W.keepIn K (.ref f) = true ∧ Binds K fd ps []
section
variable {P : Program} {w : World} {K : PySem.W.Frag} {mg : Str → Option Value} {base : Heap}
theorem Fun.okX {x qual : Str} {st : Stmt} {f : Addr} {fd : FuncData} {N ps : List Str} {k : Nat} {sp : Sp} (F : Fun K x qual st f fd) (S : FnScope N ps (defScope st)) (len : ∀ vs H Q E, sp vs H Q E → vs.length = ps.length)
   (hbody : ∀ (cdv : Value) (A : Around) (outer : List Env) (s : Shared) (H : Hp) (vs : List V) (Q : VK) (E : XK), Room k (A.deeper (envOfC qual (defScope st) s.heap.objs.size f cdv)) → sp vs H Q E →
     ∃ t, PSs (cxOf (CX1 P w) P w K mg base N qual (defScope st) f cdv A outer s H E) (defBody st) t ∧ t { nx := fun _ H' => Q .non H', rt := Q } (start N vs) H) : FnOk P w K mg base (CX1 P w) (k + 1) f fd ps sp := by
 obtain ⟨oc, od, kV, doc, pm, an, cdv, ct, osl, rfl, lk, hcd⟩ := F.ex
 exact fn_of lk hcd S len fun A outer s H vs Q E hr hsp => hbody cdv A outer s H vs Q E hr hsp
end
section
variable {X : Cx} {F : St → XK} {k : Nat} {x : Str} {ps : List Str} {sp : Sp} {p pos : Pos} {e : Expr} {es : List Expr} {t : TA}
def tFnX (F : St → XK) (sp : Sp) (t : TA) : TE := fun σ H Q => t σ H fun vs H1 => sp vs H1 Q (F σ)
theorem pe_fnX (T : Tk X F) (G : FnX X.prog X.w X.K X.mg X.base k x ps sp) (hr : Room k X.A) (ha : PA X (e :: es) t) (hg : Gl X x := by rfl) (hdb : (x == ("__debug__" : Str)) = false := by decide)
   (he : starEach (e :: es) X.env = (false, eval e X.env) :: starEach es X.env := by rfl) (hpl : (backTo pos (starEach es X.env)).any (·.1) = false := by rfl) : PE X (.Call (.Name x p) (e :: es) [] pos) (tFnX F sp t) := by
 obtain ⟨f, fd, G, hm, hk, hb⟩ := G.ex
 intro pins s σ H Q I h
 refine wpAny_Call_Name_kw (ld_glob I hg hm ?_ hdb)
 refine PySem.W.callWith_K (h₀ := X.base) I.ok.mod.kin hk (thn (ha pos pins s σ H _ I h) fun us s1 ⟨vs, H1, I1, r, q⟩ => ⟨I1.kIn, ?_⟩) he hpl
 have hl : us.length = ps.length := by rw [← r.length]; exact G.len _ _ _ _ q
 refine wpAny_call (codeAny_mono (G.run X.A X.stack s1 H1 ⟨us, []⟩ us vs Q (F σ) hr I1.env0 (by simpa using hb s1 us I1.kIn (by simpa using hl)) r q) fun r s' hq => ?_)
 cases r with
 | error e => exact T.pass pins σ H1 s1 e s' I1 hq
 | ok fl =>
   cases fl with
   | ret u => exact I1.after hq
   | next => exact False.elim hq
   | brk => exact False.elim hq
   | cont => exact False.elim hq
end
structure Caught (X : Cx) (pins : List (Addr × Obj)) (σ : St) (H1 : Hp) (s1 : Shared) (a C : Addr) (a0 : Value) (B : Heap) (H : Hp) (s2 : Shared) : Prop where
 inv1 : Inv X pins σ H1 s1
 os : s2.os = s1.os
 bare : AllBare s2.gens
 un : Un (frs X.stack) [] H1 H s1.heap s2.heap
 hokB : HOk X.prog X.w H B
 keepB : ∀ b o, s1.heap.get? b = some o → H1 b = none → b ∉ frs X.stack → B.get? b = some o
 thB : ∀ b o, s1.heap.get? b = some o → b ∉ frs X.stack → ∃ o', B.get? b = some o'
def ExcO (a C : Addr) : HO := .ext fun h => ∃ o vs, h.get? a = some o ∧ o.cls = .ref C ∧ o.data = .fields vs ∧ vs[2]? = some .none
section
variable {X : Cx} {pins : List (Addr × Obj)} {σ : St} {H1 H : Hp} {s1 s2 : Shared} {a C : Addr} {a0 : Value} {B h : Heap}
theorem Caught.inv (c : Caught X pins σ H1 s1 a C a0 B H s2) (hfl : FlyX B X.stack a (.ref C) a0 h) (hup : s2.heap.UpToSlots h) : Inv X pins σ H { s2 with heap := h } := by
 have I := c.inv1
 have fr : ∀ b o, s1.heap.get? b = some o → b ∈ frs X.stack → ∃ sl, h.get? b = some { o with slots := sl } := fun b o e hb => by
   obtain ⟨sl, e1⟩ := c.un.any e (I.stkFree b hb) (by simp)
   have hd : ∀ vs, o.data ≠ .fields vs := by
     obtain ⟨_, o', ho', hd'⟩ := I.stack.mem hb
     rw [e] at ho'
     cases ho'
     exact hd'
   obtain ⟨sl2, e2⟩ := hup b _ e1 hd
   exact ⟨sl2, e2⟩
 refine I.call' (s' := { s2 with heap := h }) (ch := []) c.os ⟨fun b o e n hb _ => hfl.1.1 b o (c.keepB b o e n hb), fun b o e n hb _ => fr b o e hb, c.un.free, fun b o e _ => ?_, c.un.tups, c.un.frzs, c.un.tbls⟩ (c.hokB.kept hfl.1.1) c.bare fun b z => absurd z (by simp)
 by_cases hb : b ∈ frs X.stack
 · obtain ⟨sl, e1⟩ := fr b o e hb
   exact ⟨_, e1⟩
 · obtain ⟨o', e1⟩ := c.thB b o e hb
   exact ⟨o', hfl.1.1 b o' e1⟩
theorem Inv.trackG {s : Shared} (I : Inv X pins σ H s) {D : Addr} {o : HO} (n0 : X.s₀.heap.get? D = none) (free : H D = none) (nl : D ≠ X.env.locals) (hc : ∀ x c, X.env.cells.lookup x = some c → c ≠ D) (np : ∀ p ∈ X.pn ++ pins, p.1 ≠ D) (new : ObjOk X.prog X.w (upd H D o) s.heap D o) : Inv X pins σ (upd H D o) s := by
 have ne : ∀ b u, H b = some u → b ≠ D := fun b u e => ne_of_none e free
 refine ⟨I.ok, I.os, I.bare, ⟨I.base.keep, I.base.slot, fun b u e n hx => ?_, I.base.there, fun b xs e => ?_, fun b u v e => ?_, fun b ps e => ?_⟩, I.loc, I.cell, ?_, fun x c e => ?_, fun p hp => ?_, fun b u e => ?_, I.len⟩
 · have hb : b ≠ D := by
     rintro rfl
     rw [n0] at e
     cases e
   rw [upd_ne hb]
   exact I.base.free b u e n hx
 · have := I.base.tups b xs e
   rw [upd_ne (ne b _ this)]
   exact this
 · have := I.base.frzs b u v e
   rw [upd_ne (ne b _ this)]
   exact this
 · obtain ⟨m, z⟩ := I.base.tbls b ps e
   exact ⟨m, by rw [upd_ne (ne b _ z)]; exact z⟩
 · rw [upd_ne (Ne.symm nl)]
   exact I.free
 · rw [upd_ne (hc x c e)]
   exact I.freeC x c e
 · obtain ⟨a1, a2, a3⟩ := I.pin p hp
   exact ⟨a1, by rw [upd_ne (np p hp)]; exact a2, a3⟩
 · by_cases hb : b = D
   · subst hb
     rw [upd_same] at e
     cases e
     exact new
   · rw [upd_ne hb] at e
     refine (I.hok b u e).stay (fun _ _ _ z => z) (fun d z => ?_) fun d xs z => ?_
     · rw [upd_ne (ne d _ z)]; exact z
     · rw [upd_ne (ne d _ z)]; exact z
theorem Caught.held (hex : X.ex = []) (c : Caught X pins σ H1 s1 a C a0 B H s2) (hfl : FlyX B X.stack a (.ref C) a0 h) (hup : s2.heap.UpToSlots h) : H a = none ∧ Inv X pins σ (upd H a (ExcO a C)) { s2 with heap := h } := by
 have I := c.inv hfl hup
 obtain ⟨oe, vs, T, oT, ts, g1, ⟨g2, _⟩, g3, _⟩ := hfl.1.2.2.2
 have g4 : vs[2]? = some Value.none := by
   obtain ⟨o2, vs2, k1, k2, k3⟩ := hfl.2
   rw [g1] at k1
   cases k1
   rw [g3] at k2
   cases k2
   exact k3
 have hBa : B.get? a = none := hfl.1.2.1
 have hHa : H a = none := by
   cases q : H a with
   | none => rfl
   | some o =>
     have ok := c.hokB a o q
     have l := ok.lt
     have ex : ∃ o', B.get? a = some o' := by
       cases o with
       | lst xs => obtain ⟨_, _, _, _, e⟩ := ok; exact ⟨_, e⟩
       | tup xs => obtain ⟨_, _, _, o', e, _⟩ := ok; exact ⟨_, e⟩
       | dK kvs => obtain ⟨_, _, _, _, o', _, _, e, _⟩ := ok; exact ⟨_, e⟩
       | dT kvs => exact False.elim ok
       | set S n => obtain ⟨o', _, _, _, e, _⟩ := ok; exact ⟨_, e⟩
       | ins C dx fs => obtain ⟨_, _, _, e, _⟩ := ok; exact ⟨_, e⟩
       | own y => exact ok
       | xd fs => obtain ⟨_, ⟨_, _, _, e, _⟩, _⟩ := ok; exact ⟨_, e⟩
       | rng lo hi => obtain ⟨_, _, _, e⟩ := ok; exact ⟨_, e⟩
       | frz ob u => obtain ⟨e, _⟩ := ok; exact ⟨_, e⟩
       | tbl ps => exact ⟨_, show B.get? a = some _ from ok⟩
       | met f y => exact ⟨_, show B.get? a = some _ from ok⟩
       | ext φ => obtain ⟨_, e, _⟩ := ok; exact e
     obtain ⟨o', e⟩ := ex
     rw [hBa] at e
     cases e
 have nstk : a ∉ frs X.stack := fun hb => by
   obtain ⟨_, o', ho', hd'⟩ := hfl.1.2.2.1.mem hb
   rw [g1] at ho'
   cases ho'
   exact hd' vs g3
 have ns1 : s1.heap.get? a = none := by
   cases q : s1.heap.get? a with
   | none => rfl
   | some o =>
     obtain ⟨o', e⟩ := c.thB a o q nstk
     rw [hBa] at e
     cases e
 have ns0 : X.s₀.heap.get? a = none := by
   cases q : X.s₀.heap.get? a with
   | none => rfl
   | some o =>
     obtain ⟨o', e⟩ := c.inv1.base.there a o q (by rw [hex]; simp)
     rw [ns1] at e
     cases e
 refine ⟨hHa, I.trackG ns0 hHa (fun z => ?_) (I.cellne g1 fun v z => by rw [g3] at z; cases z) (fun p hp z => ?_) ⟨⟨oe, vs, g1, g2, g3, g4⟩, ⟨oe, g1⟩, fun h1 h2 ⟨o, ws, e1, e2, e3⟩ k => ⟨o, ws, k o e1, e2, e3⟩⟩⟩
 · obtain ⟨m, ⟨o, es, ep, ho, hd, _⟩, _⟩ := I.loc
   have ho : h.get? X.env.locals = some o := ho
   rw [← z, g1] at ho
   cases ho
   rw [g3] at hd
   cases hd
 · have := (c.inv1.pin p hp).1
   rw [z, ns1] at this
   cases this
end
def cxH (X : Cx) (a : Addr) (E : Value → Shared → Prop) : Cx := { X with A := X.A.mark (some (.ref a)), calm := false, xe := E }
section
variable {X : Cx} {pins : List (Addr × Obj)} {σ : St} {H : Hp} {s : Shared} {a : Addr} {E : Value → Shared → Prop}
theorem Inv.marked (I : Inv X pins σ H s) (a : Addr) (E : Value → Shared → Prop) : Inv (cxH X a E) pins σ H s :=
 ⟨⟨I.ok.mod, I.ok.kind, I.ok.glob, I.ok.blt, I.ok.above, I.ok.inj, I.ok.has, I.ok.cab, fun z => absurd (show false = true from z) Bool.false_ne_true, I.ok.frames, I.ok.stk, I.ok.exf, I.ok.bs, I.ok.bsz, I.ok.noex, I.ok.exfs, I.ok.funs, I.ok.frf⟩, I.os, I.bare, I.base, I.loc, I.cell, I.free, I.freeC, I.pin, I.hok, I.len⟩
theorem Inv.unmarked (hd : X.calm = true → X.A.handled = none) (I : Inv (cxH X a E) pins σ H s) : Inv X pins σ H s :=
 ⟨⟨I.ok.mod, I.ok.kind, I.ok.glob, I.ok.blt, I.ok.above, I.ok.inj, I.ok.has, I.ok.cab, hd, I.ok.frames, I.ok.stk, I.ok.exf, I.ok.bs, I.ok.bsz, I.ok.noex, I.ok.exfs, I.ok.funs, I.ok.frf⟩, I.os, I.bare, I.base, I.loc, I.cell, I.free, I.freeC, I.pin, I.hok, I.len⟩
theorem matches_own {M : Model} {A : Around} {E : Value → Shared → Prop} {K : PySem.W.Frag} {C C0 e : Addr} {oe : Obj} {Q : Bool → Shared → Prop} (KX : K.In s.heap) (hC : ExC K C) (hC0 : ExC K C0) (he : s.heap.get? e = some oe) (hcls : oe.cls = .ref C) (hq : Q ((clsMro K C).contains (.ref C0)) s) : wpAny M A (excMatches (.ref e) (.ref C0)) Q E s := by
 obtain ⟨bm, N, nm, qn, bs, hdct, sn, sub, ab, col, dd, k0, k1, k2, k3, k5, mN, g, _, _, TL, em⟩ := exc_obj KX hC
 obtain ⟨bm0, N0, nm0, qn0, bs0, hdct0, sn0, sub0, ab0, col0, dd0, k00, k10, k20, k30, k50, mN0, g0, _, _, TL0, em0⟩ := exc_obj KX hC0
 have hb0 : (Value.ref C0 :: bm0).contains (.type "BaseException") = true := by
   rw [List.contains_cons, TL0.hasType PySem.F.excBase_ValueError.hasBase, Bool.or_true]
 rw [em] at hq
 obtain ⟨hp, gn, d, tk, os⟩ := s
 unfold excMatches
 have nt := tc_notTuple
 repeat (first
   | (with_reducible refine wpAny_loadPart_at he ?_
      rw [hcls])
   | with_reducible refine wpAny_loadPart_at g0 ?_
   | (with_reducible refine wpAny_isSubtype_exc g0 ?_
      rw [hb0])
   | with_reducible refine wpAny_isSubtype_exc g ?_
   | wp_step)
 cases hz : (Value.ref C :: bm).contains (Value.ref C0)
 all_goals (rw [hz] at hq; wp_walk; exact hq)
end
end L2
namespace L2
open PySem PySem.Spec PyProof.Rows
def PHs (X : Cx) (hs : List ExceptHandler) (th : Ends → St → XK) : Prop :=
 ∀ (pins : List (Addr × Obj)) (σ : St) (H1 : Hp) (s1 : Shared) (a C : Addr) (a0 : Value) (B : Heap) (H : Hp) (s2 : Shared) (h : Heap) (D : Ends), Caught X pins σ H1 s1 a C a0 B H s2 → FlyX B X.stack a (.ref C) a0 h → s2.heap.UpToSlots h → th D σ (.ref C) none H →
   wpAny (model X.prog X.w) X.A (handleBy (.ref a) X.env hs) (SP X pins D) X.xe { s2 with heap := h }
section
variable {X : Cx} {x n : Str} {C0 : Addr} {i : Nat} {np pos : Pos} {b₀ : Stmt} {suite : List Stmt} {rest : List ExceptHandler} {ts : TS} {th : Ends → St → XK}
theorem ph_nil : PHs X [] (fun _ _ _ _ _ => False) := fun _ _ _ _ _ _ _ _ _ _ _ _ _ _ _ z => z.elim
theorem SP.unmarked {X : Cx} {pins : List (Addr × Obj)} {a : Addr} {E : Value → Shared → Prop} {D : Ends} {f : Flow} {s' : Shared} (hd : X.calm = true → X.A.handled = none) (h : SP (cxH X a E) pins D f s') : SP X pins D f s' := by
 cases f with
 | next => obtain ⟨σ', H', I, q⟩ := h; exact ⟨σ', H', I.unmarked hd, q⟩
 | brk => obtain ⟨σ', H', I, q⟩ := h; exact ⟨σ', H', I.unmarked hd, q⟩
 | cont => obtain ⟨σ', H', I, q⟩ := h; exact ⟨σ', H', I.unmarked hd, q⟩
 | ret u => obtain ⟨v, σ', H', I, r, q⟩ := h; exact ⟨v, σ', H', I.unmarked hd, r, q⟩
def unb (i : Nat) (D : Ends) : Ends := { nx := fun σ H => D.nx (σ.set i none) H, rt := D.rt, bk := fun σ H => D.bk (σ.set i none) H, ct := fun σ H => D.ct (σ.set i none) H }
theorem goes_ok {pins : List (Addr × Obj)} {σ : St} {H : Hp} {s : Shared} {M : Model} {A : Around} {E : Value → Shared → Prop} {Q : Unit → Shared → Prop} (I : Inv X pins σ H s) (hN : X.N.Nodup) (hi : X.N[i]? = some n) (hk : X.env.kindOf n = some .local)
   (h : ∀ s', Inv X pins (σ.set i none) H s' → Q () s') : wpAny M A (do bindName X.env n .none; unbindBehindTheSuite X.env n pos) Q E s := by
 obtain ⟨m, hn, hl⟩ := id I.loc
 refine wpAny_nameGoes_keeps hk hn (by rw [I.ok.kind]; rfl) fun h' v hn' hs => h _ ?_
 have hiσ : i < σ.length := by rw [I.len]; exact (List.getElem?_eq_some_iff.mp hi).1
 obtain ⟨oL, es, ep, hoL, hdL, _⟩ := id hn
 refine ⟨I.ok, I.os, I.bare, ⟨fun b o e nn hb hx => ?_, fun b o e nn hb hx => ?_, I.base.free, fun b o e hx => ?_, I.base.tups, I.base.frzs, I.base.tbls⟩, ⟨_, hn', fun j y v' e1 e2 e3 => ?_⟩, fun y c e => ?_, I.free, I.freeC, fun p hp => ?_, fun b ob e => ?_, by simpa using I.len⟩
 · exact (hs.2 b (Nat.ne_of_lt (Nat.lt_of_lt_of_le (Heap.lt_size e) I.ok.above))).trans (I.base.keep b o e nn hb hx)
 · obtain ⟨sl, e1⟩ := I.base.slot b o e nn hb hx
   exact ⟨sl, (hs.2 b (Nat.ne_of_lt (Nat.lt_of_lt_of_le (Heap.lt_size e) I.ok.above))).trans e1⟩
 · obtain ⟨o', e1⟩ := I.base.there b o e hx
   exact ⟨o', (hs.2 b (Nat.ne_of_lt (Nat.lt_of_lt_of_le (Heap.lt_size e) I.ok.above))).trans e1⟩
 · have hj : j ≠ i := by
     rintro rfl
     rw [List.getElem?_set_self hiσ] at e2
     cases e2
   rw [List.getElem?_set_ne (Ne.symm hj)] at e2
   obtain ⟨u', r', q⟩ := hl j y v' e1 e2 e3
   refine ⟨u', r', ?_⟩
   rcases q with ⟨k, e⟩ | ⟨k, c, e, z⟩
   · refine .inl ⟨k, ?_⟩
     have : y ≠ n := fun e => hj (nodup_ix hN e1 (e ▸ hi))
     simp [this, e]
   · exact .inr ⟨k, c, e, z.sameBut hs (I.cne y c e)⟩
 · obtain ⟨w', z⟩ := I.cell y c e
   exact ⟨w', z.sameBut hs (I.cne y c e)⟩
 · obtain ⟨e, nn, ne, nf, d⟩ := I.pin p hp
   exact ⟨(hs.2 p.1 ne).trans e, nn, ne, nf, d⟩
 · refine (I.hok b ob e).stay (fun c w' hc z => (hs.2 c ?_).trans z) (fun _ z => z) fun _ _ z => z
   rintro rfl
   rcases hc with z | hc
   · have := I.free
     rw [z, e] at this
     cases this
   · rw [I.free] at hc
     cases hc
def tTry (tb : (St → XK) → TS) (th : Ends → St → XK) (te : TS) : TS := fun D σ H => tb (fun σ' => th D σ') { nx := fun σ' H' => te D σ' H', rt := D.rt, bk := D.bk, ct := D.ct } σ H
abbrev Cx.wishP (X : Cx) (pn : List (Addr × Obj)) (E : Value → Shared → Prop) : Cx := { X with pn := pn, xe := E }
theorem Inv.wishP {pins : List (Addr × Obj)} {σ : St} {H : Hp} {s : Shared} (I : Inv X pins σ H s) (E : Value → Shared → Prop) : Inv (X.wishP (X.pn ++ pins) E) [] σ H s :=
 ⟨⟨I.ok.mod, I.ok.kind, I.ok.glob, I.ok.blt, I.ok.above, I.ok.inj, I.ok.has, I.ok.cab, I.ok.hd, I.ok.frames, I.ok.stk, I.ok.exf, I.ok.bs, I.ok.bsz, I.ok.noex, I.ok.exfs, I.ok.funs, I.ok.frf⟩, I.os, I.bare, I.base, I.loc, I.cell, I.free, I.freeC, fun p hp => I.pin p (by simpa using hp), I.hok, I.len⟩
theorem Inv.unwishP {pins ps : List (Addr × Obj)} {σ : St} {H : Hp} {s : Shared} {E : Value → Shared → Prop} (I : Inv (X.wishP (X.pn ++ pins) E) ps σ H s) : Inv X pins σ H s :=
 ⟨⟨I.ok.mod, I.ok.kind, I.ok.glob, I.ok.blt, I.ok.above, I.ok.inj, I.ok.has, I.ok.cab, I.ok.hd, I.ok.frames, I.ok.stk, I.ok.exf, I.ok.bs, I.ok.bsz, I.ok.noex, I.ok.exfs, I.ok.funs, I.ok.frf⟩, I.os, I.bare, I.base, I.loc, I.cell, I.free, I.freeC, fun p hp => I.pin p (List.mem_append_left _ hp), I.hok, I.len⟩
theorem ps_try {body orelse : List Stmt} {h₀ : ExceptHandler} {hs : List ExceptHandler} {tb : (St → XK) → TS} {te : TS} (hst : X.stack = X.env :: X.outer) (hf : X.env.frame = some X.env.locals) (hb : ∀ pn E F, Tk (X.wishP pn E) F → PSs (X.wishP pn E) body (tb F)) (hh : PHs X (h₀ :: hs) th) (he : PSs X orelse te) :
   PS X (.Try body (h₀ :: hs) orelse [] pos) (tTry tb th te) := by
 intro pins s σ H D I q
 refine wpAny_Try_except ?_
 have hfr : X.A.frames = some (X.env :: X.outer) := by rw [← hst]; exact I.ok.frames
 have tk : Tk (X.wishP (X.pn ++ pins) (fun e s₁ => wpAny (model X.prog X.w) X.A (noteFrame e X.env) (fun _ s₂ => wpAny (model X.prog X.w) X.A (setFlight e none) (fun _ s₃ => wpAny (model X.prog X.w) X.A (handleBy e X.env (h₀ :: hs)) (SP X pins D) X.xe s₃) X.xe s₂) X.xe s₁)) (fun σ' => th D σ') := by
   refine ⟨fun ps σ' H1 s1 e s2 I1 hx => ?_, PassesOwn.looking⟩
   obtain ⟨a, C, a0, B, H', rfl, h1, h2, h3, h4, h5, h5', h6, h7⟩ := hx
   have c : Caught X pins σ' H1 s1 a C a0 B H' s2 := ⟨I1.unwishP, h1, h2, h3, h4, h5, h5'⟩
   have h6 : FlyX B (X.env :: X.outer) a (.ref C) a0 s2.heap := by rw [← hst]; exact h6
   refine looks_onX hfr hf h6 fun h4' hheld hup4 => landsX hheld fun h5' hfl5 hup5 => ?_
   refine hh pins σ' H1 s1 a C a0 B H' s2 h5' D c ?_ (hup4.trans hup5) h7
   rw [hst]
   exact hfl5
 refine wpAny_mono (hb _ _ _ tk [] s σ H _ (I.wishP _) q) (fun f s1 z => ?_) fun e s1 z => z
 cases f with
 | next => obtain ⟨σ', H', J, w'⟩ := z; exact he pins s1 σ' H' D J.unwishP w'
 | brk => obtain ⟨σ', H', J, w'⟩ := z; exact ⟨σ', H', J.unwishP, w'⟩
 | cont => obtain ⟨σ', H', J, w'⟩ := z; exact ⟨σ', H', J.unwishP, w'⟩
 | ret u => obtain ⟨v, σ', H', J, r, w'⟩ := z; exact ⟨v, σ', H', J.unwishP, r, w'⟩
end
end L2
namespace L2
open PySem PySem.Spec PySem.Calls PyProof.Rows PySem.Builtin PySem.Builtin.ObjectAttr PySem.Builtin.Getset_descriptor
structure ExcG (K : PySem.W.Frag) (C : Addr) : Prop where
 ga : PySem.W.findIn K (.ref C) "__getattribute__" = some (some (.builtin "BaseException.__getattribute__"))
 gh : PySem.W.findIn K (.ref C) "__getattr__" = some none
 cl : PySem.W.findIn K (.ref C) "__class__" = some (some (.builtin "object.__class__"))
 gt : PySem.W.specialIn K (.builtin "object.__class__") "__get__" = some (some (.builtin "getset_descriptor.__get__"))
 tk : PySem.W.takesIn K (.builtin "object.__class__") = some true
 mo : PySem.W.mroIn K C (.type "object") = some true
 mb : PySem.W.mroIn K C (.type "BaseException") = some true
theorem ExcG.is {K : PySem.W.Frag} {C : Addr} (G : ExcG K C) : (PySem.W.clsIn K C).isSome = true := by
 have h := G.mo
 unfold PySem.W.mroIn at h
 cases q : PySem.W.clsIn K C with
 | some _ => rfl
 | none => rw [q] at h; cases h
theorem mro_at {K : PySem.W.Frag} {C : Addr} {v : Value} {b : Bool} (h : PySem.W.mroIn K C v = some b) : (clsMro K C).contains v = b := by
 unfold PySem.W.mroIn PySem.W.clsIn at h
 unfold clsMro
 split at h
 · rename_i e
   rw [e]
   dsimp only [Option.bind_some] at h ⊢
   split at h
   · cases h
   · exact Option.some.inj h
 · cases h
section
variable {prog : Program} {w : World} {A : Around} {E : Value → Shared → Prop} {s : Shared} {K : PySem.W.Frag} {a C : Addr} {oe : Obj}
theorem exc_ty {M : Model} {h : Heap} (he : h.get? a = some oe) (hc : oe.cls = .ref C) : PySem.W.Looks M h (typeOf (.ref a)) (.ref C) := by
 rw [← hc]
 exact (PySem.W.Looks.ld he).andThen .now
theorem exc_find {M : Model} {h : Heap} (KX : K.In h) (G : ExcG K C) : PySem.W.Looks M h (find (.ref a) (.ref C) "__class__") (.bind (.builtin "getset_descriptor.__get__") (.builtin "object.__class__")) := by
 have l1 := PySem.W.looks_findIn (M := M) KX G.cl
 have l2 := PySem.W.looks_specialIn (M := M) KX G.gt
 have l3 := PySem.W.looks_takesIn (M := M) KX G.tk
 refine l1.andThen (PySem.W.Looks.andThen (show PySem.W.Looks M h (getOf (some (.builtin "object.__class__"))) _ from l2) (PySem.W.Looks.andThen (a := some (.builtin "getset_descriptor.__get__", .builtin "object.__class__")) (l3.andThen .now) ?_))
 exact PySem.W.Looks.tag .now
theorem exc_cls {R : Result → Shared → Prop} {tp : Value} (KX : K.In s.heap) (G : ExcG K C) (he : s.heap.get? a = some oe) (hc : oe.cls = .ref C)
   (h : R (.ok (.ret (.ref C))) s) : codeAny (model prog w) A (.call (.builtin "getset_descriptor.__get__") ⟨[.builtin "object.__class__", .ref a, tp], []⟩) R s := by
 obtain ⟨hp, gn, dr, tk, os⟩ := s
 have l0 := exc_ty (M := model prog w) he hc
 have l1 := PySem.W.looks_mroIn (M := model prog w) KX G.mo
 refine codeAny_call_builtin PySem.W.KF.slot_gs.plain PySem.W.KF.entry_gs (PySem.W.KF.slot_gs.check _ _ _ _ _ _ _ _ PySem.W.KF.type_class (PySem.W.KF.args_gs _ _ _) ?_)
 unfold Builtin.«getset_descriptor.__get__» descrGet
 rw [PySem.W.dga_obj]
 refine wpAny_bind (wpAny_pure ?_)
 unfold descrGetter descrCheckInstance descrNameAndClass isInstance
 simp only [PySem.W.KF.owner_class]
 repeat lk
 refine ⟨Code.quiet_builtin _ (by decide +kernel), codeAny_builtin PySem.W.KF.entry_class ?_⟩
 unfold Builtin.«object.__class__» shownTypeOf
 repeat lk
 exact h
theorem exc_check {M : Model} {v : Value} {Q : Unit → Shared → Prop} (KX : K.In s.heap) (G : ExcG K C) (he : s.heap.get? a = some oe) (hc : oe.cls = .ref C) (h : Q () s) :
   wpAny M A (checkBuiltinCall "BaseException.__getattribute__" ⟨[.ref a, v], []⟩) Q E s := by
 obtain ⟨hp, gn, dr, tk, os⟩ := s
 have k1 : builtinKind "BaseException.__getattribute__" = some .slot := by decide +kernel
 have k2 : splitId "BaseException.__getattribute__" = some ("BaseException", "__getattribute__") := by decide +kernel
 have ha := PySem.F.args_bexc_ga (.ref a) v
 have l0 := exc_ty (M := M) he hc
 have l1 := PySem.W.looks_mroIn (M := M) KX G.mb
 simp only [checkBuiltinCall, k1, k2]
 refine wpAny_bind ?_
 unfold isInstance
 refine (PySem.W.Looks.andThen l0 l1).at ?_
 repeat (first | assumption | wp_step)
theorem exc_get {tk : Tok} {Q : Value → Shared → Prop} (KX : K.In s.heap) (G : ExcG K C) (he : s.heap.get? a = some oe) (hc : oe.cls = .ref C) (h : Q (.ref C) s) :
   wpAny (model prog w) A (call (.builtin "BaseException.__getattribute__") [.ref a, .str "__class__" tk]) Q E s := by
 have l0 := exc_ty (M := model prog w) he hc
 have l1 := exc_find (M := model prog w) (a := a) KX G
 refine wpAny_call (codeAny_call_builtin PySem.F.excAttr_ValueError.ga.plain PySem.F.entry_bexc_ga (exc_check KX G he hc ?_))
 unfold Builtin.«object.__getattribute__»
 refine wpAny_bind (wpAny_pure (wpAny_bind (wpAny_pure (wpAny_bind (l0.at (wpAny_bind (l1.at ?_)))))))
 show wpAny _ _ (bindTo (.builtin "getset_descriptor.__get__") (.builtin "object.__class__") (.ref a) (.ref C)) _ _ s
 show wpAny _ _ (holding [Value.builtin "object.__class__"] (call (.builtin "getset_descriptor.__get__") [.builtin "object.__class__", .ref a, .ref C]) >>= ret) _ _ s
 exact wpAny_bind (wpAny_holding (wpAny_call (exc_cls KX G he hc (wpAny_pure h))))
theorem exc_bind (self : Value) : bindSpecial (.builtin "BaseException.__getattribute__") self = pure (.builtin "BaseException.__getattribute__", [self]) := PySem.F.excAttr_ValueError.ga.bind self
theorem exc_ca {Q : Option Value → Shared → Prop} (KX : K.In s.heap) (G : ExcG K C) (he : s.heap.get? a = some oe) (hc : oe.cls = .ref C) (h : Q (some (.ref C)) { s with toks := s.toks + 1 }) :
   wpAny (model prog w) A (getAttr? (.ref a) "__class__") Q E s := by
 obtain ⟨hp, gn, dr, tk, os⟩ := s
 have l0 := exc_ty (M := model prog w) he hc
 have l1 := PySem.W.looks_findIn (M := model prog w) KX G.ga
 have l2 := PySem.W.looks_findIn (M := model prog w) KX G.gh
 unfold getAttr? getAttrBy? getAttrBy
 refine wpAny_bind (wpAny_mkText (wpAny_bind (wpAny_attempt (wpAny_holding (wpAny_bind (l0.at (wpAny_bind (l1.at ?_))))))))
 show wpAny _ _ (getAttrByItsOwn (.ref a) _ (.ref C) (.builtin "BaseException.__getattribute__") false false) _ _ _
 unfold getAttrByItsOwn
 refine wpAny_bind (l2.at (wpAny_bind (wpAny_attempt (wpAny_holding ?_))))
 show wpAny _ _ (boundAndCalled (.builtin "BaseException.__getattribute__") (.ref a) _) _ _ _
 unfold boundAndCalled
 rw [exc_bind]
 refine wpAny_bind (wpAny_pure ?_)
 refine exc_get (s := ⟨hp, gn, dr, tk + 1, os⟩) KX G he hc ?_
 exact PySem.W.handed_on rfl (wpAny_pure h)
theorem kitx_exc (G : ExcG K C) : PySem.W.KitX K (.ref a) (.ref C) (fun h => ∃ o vs, h.get? a = some o ∧ o.cls = .ref C ∧ o.data = .fields vs) where
 ty := fun _ _ _ p => by
   obtain ⟨o, _, h1, h2, _⟩ := p
   exact exc_ty h1 h2
 it := fun M h KX _ => by
   have q := G.is
   unfold PySem.W.clsIn at q
   split at q
   · rename_i ho
     intro A' Q' E' s' k z
     unfold isType loadHead
     exact wpAny_bind (wpAny_loadPart (k _ _ (KX _ _ ho)) (wpAny_pure z))
   · cases q
 ne := fun h tp dd its n sl KX e => by
   have q := G.is
   unfold PySem.W.clsIn at q
   split at q
   · rename_i ho
     cases z : (Value.ref C == Value.ref tp) with
     | false => rfl
     | true =>
       cases Value.ref.inj (eq_of_beq z)
       have := (KX _ _ ho).symm.trans e
       cases this
   · cases q
 ca := fun KX p k => by
   obtain ⟨o, _, h1, h2, _⟩ := p
   exact exc_ca KX G h1 h2 k
end
section
variable {X : Cx} {pins : List (Addr × Obj)} {σ : St} {H : Hp} {s : Shared} {a C : Addr} {c : Value} {b : Bool}
theorem isi_exc {A : Around} {E : Value → Shared → Prop} {Q : Value → Shared → Prop} (I : Inv X pins σ H s) (G : ExcG X.K C) (e : H a = some (ExcO a C)) (q : PySem.W.kitOne X.K (.ref C) c = some b) (h : ∀ tk, Q (.bool b) { s with toks := tk }) :
   wpAny (model X.prog X.w) A (call (.builtin "isinstance") [.ref a, c]) Q E s := by
 obtain ⟨⟨o0, v0, z1, z2, z3, _⟩, _, _⟩ := I.hok a _ e
 have z : ∃ o vs, s.heap.get? a = some o ∧ o.cls = .ref C ∧ o.data = .fields vs := ⟨o0, v0, z1, z2, z3⟩
 exact PySem.W.kia_one (kitx_exc G) I.kIn z q (fun z => nomatch z) h
theorem isi_excs {A : Around} {E : Value → Shared → Prop} {Q : Value → Shared → Prop} {p : Addr} {cs : List Value} (I : Inv X pins σ H s) (G : ExcG X.K C) (e : H a = some (ExcO a C)) (ht : IsTup s.heap p cs.toArray) (q : PySem.W.kitAny X.K (.ref C) cs = some b) (h : ∀ tk, Q (.bool b) { s with toks := tk }) :
   wpAny (model X.prog X.w) A (call (.builtin "isinstance") [.ref a, .ref p]) Q E s := by
 obtain ⟨⟨o0, v0, z1, z2, z3, _⟩, _, _⟩ := I.hok a _ e
 have z : ∃ o vs, s.heap.get? a = some o ∧ o.cls = .ref C ∧ o.data = .fields vs := ⟨o0, v0, z1, z2, z3⟩
 obtain ⟨o, h1, h2, n, h3⟩ := ht
 obtain ⟨oc, od, oda, osl⟩ := o
 dsimp only at h2 h3
 subst h2 h3
 exact PySem.W.kia_tup (kitx_exc G) I.kIn z h1 q (fun z => nomatch z) h
theorem vals_refs : ∀ {ds : List Addr} {us : List Value}, Vals (ds.map V.ref) us → us = ds.map Value.ref
 | [], _, r => by cases r; rfl
 | d :: ds, _, r => by
   cases r with
   | cons r1 r2 =>
     cases r1
     rw [vals_refs r2]
     rfl
def isxV (K : PySem.W.Frag) : List V → Hp → VK → Prop := fun xs H Q => match xs with
 | [.ref a, .ty n] => ∃ C b, H a = some (ExcO a C) ∧ ExcG K C ∧ PySem.W.kitOne K (.ref C) (.type n) = some b ∧ Q (.bl b) H
 | [.ref a, .ref c] => ∃ C b, H a = some (ExcO a C) ∧ ExcG K C ∧ Q (.bl b) H ∧ (PySem.W.kitOne K (.ref C) (.ref c) = some b ∨ ∃ ds : List Addr, SqT K H c (ds.map V.ref) ∧ PySem.W.kitAny K (.ref C) (ds.map Value.ref) = some b)
 | _ => False
theorem c_isx : CallR X (.builtin "isinstance") (isxV X.K) := by
 intro pins s σ H xs us Q I r h
 unfold isxV at h
 split at h
 · rename_i a n
   obtain ⟨C, b, e, G, q, h⟩ := h
   obtain ⟨u, w', rfl, ru, rw'⟩ := vals2 r
   cases ru
   cases rw'
   exact isi_exc I G e q fun tk => fin_bl (I.tok tk) h rfl
 · rename_i a c
   obtain ⟨C, b, e, G, h, q⟩ := h
   obtain ⟨u, w', rfl, ru, rw'⟩ := vals2 r
   cases ru
   cases rw'
   rcases q with q | ⟨ds, ht, q⟩
   · exact isi_exc I G e q fun tk => fin_bl (I.tok tk) h rfl
   · obtain ⟨its, rv, t, _⟩ := I.tuple ht
     have := vals_refs rv
     subst this
     exact isi_excs I G e t q fun tk => fin_bl (I.tok tk) h rfl
 · exact h.elim
theorem c_isxK {K : PySem.W.Frag} (h : X.K = K) : CallR X (.builtin "isinstance") (isxV K) := h ▸ c_isx
end
end L2
namespace L2
open PySem PySem.Spec PyProof.Rows
def Ite (K : PySem.W.Frag) (a : Addr) : It :=
 ⟨fun i H => ∃ xs x, SqL K H a xs ∧ xs[i]? = some x, fun i H x H' => ∃ t y, H t = none ∧ x = .ref t ∧ H' = upd H t (.tup [.int i, y]) ∧ ∀ xs, SqL K H a xs → xs[i]? = some y, fun i H => ∃ xs, SqL K H a xs ∧ xs.length ≤ i⟩
theorem turn_enum {P : Program} {w : World} {K : PySem.W.Frag} {es : List Expr} {k : Nat} {tp : Pos} (a it e : Addr) (hne : e ≠ it) : Turn P w K (.Tuple es k tp) (Ite K a) [e, it] e (fun i h => (∃ old, IsEnum h e it i old) ∧ h.IsListIter it a i) where
 mem := by simp
 obj := fun i h st b hb => by
   obtain ⟨⟨old, h1⟩, o, h2, c, d⟩ := st
   rcases List.mem_cons.mp hb with rfl | hb
   · exact ⟨_, h1, fun v z => by cases z⟩
   · have z : b = it := by simpa using hb
     subst z
     exact ⟨o, h2, fun v z => by rw [d] at z; cases z⟩
 keep := fun i h h' st kp => by
   obtain ⟨⟨old, h1⟩, h2⟩ := st
   exact ⟨⟨old, kp e (by simp) _ h1⟩, h2.at fun o q => kp it (by simp) o q⟩
 item := by
   intro X hP hw hK hc i pins s σ H E I hf st hg
   subst hP hw hK
   obtain ⟨xs, x, hq, hx⟩ := hg
   obtain ⟨its, rv, p, hz⟩ := I.list hq
   obtain ⟨u, hu, ru⟩ := rv.get hx
   obtain ⟨f0, f1, f2, f3, f4, f5⟩ := hf it (by simp)
   obtain ⟨g0, g1, g2, g3, g4, g5⟩ := hf e (by simp)
   obtain ⟨⟨old, st1⟩, st2⟩ := st
   refine wpAny_pyNext_enum_item st1 st2 p.isList (x := u) (by simpa using hu) hne fun h1 k1 k2 k3 k4 k5 => ?_
   refine ⟨_, rfl, wpAny_letOwnedTupleGo_enum k1 fun h2 k6 k7 => ?_⟩
   have new : h2.get? s.heap.objs.size = some { cls := .type "tuple", data := .seq #[.int i s.toks, u] } := (k7.2 _ (Nat.ne_of_gt (Heap.lt_size st1))).trans k3
   have up : ∀ b o, b ≠ e → b ≠ it → s.heap.get? b = some o → h2.get? b = some o := fun b o z1 z2 q => (k7.2 b z1).trans (k5 b o z1 z2 q)
   have hN : H s.heap.objs.size = none := I.fresh
   have no : ∀ b o, s.heap.get? b = some o → b ≠ s.heap.objs.size := fun b o q => Nat.ne_of_lt (Heap.lt_size q)
   have out : ∀ b, b ∉ [e, it] → b ≠ e ∧ b ≠ it := fun b hb => ⟨fun z => hb (by simp [z]), fun z => hb (by simp [z])⟩
   have J : Inv X pins σ (upd H s.heap.objs.size (.tup [.int i, x])) { s with heap := h2, toks := s.toks + 1 } := by
     refine I.call' (ch := [e, it]) rfl ⟨fun b o q n hb hx => up b o (out b hx).1 (out b hx).2 q, fun b o q n hb hx => ⟨o.slots, up b o (out b hx).1 (out b hx).2 q⟩, fun b o q n hx => ?_, fun b o q hx => ⟨o, up b o (out b hx).1 (out b hx).2 q⟩, fun b ys q => ?_, fun b o y q => ?_, fun b ps q => ⟨#[], ?_⟩⟩ (fun b o q => ?_) I.bare fun b hb => ?_
     · rw [upd_ne (no b o q)]
       exact n
     · rw [upd_ne (ne_of_none q hN)]
       exact q
     · rw [upd_ne (ne_of_none q hN)]
       exact q
     · rw [upd_ne (ne_of_none q hN), q]
       simp
     · by_cases hb : b = s.heap.objs.size
       · subst hb
         rw [upd_same] at q
         cases q
         refine ⟨by simp [sizeLine_eq], [.int i s.toks, u], .cons ⟨_, rfl⟩ (.cons ru .nil), ?_⟩
         exact ⟨_, new, rfl, _, rfl⟩
       · rw [upd_ne hb] at q
         refine (I.hok b o q).stay (fun c y hc z => up c y ?_ ?_ z) (fun c z => ?_) fun c ys z => ?_
         · rintro rfl
           rcases hc with rfl | hc
           · rw [g0] at q; cases q
           · rw [g0] at hc; cases hc
         · rintro rfl
           rcases hc with rfl | hc
           · rw [f0] at q; cases q
           · rw [f0] at hc; cases hc
         · rw [upd_ne (ne_of_none z hN)]
           exact z
         · rw [upd_ne (ne_of_none z hN)]
           exact z
     · rcases List.mem_cons.mp hb with rfl | hb
       · exact ⟨g3, g1, g4, g5⟩
       · have z : b = it := by simpa using hb
         subst z
         exact ⟨f3, f1, f4, f5⟩
   refine ⟨.ref s.heap.objs.size, _, J, rfl, ⟨_, x, hN, rfl, rfl, fun ys hy => by rw [I.list_inj hy hq]; exact hx⟩, ⟨⟨u, by simpa using k6⟩, k2.at fun o q => (k7.2 it hne.symm).trans q⟩, fun b hb => ?_⟩
   rcases List.mem_cons.mp hb with rfl | hb
   · rw [upd_ne (no b _ st1)]
     exact g0
   · have z : b = it := by simpa using hb
     subst z
     obtain ⟨o, q, _⟩ := st2
     rw [upd_ne (no b _ q)]
     exact f0
 done := by
   intro X hP hw hK hc i pins s σ H E I hf st hg
   subst hP hw hK
   obtain ⟨xs, hq, hx⟩ := hg
   obtain ⟨its, rv, p, hz⟩ := I.list hq
   obtain ⟨f0, f1, f2, f3, f4, f5⟩ := hf it (by simp)
   obtain ⟨⟨old, st1⟩, st2⟩ := st
   have hl := rv.length
   exact wpAny_pyNext_enum_end (I.ok.hd hc) st1 st2 p.isList (by simp; omega) fun h' eb => ⟨rfl, I.turned (t' := s.toks) (fun b o hb q => eb b o hb q) f0 f1 f3 f4 f5⟩
 self := fun A i s Q E st h => by
   obtain ⟨⟨old, st1⟩, st2⟩ := st
   exact wpAny_pyIter_enum st1 h
section
variable {X : Cx} {es : List Expr} {k : Nat} {tp : Pos}
def iEnum (K : PySem.W.Frag) (ta : TA) : TI := fun σ H R => ta σ H fun vs H1 => ∃ a, vs = [.ref a] ∧ (∃ xs, SqL K H1 a xs) ∧ R (Ite K a) H1
theorem pi_enum {x : Expr} {ta : TA} {p pos : Pos} (hg : Gl X "enumerate") (hm : X.mg "enumerate" = none) (ha : PA X [x] ta) (hs : starEach [x] X.env = [(false, eval x X.env)] := by rfl) : PI X (.Tuple es k tp) (.Call (.Name "enumerate" p) [x] [] pos) (iEnum X.K ta) := by
 intro pins s σ H R I h
 refine Call_ (ld_blt I hg hm bt_enumerate (PyProof.Rows.callWith_type1 (thn (ha pos pins s σ H _ I h) fun us s1 ⟨vs, H1, I1, r1, q1⟩ => ?_) hs rfl))
 obtain ⟨a, e, ⟨xs, hq⟩, q⟩ := q1
 subst e
 obtain ⟨u, rfl, ru⟩ := r1.one
 cases ru
 obtain ⟨its, rv, pl, hz⟩ := I1.list hq
 refine call_enumerate_list pl.isList fun h' k1 k2 k3 k4 => ?_
 have I2 : Inv X pins σ H1 { s1 with heap := h' } := I1.kept (t' := s1.toks) fun b o e => k4 b o e
 refine wpAny_pyIter_enum k1 ?_
 refine ⟨s1.heap.objs.size + 1, [s1.heap.objs.size + 1, s1.heap.objs.size], _, _, H1, rfl, I2, turn_enum a s1.heap.objs.size (s1.heap.objs.size + 1) (Nat.succ_ne_self _), ⟨⟨_, k1⟩, k2⟩, fun b hb => ?_, q⟩
 rcases List.mem_cons.mp hb with rfl | hb
 · exact I1.fpOk (Nat.le_succ _) (I1.hok.fresh (Nat.le_succ _))
 · have e : b = s1.heap.objs.size := by simpa using hb
   subst e
   exact I1.fpOk (Nat.le_refl _) (I1.hok.fresh (Nat.le_refl _))
def forE (K : PySem.W.Frag) (a : Addr) (xs : List V) (i j : Nat) (tb : TS) : TS := fun D σ H => ∃ Pv : Nat → St → Hp → Prop, Pv 0 σ H ∧ (∀ k σ H, k ≤ xs.length → Pv k σ H → SqL K H a xs) ∧
 (∀ k x σ H t, xs[k]? = some x → Pv k σ H → H t = none → tb { nx := Pv (k + 1), rt := D.rt, bk := D.nx, ct := Pv (k + 1) } ((σ.set i (some (.int k))).set j (some x)) (upd H t (.tup [.int k, x]))) ∧ ∀ σ H, Pv xs.length σ H → D.nx σ H
def tEnum (K : PySem.W.Frag) (ta : TA) (i j : Nat) (tb : TS) : TS := fun D σ H => ta σ H fun vs H1 => match vs with
 | [.ref a] => ∃ xs, SqL K H1 a xs ∧ forE K a xs i j tb D σ H1
 | _ => False
theorem ps_enum {K : PySem.W.Frag} {x : Expr} {u v : Str} {pu pv : Pos} {i j : Nat} {p pos pos' : Pos} {body : List Stmt} {ta : TA} {tb : TS} (hK : X.K = K) (hp : PassesOwn (model X.prog X.w) X.A X.env X.xe) (hc : X.calm = true) (hm : X.mg "enumerate" = none) (ha : PA X [x] ta)
   (gu : PG X (.Name u pu) (gName i)) (gv : PG X (.Name v pv) (gName j)) (hb : PSs X body tb) (hgl : Gl X "enumerate" := by rfl) (hs : starEach [x] X.env = [(false, eval x X.env)] := by rfl)
   (hf : ∀ z, foldedSetIterable (.Call (.Name "enumerate" p) [x] [] pos') X.env z = pure z := by intro _; rfl)
   (h1 : (assignEach [.Name u pu, .Name v pv] X.env).map (·.2) = assign (.Name u pu) X.env :: (assignEach [.Name v pv] X.env).map (·.2) := by rfl) (h2 : (assignEach [.Name v pv] X.env).map (·.2) = assign (.Name v pv) X.env :: (assignEach [] X.env).map (·.2) := by rfl)
   (h3 : (assignEach [.Name u pu, .Name v pv] X.env).length = 2 := by rfl) (h4 : (assignEach [.Name u pu, .Name v pv] X.env).findIdx? (·.1) = none := by rfl) :
   PS X (.For (.Tuple [.Name u pu, .Name v pv] k tp) (.Call (.Name "enumerate" p) [x] [] pos') body [] pos) (tEnum K ta i j tb) := by
 subst hK
 have ha' : PA X [x] (fun σ H Q => ∃ Q0 : List V → Hp → Prop, ta σ H Q0 ∧ ∀ v H', Q0 v H' → Q v H') := ha.imp fun σ H Q h => h
 intro pins s σ H D I h
 refine ps_for hp hc (pi_enum hgl hm ha' hs) (pg_tup hc (pgs_cons gu (pgs_cons gv pgs_nil h2) h1) h3 h4) hb hf pins s σ H D I ⟨_, h, fun vs H1 q => ?_⟩
 split at q
 · rename_i a
   obtain ⟨xs, hx, Pv, h0, hl, hst, hd⟩ := q
   refine ⟨a, rfl, ⟨xs, hx⟩, fun n m σ H => m = xs.length - n ∧ n ≤ xs.length ∧ Pv n σ H, ⟨xs.length, by simp, Nat.zero_le _, h0⟩, ?_⟩
   rintro n m σ2 H2 ⟨rfl, hn, pv'⟩
   have q2 := hl n σ2 H2 hn pv'
   by_cases hlt : n < xs.length
   · refine .inr ⟨⟨xs, xs[n], q2, by simp [hlt]⟩, Pv (n + 1), fun σ' H' p' => ⟨xs.length - (n + 1), by omega, rfl, hlt, p'⟩, fun z H' y => ?_⟩
     obtain ⟨t, y0, ht, rfl, rfl, hy⟩ := y
     refine ⟨t, _, rfl, .inl (.of upd_same), rfl, _, _, rfl, _, _, rfl, rfl, ?_⟩
     exact hst n y0 σ2 H2 t (hy xs q2) pv' ht
   · have e : n = xs.length := by omega
     subst e
     exact .inl ⟨⟨xs, q2, Nat.le_refl _⟩, hd _ _ pv'⟩
 · exact q.elim
end
end L2
namespace L2
open PySem PySem.Spec PyProof.Rows
section
variable {X : Cx}
def putAt {α : Type} (xs : List α) (k : Nat) (y : α) : List α := xs.take k ++ y :: xs.drop k
def setV : TSet := fun o i v H Q => match o, i with
 | .ref p, .int k => ∃ xs, H p = some (.lst xs) ∧ ∃ j, ixN xs.length k = some j ∧ Q (upd H p (.lst (xs.set j v)))
 | _, _ => False
theorem st_set : PSet X setV := by
 intro pins s σ H o i v ov iv u Q I ro ri rv h
 unfold setV at h
 split at h
 · rename_i p k
   obtain ⟨xs, h1, j, h2, q⟩ := h
   exact set_list pins s σ H _ _ _ ov iv u Q I ro ri rv ⟨p, xs, k, j, rfl, rfl, h1, h2, q⟩
 · exact h.elim
end
theorem bt_ValueError : bootBuiltins "ValueError" = some (.type "ValueError") := by decide +kernel
end L2
namespace LP
open PySem L2
def Whole (ns : List Int) : Prop := ∀ k : Nat, k < ns.length → ns.count (k : Int) = 1
instance (ns : List Int) : Decidable (Whole ns) := inferInstanceAs (Decidable (∀ k : Nat, k < ns.length → ns.count (k : Int) = 1))
def upTo (n : Nat) : List Int := (List.range n).map fun k : Nat => (k : Int)
theorem upTo_len (n : Nat) : (upTo n).length = n := by simp [upTo]
theorem mem_upTo {n : Nat} {x : Int} : x ∈ upTo n ↔ 0 ≤ x ∧ x < n := by
 unfold upTo
 rw [List.mem_map]
 constructor
 · rintro ⟨k, hk, rfl⟩
   have := List.mem_range.mp hk
   omega
 · rintro ⟨h0, h1⟩
   exact ⟨x.toNat, List.mem_range.mpr (by omega), by omega⟩
theorem upTo_nodup (n : Nat) : (upTo n).Nodup := by
 unfold upTo
 refine List.Pairwise.map _ (fun a b h => ?_) List.nodup_range
 intro z
 exact h (by omega)
theorem sub_len {a b : List Int} {x : Int} (nd : a.Nodup) (hs : ∀ y ∈ a, y ∈ b) (hx : x ∈ b) (hn : x ∉ a) : a.length < b.length := by
 have h := List.Nodup.length_le_of_subset (l₁ := x :: a) (l₂ := b) (List.nodup_cons.mpr ⟨hn, nd⟩) (fun y hy => by
   rcases List.mem_cons.mp hy with rfl | hy
   · exact hx
   · exact hs y hy)
 exact h
theorem whole_iff (ns : List Int) : Whole ns ↔ ns.Nodup ∧ ∀ x ∈ ns, 0 ≤ x ∧ x < ns.length := by
 constructor
 · intro h
   have inn : ∀ x ∈ ns, 0 ≤ x ∧ x < ns.length := by
     intro x hx
     by_cases q : x ∈ upTo ns.length
     · exact mem_upTo.mp q
     · have := sub_len (b := ns) (upTo_nodup ns.length) (fun y hy => ?_) hx q
       · rw [upTo_len] at this
         omega
       · obtain ⟨h0, h1⟩ := mem_upTo.mp hy
         have := h y.toNat (by omega)
         rw [show ((y.toNat : Nat) : Int) = y by omega] at this
         exact List.count_pos_iff.mp (by omega)
   refine ⟨List.nodup_iff_count.mpr fun a => ?_, inn⟩
   by_cases q : a ∈ ns
   · obtain ⟨h0, h1⟩ := inn a q
     have := h a.toNat (by omega)
     rw [show ((a.toNat : Nat) : Int) = a by omega] at this
     omega
   · rw [List.count_eq_zero.mpr q]
     omega
 · rintro ⟨nd, inn⟩ k hk
   rw [nd.count]
   by_cases q : (k : Int) ∈ ns
   · rw [if_pos q]
   · have := sub_len (b := upTo ns.length) nd (fun y hy => mem_upTo.mpr (inn y hy)) (mem_upTo.mpr ⟨by omega, by omega⟩) q
     rw [upTo_len] at this
     omega
def idxs (ns : List Int) (m : Nat) : List Int := (List.range m).map fun k : Nat => ((ns.idxOf (k : Int) : Nat) : Int)
def part (ns : List Int) (k : Nat) : List V := (List.range ns.length).map fun v : Nat => if (v : Int) ∈ ns.take k then V.int (ns.idxOf (v : Int)) else V.non
theorem part_len (ns : List Int) (k : Nat) : (part ns k).length = ns.length := by simp [part]
theorem part_zero (ns : List Int) : part ns 0 = List.replicate ns.length V.non := by
 unfold part
 simp [List.map_const']
theorem part_at {ns : List Int} {k v : Nat} (hv : v < ns.length) : (part ns k)[v]? = some (if (v : Int) ∈ ns.take k then V.int (ns.idxOf (v : Int)) else V.non) := by
 unfold part
 rw [List.getElem?_map, List.getElem?_range hv]
 rfl
theorem mem_take_succ {ns : List Int} {k : Nat} {x y : Int} (e : ns[k]? = some x) : y ∈ ns.take (k + 1) ↔ y ∈ ns.take k ∨ y = x := by
 rw [List.take_succ, e, List.mem_append]
 simp
theorem idx_first {ns : List Int} {k : Nat} {x : Int} (e : ns[k]? = some x) (hn : x ∉ ns.take k) : ns.idxOf x = k := by
 obtain ⟨hk, e⟩ := List.getElem?_eq_some_iff.mp e
 have hm : x ∈ ns := e ▸ List.getElem_mem hk
 have h1 := List.idxOf_lt_length_of_mem hm
 have h2 : ns[ns.idxOf x] = x := List.getElem_idxOf h1
 by_cases q : ns.idxOf x < k
 · exact absurd (List.mem_take_iff_getElem.mpr ⟨ns.idxOf x, by omega, h2⟩) hn
 · by_cases q2 : k < ns.idxOf x
   · have := List.not_of_lt_findIdx (p := (· == x)) (xs := ns) q2
     rw [e] at this
     simp at this
   · omega
theorem part_succ {ns : List Int} {k : Nat} {x : Int} (e : ns[k]? = some x) (h0 : 0 ≤ x) (h1 : x < ns.length) (hn : x ∉ ns.take k) : (part ns k).set x.toNat (V.int k) = part ns (k + 1) := by
 apply List.ext_getElem?
 intro v
 by_cases hv : v < ns.length
 · rw [part_at hv]
   by_cases q : v = x.toNat
   · subst q
     rw [List.getElem?_set_self (by rw [part_len]; omega), if_pos ((mem_take_succ e).mpr (.inr (by omega))), show ((x.toNat : Nat) : Int) = x by omega, idx_first e hn]
   · rw [List.getElem?_set_ne (Ne.symm q), part_at hv]
     have : (v : Int) ∈ ns.take (k + 1) ↔ (v : Int) ∈ ns.take k := by
       rw [mem_take_succ e]
       constructor
       · rintro (z | z)
         · exact z
         · omega
       · exact .inl
     by_cases z : (v : Int) ∈ ns.take k
     · rw [if_pos z, if_pos (this.mpr z)]
     · rw [if_neg z, if_neg (fun y => z (this.mp y))]
 · rw [List.getElem?_eq_none (by rw [List.length_set, part_len]; omega), List.getElem?_eq_none (by rw [part_len]; omega)]
theorem part_all {ns : List Int} (h : Whole ns) : part ns ns.length = (idxs ns ns.length).map V.int := by
 unfold part idxs
 rw [List.map_map]
 refine List.map_congr_left fun v hv => ?_
 have hv := List.mem_range.mp hv
 have : (v : Int) ∈ ns := List.count_pos_iff.mp (by have := h v hv; omega)
 rw [List.take_length, if_pos this]
 rfl
def Good (ns : List Int) (k : Nat) : Prop := (ns.take k).Nodup ∧ ∀ x ∈ ns.take k, 0 ≤ x ∧ x < ns.length
theorem good_zero (ns : List Int) : Good ns 0 := ⟨by simp, by simp⟩
theorem good_succ {ns : List Int} {k : Nat} {x : Int} (h : Good ns k) (e : ns[k]? = some x) (h0 : 0 ≤ x) (h1 : x < ns.length) (hn : x ∉ ns.take k) : Good ns (k + 1) := by
 refine ⟨?_, fun y hy => ?_⟩
 · rw [List.take_succ, e]
   refine List.nodup_append.mpr ⟨h.1, by simp, fun a ha b hb => ?_⟩
   have : b = x := by simpa using hb
   subst this
   exact fun z => hn (z ▸ ha)
 · rcases (mem_take_succ e).mp hy with z | rfl
   · exact h.2 y z
   · exact ⟨h0, h1⟩
theorem good_whole {ns : List Int} (h : Good ns ns.length) : Whole ns := by
 unfold Good at h
 rw [List.take_length] at h
 exact (whole_iff ns).mpr h
theorem bad_out {ns : List Int} {k : Nat} {x : Int} (e : ns[k]? = some x) (h : x < 0 ∨ (ns.length : Int) ≤ x) : ¬ Whole ns := fun z => by
 have := ((whole_iff ns).mp z).2 x (List.mem_of_getElem? e)
 omega
theorem bad_twice {ns : List Int} {k : Nat} {x : Int} (e : ns[k]? = some x) (h : x ∈ ns.take k) : ¬ Whole ns := fun z => by
 have nd := ((whole_iff ns).mp z).1
 obtain ⟨hk, e'⟩ := List.getElem?_eq_some_iff.mp e
 obtain ⟨i, hi, ei⟩ := List.mem_take_iff_getElem.mp h
 have := (List.getElem_inj (i := i) (j := k) (h₀ := by omega) (h₁ := hk) nd).mp (by rw [ei, e'])
 omega
theorem flat_non (n : Nat) : (List.replicate n [V.non]).flatten = List.replicate n V.non := by
 induction n with
 | zero => rfl
 | succ n ih => rw [List.replicate_succ, List.flatten_cons, ih]; rfl
theorem upd_free {H : Hp} {a b : Addr} {o : HO} (h : upd H a o b = none) : H b = none ∧ b ≠ a := by
 by_cases e : b = a
 · subst e; rw [upd_same] at h; cases h
 · rw [upd_ne e] at h; exact ⟨h, e⟩
theorem same_put {H H' : Hp} {p : Addr} {o : HO} (sm : Same H H') (hn : H p = none) : Same H (upd H' p o) := fun b u q => by
 have : b ≠ p := by rintro rfl; rw [hn] at q; cases q
 rw [upd_ne this]
 exact sm b u q
theorem num_log : ∀ k : Nat, k < 64 → ((k : Int).natAbs).log2 < 1920 := by decide +kernel
theorem num_len : ∀ k : Nat, k < 64 → (numL (k : Int)).length ≤ 5 := by decide +kernel
end LP
namespace L2
open PySem PySem.Spec PyProof.Rows
theorem SameN.src {K : PySem.W.Frag} {H H' : Hp} {a : Addr} {xs : List V} (e : SameN H H') (h : Src K H a xs) : Src K H' a xs := by
 rcases h with h | h | ⟨lo, hi, h, r⟩
 · exact .inl (e.seq h)
 · rcases h with (h | ⟨o, h⟩) | h
   · exact .inr (.inl (.inl (.inl (e.at h (by intro ps z; cases z)))))
   · exact .inr (.inl (.inl (.inr ⟨o, e.at h (by intro ps z; cases z)⟩)))
   · exact .inr (.inl (.inr h))
 · exact .inr (.inr ⟨lo, hi, e.at h (by intro ps z; cases z), r⟩)
section
variable {X : Cx} {c P : Addr} {params : Arguments} {body : Expr} {scope : Scope} {cl : List (Str × Addr)} {cp : List (Str × Nat)} {x : Str} {q : Str} {e : Expr} {ta : TA} {te : TE} {np lp kp pos : Pos}
def tSortL (K : PySem.W.Frag) (P : Addr) (lp : Pos) (q : Str) (cp : List (Str × Nat)) (ta : TA) (te : TE) : TE := fun σ H Q => ta σ H fun vs H1 => match vs with
 | [.ref a] => ∃ (xs : List V) (kL : List (List Nat)), Src K H1 a xs ∧ xs.length < 64 ∧ kL.length = xs.length ∧ Bk P lp q H1 ∧ (∀ H2 i y, SameN H1 H2 → xs[i]? = some y → te (lamS y cp σ) H2 fun k H' => H' = H2 ∧ k = .str (T (kL.getD i []))) ∧
     ∀ H2 l (p : List Nat), SameN H1 H2 → SameE P H1 H2 → Bk P lp q H2 → H2 l = none → p.Perm (List.range xs.length) → p.Pairwise (fun i j => kL.getD i [] ≤ kL.getD j [] ∧ (kL.getD i [] = kL.getD j [] → i < j)) → Q (.ref l) (upd H2 l (.lst (p.map fun i => xs.getD i .non)))
 | _ => False
theorem pe_sortL {K : PySem.W.Frag} (hK : X.K = K) (hc : X.calm = true) (hr : Room 2 X.A) (L : LamAt X c P) (hgl : Gl X "sorted") (hm : X.mg "sorted" = none) (hcl : closL scope.names X.env.cells [] = some cl) (hdef : defaultsOf params X.env = ([], [])) (hq : X.env.qual ++ "<lambda>" = q)
   (hk : scope.kind = .function) (hnc : ∀ y ∈ scope.names, y.2 ≠ .cell) (hcp : CapOk X scope cp) (hx : scope.names.lookup x = some .local) (hnx : x ∉ cp.map (·.1)) (hco : scope.isCoroutine = false) (hgen : scope.isGenerator = false)
   (hb : ∀ (pm : Value) (c' : Value) (ctv u : Value), bindArgs (PySem.W.kla_fn "<lambda>" q params body scope cl pm c' ctv) ⟨[u], []⟩ = pure [(x, u)]) (ha : PA X [e] ta)
   (he : ∀ A L f c' s H, PE (cxL X A (newEnv scope L mainGlobals cl (q ++ ".<locals>.") (some f) (.ref c') none builtinsNs) (x :: cp.map (·.1)) s H) body te)
   (hs : starEach [e] X.env = [(false, eval e X.env)] := by rfl) : PE X (.Call (.Name "sorted" np) [e] [⟨some "key", .Lambda params body scope lp, kp⟩] pos) (tSortL K P lp q cp ta te) := by
 subst hK
 intro pins s σ H Q I h
 refine wpAny_Call_Name_kw (ld_blt I hgl hm bt_sorted (callWith_kw ?_ (by rw [hs]; rfl) (by rw [hs]; rfl)))
 have hp := ha pos pins s σ H _ I h
 refine thn hp fun us s1 ⟨vs, H1, I1, rv, h1⟩ => ?_
 dsimp only at h1
 split at h1
 · rename_i a
   obtain ⟨xs, kL, hsrc, h64, hlen, bk, hkey, hfin⟩ := h1
   obtain ⟨u, rfl, ru⟩ := rv.one
   cases ru
   refine kws_cons (lam_make (body := body) I1 L hcl hdef bk hq fun f c' pm ctv H2 s2 I2 hc' bk2 sm se => kws_nil ?_)
   show wpAny _ X.A (call (.builtin "sorted") [.ref a] [(Str.ofString "key", .ref f)]) _ _ s2
   refine thn (sorted_by (Q := fun v H' => Q v H') hc (hr.mono (by decide)) I2 (sm.src hsrc) h64 hlen (fun ps s3 i y k w' I3 hy hk3 rw' => ?_) fun l p hl pm' pw => hfin H2 l p sm se bk2 hl pm' pw) fun v s3 z => ?_
   · have hd : X.A.in1.in1.depth < recursionLimit := by have := hr.dp; show X.A.depth < _; omega
     have ho : s3.heap.get? f = some (PySem.W.kla_obj "<lambda>" q params body scope cl pm c' ctv) := (I3.pin (f, _) (List.mem_append_right _ (List.mem_append_left _ (List.mem_append_right _ (List.mem_singleton.mpr rfl))))).1
     have hrec : s3.heap.CodeRec (.ref c') q := (I3.hok c' _ hc').1
     refine lam_call (X := X) (x := x) (cp := cp) I3 (show X.A.frames = some X.stack from I3.ok.frames) (show X.A.handled = none from I3.ok.hd hc) hd hcl hk hnc hcp hx hnx hco hgen ho hrec (fun u => hb pm (.ref c') ctv u) rw' he ?_
     have hi : i < kL.length := by
       have := (List.getElem?_eq_some_iff.mp hy).1
       omega
     have ek : k = .str (T (kL.getD i [])) := by
       rw [List.getElem?_map, List.getElem?_eq_getElem hi] at hk3
       rw [List.getD_eq_getElem?_getD, List.getElem?_eq_getElem hi]
       exact (Option.some.inj hk3).symm
     rw [ek]
     exact hkey H2 i y sm hy
   · obtain ⟨v', H3, I3, r3, q3⟩ := z
     exact ⟨v', H3, I3.unpinned, r3, q3⟩
 · exact h1.elim
end
end L2
namespace L2
open PySem PySem.Spec PyProof.Rows
structure Lm (mg : Str → Option Value) (base : Heap) (c P : Addr) : Prop where
 hd : PySem.W.CodeHd base c P
 bm : ∃ bm ob, mg "__builtins__" = some (.ref bm) ∧ bm ≠ builtinsNs ∧ base.get? bm = some ob ∧ ob.cls = .type "module" ∧ ob.dict = some builtinsNs ∧ ob.data = .plain
theorem Lm.at {X : Cx} {c P : Addr} (L : Lm X.mg X.base c P) (h : X.env.code = .ref c) : LamAt X c P := ⟨h, L.hd, L.bm⟩
section
variable {P : Program} {w : World} {K : PySem.W.Frag} {mg : Str → Option Value} {base : Heap}
theorem Fun.okL {x qual : Str} {st : Stmt} {f c : Addr} {fd : FuncData} {N ps : List Str} {k : Nat} {sp : Sp} (F : Fun K x qual st f fd) (hc : fd.code = .ref c) (S : FnScope N ps (defScope st)) (len : ∀ vs H Q E, sp vs H Q E → vs.length = ps.length)
   (hbody : ∀ (A : Around) (outer : List Env) (s : Shared) (H : Hp) (vs : List V) (Q : VK) (E : XK), Room k (A.deeper (envOfC qual (defScope st) s.heap.objs.size f (.ref c))) → sp vs H Q E →
     ∃ t, PSs (cxOf CX0 P w K mg base N qual (defScope st) f (.ref c) A outer s H E).nox (defBody st) t ∧ t { nx := fun _ H' => Q .non H', rt := Q } (start N vs) H) : FnOk P w K mg base CX0 (k + 1) f fd ps sp := by
 obtain ⟨oc, od, kV, doc, pm, an, cdv, ct, osl, rfl, lk, hcd⟩ := F.ex
 have hc : cdv = .ref c := hc
 subst hc
 refine fn_of lk hcd S len fun A outer s H vs Q E hr hsp => ?_
 obtain ⟨t, h, q⟩ := hbody A outer s H vs Q E hr hsp
 exact ⟨t, h.nox, q⟩
end
abbrev BmAt (mg : Str → Option Value) (base : Heap) : Prop := ∃ bm ob, mg "__builtins__" = some (.ref bm) ∧ bm ≠ builtinsNs ∧ base.get? bm = some ob ∧ ob.cls = .type "module" ∧ ob.dict = some builtinsNs ∧ ob.data = .plain
theorem law_callT {P : Program} {w : World} {K : PySem.W.Frag} {mg mb : Str → Option Value} {CX : CXT} {k : Nat} {fa a : Addr} {fd : FuncData} {x : Str} {sp : Sp} {s₁ : Shared} {vs : List Value} {ns : List Int} {ts : List Addr}
   (KX : K.In s₁.heap) (hns : s₁.heap.Ns mainGlobals mg) (hb : s₁.heap.Ns builtinsNs mb) (hbb : ∀ x : Str, x ≠ "__name__" → mb x = bootBuiltins x) (hlim : s₁.heap.NoLimit) (hg : s₁.gens = #[])
   (hbm : ∃ bm ob, mg "__builtins__" = some (.ref bm) ∧ bm ≠ builtinsNs ∧ s₁.heap.get? bm = some ob ∧ ob.cls = .type "module" ∧ ob.dict = some builtinsNs ∧ ob.data = .plain)
   (ha : s₁.heap.get? a = some { cls := .type "list", data := .seq vs.toArray }) (hi : IntsAre vs ns) (hl : ns.length ≤ sizeLine) (hr : Room k callerA)
   (hts : ∀ p ∈ ts, s₁.heap.get? p = some (PySem.W.tabObj #[]) ∧ K.lookup p = none ∧ ∃ c, PySem.W.CodeHd s₁.heap c p)
   (F : ∀ base : Heap, K.In base → base.Ns mainGlobals mg → (∃ bm ob, mg "__builtins__" = some (.ref bm) ∧ bm ≠ builtinsNs ∧ base.get? bm = some ob ∧ ob.cls = .type "module" ∧ ob.dict = some builtinsNs ∧ ob.data = .plain) → FnOk P w K mg base CX k fa fd [x] sp)
   (hbind : ∀ (s : Shared) (u : Value), BindsTo s fd ⟨[u], []⟩ [(x, u)])
   (hsp : ∀ H : Hp, SqL K H a (ns.map V.int) → (∀ p ∈ ts, H p = some (.tbl #[])) → sp [.ref a] H (fun v _ => v = .bl true) fun _ _ _ => False)
   (hCX : ∀ H e s', CX [] H s₁ (fun _ _ _ => False) e s' → False) :
   codeAny (model P w) callerA (.call (.ref fa) ⟨[.ref a], []⟩) (fun r s' => r = .ok (.ret (.bool true)) ∧ OldK s₁.heap s'.heap ∧ s'.os = s₁.os ∧ AllBare s'.gens) s₁ := by
 have rv := vals_ints hi
 have lenV := hi.length
 have core : ∀ H : Hp, (∀ b, H b = none ∨ (b = a ∧ ∃ o xs, H b = some (.frz o (.lst xs))) ∨ (b ∈ ts ∧ H b = some (.tbl #[]))) → (∀ p ∈ ts, H p = some (.tbl #[])) → SqL K H a (ns.map V.int) → HOk P w H s₁.heap → (∀ b, H b ≠ none → K.lookup b = none) →
     codeAny (model P w) callerA (.call (.ref fa) ⟨[.ref a], []⟩) (fun r s' => r = .ok (.ret (.bool true)) ∧ OldK s₁.heap s'.heap ∧ s'.os = s₁.os ∧ AllBare s'.gens) s₁ := by
   intro H hO hT hS hok hK
   have dat : ∀ b u, s₁.heap.get? b = some u → H b = none ∨ (∃ its n, u.data = .seq its n) ∨ ∃ fs, u.data = .fields fs := fun b u e => by
     rcases hO b with z | ⟨rfl, _⟩ | ⟨z, _⟩
     · exact .inl z
     · rw [ha] at e; cases e; exact .inr (.inl ⟨_, _, rfl⟩)
     · rw [(hts b z).1] at e; cases e; exact .inr (.inr ⟨_, rfl⟩)
   have inB : ∀ {b : Addr} {o : Obj}, s₁.heap.get? b = some o → H b = none → (hidT s₁.heap H).get? b = some o := fun e n => hidT_get e n
   have nsB : ∀ {b : Addr} {m : Str → Option Value}, s₁.heap.Ns b m → (hidT s₁.heap H).Ns b m := fun {b m} ⟨o, es, ep, e, d, r⟩ => ⟨o, es, ep, inB e (by
     rcases dat b o e with z | ⟨_, _, z⟩ | ⟨_, z⟩
     · exact z
     · rw [d] at z; cases z
     · rw [d] at z; cases z), d, r⟩
   have hKb : K.In (hidT s₁.heap H) := fun b o e => inB (KX b o e) (by
     cases q : H b with
     | none => rfl
     | some u => rw [hK b (by rw [q]; simp)] at e; cases e)
   have hM : Mod K mg (hidT s₁.heap H) := ⟨hKb, nsB hns, ⟨mb, nsB hb, hbb⟩, let ⟨mc, h1, h2⟩ := hlim; ⟨mc, nsB h1, h2⟩⟩
   have e0 : Env0 P w K mg (hidT s₁.heap H) callerA [] s₁ H := ⟨rfl, hM, fun b o e => of_hidT e, Nat.le_of_eq (hidT_size _ _), trivial, fun b hb => absurd (show b ∈ ([] : List Addr) from hb) (by simp), hok, .of_eq hg⟩
   have hbmB : ∃ bm ob, mg "__builtins__" = some (.ref bm) ∧ bm ≠ builtinsNs ∧ (hidT s₁.heap H).get? bm = some ob ∧ ob.cls = .type "module" ∧ ob.dict = some builtinsNs ∧ ob.data = .plain := by
     obtain ⟨bm, ob, b1, b2, b3, b4, b5, b6⟩ := hbm
     refine ⟨bm, ob, b1, b2, inB b3 ?_, b4, b5, b6⟩
     rcases dat bm ob b3 with z | ⟨_, _, z⟩ | ⟨_, z⟩
     · exact z
     · rw [b6] at z; cases z
     · rw [b6] at z; cases z
   refine codeAny_mono ((F _ hKb (nsB hns) hbmB).run callerA [] s₁ H ⟨[.ref a], []⟩ [.ref a] [.ref a] _ _ hr e0 (hbind s₁ (.ref a)) (.cons rfl .nil) (hsp H hS hT)) fun r s' h => ?_
   cases r with
   | error e => exact (hCX H e s' h).elim
   | ok fl =>
     cases fl with
     | next => exact False.elim h
     | brk => exact False.elim h
     | cont => exact False.elim h
     | ret u =>
       obtain ⟨v, H', os, bare, un, hok', r', q⟩ := h
       have q' : v = .bl true := q
       subst q'
       obtain rfl : u = Value.bool true := r'
       have old : ∀ b o, s₁.heap.get? b = some o → s'.heap.get? b = some o ∨ ∃ more, b ∈ ts ∧ s'.heap.get? b = some (PySem.W.tabObj more) := fun b o e => by
         rcases hO b with z | ⟨_, ob, xs, z⟩ | ⟨zt, z⟩
         · exact .inl (un.keep b o e z (by intro y; exact absurd (show b ∈ ([] : List Addr) from y) (by simp)) (by simp))
         · have z2 := un.frzs b ob _ z
           obtain ⟨e1, _⟩ := hok b _ z
           obtain ⟨e2, _⟩ := hok' b _ z2
           rw [e] at e1; cases e1
           exact .inl e2
         · obtain ⟨more, z2⟩ := un.tbls b _ z
           exact .inr ⟨_, zt, hok' b _ z2⟩
       refine ⟨rfl, ⟨fun b o e => ?_, fun b o e => ?_⟩, os, bare⟩
       · rcases old b o e with z | ⟨more, zt, z⟩
         · exact .inl z
         · obtain ⟨t1, _, c, t2⟩ := hts b zt
           rw [t1] at e
           cases e
           refine .inr (.inl ⟨(t2.tab t1).isCodeTable, rfl, #[], more, rfl, ?_⟩)
           rw [z]
           simp
       · rcases old b o e with z | ⟨more, _, z⟩
         · exact ⟨_, z⟩
         · exact ⟨_, z⟩
 have aT : a ∉ ts := fun z => by
   have := (hts a z).1
   rw [ha] at this
   cases this
 cases hk : K.lookup a with
 | some o =>
   have e := KX a o hk
   rw [ha] at e
   cases e
   refine core (fun b => if b ∈ ts then some (.tbl #[]) else none) (fun b => ?_) (fun p hp => if_pos hp) (.inr ⟨_, vs.toArray, _, hk, rfl, rfl, rfl, by rw [List.size_toArray, lenV]; exact hl, by simpa using rv⟩) (fun b u z => ?_) fun b z => ?_
   · by_cases hb : b ∈ ts
     · exact .inr (.inr ⟨hb, if_pos hb⟩)
     · exact .inl (if_neg hb)
   · by_cases hb : b ∈ ts
     · have z' := (if_pos hb).symm.trans z
       cases z'
       exact (hts b hb).1
     · have z' := (if_neg hb).symm.trans z
       cases z'
   · by_cases hb : b ∈ ts
     · exact (hts b hb).2.1
     · exact absurd (if_neg hb) z
 | none =>
   refine core (fun b => if b = a then some (.frz { cls := .type "list", data := .seq vs.toArray } (.lst (ns.map V.int))) else if b ∈ ts then some (.tbl #[]) else none) (fun b => ?_) (fun p hp => ?_) (.inl (.inr ⟨{ cls := .type "list", data := .seq vs.toArray }, if_pos rfl⟩)) (fun b u z => ?_) fun b z => ?_
   · by_cases hb : b = a
     · exact .inr (.inl ⟨hb, _, _, if_pos hb⟩)
     · by_cases hb2 : b ∈ ts
       · exact .inr (.inr ⟨hb2, (if_neg hb).trans (if_pos hb2)⟩)
       · exact .inl ((if_neg hb).trans (if_neg hb2))
   · have : p ≠ a := fun z => aT (z ▸ hp)
     exact (if_neg this).trans (if_pos hp)
   · by_cases hb : b = a
     · have z' := (if_pos hb).symm.trans z
       cases z'
       subst hb
       exact ⟨ha, by rw [List.length_map]; exact hl, vs, _, rv, ha⟩
     · by_cases hb2 : b ∈ ts
       · have z' := ((if_neg hb).trans (if_pos hb2)).symm.trans z
         cases z'
         exact (hts b hb2).1
       · have z' := ((if_neg hb).trans (if_neg hb2)).symm.trans z
         cases z'
   · by_cases hb : b = a
     · rw [hb]; exact hk
     · by_cases hb2 : b ∈ ts
       · exact (hts b hb2).2.1
       · exact absurd ((if_neg hb).trans (if_neg hb2)) z
theorem walk_ofT {l : PySem.W.OpenLaw} {n k : Nat} {q : Program} {loose : List Str} {XP : (Str → Option Value) → Heap → Prop} {YP : World → Heap → Prop} {d : DefRec} {K : Params → PySem.W.Frag} {CX : World → CXT} {sp : World → Sp} {x : Str} {ts : List Addr}
   (hn : l.most = some n) (hn2 : n ≤ sizeLine) (hdf : d.params.defaults = []) (hr : Room k callerA)
   (hY : ∀ (w : World) (h : Heap), YP w h → (K w.params).In h ∧ ∀ p ∈ ts, h.get? p = some (PySem.W.tabObj #[]))
   (F : ∀ (w : World) (mg : Str → Option Value) (fa : Addr) (h : Heap), (K w.params).In h → h.Ns mainGlobals mg → mg d.name = some (.ref fa) →
     (∀ p ∈ ts, (K w.params).lookup p = none ∧ ∃ c, PySem.W.codeHdIn (K w.params) c p = true) ∧ ∃ fd : FuncData, (∀ (s : Shared) (u : Value), BindsTo s fd ⟨[u], []⟩ [(x, u)]) ∧
       ∀ base : Heap, (K w.params).In base → base.Ns mainGlobals mg → (∃ bm ob, mg "__builtins__" = some (.ref bm) ∧ bm ≠ builtinsNs ∧ base.get? bm = some ob ∧ ob.cls = .type "module" ∧ ob.dict = some builtinsNs ∧ ob.data = .plain) → FnOk l.prog w (K w.params) mg base (CX w) k fa fd [x] (sp w))
   (hsp : ∀ (w : World) (H : Hp) (a : Addr) (ns : List Int), ns.length ≤ n → SqL (K w.params) H a (ns.map V.int) → (∀ p ∈ ts, H p = some (.tbl #[])) → sp w [.ref a] H (fun v _ => v = .bl true) fun _ _ _ => False)
   (hCX : ∀ (w : World) (H : Hp) (s : Shared) (e : Value) (s' : Shared), CX w [] H s (fun _ _ _ => False) e s' → False) :
   PySem.W.WalkO q loose XP YP l.row.toRowW d [] (fun f vs => PySem.call f vs) := by
 refine Att.attach_call hn hdf fun w s₀ s₁ mg mb fa o pm cd doc a vs ns G Y ho hd hcd hmg hobj hints hlen hg => ?_
 obtain ⟨KX, TX⟩ := hY w _ Y
 obtain ⟨hT, fd, hb, hF⟩ := F w mg fa _ KX G.T.g hmg
 refine law_callT (ts := ts) KX G.T.g G.T.b G.T.builtins G.T.nolimit hg G.T.bmain hobj hints (Nat.le_trans hlen hn2) hr (fun p hp => ⟨TX p hp, (hT p hp).1, ?_⟩) hF hb (fun H hS hTb => hsp w H a ns hlen hS hTb) fun H e s' => hCX w H s₁ e s'
 obtain ⟨c, e⟩ := (hT p hp).2
 exact ⟨c, PySem.W.codeHd_of_K KX e⟩
end L2
namespace L2
open PySem PySem.Spec PyProof.Rows
section
variable {X : Cx} {pins : List (Addr × Obj)} {σ : St} {H : Hp} {s : Shared}
theorem vals_by {xs : List V} {vs : List Value} (rv : Vals xs vs) : ∀ l : List Nat, (∀ i ∈ l, i < vs.length) → Vals (l.map fun i => xs.getD i .non) (l.map fun i => vs.getD i Value.none) := by
 intro l
 have lv := rv.length
 induction l with
 | nil => intro _; exact .nil
 | cons i r ih =>
   intro hi
   have hi0 := hi i List.mem_cons_self
   refine .cons ?_ (ih fun j hj => hi j (List.mem_cons_of_mem _ hj))
   have hx : xs[i]? = some (xs.getD i .non) := by
     rw [List.getD_eq_getElem?_getD, List.getElem?_eq_getElem (by omega)]
     rfl
   obtain ⟨u, hu, r'⟩ := rv.get hx
   have e : vs.getD i Value.none = u := by rw [List.getD_eq_getElem?_getD, hu]; rfl
   show RelV (xs.getD i .non) (vs.getD i Value.none)
   rw [e]
   exact r'
theorem sorted_gen {Q : VK} {E : Value → Shared → Prop} {a : Addr} {κ : SortKind} {O : KeyOrd} (hc : X.calm = true) (hh : X.A.handled = none)
   (hcoll : ∀ (A : Around) (E : Value → Shared → Prop), A.handled = none → wpAny (model X.prog X.w) A (collect (.ref a)) (fun vs s1 => ∃ (xs : List V) (key : Nat → O.α), Inv X pins σ H s1 ∧ Vals xs vs ∧ xs.length < 64 ∧
     (∀ s' vs (E : Value → Shared → Prop) (Q' : SortKind → Shared → Prop), Inv X pins σ H s' → Vals xs vs → 2 ≤ xs.length → Q' κ s' → wpAny (model X.prog X.w) X.A.in1.in1 (keyKind' vs.toArray) Q' E s') ∧
     (∀ s' vs, Inv X pins σ H s' → Vals xs vs → LS.Asks key xs.length (fun t => t = s') (PySem.W.kas_ask X.prog X.w X.A.in1.in1 κ vs)) ∧
     ∀ l (p : Array Nat), H l = none → LS.Pm xs.length p → LS.Up key p xs.length → Q (.ref l) (upd H l (.lst (p.toList.map fun i => xs.getD i .non)))) E s) :
   wpAny (model X.prog X.w) X.A (call (.builtin "sorted") [.ref a]) (EP X pins σ Q) E s := by
 have hsl : sizeLine = 16777216 := sizeLine_eq
 refine Calls.call_function_entry kind_sorted plain_sorted entry_sorted (args_sorted1 _) ?_
 unfold Builtin.«sorted»
 refine wpAny_bind (m := checkCount "sorted" 1 1 _) (wpAny_pure ?_)
 refine wpAny_bind (wpAny_mono (hcoll _ _ hh) (fun vs s1 ⟨xs, key, I, rv, h64, hkind, hask, h⟩ => ?_) fun _ _ z => z)
 have lv := rv.length
 refine wpAny_bind (wpAny_newList ?_ (by omega))
 have k2 : ∀ b o, s1.heap.get? b = some o → (s1.heap.push { cls := .type "list", data := .seq vs.toArray }).get? b = some o := fun b o e => Heap.get?_push_of_some _ e
 have I2 : Inv X pins σ H { s1 with heap := s1.heap.push { cls := .type "list", data := .seq vs.toArray }, toks := s1.toks } := I.kept k2
 have I1 : Inv X pins σ H { s1 with heap := s1.heap, toks := s1.toks } := I
 have Wa : Own X pins H s1.heap.objs.size := Own.fresh I1 (Nat.le_refl _)
 have ho : (s1.heap.push { cls := .type "list", data := .seq vs.toArray }).get? s1.heap.objs.size = some (seqObj "list" vs.toArray 0) := Heap.get?_push_size _ rfl
 refine wpAny_bind (wpAny_holding (wpAny_call_entry slot_list_sort ⟨_, ho, rfl⟩ entry_list_sort ?_ (args_list_sort _)))
 rw [list_sort_plain]
 refine wpAny_bind (listItems_at ho rfl ?_)
 refine wpAny_bind (listUpdate_at ho rfl ?_ (by rw [List.size_toArray]; omega) (Nat.zero_le _))
 have hs1 := Heap.SameBut.update (s1.heap.push { cls := .type "list", data := .seq vs.toArray }) s1.heap.objs.size (Obj.mapSeq fun _ => (#[] : Array Value))
 obtain ⟨e1, ho1⟩ : ∃ e1, ((s1.heap.push { cls := .type "list", data := .seq vs.toArray }).update s1.heap.objs.size (Obj.mapSeq fun _ => (#[] : Array Value))).get? s1.heap.objs.size = some (seqObj "list" #[] e1) := ⟨_, get?_update_seq ho fun _ => #[]⟩
 refine wpAny_bind (seqEpoch_at ho1 rfl ?_)
 refine wpAny_bind (wpAny_newTuple ?_ (by show vs.length ≤ _; omega))
 refine wpAny_bind (wpAny_newList ?_ (Nat.zero_le _))
 refine wpAny_holding ?_
 have I3 : Inv X pins σ H { s1 with heap := (s1.heap.push { cls := .type "list", data := .seq vs.toArray }).update s1.heap.objs.size (Obj.mapSeq fun _ => (#[] : Array Value)), toks := s1.toks } :=
   I2.alter (s := { s1 with heap := s1.heap.push { cls := .type "list", data := .seq vs.toArray }, toks := s1.toks }) Wa ho (fun v z => by cases z) fun b u hb z => (hs1.2 b hb).trans z
 generalize hg4 : (s1.heap.push { cls := .type "list", data := .seq vs.toArray }).update s1.heap.objs.size (Obj.mapSeq fun _ => (#[] : Array Value)) = h4 at *
 have I5 : Inv X pins σ H { s1 with heap := (h4.push { cls := .type "tuple", data := .seq vs.toArray }).push { cls := .type "list", data := .seq ([] : List Value).toArray }, toks := s1.toks } :=
   I3.kept (s := { s1 with heap := h4, toks := s1.toks }) (t' := s1.toks) fun b o e => Heap.get?_push_of_some _ (Heap.get?_push_of_some _ e)
 have ha5 : ((h4.push { cls := .type "tuple", data := .seq vs.toArray }).push { cls := .type "list", data := .seq ([] : List Value).toArray }).get? s1.heap.objs.size = some (seqObj "list" #[] e1) := Heap.get?_push_of_some _ (Heap.get?_push_of_some _ ho1)
 have tail : ∀ (P : PySem.Fin → Shared → Prop), (∀ (p : Array Nat) s', LS.Pm vs.length p → LS.Up key p vs.length → Inv X pins σ (upd H s1.heap.objs.size (.lst (p.toList.map fun i => xs.getD i .non))) s' → P (.done (.ret .none)) s') → ∀ (st : SortSt) (p : Array Nat), LS.Pm vs.length p → LS.Up key p vs.length → arrOf st = p.map (PySem.W.kas_item (vs.toArray.zip vs.toArray)) → failedOf st = none →
     wpAny (model X.prog X.w) X.A.in1.in1 (do
       let sorted := (arrOf st).map (·.2)
       let touched := (← seqEpoch s1.heap.objs.size) != e1
       Builtin.List.listUpdate (.ref s1.heap.objs.size) fun _ => sorted
       if let some e := failedOf st then rule "list.sort.comparison-raised"; throw e
       if touched then rule "list.sort.modified"; raiseError "ValueError" "list modified during sort"
       ret .none) P E
       { s1 with heap := (h4.push { cls := .type "tuple", data := .seq vs.toArray }).push { cls := .type "list", data := .seq ([] : List Value).toArray }, toks := s1.toks } := by
   intro P hP st p hp hu har hf
   have hout := PySem.W.kat_snds rfl har
   have hps := hp.size
   dsimp only
   rw [hout]
   generalize hg5 : (h4.push { cls := .type "tuple", data := .seq vs.toArray }).push { cls := .type "list", data := .seq ([] : List Value).toArray } = h5 at *
   have hs2 := Heap.SameBut.update h5 s1.heap.objs.size (Obj.mapSeq fun _ => List.toArray (p.toList.map fun i => vs.getD i Value.none))
   obtain ⟨c2, hg⟩ : ∃ c2, (h5.update s1.heap.objs.size (Obj.mapSeq fun _ => List.toArray (p.toList.map fun i => vs.getD i Value.none))).get? s1.heap.objs.size = some (seqObj "list" (List.toArray (p.toList.map fun i => vs.getD i Value.none)) c2) := ⟨_, get?_update_seq ha5 (fun _ => List.toArray (p.toList.map fun i => vs.getD i Value.none))⟩
   refine wpAny_bind (seqEpoch_at ha5 rfl ?_)
   refine wpAny_bind (listUpdate_at ha5 rfl ?_ (Nat.zero_le _) (by show (List.toArray _).size ≤ _; rw [List.size_toArray, List.length_map, Array.length_toList]; omega))
   rw [hf]
   simp only [bne_self_eq_false, Bool.false_eq_true, if_false]
   have I6 : Inv X pins σ H { s1 with heap := h5.update s1.heap.objs.size (Obj.mapSeq fun _ => List.toArray (p.toList.map fun i => vs.getD i Value.none)), toks := s1.toks } := I5.alter (s := { s1 with heap := h5, toks := s1.toks }) Wa ha5 (fun v z => by cases z) fun b u hb z => (hs2.2 b hb).trans z
   refine wpAny_pure (hP p _ hp hu (I6.track Wa (I6.cellne hg fun v z => by cases z) ?_))
   refine ⟨by rw [List.length_map, Array.length_toList]; omega, p.toList.map fun i => vs.getD i Value.none, c2, ?_, hg⟩
   exact vals_by rv p.toList fun i hi => List.mem_range.mp (hp.mem_iff.mp hi)
 dsimp only
 have fin : ∀ (p : Array Nat) s', LS.Pm vs.length p → LS.Up key p vs.length → Inv X pins σ (upd H s1.heap.objs.size (.lst (p.toList.map fun i => xs.getD i .non))) s' → EP X pins σ Q (.ref s1.heap.objs.size) s' := fun p s' hp hu J => ⟨.ref s1.heap.objs.size, _, J, rfl, h _ p Wa.free (by rw [lv]; exact hp) (by rw [lv]; exact hu)⟩
 by_cases h2 : vs.toArray.size < 2
 · rw [if_pos h2, if_pos h2]
   refine wpAny_bind (wpAny_pure ?_)
   rw [StateT.run_pure]
   refine wpAny_bind (wpAny_pure ?_)
   rw [List.size_toArray] at h2
   refine tail _ (fun p s' hp hu J => ⟨_, rfl, wpAny_pure ⟨_, rfl, fin p s' hp hu J⟩⟩) _ (List.toArray (List.range vs.length)) (by unfold LS.Pm; simp) (fun i j hij hj => ?_) ?_ rfl
   · have : i = j := by omega
     subst this
     exact KeyOrd.kle_refl _
   · have e := PySem.W.kas_range (vs.toArray.zip vs.toArray)
     rw [show (vs.toArray.zip vs.toArray).size = vs.length by simp] at e
     exact e.symm
 · rw [if_neg h2, if_neg h2]
   rw [List.size_toArray] at h2
   have hask' := hask _ vs I5 rv
   rw [lv] at hask'
   refine wpAny_bind (hkind _ vs _ _ I5 rv (by omega) ?_)
   refine wpAny_bind (wpAny_mono (PySem.W.kat_run (E := E) (Q := fun st' s' => s' = { s1 with heap := (h4.push { cls := .type "tuple", data := .seq vs.toArray }).push { cls := .type "list", data := .seq ([] : List Value).toArray }, toks := s1.toks } ∧ ∃ p : Array Nat, LS.Pm vs.length p ∧ LS.Up key p vs.length ∧ arrOf st' = p.map (PySem.W.kas_item (vs.toArray.zip vs.toArray)) ∧ failedOf st' = none) (G := fun p s' => s' = { s1 with heap := (h4.push { cls := .type "tuple", data := .seq vs.toArray }).push { cls := .type "list", data := .seq ([] : List Value).toArray }, toks := s1.toks } ∧ LS.Pm vs.length p ∧ LS.Up key p vs.length) rfl (by omega) (by omega) (fun p st' s' _ q2 q3 q4 => ⟨q4.1, p, q4.2.1, q4.2.2, q2, q3⟩) (LS.sort_ok2 hask' (by omega) rfl fun p s' q1 q2 q3 => ⟨q1, q2, q3⟩)) ?_ fun _ _ z => z)
   rintro ⟨⟨⟩, st'⟩ s' ⟨rfl, p, q1, q2, q3, q4⟩
   exact tail _ (fun p s' hp hu J => ⟨_, rfl, wpAny_pure ⟨_, rfl, fin p s' hp hu J⟩⟩) st' p q1 q2 q3 q4
theorem up_pairs {kL : List (List Nat)} {n : Nat} {p : Array Nat} (hp : LS.Pm n p) (hu : LS.Up (O := strKind.toKeyOrd) (fun i => kL.getD i []) p n) : p.toList.Pairwise (fun i j => kL.getD i [] ≤ kL.getD j []) := by
 have hps := hp.size
 refine List.pairwise_iff_getElem.mpr fun i j hi hj hij => ?_
 rw [Array.length_toList] at hi hj
 have := hu i j (Nat.le_of_lt hij) (by omega)
 have gi : LS.gt p i = p.toList[i] := by
   unfold LS.gt
   rw [Array.getD_eq_getD_getElem?]
   simp [hi]
 have gj : LS.gt p j = p.toList[j] := by
   unfold LS.gt
   rw [Array.getD_eq_getD_getElem?]
   simp [hj]
 rw [gi, gj] at this
 have this : decide (kL.getD p.toList[j] [] < kL.getD p.toList[i] []) = false := this
 exact List.not_lt.mp (of_decide_eq_false this)
end
end L2
namespace L2
open PySem PySem.Spec PyProof.Rows
section
variable {X : Cx}
theorem PFs.imp {ifs : List Expr} {t t' : TT} (h : PFs X ifs t) (hi : ∀ σ H Q, t' σ H Q → ∃ Q0 : Bool → Hp → Prop, t σ H Q0 ∧ ∀ b H', Q0 b H' → Q b H') : PFs X ifs t' := fun pins s σ H Q I q => by
 obtain ⟨Q0, h0, h1⟩ := hi σ H Q q
 exact thn (h pins s σ H Q0 I h0) fun b s1 ⟨H1, I1, q⟩ => ⟨H1, I1, h1 b H1 q⟩
def oneC (tc : TT) (te : TE) (σ : St) (acc : List V) (N : Hp → List V → Prop) (H : Hp) : Prop := tc σ H fun b H3 => if b = true then te σ H3 fun y H4 => N H4 (acc ++ [y]) else N H3 acc
def cloE (te : TE) : TE := fun σ H Q => ∃ Q0 : VK, te σ H Q0 ∧ ∀ v H', Q0 v H' → Q v H'
def cloT (tc : TT) : TT := fun σ H Q => ∃ Q0 : Bool → Hp → Prop, tc σ H Q0 ∧ ∀ b H', Q0 b H' → Q b H'
theorem oneC_clo {tc : TT} {te : TE} {σ : St} {acc : List V} {N N' : Hp → List V → Prop} {H : Hp} (hN : ∀ H a, a.length ≤ acc.length + 1 → N H a → N' H a) (h : oneC tc te σ acc N H) : oneC (cloT tc) (cloE te) σ acc N' H := by
 refine ⟨_, h, fun b H3 q => ?_⟩
 cases b with
 | true => exact ⟨_, q, fun y H4 q4 => hN _ _ (by simp) q4⟩
 | false => exact hN _ _ (by omega) q
def tCR (n : Nat) (cp : List (Str × Nat)) (ta : TA) (tc : TT) (te : TE) : TE := fun σ H Q => ta σ H fun vs H1 => match vs with
 | [.int j] => (-(2 ^ 62) ≤ j ∧ j < 16777216) ∧ ∃ Pv : Nat → Hp → List V → Prop, Pv 0 H1 [] ∧ (∀ i H2 acc, i < j.toNat → Pv i H2 acc → oneC tc te ((capS n cp σ).set 0 (some (.int i))) acc (Pv (i + 1)) H2) ∧ ∀ H2 acc, Pv j.toNat H2 acc → ∀ l, H2 l = none → Q (.ref l) (upd H2 l (.lst acc))
 | _ => False
theorem pe_compR {elt a : Expr} {ifs : List Expr} {x : Str} {px p p' : Pos} {scope : Scope} {pos : Pos} {cl : List (Str × Addr)} {own : List Str} {cp : List (Str × Nat)} {ta : TA} {tc : TT} {te : TE}
   (hm : X.mg "range" = none) (hc : X.calm = true) (hcl : closL scope.names X.env.cells [] = some cl) (hk : scope.kind = .function) (hnc : ∀ y ∈ scope.names, y.2 ≠ .cell)
   (hnm : ∀ x ∈ scope.names, x.2 = .local → scope.names.lookup x.1 = some .local) (hcp : CapOk X scope cp) (ha : PA X [a] ta) (hn : 0 < own.length)
   (hg : ∀ fp C s H, PG (cxC X scope cl (own ++ cp.map (·.1)) fp C s H) (.Name x px) (gName 0)) (ht : ∀ fp C s H, PFs (cxC X scope cl (own ++ cp.map (·.1)) fp C s H) ifs tc) (he : ∀ fp C s H, PE (cxC X scope cl (own ++ cp.map (·.1)) fp C s H) elt te)
   (hgl : Gl X "range" := by rfl) (hst : starEach [a] X.env = [(false, eval a X.env)] := by rfl)
   (hs : ∀ z, foldedSetIterable (.Call (.Name "range" p) [a] [] p') X.env z = pure z := by intro _; rfl) : PE X (.ListComp elt [⟨.Name x px, .Call (.Name "range" p) [a] [] p', ifs, 0⟩] scope pos) (tCR own.length cp ta tc te) := by
 have ha' : PA X [a] (fun σ H Q => ∃ Q0 : List V → Hp → Prop, ta σ H Q0 ∧ ∀ v H', Q0 v H' → Q v H') := ha.imp fun σ H Q h => h
 intro pins s σ H Q I h
 refine pe_comp hc hcl hk hnc hnm hcp (pi_range1 hgl hm ha' hst) (gk_name hn) hg (fun fp C s H => (ht fp C s H).imp (t' := cloT tc) fun _ _ _ z => z) (fun fp C s H => (he fp C s H).imp (t' := cloE te) fun _ _ _ z => z) hs pins s σ H Q I ?_
 refine ⟨_, h, fun vs H1 q => ?_⟩
 split at q
 · rename_i j
   obtain ⟨⟨b1, b2⟩, Pv, p0, ps, pe⟩ := q
   have hsl : sizeLine = 16777216 := sizeLine_eq
   refine ⟨j, rfl, b1, by omega, fun i m H2 acc => m = j.toNat - i ∧ i ≤ j.toNat ∧ acc.length ≤ i ∧ Pv i H2 acc, ⟨j.toNat, by omega, Nat.zero_le _, Nat.le_refl _, p0⟩, ?_⟩
   rintro i m H2 acc ⟨rfl, hi, hl, pv'⟩
   refine ⟨by omega, ?_⟩
   by_cases hlt : i < j.toNat
   · refine .inr ⟨hlt, fun y H3 ⟨e3, ey⟩ => ?_⟩
     subst e3 ey
     rw [show (0 : Int) + (i : Int) = (i : Int) from Int.zero_add _]
     exact oneC_clo (N' := fun H a => ∃ m', m' < j.toNat - i ∧ (m' = j.toNat - (i + 1) ∧ i + 1 ≤ j.toNat ∧ a.length ≤ i + 1 ∧ Pv (i + 1) H a)) (fun H a ha z => ⟨j.toNat - (i + 1), by omega, rfl, hlt, by omega, z⟩) (ps i H3 acc hlt pv')
   · have e : i = j.toNat := by omega
     subst e
     exact .inl ⟨Nat.le_refl _, fun l hl' => pe H2 acc pv' l hl'⟩
 · exact q.elim
def tCL (K : PySem.W.Frag) (n : Nat) (cp : List (Str × Nat)) (tl : TE) (tc : TT) (te : TE) : TE := fun σ H Q => tl σ H fun v H1 => match v with
 | .ref a => ∃ xs, SqL K H1 a xs ∧ xs.length < 16777216 ∧ ∃ Pv : Nat → Hp → List V → Prop, Pv 0 H1 [] ∧ (∀ i H2 acc, i ≤ xs.length → Pv i H2 acc → SqL K H2 a xs) ∧ (∀ i y H2 acc, xs[i]? = some y → Pv i H2 acc → oneC tc te ((capS n cp σ).set 0 (some y)) acc (Pv (i + 1)) H2) ∧ ∀ H2 acc, Pv xs.length H2 acc → ∀ l, H2 l = none → Q (.ref l) (upd H2 l (.lst acc))
 | _ => False
theorem pe_compL {K : PySem.W.Frag} {elt iter : Expr} {ifs : List Expr} {x : Str} {px : Pos} {scope : Scope} {pos : Pos} {cl : List (Str × Addr)} {own : List Str} {cp : List (Str × Nat)} {tl : TE} {tc : TT} {te : TE} (hK : X.K = K)
   (hc : X.calm = true) (hcl : closL scope.names X.env.cells [] = some cl) (hk : scope.kind = .function) (hnc : ∀ y ∈ scope.names, y.2 ≠ .cell)
   (hnm : ∀ x ∈ scope.names, x.2 = .local → scope.names.lookup x.1 = some .local) (hcp : CapOk X scope cp) (hl : PE X iter tl) (hn : 0 < own.length)
   (hg : ∀ fp C s H, PG (cxC X scope cl (own ++ cp.map (·.1)) fp C s H) (.Name x px) (gName 0)) (ht : ∀ fp C s H, PFs (cxC X scope cl (own ++ cp.map (·.1)) fp C s H) ifs tc) (he : ∀ fp C s H, PE (cxC X scope cl (own ++ cp.map (·.1)) fp C s H) elt te)
   (hs : ∀ z, foldedSetIterable iter X.env z = pure z := by intro _; rfl) : PE X (.ListComp elt [⟨.Name x px, iter, ifs, 0⟩] scope pos) (tCL K own.length cp tl tc te) := by
 subst hK
 have hl' : PE X iter (fun σ H Q => ∃ Q0 : VK, tl σ H Q0 ∧ ∀ v H', Q0 v H' → Q v H') := hl.imp fun σ H Q h => h
 intro pins s σ H Q I h
 refine pe_comp hc hcl hk hnc hnm hcp (pi_list hl') (gk_name hn) hg (fun fp C s H => (ht fp C s H).imp (t' := cloT tc) fun _ _ _ z => z) (fun fp C s H => (he fp C s H).imp (t' := cloE te) fun _ _ _ z => z) hs pins s σ H Q I ?_
 refine ⟨_, h, fun v H1 q => ?_⟩
 cases v with
 | ref a =>
   obtain ⟨xs, hx, hz, Pv, p0, pl, ps, pe⟩ := q
   have hsl : sizeLine = 16777216 := sizeLine_eq
   refine ⟨a, rfl, ⟨xs, hx⟩, fun i m H2 acc => m = xs.length - i ∧ i ≤ xs.length ∧ acc.length ≤ i ∧ Pv i H2 acc, ⟨xs.length, by omega, Nat.zero_le _, Nat.le_refl _, p0⟩, ?_⟩
   rintro i m H2 acc ⟨rfl, hi, hla, pv'⟩
   refine ⟨by omega, ?_⟩
   have hx2 := pl i H2 acc hi pv'
   by_cases hlt : i < xs.length
   · refine .inr ⟨⟨xs, xs[i], hx2, by simp [hlt]⟩, fun y H3 ⟨e3, ey⟩ => ?_⟩
     subst e3
     exact oneC_clo (N' := fun H a => ∃ m', m' < xs.length - i ∧ (m' = xs.length - (i + 1) ∧ i + 1 ≤ xs.length ∧ a.length ≤ i + 1 ∧ Pv (i + 1) H a)) (fun H a ha z => ⟨xs.length - (i + 1), by omega, rfl, hlt, by omega, z⟩) (ps i y H3 acc (ey xs hx2) pv')
   · have e : i = xs.length := by omega
     subst e
     exact .inl ⟨⟨xs, hx2, Nat.le_refl _⟩, fun l hl' => pe H2 acc pv' l hl'⟩
 | _ => exact False.elim q
end
end L2
namespace L2
open PySem PySem.Spec PyProof.Rows
section
variable {P : Program} {w : World} {K : PySem.W.Frag} {tg : Expr}
end
section
variable {X : Cx} {tg : Expr}
end
end L2
namespace L2
open PySem PySem.Spec PyProof.Rows
section
variable {κ : Type} [DecidableEq κ]
def valV (kvs : List (κ × V)) (k : κ) : Option V := (kvs.find? fun kv => decide (kv.1 = k)).map (·.2)
def putK (kvs : List (κ × V)) (k : κ) (v : V) : List (κ × V) :=
 if (kvs.any fun kv => decide (kv.1 = k)) = true then kvs.map (fun kv => if kv.1 = k then (kv.1, v) else kv) else kvs ++ [(k, v)]
def dropK (kvs : List (κ × V)) (k : κ) : List (κ × V) := kvs.filter fun kv => decide (kv.1 ≠ k)
theorem valV_pos {p : κ × V} {r : List (κ × V)} {k : κ} (e : p.1 = k) : valV (p :: r) k = some p.2 := by simp [valV, List.find?_cons, e]
theorem valV_neg {p : κ × V} {r : List (κ × V)} {k : κ} (e : ¬ p.1 = k) : valV (p :: r) k = valV r k := by simp [valV, List.find?_cons, e]
theorem valV_any (k : κ) : ∀ kvs : List (κ × V), (kvs.any fun kv => decide (kv.1 = k)) = (valV kvs k).isSome
 | [] => rfl
 | p :: r => by
   rw [List.any_cons]
   by_cases e : p.1 = k
   · simp only [valV_pos e, decide_eq_true e, Bool.true_or, Option.isSome_some]
   · rw [valV_neg e, decide_eq_false e, Bool.false_or]; exact valV_any k r
theorem length_putK (kvs : List (κ × V)) (k : κ) (v : V) : (putK kvs k v).length ≤ kvs.length + 1 := by
 unfold putK
 split
 · rw [List.length_map]; omega
 · rw [List.length_append, List.length_cons, List.length_nil]; omega
theorem RelO.isSome_eq {o : Option V} {u : Option Value} (r : RelO o u) : o.isSome = u.isSome := by
 cases o with
 | none => cases u with
   | none => rfl
   | some _ => exact (show False from r).elim
 | some _ => cases u with
   | none => exact (show False from r).elim
   | some _ => rfl
theorem KV.val {kvs : List (κ × V)} {vs : List (κ × Value)} (r : KV kvs vs) (k : κ) : RelO (valV kvs k) (valueAt vs k) := by
 unfold KV at r
 induction r with
 | nil => exact True.intro
 | @cons p q ps qs h t ih =>
   obtain ⟨h1, h2⟩ := h
   by_cases e : p.1 = k
   · have e' : q.1 = k := h1.symm.trans e
     have b : valueAt (q :: qs) k = some q.2 := by simp [valueAt, List.find?_cons, e']
     rw [valV_pos e, b]; exact h2
   · have e' : ¬ q.1 = k := fun z => e (h1.trans z)
     have b : valueAt (q :: qs) k = valueAt qs k := by simp [valueAt, List.find?_cons, e']
     rw [valV_neg e, b]; exact ih
theorem KV.any {kvs : List (κ × V)} {vs : List (κ × Value)} (r : KV kvs vs) (k : κ) : (kvs.any fun kv => decide (kv.1 = k)) = vs.any fun kv => decide (kv.1 = k) := by
 unfold KV at r
 induction r with
 | nil => rfl
 | cons h t ih => rw [List.any_cons, List.any_cons, ih, h.1]
theorem KV.repl {kvs : List (κ × V)} {vs : List (κ × Value)} (r : KV kvs vs) (k : κ) {y : V} {u : Value} (ry : RelV y u) :
   KV (kvs.map fun kv => if kv.1 = k then (kv.1, y) else kv) (vs.map fun kv => if kv.1 = k then (kv.1, u) else kv) := by
 unfold KV at r ⊢
 induction r with
 | nil => exact .nil
 | @cons p q ps qs h t ih =>
   rw [List.map_cons, List.map_cons]
   refine .cons ?_ ih
   obtain ⟨h1, h2⟩ := h
   by_cases e : p.1 = k
   · rw [if_pos e, if_pos (h1.symm.trans e)]; exact ⟨h1, ry⟩
   · rw [if_neg e, if_neg (fun z => e (h1.trans z))]; exact ⟨h1, h2⟩
theorem KV.put {kvs : List (κ × V)} {vs : List (κ × Value)} (r : KV kvs vs) (k : κ) {y : V} {u : Value} (ry : RelV y u) : KV (putK kvs k y) (stored vs k u) := by
 unfold putK stored
 rw [r.any k]
 by_cases e : (vs.any fun kv => decide (kv.1 = k)) = true
 · rw [if_pos e, if_pos e]; exact r.repl k ry
 · rw [if_neg e, if_neg e]; exact Paired.snoc r ⟨rfl, ry⟩
theorem KV.length {kvs : List (κ × V)} {vs : List (κ × Value)} (r : KV kvs vs) : kvs.length = vs.length := Paired.length r
end
theorem kV_is {P : Program} {w : World} {k : Key} {u : Value} (r : RelV (kV k) u) : (mixKind P w).is k u = true := by
 cases k with
 | inl i => obtain ⟨t, e⟩ := (show ∃ t, u = Value.int i t from r); subst e; exact mixKind_int P w i t
 | inr x => obtain ⟨t, e⟩ := (show ∃ t, u = Value.str x t from r); subst e; exact mixKind_str P w x t
theorem items_are {P : Program} {w : World} : ∀ {ks : List Key} {us : List Value}, Vals (ks.map kV) us → ItemsAre (mixKind P w) ks us
 | [], _, r => by rw [List.map_nil] at r; cases r; exact .nil
 | k :: ks, _, r => by
   rw [List.map_cons] at r
   cases r with
   | cons h t => exact .cons (kV_is h) (items_are t)
abbrev KT (H : Hp) : List (List Key × V) → List (List Key × Addr × Value) → Prop := Paired fun p q => p.1 = q.1 ∧ H q.2.1 = some (.tup (p.1.map kV)) ∧ RelV p.2 q.2.2
theorem KT.val {H : Hp} {kvs : List (List Key × V)} {xs : List (List Key × Addr × Value)} (r : KT H kvs xs) (k : List Key) : RelO (valV kvs k) ((atKey xs k).map (·.2)) := by
 induction r with
 | nil => exact True.intro
 | @cons p q ps qs h t ih =>
   obtain ⟨h1, _, h2⟩ := h
   by_cases e : p.1 = k
   · have e' : q.1 = k := h1.symm.trans e
     have b : atKey (q :: qs) k = some q.2 := by simp [atKey, List.find?_cons, e']
     rw [valV_pos e, b]; exact h2
   · have e' : ¬ q.1 = k := fun z => e (h1.trans z)
     have b : atKey (q :: qs) k = atKey qs k := by simp [atKey, List.find?_cons, e']
     rw [valV_neg e, b]; exact ih
section
variable {P : Program} {w : World} {H : Hp} {h : Heap} {a : Addr}
theorem rd_of {u : HO} (ok : HOk P w H h) (e : Rd H a u) : ObjOk P w H h a u := e.ok ok
theorem dk_rd {kvs : List (Key × V)} (ok : HOk P w H h) (e : Rd H a (.dK kvs)) : kvs.length ≤ sizeLine ∧ (a == sysModules) = false ∧ ∃ vs, KV kvs vs ∧ h.DictOf (mixKind P w) a vs :=
 show ObjOk P w H h a (.dK kvs) from rd_of ok e
theorem dk_of {kvs : List (Key × V)} (ok : HOk P w H h) (e : H a = some (.dK kvs)) : kvs.length ≤ sizeLine ∧ (a == sysModules) = false ∧ ∃ vs, KV kvs vs ∧ h.DictOf (mixKind P w) a vs := dk_rd ok (.inl e)
theorem key_of {ks : List Key} (ok : HOk P w H h) (e : H a = some (.tup (ks.map kV))) : (tupleKind (mixKind P w)).is h ks a := by
 obtain ⟨_, its, r, o, h1, h2, n, h3⟩ := (show ObjOk P w H h a (.tup (ks.map kV)) from ok a _ e)
 exact ⟨o, its.toArray, n, h1, h2, h3, by simpa using items_are r⟩
theorem dt_rd {kvs : List (List Key × V)} (ok : HOk P w H h) (e : Rd H a (.dT kvs)) : kvs.length ≤ sizeLine ∧ (a == sysModules) = false ∧
   ∃ xs, KT H kvs xs ∧ h.DictOfH (tupleKind (mixKind P w)) a xs := by
 exact False.elim (show ObjOk P w H h a (.dT kvs) from rd_of ok e)
end
def DGet (H : Hp) (a : Addr) (y : V) (r : Option V) : Prop :=
 (∃ kvs k, Rd H a (.dK kvs) ∧ y = kV k ∧ r = valV kvs k) ∨ ∃ kvs k b, Rd H a (.dT kvs) ∧ y = .ref b ∧ H b = some (.tup (k.map kV)) ∧ r = valV kvs k
def DPut (H : Hp) (a : Addr) (y v : V) (H' : Hp) : Prop :=
 (∃ kvs k, H a = some (.dK kvs) ∧ y = kV k ∧ kvs.length < sizeLine ∧ H' = upd H a (.dK (putK kvs k v))) ∨
 ∃ kvs k b, H a = some (.dT kvs) ∧ y = .ref b ∧ H b = some (.tup (k.map kV)) ∧ kvs.length < sizeLine ∧ H' = upd H a (.dT (putK kvs k v))
theorem DGet.k {H : Hp} {a : Addr} {kvs : List (Key × V)} {k : Key} (e : H a = some (.dK kvs)) : DGet H a (kV k) (valV kvs k) := .inl ⟨kvs, k, .inl e, rfl, rfl⟩
section
variable {X : Cx} {pins : List (Addr × Obj)} {σ : St} {H : Hp} {s : Shared} {a : Addr} {y v : V} {u r : Value} {o : Option V} {A : Around} {E : Value → Shared → Prop}
theorem Inv.big (I : Inv X pins σ H s) : sysModules < s.heap.objs.size := by
 have h : mainGlobals < s.heap.objs.size := (I.mod.glob.keeps I.bk).lt
 exact Nat.lt_trans (by decide) h
theorem d_getItem {Q : Value → Shared → Prop} (hu : A.units + 1 < cLine) (I : Inv X pins σ H s) (g : DGet H a y (some v)) (ry : RelV y u) (h : ∀ w' s', Inv X pins σ H s' → RelV v w' → Q w' s') :
   wpAny (model X.prog X.w) A (getItem (.ref a) u) Q E s := by
 rcases g with ⟨kvs, k, e, ey, l⟩ | ⟨kvs, k, b, e, ey, eb, l⟩
 · subst ey
   obtain ⟨z, hd, vs, rel, dd⟩ := dk_rd I.hok e
   obtain ⟨w', hw, rw'⟩ := RelO.some_of (v := v) (o := valueAt vs k) (by rw [l]; exact rel.val k)
   exact wpAny_getItem_of (kV_is ry) dd.mapOf hw (h w' _ (I.tok _) rw')
 · subst ey
   cases (show u = Value.ref b from ry)
   obtain ⟨z, hd, xs, rel, dd⟩ := dt_rd I.hok e
   obtain ⟨w', hw, rw'⟩ := RelO.some_of (v := v) (o := (atKey xs k).map (·.2)) (by rw [l]; exact rel.val k)
   obtain ⟨p, hp, hp2⟩ := Option.map_eq_some_iff.mp hw
   refine wpAny_getItem_heap (tupleKind_room_in1 hu) (key_of I.hok eb) dd hp ?_
   rw [hp2]
   exact h w' _ (I.tok _) rw'
theorem d_in {Q : Value → Shared → Prop} (hu : A.units + 1 < cLine) (I : Inv X pins σ H s) (g : DGet H a y o) (ry : RelV y u) (h : ∀ s', Inv X pins σ H s' → Q (.bool o.isSome) s') :
   wpAny (model X.prog X.w) A (compareOp .In u (.ref a)) Q E s := by
 rcases g with ⟨kvs, k, e, ey, l⟩ | ⟨kvs, k, b, e, ey, eb, l⟩
 · subst ey
   obtain ⟨z, hd, vs, rel, dd⟩ := dk_rd I.hok e
   refine wpAny_in_of (kV_is ry) hd dd.mapOf ?_
   rw [← (rel.val k).isSome_eq, ← l]
   exact h _ (I.tok _)
 · subst ey
   cases (show u = Value.ref b from ry)
   obtain ⟨z, hd, xs, rel, dd⟩ := dt_rd I.hok e
   refine wpAny_in_heap (tupleKind_room_in1 hu) (key_of I.hok eb) hd dd ?_
   have q := (rel.val k).isSome_eq
   rw [Option.isSome_map] at q
   rw [← q, ← l]
   exact h _ (I.tok _)
theorem d_notIn {Q : Value → Shared → Prop} (hu : A.units + 1 < cLine) (I : Inv X pins σ H s) (g : DGet H a y o) (ry : RelV y u) (h : ∀ s', Inv X pins σ H s' → Q (.bool (!o.isSome)) s') :
   wpAny (model X.prog X.w) A (compareOp .NotIn u (.ref a)) Q E s := by
 rcases g with ⟨kvs, k, e, ey, l⟩ | ⟨kvs, k, b, e, ey, eb, l⟩
 · subst ey
   obtain ⟨z, hd, vs, rel, dd⟩ := dk_rd I.hok e
   refine wpAny_notIn_of (kV_is ry) hd dd.mapOf ?_
   rw [← (rel.val k).isSome_eq, ← l]
   exact h _ (I.tok _)
 · subst ey
   cases (show u = Value.ref b from ry)
   obtain ⟨z, hd, xs, rel, dd⟩ := dt_rd I.hok e
   refine wpAny_notIn_heap (tupleKind_room_in1 hu) (key_of I.hok eb) hd dd ?_
   have q := (rel.val k).isSome_eq
   rw [Option.isSome_map] at q
   rw [← q, ← l]
   exact h _ (I.tok _)
theorem d_write {h' : Heap} {t' : Nat} {ob : HO} (I : Inv X pins σ H s) (mu : Mut (H a)) (hs : Heap.SameBut a s.heap h') (he : ∃ q, h'.get? a = some q) (new : ObjOk X.prog X.w (upd H a ob) h' a ob) :
   Inv X pins σ (upd H a ob) { s with heap := h', toks := t' } :=
 I.write (x := a) (e := a) mu (.inl rfl) (fun b q hb z => (hs.2 b hb).trans z) he new
theorem dk_new {P : Program} {w : World} {H' : Hp} {h' : Heap} {kvs : List (Key × V)} {vs : List (Key × Value)} (z : kvs.length ≤ sizeLine) (hd : (a == sysModules) = false) (rel : KV kvs vs) (dd : h'.DictOf (mixKind P w) a vs) :
   ObjOk P w H' h' a (.dK kvs) := ⟨z, hd, vs, rel, dd⟩
theorem d_setItem {H' : Hp} {Q : Unit → Shared → Prop} (hu : A.units + 1 < cLine) (I : Inv X pins σ H s) (g : DPut H a y v H') (ry : RelV y u) (rv : RelV v r) (h : ∀ s', Inv X pins σ H' s' → Q () s') :
   wpAny (model X.prog X.w) A (setItem (.ref a) u r) Q E s := by
 rcases g with ⟨kvs, k, e, ey, l, eH⟩ | ⟨kvs, k, b, e, ey, eb, l, eH⟩
 · subst ey eH
   obtain ⟨z, hd, vs, rel, dd⟩ := dk_of I.hok e
   have hz : vs.length ≤ sizeLine := by rw [← rel.length]; exact z
   have hl : (putK kvs k v).length ≤ sizeLine := by have := length_putK kvs k v; omega
   refine wpAny_setItem_pairs (hsz := hz) (kV_is ry) dd fun h' dd' hs => h _ ?_
   have he : ∃ q, h'.get? a = some q := let ⟨q, _, _, hq, _⟩ := dd'; ⟨q, hq⟩
   exact d_write I (by rw [e]; exact True.intro) hs he (dk_new hl hd (rel.put k rv) dd')
 · exact False.elim (show ObjOk X.prog X.w H s.heap a (.dT kvs) from I.hok a _ e)
end
section
variable {X : Cx} {pins : List (Addr × Obj)} {σ : St} {H : Hp} {s : Shared} {a : Addr} {kvs : List (Key × V)} {k : Key} {u : Value} {A : Around} {E : Value → Shared → Prop}
end
def NoSl (i : Expr) : Prop := ∀ ov iv, subscripted i false ov iv = operate [ov, iv] (getItem ov iv)
theorem subD_of {prog : Program} {w : World} {A : Around} {E : Value → Shared → Prop} {s : Shared} {env : Env} {value slice : Expr} {pos : Pos} {T id : String} {Q : Value → Shared → Prop}
   (hl : typeLookup (.type T) "__getitem__" = pure (some (.builtin id))) (hs : NoSl slice)
   (h : wpAny (model prog w) A (eval value env) (fun o s₁ => wpAny (model prog w) A (eval slice env) (fun i s₂ => s₂.TypeIs o T ∧ wpAny (model prog w) A (getItem o i) Q E s₂) E s₁) E s) :
   wpAny (model prog w) A (eval (.Subscript value slice pos) env) Q E s := by
 refine Subscript_ (wpAny_mono h (fun o s₁ h₁ => wpAny_mono h₁ (fun i s₂ h₂ => ?_) fun _ _ x => x) fun _ _ x => x)
 obtain ⟨hT, h₂⟩ := h₂
 unfold subscriptTail
 refine wpAny_bind ?_
 rw [getitemInPython_of_ne hT.not_modules]
 refine wpAny_bind (wpAny_specialOf hT hl ?_)
 have fin : wpAny (model prog w) A (subscripted slice false o i) (fun r s₃ => wpAny (model prog w) A (letTemporaryGo value o r >>= fun _ => pure r) Q E s₃) E s₂ := by
   rw [hs o i]
   exact wpAny_operating (wpAny_mono h₂ (fun r s₃ h₃ => wpAny_bind (wpAny_letTemporaryGo (wpAny_pure h₃))) fun _ _ x => x)
 first
   | exact wpAny_pure (wpAny_bind fin)
   | exact wpAny_bind (wpAny_pure (wpAny_bind fin))
   | exact wpAny_bind fin
theorem dict_typeIs {X : Cx} {pins : List (Addr × Obj)} {σ : St} {H : Hp} {s : Shared} {a : Addr} {y : V} {o : Option V} (I : Inv X pins σ H s) (g : DGet H a y o) : s.TypeIs (.ref a) "dict" := by
 rcases g with ⟨kvs, k, e, _, _⟩ | ⟨kvs, k, b, e, _, _, _⟩
 · obtain ⟨_, _, vs, _, dd⟩ := dk_rd I.hok e
   exact dd.typeIs
 · obtain ⟨_, _, xs, _, dd⟩ := dt_rd I.hok e
   exact dd.typeIs
def tDGet (td ty : TE) : TE := fun σ H Q => td σ H fun x H1 => ty σ H1 fun y H2 => ∃ a v, x = .ref a ∧ DGet H2 a y (some v) ∧ Q v H2
def tDIn (ty td : TE) : TE := fun σ H Q => ty σ H fun y H1 => td σ H1 fun x H2 => ∃ a o, x = .ref a ∧ DGet H2 a y o ∧ Q (.bl o.isSome) H2
def tDNotIn (ty td : TE) : TE := fun σ H Q => ty σ H fun y H1 => td σ H1 fun x H2 => ∃ a o, x = .ref a ∧ DGet H2 a y o ∧ Q (.bl (!o.isSome)) H2
def sDPut (td ty tv : TE) : TS := fun D σ H => tv σ H fun v H1 => td σ H1 fun x H2 => ty σ H2 fun y H3 => ∃ a H4, x = .ref a ∧ DPut H3 a y v H4 ∧ D.nx σ H4
section
variable {X : Cx} {o i e value : Expr} {pos pos' tpos : Pos} {td ty tv : TE}
theorem pe_dget (hu : X.A.units + 1 < cLine) (ho : PE X o td) (hi : PE X i ty) (hs : NoSl i) : PE X (.Subscript o i pos) (tDGet td ty) := by
 intro pins s σ H Q I h
 refine subD_of PySem.F.slot_dict_getitem.lookup hs (thn (ho pins s σ H _ I h) fun u s1 ⟨x, H1, I1, rx, q1⟩ => thn (hi pins s1 σ H1 _ I1 q1) fun iv s2 ⟨y, H2, I2, ry, a, v, ex, g, q2⟩ => ?_)
 subst ex
 obtain rfl : u = Value.ref a := rx
 exact ⟨dict_typeIs I2 g, d_getItem hu I2 g ry fun w' s3 I3 rw' => ⟨v, H2, I3, rw', q2⟩⟩
theorem pc_din (hu : X.A.units + 1 < cLine) (hi : PE X i ty) (ho : PE X o td) : PC X .In i o (tDIn ty td) := by
 intro pins s σ H Q I h
 refine thn (hi pins s σ H _ I h) fun iv s1 ⟨y, H1, I1, ry, q1⟩ => thn (ho pins s1 σ H1 _ I1 q1) fun u s2 ⟨x, H2, I2, rx, a, ov, ex, g, q2⟩ => ?_
 subst ex
 obtain rfl : u = Value.ref a := rx
 exact d_in hu I2 g ry fun s3 I3 => ⟨.bl ov.isSome, H2, I3, rfl, q2⟩
theorem pc_dnotin (hu : X.A.units + 1 < cLine) (hi : PE X i ty) (ho : PE X o td) : PC X .NotIn i o (tDNotIn ty td) := by
 intro pins s σ H Q I h
 refine thn (hi pins s σ H _ I h) fun iv s1 ⟨y, H1, I1, ry, q1⟩ => thn (ho pins s1 σ H1 _ I1 q1) fun u s2 ⟨x, H2, I2, rx, a, ov, ex, g, q2⟩ => ?_
 subst ex
 obtain rfl : u = Value.ref a := rx
 exact d_notIn hu I2 g ry fun s3 I3 => ⟨.bl (!ov.isSome), H2, I3, rfl, q2⟩
theorem ps_dput (hu : X.A.units + 1 < cLine) (ho : PE X o td) (hi : PE X i ty) (hv : PE X value tv) (hs : swapsWith value (some (.Subscript o i pos')) pos.line X.env = pure false) :
   PS X (.Assign [.Subscript o i pos'] value pos) (sDPut td ty tv) := by
 intro pins s σ H D I h
 refine wpAny_Assign_Subscript (thn (hv pins s σ H _ I h) fun r s1 ⟨v, H1, I1, rv, q1⟩ => thn (ho pins s1 σ H1 _ I1 q1) fun u s2 ⟨x, H2, I2, rx, q2⟩ => thn (hi pins s2 σ H2 _ I2 q2) fun iv s3 ⟨y, H3, I3, ry, a, H4, ex, g, q3⟩ => ?_) hs
 subst ex
 obtain rfl : u = Value.ref a := rx
 exact d_setItem hu I3 g ry rv fun s4 I4 => ⟨σ, H4, I4, q3⟩
end
theorem dk_empty {P : Program} {w : World} {H : Hp} (h : Heap) (hb : sysModules < h.objs.size) : ObjOk P w H (h.push { cls := .type "dict", data := .dict #[] }) h.objs.size (.dK []) :=
 ⟨Nat.zero_le _, beq_eq_false_iff_ne.mpr (Ne.symm (Nat.ne_of_lt hb)), [], .nil, Heap.DictOf.new h⟩
def tDNewK : TE := fun _ H Q => ∀ p, H p = none → Q (.ref p) (upd H p (.dK []))
section
variable {X : Cx} {pos : Pos}
theorem pe_dnewK : PE X (.Dict [] [] pos) tDNewK := fun pins s σ H Q I h =>
 wpAny_Dict_empty ⟨.ref s.heap.objs.size, _, I.laid (a := s.heap.objs.size) (o := .dK []) (t' := s.toks) (fun _ _ q => Heap.get?_push_of_some _ q) (Nat.le_refl _) (dk_empty s.heap I.big), rfl, h _ (I.hok.fresh (Nat.le_refl _))⟩
end
structure M1 (X : Cx) (o : Expr) (m : Str) (apos : Pos) (e : Expr) (cpos : Pos) : Prop where
 base : attributeBase o m X.env (eval o X.env) = eval o X.env
 few : ((backTo cpos (starEach [e] X.env)).all (fun x => !x.1) && (backToKw cpos (keywordEach [] X.env)).all (fun x => x.1.isSome)
   && decide (([e] : List Expr).length + ([] : List Keyword).length + (if ([] : List Keyword).isEmpty then 0 else 1) < 30)) = true
 line : (apos.endLine == cpos.line) = true
 trees : backTo cpos (starEach [e] X.env) = [(false, eval e X.env)]
structure M2 (X : Cx) (o : Expr) (m : Str) (apos : Pos) (e f : Expr) (cpos : Pos) : Prop where
 base : attributeBase o m X.env (eval o X.env) = eval o X.env
 few : ((backTo cpos (starEach [e, f] X.env)).all (fun x => !x.1) && (backToKw cpos (keywordEach [] X.env)).all (fun x => x.1.isSome)
   && decide (([e, f] : List Expr).length + ([] : List Keyword).length + (if ([] : List Keyword).isEmpty then 0 else 1) < 30)) = true
 line : (apos.endLine == cpos.line) = true
 trees : backTo cpos (starEach [e, f] X.env) = [(false, eval e X.env), (false, eval f X.env)]
section
variable {X : Cx} {pins : List (Addr × Obj)} {σ : St} {H : Hp} {s : Shared} {a : Addr} {y d : V} {u r : Value} {o : Option V} {A : Around} {E : Value → Shared → Prop}
end
section
variable {X : Cx} {o e f : Expr} {apos cpos : Pos} {td ty tx : TE}
end
section
variable {X : Cx} {pins : List (Addr × Obj)} {σ : St} {H : Hp} {s : Shared} {a : Addr} {kvs : List (Key × V)} {A : Around} {E : Value → Shared → Prop}
end
section
variable {X : Cx} {pins : List (Addr × Obj)} {σ : St} {H : Hp} {s : Shared} {a : Addr} {y : V} {u : Value} {A : Around} {E : Value → Shared → Prop}
end
end L2
namespace L2
open PySem PySem.Spec PyProof.Rows
section
variable {κ : Type} [DecidableEq κ]
end
end L2
namespace LP
open PySem L2
theorem cut_from {α : Type} (l : List α) (i : Nat) : cut l (some (i : Int)) none = l.drop i := by
 unfold cut
 show (l.drop (if (i : Int) < 0 then ((i : Int) + (l.length : Int)).toNat else min (i : Int).toNat l.length)).take (l.length - (if (i : Int) < 0 then ((i : Int) + (l.length : Int)).toNat else min (i : Int).toNat l.length)) = l.drop i
 rw [if_neg (by omega), Int.toNat_natCast]
 by_cases h : i ≤ l.length
 · rw [Nat.min_eq_left h, List.take_of_length_le (by rw [List.length_drop]; omega)]
 · rw [Nat.min_eq_right (by omega), List.drop_eq_nil_of_le (Nat.le_refl _), List.drop_eq_nil_of_le (by omega)]
   simp
end LP
namespace L2
open PySem PySem.Spec PyProof.Rows
structure Md (P : Program) (w : World) (K : PySem.W.Frag) (mg : Str → Option Value) (base : Heap) (CX : CXT) (k : Nat) (C : Addr) (m : Str) (ps : List Str) (dvs : List V) (sp : Sp) : Prop where
 ex : ∃ f fd ds, FnOk P w K mg base CX k f fd ps sp ∧ Meth K C m f ∧ Binds K fd ps ds ∧ Vals dvs ds
 cls : Cls K C
structure Mkr (P : Program) (w : World) (K : PySem.W.Frag) (mg : Str → Option Value) (base : Heap) (CX : CXT) (k : Nat) (x : Str) (C : Addr) (ps : List Str) (dvs : List V) (sp : Sp) : Prop where
 ex : ∃ f fd ds, FnOk P w K mg base CX k f fd ps sp ∧ Mk K C f ∧ Binds K fd ps ds ∧ Vals dvs ds
 at_ : mg x = some (.ref C)
section
variable {P : Program} {w : World} {K : PySem.W.Frag} {mg : Str → Option Value} {base : Heap} {CX : CXT} {j k : Nat} {C : Addr} {x m : Str} {ps : List Str} {dvs : List V} {sp : Sp}
theorem quietX {f : Addr} {fd : FuncData} (F : FnOk P w K mg base (CX1 P w) k f fd ps sp) : FnOk P w K mg base CX0 k f fd ps (fun vs H Q _ => sp vs H Q E0) := by
 refine ⟨fun vs H Q E h => F.len vs H Q E0 h, fun A outer s H args us vs Q E hr e0 hb rv h => ?_⟩
 refine codeAny_mono (F.run A outer s H args us vs Q E0 hr e0 hb rv h) fun r s' q => ?_
 cases r with
 | error e => exact (cx1_none q).elim
 | ok fl => cases fl <;> exact q
end
section
variable {X : Cx} {k : Nat} {C : Addr} {x m : Str} {ps : List Str} {dvs : List V} {sp : Sp} {o e : Expr} {es : List Expr} {ta : TE} {t : TA} {p pos apos : Pos}
variable {F : St → XK}
theorem run_fnX {pins : List (Addr × Obj)} {σ : St} {H : Hp} {s : Shared} {Q : VK} {us : List Value} {vs : List V} {f : Addr} {fd : FuncData} {ds : List Value} (T : Tk X F) (G : FnOk X.prog X.w X.K X.mg X.base (CX1 X.prog X.w) k f fd ps sp) (hr : Room k X.A) (hb : Binds X.K fd ps ds) (hd : Vals dvs ds)
   (I : Inv X pins σ H s) (r : Vals vs us) (h : sp (vs ++ dvs) H Q (F σ)) : wpAny (model X.prog X.w) X.A (call (.ref f) us) (EP X pins σ Q) X.xe s := by
 have r2 : Vals (vs ++ dvs) (us ++ ds) := r.append hd
 have hl : (us ++ ds).length = ps.length := by rw [← r2.length]; exact G.len _ _ _ _ h
 refine wpAny_call (codeAny_mono (G.run X.A X.stack s H ⟨us, []⟩ (us ++ ds) (vs ++ dvs) Q (F σ) hr I.env0 (hb s us I.kIn hl) r2 h) fun r s' hq => ?_)
 cases r with
 | error e => exact T.pass pins σ H s e s' I hq
 | ok fl =>
   cases fl with
   | ret u => exact I.after hq
   | next => exact False.elim hq
   | brk => exact False.elim hq
   | cont => exact False.elim hq
def tMethX (F : St → XK) (C : Addr) (m : Str) (sp : Sp) (dvs : List V) (ta : TE) (t : TA) : TE := fun σ H Q => ta σ H fun x H1 => ∃ a dx fs, x = .ref a ∧ H1 a = some (.ins C dx fs) ∧ fs.lookup m = none ∧ t σ H1 fun vs H2 => sp (x :: (vs ++ dvs)) H2 Q (F σ)
theorem pe_mdX {pl : Sem Bool} (T : Tk X F) (M : Md X.prog X.w X.K X.mg X.base (CX1 X.prog X.w) k C m ps dvs sp) (hr : Room k X.A) (he : PE X o ta) (ha : PA X (e :: es) t)
   (hst : starEach (e :: es) X.env = (false, eval e X.env) :: starEach es X.env := by rfl) (hpl : (backTo pos (starEach es X.env)).any (·.1) = false := by rfl)
   (ht : eval (.Call (.Attribute o m apos) (e :: es) [] pos) X.env = (do
     let ov ← eval o X.env
     standAt apos.atName
     let (f, first) ← holding [ov] (getMethod ov m pl)
     callWith pos f first (backTo pos (starEach (e :: es) X.env)) (backToKw pos (keywordEach [] X.env))) := by rfl) : PE X (.Call (.Attribute o m apos) (e :: es) [] pos) (tMethX F C m sp dvs ta t) := by
 obtain ⟨f, fd, ds, G, hm, hb, hd⟩ := M.ex
 intro pins s σ H Q I h
 refine PySem.W.methodCall_KW (pl := pl) (thn (he pins s σ H _ I h) fun u s1 ⟨x, H1, I1, rx, a, dx, fs, ex, ea, l, q⟩ => ?_) ht
 subst ex
 obtain rfl : u = Value.ref a := rx
 refine getmeth_ok I1 ea M.cls hm l ?_
 refine PySem.W.callWith_K (first := [.ref a]) (h₀ := X.base) I.ok.mod.kin hm.kp (thn (ha pos pins s1 σ H1 _ I1 q) fun us s2 ⟨vs, H2, I2, r, q2⟩ => ⟨I2.kIn, ?_⟩) hst hpl
 exact run_fnX (us := .ref a :: us) (vs := .ref a :: vs) T G hr hb hd I2 (.cons rfl r) q2
def tMakeX (F : St → XK) (C : Addr) (sp : Sp) (dvs : List V) (t : TA) : TE := fun σ H Q => t σ H fun vs H1 => ∀ x dx, H1 x = none → H1 dx = none → dx ≠ x →
 sp (.ref x :: (vs ++ dvs)) (upd (upd H1 dx (.own x)) x (.ins C dx [])) (fun v H2 => v = .non ∧ Q (.ref x) H2) (F σ)
theorem pe_mkX (T : Tk X F) (M : Mkr X.prog X.w X.K X.mg X.base (CX1 X.prog X.w) k x C ps dvs sp) (hr : Room (k + 1) X.A) (ha : PA X (e :: es) t) (hg : Gl X x := by rfl) (hdb : (x == ("__debug__" : Str)) = false := by decide)
   (he : starEach (e :: es) X.env = (false, eval e X.env) :: starEach es X.env := by rfl) (hpl : (backTo pos (starEach es X.env)).any (·.1) = false := by rfl) : PE X (.Call (.Name x p) (e :: es) [] pos) (tMakeX F C sp dvs t) := by
 obtain ⟨f, fd, ds, G, hm, hb, hd⟩ := M.ex
 intro pins s σ H Q I h
 refine wpAny_Call_Name_kw (ld_glob I hg M.at_ ?_ hdb)
 refine PySem.W.callWith_K (h₀ := X.base) I.ok.mod.kin hm.kp (thn (ha pos pins s σ H _ I h) fun us s1 ⟨vs, H1, I1, r, q⟩ => ⟨I1.kIn, ?_⟩) he hpl
 have hq := q (s1.heap.objs.size + 1) s1.heap.objs.size (I1.hok.fresh (Nat.le_succ _)) (I1.hok.fresh (Nat.le_refl _)) (Nat.ne_of_lt (Nat.lt_succ_self _))
 have I2 := Inv.made (C := C) I1
 have r2 : Vals (V.ref (s1.heap.objs.size + 1) :: (vs ++ dvs)) (Value.ref (s1.heap.objs.size + 1) :: (us ++ ds)) := .cons rfl (r.append hd)
 have hl : (Value.ref (s1.heap.objs.size + 1) :: us ++ ds).length = ps.length := by
   have e := r2.length
   rw [G.len _ _ _ _ hq] at e
   exact e.symm
 refine wpAny_call (make_map (f := f) I1.kIn hm.makes hm.init (beq_iff_eq.mp hm.fn) (codeAny_mono (G.run _ X.stack _ _ ⟨Value.ref (s1.heap.objs.size + 1) :: us, []⟩ (Value.ref (s1.heap.objs.size + 1) :: (us ++ ds)) _ _ (F σ) (hr.make C us [])
   (I2.env0.make C us []) (hb _ (Value.ref (s1.heap.objs.size + 1) :: us) I2.kIn hl) r2 hq) fun r s' hq' => ?_))
 cases r with
 | error e => exact T.pass pins σ _ _ e s' I2 hq'
 | ok fl =>
   cases fl with
   | ret u =>
     obtain ⟨v, H', I3, rv, ev, q3⟩ := I2.after hq'
     subst ev
     exact ⟨rv, ⟨V.ref (s1.heap.objs.size + 1), H', I3, rfl, q3⟩⟩
   | next => exact False.elim hq'
   | brk => exact False.elim hq'
   | cont => exact False.elim hq'
end
end L2
namespace L2
open PySem PySem.Spec PyProof.Rows
structure RoomW (k : Nat) (A : Around) : Prop where
 dp : A.depth + 3 * k + 5 < recursionLimit
 un : A.units + 16 * k + 200 < cLine
theorem Room.toW {k : Nat} {A : Around} (r : Room k A) : RoomW k A := ⟨r.dp, r.un⟩
theorem RoomW.mono {j k : Nat} {A : Around} (r : RoomW k A) (h : j ≤ k) : RoomW j A := ⟨by have := r.dp; omega, by have := r.un; omega⟩
theorem RoomW.deeper {k : Nat} {A : Around} (r : RoomW (k + 1) A) (env : Env) : RoomW k (A.deeper env) :=
 ⟨by have := r.dp; show A.depth + 1 + 3 * k + 5 < _; omega, by have := r.un; show A.units + 3 + 16 * k + 200 < _; omega⟩
theorem RoomW.mark {k : Nat} {A : Around} (r : RoomW k A) (v : Option Value) : RoomW k (A.mark v) := ⟨r.dp, r.un⟩
abbrev still (A : Around) : Around := { A with handled := none }
structure FnW (P : Program) (w : World) (K : PySem.W.Frag) (mg : Str → Option Value) (base : Heap) (k : Nat) (f : Addr) (fd : FuncData) (ps : List Str) (sp : Sp) : Prop where
 len : ∀ vs H Q E, sp vs H Q E → vs.length = ps.length
 run : ∀ (A : Around) (outer : List Env) (s : Shared) (H : Hp) (args : Args) (us : List Value) (vs : List V) (Q : VK), RoomW k A → Env0 P w K mg base A outer s H → BindsTo s fd args (ps.zip us) → Vals vs us → sp vs H Q E0 →
   codeAny (model P w) A (.call (.ref f) args) (CR CX0 outer P w H s Q E0) s
def cxW (P : Program) (w : World) (K : PySem.W.Frag) (mg : Str → Option Value) (base : Heap) (N : List Str) (qual : Str) (scope : Scope) (f : Addr) (cd : Value) (A : Around) (outer : List Env) (s : Shared) (H : Hp) : Cx :=
 { cxOf CX0 P w K mg base N qual scope f cd A outer s H E0 with calm := false, xe := fun _ _ => False }
theorem Inv.toW {P : Program} {w : World} {K : PySem.W.Frag} {mg : Str → Option Value} {base : Heap} {N : List Str} {qual : Str} {scope : Scope} {f : Addr} {cd : Value} {A : Around} {outer : List Env} {s : Shared} {H : Hp} {pins : List (Addr × Obj)} {σ : St} {H1 : Hp} {s1 : Shared}
   (I : Inv (cxOf CX0 P w K mg base N qual scope f cd (still A) outer s H E0) pins σ H1 s1) : Inv (cxW P w K mg base N qual scope f cd A outer s H) pins σ H1 s1 :=
 ⟨⟨I.ok.mod, I.ok.kind, I.ok.glob, I.ok.blt, I.ok.above, I.ok.inj, I.ok.has, I.ok.cab, fun z => absurd (show false = true from z) Bool.false_ne_true, I.ok.frames, I.ok.stk, I.ok.exf, I.ok.bs, I.ok.bsz, I.ok.noex, I.ok.exfs, I.ok.funs, I.ok.frf⟩, I.os, I.bare, I.base, I.loc, I.cell, I.free, I.freeC, I.pin, I.hok, I.len⟩
theorem Env0.still {P : Program} {w : World} {K : PySem.W.Frag} {mg : Str → Option Value} {base : Heap} {A : Around} {outer : List Env} {s : Shared} {H : Hp} (e : Env0 P w K mg base A outer s H) : Env0 P w K mg base (still A) outer s H :=
 ⟨e.frames, e.mod, e.bs, e.bsz, e.funs, e.frf, e.hok, e.bare⟩
section
variable {P : Program} {w : World} {K : PySem.W.Frag} {mg : Str → Option Value} {base : Heap}
end
structure FnV (P : Program) (w : World) (K : PySem.W.Frag) (mg : Str → Option Value) (base : Heap) (k : Nat) (x : Str) (ps : List Str) (sp : Sp) : Prop where
 ex : ∃ f fd, FnW P w K mg base k f fd ps sp ∧ mg x = some (.ref f) ∧ PySem.W.keepIn K (.ref f) = true ∧ Binds K fd ps []
section
variable {X : Cx} {k : Nat} {x : Str} {ps : List Str} {sp : Sp} {p pos : Pos} {e : Expr} {es : List Expr} {t : TA}
end
end L2
namespace L2
open PySem PySem.Spec PyProof.Rows
def tCutS (t : TS) : TS := fun D σ H => ∃ N : St → Hp → Prop, t { nx := N, rt := D.rt, bk := D.bk, ct := D.ct } σ H ∧ ∀ σ' H', N σ' H' → D.nx σ' H'
theorem cutS {t : TS} {D : Ends} {σ : St} {H : Hp} (N : St → Hp → Prop) (h1 : t { nx := N, rt := D.rt, bk := D.bk, ct := D.ct } σ H) (h2 : ∀ σ' H', N σ' H' → D.nx σ' H') : tCutS t D σ H := ⟨N, h1, h2⟩
theorem ps_cut {X : Cx} {st : Stmt} {t : TS} (h : PS X st t) : PS X st (tCutS t) := by
 rintro pins s σ H D I ⟨N, q, hn⟩
 refine thn (h pins s σ H _ I q) fun f s1 z => ?_
 cases f with
 | next => obtain ⟨σ1, H1, I1, q⟩ := z; exact ⟨σ1, H1, I1, hn _ _ q⟩
 | brk => exact z
 | cont => exact z
 | ret u => exact z
end L2
namespace LP
end LP
namespace LP
open PySem L2
end LP
namespace L2
open PySem PySem.Spec PyProof.Rows
section
variable {X : Cx}
end
end L2
namespace LO
end LO
namespace L2
open PySem PySem.Spec PyProof.Rows
inductive EqT (K : PySem.W.Frag) (H : Hp) : Nat → V → V → Prop
 | flat {n : Nat} {x y : V} (hx : flatV x = true) (hy : flatV y = true) (h : eqV x y = true) : EqT K H n x y
 | same {n : Nat} (a : Addr) : EqT K H n (.ref a) (.ref a)
 | tup {n : Nat} {a b : Addr} {xs ys : List V} (ha : SqT K H a xs) (hb : SqT K H b ys) (hl : xs.length = ys.length) (h : ∀ (j : Nat) (x y : V), xs[j]? = some x → ys[j]? = some y → EqT K H n x y) : EqT K H (n + 1) (.ref a) (.ref b)
 | lst {n : Nat} {a b : Addr} {xs ys : List V} (ha : SqL K H a xs) (hb : SqL K H b ys) (hl : xs.length = ys.length) (h : ∀ (j : Nat) (x y : V), xs[j]? = some x → ys[j]? = some y → EqT K H n x y) : EqT K H (n + 1) (.ref a) (.ref b)
section
variable {X : Cx} {pins : List (Addr × Obj)} {σ : St} {H : Hp} {s : Shared}
end
section
variable {X : Cx}
end
end L2
namespace LP
open PySem L2
def flat (rs : List (Nat × Nat)) : List Nat := (rs.map fun r => List.replicate r.2 r.1).flatten
structure GoodR (rs : List (Nat × Nat)) : Prop where
 pos : ∀ r ∈ rs, 1 ≤ r.2
 ne : ∀ (j : Nat) (a b : Nat × Nat), rs[j]? = some a → rs[j + 1]? = some b → a.1 ≠ b.1
def SameT (H H' : Hp) : Prop := ∀ t xs, H t = some (.tup xs) → H' t = some (.tup xs)
theorem sameT_of {H H' : Hp} (sm : Same H H') : SameT H H' := fun t xs h => sm t _ h
end LP
namespace L2
open PySem PySem.Spec PyProof.Rows
theorem addr_ne {x y : Nat} (h : x ≠ y) : @Ne Addr x y := h
theorem zip_apart {n a b : Nat} (la : a < n) (lb : b < n) : @ZipApart (n + 4 : Nat) (n + 2 : Nat) (n + 3 : Nat) n (n + 1 : Nat) a b :=
 ⟨addr_ne (by omega), addr_ne (by omega), addr_ne (by omega), addr_ne (by omega), addr_ne (by omega), addr_ne (by omega), addr_ne (by omega), addr_ne (by omega), addr_ne (by omega),
  addr_ne (by omega), addr_ne (by omega), addr_ne (by omega), addr_ne (by omega), addr_ne (by omega), addr_ne (by omega), addr_ne (by omega), addr_ne (by omega), addr_ne (by omega)⟩
section
variable {X : Cx} {es : List Expr} {k : Nat} {tp : Pos}
abbrev g2 (K : PySem.W.Frag) (i j : Nat) : TG := gTup K 2 (gCons (gName i) (gCons (gName j) gNil))
section
variable {elt iter : Expr} {ifs : List Expr} {u v : Str} {pu pv : Pos} {scope : Scope} {pos : Pos} {cl : List (Str × Addr)} {own : List Str} {cp : List (Str × Nat)} {ta : TA} {tl : TE} {tc : TT} {te : TE}
end
end
end L2
namespace L2
open PySem PySem.Spec PyProof.Rows
section
variable {X : Cx}
end
theorem bt_set : bootBuiltins "set" = some (.type "set") := by decide +kernel
end L2
namespace L2
end L2
namespace L2
open PySem
theorem bk_same {P : Addr} {pos : Pos} {q : Str} {H H' : Hp} (h : Bk P pos q H) (sm : Same H H') : Bk P pos q H' := by
 rcases h with h | ⟨c', h1, h2⟩
 · exact .inl (sm _ _ h)
 · exact .inr ⟨c', sm _ _ h1, sm _ _ h2⟩
end L2
namespace LO
theorem cons_le {a b : Nat} {x y : List Nat} (h : a :: x ≤ b :: y) : a < b ∨ (a = b ∧ x ≤ y) := by
 have h' : ¬ (b :: y < a :: x) := List.not_lt.mpr h
 rw [List.cons_lt_cons_iff] at h'
 by_cases hab : a = b
 · exact .inr ⟨hab, List.not_lt.mp fun z => h' (.inr ⟨hab.symm, z⟩)⟩
 · exact .inl (Nat.lt_of_le_of_ne (Nat.le_of_not_lt fun z => h' (.inl z)) hab)
theorem len_sub {α : Type} [DecidableEq α] : ∀ {ks ps : List α}, ks.Nodup → (∀ x ∈ ks, x ∈ ps) → ks.length ≤ ps.length
 | [], _, _, _ => Nat.zero_le _
 | x :: r, ps, nd, h => by
   have hx := h x (List.mem_cons_self ..)
   obtain ⟨n1, n2⟩ := List.nodup_cons.mp nd
   have := len_sub (ks := r) (ps := ps.erase x) n2 fun y hy => by
     have hne : y ≠ x := by rintro rfl; exact n1 hy
     exact (List.mem_erase_of_ne hne).mpr (h y (List.mem_cons_of_mem _ hy))
   rw [List.length_erase_of_mem hx] at this
   have := List.length_pos_of_mem hx
   rw [List.length_cons]
   omega
end LO
namespace LO
def cms (t : List Nat) : List Nat := 0 :: (List.range t.length).map fun k => LW.com (t.drop ((ord t).getD k 0)) (t.drop ((ord t).getD (k + 1) 0))
end LO
namespace LO
open LW L2
def en (t : List Nat) (k : Nat) : List Nat := t.drop ((ord t).getD k 0)
def cmx (t : List Nat) (k : Nat) : Nat := (cms t ++ [0]).getD k 0
def lone (t : List Nat) (p : Nat) : Option Nat := if p + (1 + max (cmx t (rank t p)) (cmx t (rank t p + 1))) ≤ t.length then some (1 + max (cmx t (rank t p)) (cmx t (rank t p + 1))) else none
end LO
namespace L2
end L2
namespace LO
open LW L2
def newAt (t : List Nat) (k : Nat) : List (List Nat) := (List.range ((en t k).length - cmx t k)).map fun j => (en t k).take (cmx t k + 1 + j)
def pcs (t : List Nat) : List (List Nat) := [] :: (List.range (t.length + 1)).flatMap (newAt t)
def kinds (t : List Nat) : Nat := (pcs t).length
end LO
namespace L2
open PySem
section
variable {X : Cx}
end
end L2
namespace L2
open PySem PySem.Spec PyProof.Rows
def TabOk (w : World) (t : SetTable) (n : Nat) : Prop := (w.params.followText "set-order" = false → t.led = true) ∧ (0 < n → t.plain = false)
abbrev sObj (es : Array (Int × Value)) (ep : Nat) (t : SetTable) : Obj := { cls := .type "set", dict := none, data := .set es ep t }
def SetStr (prog : Program) (w : World) (h : Heap) (a : Addr) (S : Str → Bool) (n : Nat) : Prop :=
 ∃ es ep t, h.get? a = some (sObj es ep t) ∧ ElemsOf (PySem.strKind prog w) es.toList ∧ (∀ k, S k = true ↔ ∃ e ∈ es.toList, (PySem.strKind prog w).is k e.2 = true) ∧ es.size < scanBound ∧ t.fits es.size = true ∧ es.size = n ∧ TabOk w t es.size
theorem orStand_led (t : SetTable) (n : Nat) : (t.orStandIn n).led = t.led ∧ (t.plain = false → (t.orStandIn n).plain = false) := by
 unfold SetTable.orStandIn
 split
 · exact ⟨rfl, id⟩
 · exact ⟨rfl, fun _ => rfl⟩
theorem lay_led (t : SetTable) (es : Array (Int × Value)) (h : Int) (x : Value) : (layNew t es h x).2.1.led = t.led ∧ (t.plain = false → (layNew t es h x).2.1.plain = false) := by
 unfold layNew
 split
 · rename_i slot wd _
   have := orStand_led (t.put slot).1 (SetTable.insertAt es (t.put slot).2 (h, x)).size
   exact ⟨this.1.trans rfl, fun z => this.2 z⟩
 · exact ⟨rfl, fun _ => rfl⟩
theorem relaid_led {t t' : SetTable} {hs : Array Int} {n : Nat} {order : Array Nat} (h : t.relaid hs n = some (t', order)) : t'.led = t.led ∧ t'.plain = t.plain := by
 unfold SetTable.relaid SetTable.laid at h
 simp only [Option.bind_eq_bind, Option.bind_eq_some_iff, Option.pure_def, Option.some.injEq, Prod.mk.injEq] at h
 obtain ⟨_, _, e, _⟩ := h
 rw [← e]
 exact ⟨rfl, rfl⟩
theorem relay_led (t : SetTable) (es : Array (Int × Value)) (n : Nat) : (relayAll t es n).2.1.led = t.led ∧ (t.plain = false → (relayAll t es n).2.1.plain = false) := by
 unfold relayAll
 split
 · rename_i t' order e
   have := relaid_led e
   dsimp only
   split
   · exact ⟨this.1, fun z => this.2.trans z⟩
   · exact ⟨rfl, fun _ => rfl⟩
 · exact ⟨rfl, fun _ => rfl⟩
section
variable {prog : Program} {w : World} {A : Around} {E : Value → Shared → Prop} {s : Shared}
theorem store_at {h : Heap} {a : Addr} {es es' : Array (Int × Value)} {ep : Nat} {t t' : SetTable} (ho : h.get? a = some (sObj es ep t)) : (h.update a (Obj.putSet es' t')).get? a = some (sObj es' (ep + 1) t') := by
 have e := putSet_of (o := sObj es ep t) es' t' rfl
 have g := Heap.get?_update_self (Obj.putSet es' t') ho (by rw [e]; rfl)
 rw [e] at g
 exact g
theorem tail_str {g : Bool → Sem Unit} (gok : ∀ (b : Bool) (z : Shared) (R : Unit → Shared → Prop), R () z → wpAny (model prog w) A (g b) R E z) {a : Addr} {es : Array (Int × Value)} {ep : Nat} {t : SetTable} (ho : s.heap.get? a = some (sObj es ep t))
   {fs : Array (Int × Value)} {u : SetTable} {S' : Str → Bool} (el : ElemsOf (PySem.strKind prog w) fs.toList) (mem : ∀ k, S' k = true ↔ ∃ e ∈ fs.toList, (PySem.strKind prog w).is k e.2 = true) (small : fs.size < scanBound) (fit : u.fits fs.size = true) (tab : TabOk w u fs.size)
   {wd : Bool} {R : Option Bool → Shared → Prop} (fin : ∀ h', Heap.SameBut a s.heap h' → SetStr prog w h' a S' fs.size → R (some true) { s with heap := h' }) :
   wpAny (model prog w) A (do
       storeSet a fs u
       if (!wd && u.tooFull) = true then do
           g (relayAll u fs (SetTable.grown fs.size)).2.2
           storeSet a (relayAll u fs (SetTable.grown fs.size)).1 (relayAll u fs (SetTable.grown fs.size)).2.1
           pure (some true)
         else pure (some true)) R E s := by
 refine wpAny_bind (wpAny_storeSet_of ho rfl ?_ (fits_of_scanBound small))
 have o1 := store_at (es' := fs) (t' := u) ho
 have b1 := Heap.SameBut.update s.heap a (Obj.putSet fs u)
 split
 · have pm := relayAll_perm u fs (SetTable.grown fs.size)
   have ft := relayAll_fits u fs (SetTable.grown fs.size)
   have ld := relay_led u fs (SetTable.grown fs.size)
   generalize relayAll u fs (SetTable.grown fs.size) = rl at pm ft ld ⊢
   obtain ⟨gs, v, gv⟩ := rl
   dsimp only at pm ft ld ⊢
   have sz : gs.size = fs.size := by rw [← Array.length_toList, pm.length_eq, Array.length_toList]
   refine wpAny_bind (gok _ _ _ (wpAny_bind (wpAny_storeSet_of o1 rfl ?_ (fits_of_scanBound (by rw [sz]; exact small)))))
   have o2 := store_at (es' := gs) (t' := v) o1
   refine wpAny_pure (fin _ (b1.trans (Heap.SameBut.update _ a _)) ⟨gs, _, v, o2, el.perm pm, fun k => (mem k).trans ⟨fun ⟨e, he, q⟩ => ⟨e, pm.mem_iff.mpr he, q⟩, fun ⟨e, he, q⟩ => ⟨e, pm.mem_iff.mp he, q⟩⟩, by rw [sz]; exact small, ft, sz, ?_⟩)
   rw [sz]
   exact ⟨fun z => ld.1.trans (tab.1 z), fun z => ld.2 (tab.2 z)⟩
 · exact wpAny_pure (fin _ b1 ⟨fs, _, u, o1, el, mem, small, fit, rfl, tab⟩)
theorem add_str {a : Addr} {S : Str → Bool} {n : Nat} {x : Str} {tk : Tok} {Q : Bool → Shared → Prop} (st : SetStr prog w s.heap a S n) (room : n + 1 < scanBound)
   (fin : ∀ h', Heap.SameBut a s.heap h' → SetStr prog w h' a (fun k => S k || decide (k = x)) (if S x then n else n + 1) → Q (!S x) { s with heap := h' }) :
   wpAny (model prog w) A (setAddHashed a (.str x tk) ((PySem.strKind prog w).hash x)) Q E s := by
 obtain ⟨es, ep, t, ho, el, mem, small, fit, rfl, tab⟩ := st
 have key : (PySem.strKind prog w).is x (.str x tk) = true := by
   show Value.isStrOf x (.str x tk) = true
   simp [Value.isStrOf, Value.isStr]
 unfold setAddHashed setAddHashedIn
 refine wpAny_holding (wpAny_bind (wpAny_setState_of ho rfl fit ?_))
 dsimp only
 rw [byScan_of (knd := PySem.strKind prog w) (x := .str x tk) rfl small el]
 simp only [↓reduceIte]
 unfold setAddByScan
 refine wpAny_bind (wpAny_bind (wpAny_rule (wpAny_bind (wpAny_setScan_of (knd := PySem.strKind prog w) key ho rfl fit el ?_))))
 cases found : List.findIdx? (fun e => (PySem.strKind prog w).is x e.2) es.toList with
 | some j =>
   dsimp only
   obtain ⟨hj, at_, _⟩ := List.findIdx?_eq_some_iff_getElem.mp found
   have yes : S x = true := (mem x).mpr ⟨es.toList[j], List.getElem_mem hj, at_⟩
   refine wpAny_pure (wpAny_pure ?_)
   have f := fin s.heap (Heap.SameBut.refl a s.heap) ⟨es, ep, t, ho, el, fun k => ?_, small, fit, by rw [yes]; rfl, tab⟩
   · rw [yes] at f
     exact f
   · rw [Bool.or_eq_true, decide_eq_true_eq, ← mem k]
     exact ⟨fun z => z.elim id fun e => e ▸ yes, .inl⟩
 | none =>
   dsimp only
   have no : S x = false := by
     cases hx : S x with
     | false => rfl
     | true =>
       obtain ⟨e, he, q⟩ := (mem x).mp hx
       have := List.findIdx?_eq_none_iff.mp found e he
       rw [q] at this
       cases this
   have pm := layNew_perm t es ((PySem.strKind prog w).hash x) (.str x tk)
   have ft := layNew_fits t es ((PySem.strKind prog w).hash x) (.str x tk)
   have ld := lay_led t es ((PySem.strKind prog w).hash x) (.str x tk)
   generalize layNew t es ((PySem.strKind prog w).hash x) (.str x tk) = ly at pm ft ld ⊢
   obtain ⟨fs, u, wd, gave⟩ := ly
   dsimp only at pm ft ld ⊢
   rw [Array.toList_push] at pm
   have el' : ElemsOf (PySem.strKind prog w) fs.toList := (el.push key rfl).perm pm
   have mem' := mem_push_iff (knd := PySem.strKind prog w) key mem pm
   have sz : fs.size = es.size + 1 := by rw [← Array.length_toList, pm.length_eq, List.length_append, Array.length_toList]; rfl
   have gok : ∀ (b : Bool) (z : Shared) (R : Unit → Shared → Prop), R () z → wpAny (model prog w) A (match b with | true => rule "set.scan.the-table-gave-way" | false => pure ()) R E z := fun b z R q => by
     cases b
     · exact wpAny_pure q
     · exact wpAny_rule q
   refine wpAny_bind (gok _ _ _ ?_)
   have last : ∀ h', Heap.SameBut a s.heap h' → SetStr prog w h' a (fun k => S k || decide (k = x)) fs.size → Q true { s with heap := h' } := fun h' sb q => by
     have f := fin h' sb
     rw [no, if_neg Bool.false_ne_true] at f
     rw [sz] at q
     exact f q
   split
   · rename_i pl
     refine wpAny_bind ?_
     rw [hashByValue_scannable 8 (x := .str x tk) rfl]
     refine wpAny_pure ?_
     show wpAny _ _ _ _ _ _
     refine tail_str (w := w) (fun b z R q => gok b z R q) ho el' mem' (by omega) (u := { u with plain := false }) (SetTable.fits_plain_off ft) ⟨fun z => ld.1.trans (tab.1 z), fun _ => rfl⟩ fun h' sb q => ?_
     exact wpAny_pure (last h' sb q)
   · rename_i pl
     refine wpAny_bind (wpAny_pure ?_)
     simp only [↓reduceIte]
     refine tail_str (w := w) (fun b z R q => gok b z R q) ho el' mem' (by omega) ft ⟨fun z => ld.1.trans (tab.1 z), fun _ => by simpa using pl⟩ fun h' sb q => ?_
     exact wpAny_pure (last h' sb q)
end
def memS (ds : List Nat) : Str → Bool := fun k => ds.any fun c => decide (k = T [c])
theorem memS_T (ds : List Nat) (c : Nat) : memS ds (T [c]) = decide (c ∈ ds) := by
 unfold memS
 rw [Bool.eq_iff_iff, List.any_eq_true, decide_eq_true_eq]
 refine ⟨fun ⟨d, hd, e⟩ => ?_, fun h => ⟨c, h, by simp⟩⟩
 have := T_inj.mp (of_decide_eq_true e)
 rw [List.head_eq_of_cons_eq this]
 exact hd
theorem setStr_congr {prog : Program} {w : World} {h : Heap} {a : Addr} {S S' : Str → Bool} {n n' : Nat} (x : SetStr prog w h a S n) (e : ∀ k, S k = S' k) (en : n = n') : SetStr prog w h a S' n' := by
 have : S = S' := funext e
 subst this en
 exact x
section
variable {prog : Program} {w : World} {A : Around} {E : Value → Shared → Prop} {s : Shared}
theorem fill_str {R : Result → Shared → Prop} {I : Addr} {fp wr : List Addr} {G : Array GenState → Array GenState → Prop} {n : Nat} {P : Nat → Value → Prop} {St : Nat → Shared → Prop} (W : WalksS prog w A.in1 I fp wr G n P St) (a : Addr) (out : a ∉ fp) (ys : List Nat) (hn : n = ys.length)
   (hP : ∀ i v, P i v → ∃ c u, ys[i]? = some c ∧ v = .str (T [c]) u) (room : n + 1 < scanBound) : ∀ (k i : Nat) (s : Shared) (ds : List Nat), n - i = k → i ≤ n → St i s → ds.Nodup → (∀ c, c ∈ ds ↔ c ∈ ys.take i) → ds.length ≤ i → SetStr prog w s.heap a (memS ds) ds.length →
     (∀ s' ds, Moved (a :: wr) G s s' → ds.Nodup → (∀ c, c ∈ ds ↔ c ∈ ys) → SetStr prog w s'.heap a (memS ds) ds.length → R (.ok (.ret .none)) s') → codeAny (model prog w) A (.builtin "set.update.loop" ⟨[.ref a, .ref I], []⟩) R s := by
 have aw : a ∉ wr := fun h => out (W.sub _ h)
 have more : ∀ b ∈ wr, b ∈ a :: wr := fun b hb => List.mem_cons_of_mem _ hb
 have stay : ∀ {s s' : Shared} {S : Str → Bool} {m : Nat}, SetStr prog w s.heap a S m → Moved wr G s s' → SetStr prog w s'.heap a S m := fun {s s' S m} x mv => by
   obtain ⟨es, ep, t, ho, r⟩ := x
   exact ⟨es, ep, t, mv.heap a _ aw ho, r⟩
 intro k
 induction k with
 | zero =>
   intro i s ds hk hi st nd mem len set fin
   have : i = n := by omega
   subst this
   refine codeAny_builtin F.entry_set_update_loop ?_
   rw [Around.under_plainId F.plain_set_update_loop _]
   show wpAny _ A.in1 (pyNext (.ref I) >>= _) _ _ s
   refine wpAny_bind (W.done s _ _ st fun s' mv => ?_)
   exact wpAny_pure (fin s' ds (mv.mono more) nd (fun c => by rw [mem c, List.take_of_length_le (by omega)]) (stay set mv))
 | succ k ih =>
   intro i s ds hk hi st nd mem len set fin
   have lt : i < n := by omega
   refine codeAny_builtin F.entry_set_update_loop ?_
   rw [Around.under_plainId F.plain_set_update_loop _]
   show wpAny _ A.in1 (pyNext (.ref I) >>= _) _ _ s
   refine wpAny_bind (W.item i s _ _ lt st fun v s' hv st' mv => ?_)
   obtain ⟨c, u, hc, rfl⟩ := hP i v hv
   show wpAny _ A.in1 (holding [Value.str (T [c]) u] (setAdd a (.str (T [c]) u)) >>= _) _ _ s'
   refine wpAny_bind (wpAny_holding ?_)
   unfold setAdd
   have key : (PySem.strKind prog w).is (T [c]) (.str (T [c]) u) = true := by
     show Value.isStrOf (T [c]) (.str (T [c]) u) = true
     simp [Value.isStrOf, Value.isStr]
   refine wpAny_holding (wpAny_bind ((PySem.strKind prog w).pyHash (k := T [c]) key ?_))
   refine add_str (s := { s' with toks := s'.toks + 1 }) (show SetStr prog w s'.heap a _ _ from stay set mv) (by omega) fun h' sb set2 => ?_
   have mem2 : ∀ d, d ∈ (if c ∈ ds then ds else ds ++ [c]) ↔ d ∈ ys.take (i + 1) := fun d => by
     rw [List.take_succ, hc, List.mem_append, ← mem d]
     split
     · rename_i h
       exact ⟨.inl, fun z => z.elim id fun e => by have : d = c := by simpa using e
                                                   rw [this]; exact h⟩
     · simp
   have nd2 : (if c ∈ ds then ds else ds ++ [c]).Nodup := by
     split
     · exact nd
     · rename_i h
       rw [List.nodup_append]
       exact ⟨nd, by simp, fun x hx y hy e => h (by rw [← List.mem_singleton.mp hy, ← e]; exact hx)⟩
   have len2 : (if c ∈ ds then ds else ds ++ [c]).length ≤ i + 1 := by
     split
     · omega
     · rw [List.length_append, List.length_singleton]
       omega
   have set3 : SetStr prog w h' a (memS (if c ∈ ds then ds else ds ++ [c])) (if c ∈ ds then ds else ds ++ [c]).length := by
     refine setStr_congr set2 (fun k => ?_) ?_
     · split
       · rename_i h
         rw [Bool.eq_iff_iff, Bool.or_eq_true, decide_eq_true_eq]
         refine ⟨fun z => z.elim id fun e => ?_, .inl⟩
         rw [e, memS_T]
         exact decide_eq_true h
       · unfold memS
         rw [List.any_append]
         simp
     · rw [memS_T]
       by_cases h : c ∈ ds
       · simp [h]
       · simp [h]
   refine wpAny_pure ⟨plainId_quiet F.plain_set_update_loop _, ih (i + 1) _ _ (by omega) lt (W.frame _ s' _ _ st' (Nat.le_succ _) fun b hb o e => ?_) nd2 mem2 len2 set3 fun s2 ds' mv2 nd' mem' set' => ?_⟩
   · rw [sb.2 b (fun z : b = a => out (z ▸ hb))]
     exact e
   · refine fin s2 ds' (Moved.trans W.gtrans ((mv.mono more).then_heap (Nat.le_succ _) fun b o hb e => ?_) mv2) nd' mem' set'
     rw [sb.2 b (fun z : b = a => hb (z ▸ List.mem_cons_self))]
     exact e
end
end L2
namespace L2
open PySem PySem.Spec PyProof.Rows
theorem sub_str_set : isSubtype (.type "str") (.type "set") = pure false := by rw [isSubtype_type]; kernel_rfl
theorem sub_str_frozen : isSubtype (.type "str") (.type "frozenset") = pure false := by rw [isSubtype_type]; kernel_rfl
section
variable {prog : Program} {w : World} {A : Around} {E : Value → Shared → Prop} {s : Shared}
theorem set_new_led (v : Value) {Q₁ : Value → Shared → Prop} (h : Q₁ (.ref s.heap.objs.size) { s with heap := s.heap.push (sObj #[] 0 (.fresh 0 0 (!w.params.followText "set-order"))) }) :
   codeAny (model prog w) A (.call (.builtin "set.__new__") ⟨[.type "set", v], []⟩) (wants Q₁ E) s := by
 refine codeAny_of_tree ?_
 show wpAny _ A.in1 (do checkBuiltinCall "set.__new__" ⟨[.type "set", v], []⟩; again (.builtin "set.__new__" ⟨[.type "set", v], []⟩)) _ _ s
 refine wpAny_bind (wpAny_of_eq (F.newCall_set_1 v) (wpAny_pure ⟨plainId_quiet F.plain_set_new _, codeAny_builtin F.entry_set_new ?_⟩))
 rw [Around.under_plainId F.plain_set_new _]
 unfold Builtin.«set.__new__» Builtin.Frozenset.newClass
 have sub := sub_set_self
 obtain ⟨hp, g, d, tk, os⟩ := s
 dsimp only
 wp_walk
 refine wpAny_askSetting (wpAny_pure ?_)
 dsimp only
 simp only [newObj]
 exact wpAny_bind (wpAny_alloc (wpAny_pure (wpAny_pure h)))
set_option maxHeartbeats 3200000 in
theorem call_set_str {x : Str} {tk : Tok} {Q : Value → Shared → Prop} (hh : A.handled = none) (small : (L x).length + 1 < scanBound)
   (h : ∀ (h' : Heap) (tk' : Nat) (ds : List Nat), SetStr prog w h' s.heap.objs.size (memS ds) ds.length → ds.Nodup → (∀ c, c ∈ ds ↔ c ∈ L x) → (∀ b o, b < s.heap.objs.size → s.heap.get? b = some o → h'.get? b = some o) → Q (.ref s.heap.objs.size) { s with heap := h', toks := tk' }) :
   wpAny (model prog w) A (call (.type "set") [.str x tk]) Q E s := by
 obtain ⟨c, tl, hmro⟩ := F.called_set.mro
 have hmade := F.called_set.made
 have hsub := F.called_set.sub
 refine wpAny_call (codeAny_of_tree ?_)
 show wpAny _ _ (callAny (.type "set") _) _ _ _
 refine wpAny_pure ⟨Code.quiet_builtin _ (by decide +kernel), codeAny_builtin F.entry_type_call ?_⟩
 rw [Around.under_plain (weight_type_call_type "set" [.str x tk] []) rfl]
 have h1 := F.called_set.notType
 have h2 := F.called_set.canCreate
 have hct := F.typeCall_set_1 (.str x tk)
 repeat (any_goals (first | assumption | wp_step))
 refine codeAny_mono (set_new_led (.str x tk) (E := E) (Q₁ := fun obj z => obj = .ref s.heap.objs.size ∧ z = { s with heap := s.heap.push (sObj #[] 0 (.fresh 0 0 (!w.params.followText "set-order"))) }) ⟨rfl, rfl⟩) fun r z hr => ?_
 cases r with
 | error e => exact hr
 | ok fl =>
   cases fl with
   | ret obj =>
     obtain ⟨rfl, rfl⟩ := hr
     generalize hled : (!w.params.followText "set-order") = led
     have own : (s.heap.push (sObj #[] 0 (.fresh 0 0 led))).get? s.heap.objs.size = some (sObj #[] 0 (.fresh 0 0 led)) := Heap.get?_push_size _ rfl
     have hT : Shared.TypeIs { s with heap := s.heap.push (sObj #[] 0 (.fresh 0 0 led)) } (.ref s.heap.objs.size) "set" := ⟨_, own, rfl⟩
     have hli := F.called_set.init.lookup
     have hbi := F.called_set.init.bind (.ref s.heap.objs.size)
     repeat (any_goals (first | assumption | wp_step))
     refine codeAny_mono (codeAny_call_builtin (R := wants (fun r z => r = .none ∧ ∃ h' tk' ds, z = { s with heap := h', toks := tk' } ∧ SetStr prog w h' s.heap.objs.size (memS ds) ds.length ∧ ds.Nodup ∧ (∀ c, c ∈ ds ↔ c ∈ L x) ∧
         (∀ b o, b < s.heap.objs.size → s.heap.get? b = some o → h'.get? b = some o)) E) F.called_set.init.plain F.entry_set_init (check_set_init_1 hT ?_)) fun r₂ z₂ hr₂ => ?_
     · have hsls := sub_str_set
       have hslf := sub_str_frozen
       have hne : (Value.type "str" == Value.type "dict") = false := by decide
       have hts : Shared.TypeIs { s with heap := s.heap.push (sObj #[] 0 (.fresh 0 0 led)) } (.str x tk) "str" := typeIs_str _ _ _
       unfold Builtin.«set.__init__» noKeywords Builtin.Frozenset.updateFrom
       generalize hPI : pyIter = PI
       wp_walk
       subst hPI
       refine wpAny_pyIter_str fun o St W st => ?_
       refine wpAny_bind (wpAny_runValue ?_)
       have hh3 : A.in1.in1.in1.handled = none := by simp [hh]
       have hsz : (s.heap.push (sObj #[] 0 (.fresh 0 0 led))).objs.size = s.heap.objs.size + 1 := Heap.size_push ..
       have hlx : x.cps.size = (L x).length := by unfold L; simp
       have out : s.heap.objs.size ∉ [(s.heap.push (sObj #[] 0 (.fresh 0 0 led))).objs.size] := by
         rw [hsz, List.mem_singleton]
         exact Nat.ne_of_lt (Nat.lt_succ_self _)
       refine fill_str ((W _ hh3).toS) s.heap.objs.size out (L x) hlx (fun i v hv => ?_) (by rw [hlx]; exact small) (x.cps.size - 0) 0 _ [] (by omega) (Nat.zero_le _) st List.nodup_nil (fun c => by simp) (Nat.zero_le _) ?_ fun z ds mv nd mem set => ?_
       · obtain ⟨d, u, e1, e2⟩ := hv
         refine ⟨d, u, ?_, e2⟩
         unfold L
         rw [Array.getElem?_toList]
         exact e1
       · refine ⟨#[], 0, _, Heap.get?_push_of_some _ own, fun e he => by simp at he, fun k => ?_, by decide, rfl, rfl, fun z => ?_, fun z => absurd z (Nat.lt_irrefl _)⟩
         · simp [memS]
         · rw [← hled, z]
           rfl
       · obtain ⟨h', g', d', tk', os'⟩ := z
         have eg : g' = s.gens := mv.gens
         have ed : d' = s.drawn := mv.drawn
         have eo : os' = s.os := mv.os
         subst eg ed eo
         refine wpAny_pure (wpAny_pure ⟨rfl, h', tk', ds, rfl, set, nd, mem, fun b o hb e => ?_⟩)
         refine mv.heap b o ?_ (Heap.get?_push_of_some _ (Heap.get?_push_of_some _ e))
         rw [hsz]
         simp only [List.mem_cons, List.mem_singleton, List.not_mem_nil, or_false, not_or]
         exact ⟨Nat.ne_of_lt hb, Nat.ne_of_lt (Nat.lt_succ_of_lt hb)⟩
     · cases r₂ with
       | error e => exact hr₂
       | ok fl₂ =>
         cases fl₂ with
         | ret r =>
           obtain ⟨rfl, h', tk', ds, rfl, q1, q2, q3, q4⟩ := hr₂
           repeat (any_goals (first | assumption | wp_step))
           exact h _ _ _ q1 q2 q3 q4
         | _ => exact hr₂.elim
   | _ => exact hr.elim
end
end L2
namespace L2
open PySem PySem.Spec PyProof.Rows
def StrSet (w : World) (h : Heap) (a : Addr) (cs : List Nat) : Prop := ∃ es ep t, h.get? a = some (sObj es ep t) ∧ Vals (cs.map fun c => V.str (T [c])) (es.toList.map (·.2)) ∧ t.fits es.size = true ∧ es.size < scanBound ∧ TabOk w t es.size
theorem perm_sub {α : Type} [DecidableEq α] : ∀ {ds cs : List α}, ds.Nodup → (∀ x ∈ ds, x ∈ cs) → cs.length = ds.length → cs.Perm ds
 | [], cs, _, _, h => by
   rw [List.length_eq_zero_iff.mp h]
 | d :: r, cs, nd, sub, h => by
   obtain ⟨n1, n2⟩ := List.nodup_cons.mp nd
   have hd := sub d (List.mem_cons_self ..)
   have p1 : cs.Perm (d :: cs.erase d) := List.perm_cons_erase hd
   refine p1.trans (List.Perm.cons d (perm_sub n2 (fun x hx => ?_) ?_))
   · have hne : x ≠ d := by rintro rfl; exact n1 hx
     exact (List.mem_erase_of_ne hne).mpr (sub x (List.mem_cons_of_mem _ hx))
   · rw [List.length_erase_of_mem hd, h, List.length_cons]
     omega
theorem signs_of {prog : Program} {w : World} {ds : List Nat} : ∀ {es : List (Int × Value)}, ElemsOf (PySem.strKind prog w) es → (∀ e ∈ es, ∀ k, (PySem.strKind prog w).is k e.2 = true → memS ds k = true) →
   ∃ cs : List Nat, Vals (cs.map fun c => V.str (T [c])) (es.map (·.2)) ∧ (∀ c ∈ cs, c ∈ ds) ∧ ∀ c, (∃ e ∈ es, (PySem.strKind prog w).is (T [c]) e.2 = true) → c ∈ cs
 | [], _, _ => ⟨[], .nil, fun c h => (List.not_mem_nil h).elim, fun c ⟨e, h, _⟩ => (List.not_mem_nil h).elim⟩
 | e :: r, el, mem => by
   obtain ⟨cs, v1, m1, m2⟩ := signs_of (ds := ds) el.tail fun x hx => mem x (List.mem_cons_of_mem _ hx)
   obtain ⟨⟨k, hk, _⟩, _⟩ := el.head
   obtain ⟨t, ht⟩ := Value.isStrOf_shape hk
   have hm := mem e (List.mem_cons_self ..) k hk
   unfold memS at hm
   rw [List.any_eq_true] at hm
   obtain ⟨c, hc, ec⟩ := hm
   have ec := of_decide_eq_true ec
   subst ec
   refine ⟨c :: cs, .cons ⟨t, ht⟩ v1, fun d hd => ?_, fun d ⟨x, hx, hk2⟩ => ?_⟩
   · rcases List.mem_cons.mp hd with rfl | hd
     · exact hc
     · exact m1 d hd
   · rcases List.mem_cons.mp hx with rfl | hx
     · have : T [d] = T [c] := (PySem.strKind prog w).inj _ _ _ hk2 hk
       rw [List.head_eq_of_cons_eq (T_inj.mp this)]
       exact List.mem_cons_self ..
     · exact List.mem_cons_of_mem _ (m2 d ⟨x, hx, hk2⟩)
theorem strSet_of {prog : Program} {w : World} {h : Heap} {a : Addr} {ds : List Nat} (st : SetStr prog w h a (memS ds) ds.length) (nd : ds.Nodup) : ∃ cs, cs.Perm ds ∧ StrSet w h a cs := by
 obtain ⟨es, ep, t, ho, el, mem, small, fit, sz, tab⟩ := st
 obtain ⟨cs, v1, m1, m2⟩ := signs_of (ds := ds) el fun e he k hk => (mem k).mpr ⟨e, he, hk⟩
 have hl := v1.length
 rw [List.length_map, List.length_map] at hl
 have hl : cs.length = ds.length := hl.trans (Array.length_toList.trans sz)
 refine ⟨cs, perm_sub nd (fun c hc => m2 c ((mem (T [c])).mp ?_)) hl, es, ep, t, ho, v1, fit, small, tab⟩
 rw [memS_T]
 exact decide_eq_true hc
def SetO (w : World) (a : Addr) (cs : List Nat) : HO := .ext fun h => StrSet w h a cs
section
variable {X : Cx}
def setT (w : World) : List V → Hp → VK → Prop := fun vs H Q => match vs with
 | [.str z] => (L z).length ≤ 1000 ∧ ∀ p cs, H p = none → cs.Nodup → (∀ c, c ∈ cs ↔ c ∈ L z) → Q (.ref p) (upd H p (SetO w p cs))
 | _ => False
theorem c_setT {w : World} (hw : X.w = w) (hc : X.calm = true) : CallR X (.type "set") (setT w) := by
 subst hw
 intro pins s σ H vs us Q I r h
 unfold setT at h
 split at h
 · rename_i z
   obtain ⟨hl, q⟩ := h
   obtain ⟨u, rfl, ru⟩ := vals1 r
   obtain ⟨t, rfl⟩ := ru
   refine call_set_str (prog := X.prog) (w := X.w) (I.ok.hd hc) (by unfold scanBound; omega) fun h' tk ds set nd mem kp => ?_
   obtain ⟨cs, pm, ss⟩ := strSet_of set nd
   have hn := I.hok.fresh (Nat.le_refl s.heap.objs.size)
   refine ⟨.ref s.heap.objs.size, _, I.laid (o := SetO X.w s.heap.objs.size cs) (t' := tk) (fun b o e => kp b o (Heap.lt_size e) e) (Nat.le_refl _) ⟨ss, ?_, ?_⟩, rfl, q _ cs hn (pm.nodup_iff.mpr nd) fun c => (pm.mem_iff).trans (mem c)⟩
   · obtain ⟨es, ep, t, ho, _⟩ := ss
     exact ⟨_, ho⟩
   · rintro h1 h2 ⟨es, ep, t, ho, r⟩ k
     exact ⟨es, ep, t, k _ ho, r⟩
 · exact h.elim
end
end L2
namespace L2
open PySem PySem.Spec PyProof.Rows
theorem slot_seti_next : Slot "set_iterator" "__next__" "set_iterator.__next__" :=
 .of (owner := "set_iterator") (n := "__next__") (by rw [typeLookup_type, builtinLookup_eq_fast]; kernel_rfl) (by decide +kernel) (by decide +kernel) (by decide +kernel) (by first | exact .inl (by decide +kernel) | exact .inr (by decide +kernel)) (by rw [isSubtype_type]; kernel_rfl)
theorem entry_seti_next : entryFor table "set_iterator.__next__" = some Builtin.«set_iterator.__next__» := entryFor_of_tree (by kernel_rfl)
theorem args_seti_next (v : Value) : argsOk "set_iterator.__next__" ⟨[v], []⟩ := by unfold argsOk; kernel_rfl
theorem slot_seti_iter : Slot "set_iterator" "__iter__" "set_iterator.__iter__" :=
 .of (owner := "set_iterator") (n := "__iter__") (by rw [typeLookup_type, builtinLookup_eq_fast]; kernel_rfl) (by decide +kernel) (by decide +kernel) (by decide +kernel) (by first | exact .inl (by decide +kernel) | exact .inr (by decide +kernel)) (by rw [isSubtype_type]; kernel_rfl)
theorem entry_seti_iter : entryFor table "set_iterator.__iter__" = some Builtin.«dict_keyiterator.__iter__» :=
 entryFor_alias (id' := "dict_keyiterator.__iter__") (by kernel_rfl) (by first | rfl | decide +kernel) (by decide +kernel) (by kernel_rfl)
theorem args_seti_iter (v : Value) : argsOk "set_iterator.__iter__" ⟨[v], []⟩ := by unfold argsOk; kernel_rfl
theorem entry_set_iter2 : entryFor table "set.__iter__" = some Builtin.«frozenset.__iter__» :=
 entryFor_alias (id' := "frozenset.__iter__") (by kernel_rfl) (by first | rfl | decide +kernel) (by decide +kernel) (by kernel_rfl)
def IsSI (h : Heap) (I : Addr) (first : Value) (i : Nat) (a : Addr) (n ep : Nat) : Prop := h.get? I = some { cls := .type "set_iterator", data := .fields #[first, .int i 0, .ref a, .int n 0, .int ep 0] }
section
variable {prog : Program} {w : World} {A : Around} {E : Value → Shared → Prop} {s : Shared} {I Fr a : Addr} {i n ep : Nat} {es : Array (Int × Value)} {t : SetTable}
theorem next_drawn {pl : Array Value} {m p : Nat} {hx : Int} {x : Value} {Q : Option Value → Shared → Prop} (hI : IsSI s.heap I (.ref Fr) i a n ep) (hF : s.heap.get? Fr = some { cls := .type "tuple", data := .seq pl m }) (hS : s.heap.get? a = some (sObj es ep t)) (fit : t.fits es.size = true) (hn : es.size = n)
   (hp : pl[i]? = some (rawInt p)) (he : es[p]? = some (hx, x)) (hQ : ∀ h', IsSI h' I (.ref Fr) (i + 1) a n ep → Heap.SameBut I s.heap h' → Q (some x) { s with heap := h' }) : wpAny (model prog w) A (pyNext (.ref I)) Q E s := by
 have hT : s.TypeIs (.ref I) "set_iterator" := ⟨_, hI, rfl⟩
 unfold pyNext
 refine wpAny_bind (wpAny_attempt (wpAny_callSpecial?_slot (name := Str.ofString "__next__") hT slot_seti_next (wpAny_call_entry slot_seti_next hT entry_seti_next ?_ (args_seti_next _))))
 unfold Builtin.«set_iterator.__next__»
 refine wpAny_bind (m := slotArgs _ _ _) (wpAny_pure ?_)
 refine wpAny_bind (wpAny_fieldsOf hI rfl ?_)
 dsimp only
 refine wpAny_bind (wpAny_setEntries_of hS rfl fit ?_)
 rw [if_neg (by rw [hn]; simp)]
 refine wpAny_bind (wpAny_seqItems hF rfl ?_)
 dsimp only
 rw [Int.toNat_natCast, hp]
 show wpAny _ _ (setNextDrawn a (p : Int).toNat (ep : Int).toNat >>= _) _ _ s
 rw [Int.toNat_natCast, Int.toNat_natCast]
 refine wpAny_bind ?_
 unfold setNextDrawn
 refine wpAny_bind (wpAny_setState_of hS rfl fit ?_)
 dsimp only
 rw [if_neg (by simp), he]
 dsimp only
 refine wpAny_pure (wpAny_bind (wpAny_setField_rec hI (by simp) fun h' hI' sb => wpAny_pure ⟨x, rfl, wpAny_pure (hQ h' ?_ sb)⟩))
 show h'.get? I = _
 rw [hI']
 simp [rawInt]
theorem stop_now {Q : Option Value → Shared → Prop} {h0 : Heap} {o : Obj} {vs : Array Value} (hh : A.handled = none) (ho : h0.get? I = some { cls := .type "set_iterator", data := .fields vs }) (h2 : 2 < vs.size)
   (sb0 : ∀ b o, b ≠ I → s.heap.get? b = some o → h0.get? b = some o) (hQ : ∀ h', (∀ b o, b ≠ I → s.heap.get? b = some o → h'.get? b = some o) → Q none { s with heap := h' }) :
   wpAny (model prog w) A.in1 (do
     setField (.ref I) 2 Value.none
     let e ← newExc (Value.type "StopIteration") []
     raiseNew e : Sem PySem.Fin) (fun fin s' => ∃ v, fin = Fin.done (Flow.ret v) ∧ wpAny (model prog w) A (pure (some v)) Q E s')
     (fun e s' => wpAny (model prog w) A (do
         let b ← isInstance e (Value.type "StopIteration")
         if b = true then pure none else throw e) Q E s') { s with heap := h0 } := by
 refine wpAny_bind (wpAny_setField_rec (s := { s with heap := h0 }) ho (by simpa using h2) fun h1 h1' sb => ?_)
 refine wpAny_bind ?_
 simp only [newExc, newTuple]
 refine wpAny_bind (wpAny_newObj_type ?_ (by size_fits))
 refine wpAny_bind (m := firstArgMember _ _) (wpAny_of_eq (a := Value.none) (by first | rfl | (simp only [firstArgMember]; rfl)) ?_)
 refine wpAny_newObj_type ?_ (by size_fits)
 simp only [raiseNew]
 refine wpAny_bind (wpAny_handled ?_)
 rw [show A.in1.handled = none from hh]
 refine wpAny_bind (wpAny_pure (wpAny_throw ?_))
 refine wpAny_bind (wpAny_isInstance (T := "StopIteration") (b := true) ⟨_, Heap.get?_push_size _ rfl, rfl⟩ isSubtype_stop ?_)
 exact wpAny_pure (hQ _ fun b o hb e => Heap.get?_push_of_some _ (Heap.get?_push_of_some _ ((sb.2 b hb).trans (sb0 b o hb e))))
theorem end_drawn {pl : Array Value} {m : Nat} {Q : Option Value → Shared → Prop} (hh : A.handled = none) (hI : IsSI s.heap I (.ref Fr) i a n ep) (hF : s.heap.get? Fr = some { cls := .type "tuple", data := .seq pl m }) (hS : s.heap.get? a = some (sObj es ep t)) (fit : t.fits es.size = true) (hn : es.size = n)
   (hp : pl[i]? = none) (hQ : ∀ h', (∀ b o, b ≠ I → s.heap.get? b = some o → h'.get? b = some o) → Q none { s with heap := h' }) : wpAny (model prog w) A (pyNext (.ref I)) Q E s := by
 have hT : s.TypeIs (.ref I) "set_iterator" := ⟨_, hI, rfl⟩
 unfold pyNext
 refine wpAny_bind (wpAny_attempt (wpAny_callSpecial?_slot (name := Str.ofString "__next__") hT slot_seti_next (wpAny_call_entry slot_seti_next hT entry_seti_next ?_ (args_seti_next _))))
 unfold Builtin.«set_iterator.__next__»
 refine wpAny_bind (m := slotArgs _ _ _) (wpAny_pure ?_)
 refine wpAny_bind (wpAny_fieldsOf hI rfl ?_)
 dsimp only
 refine wpAny_bind (wpAny_setEntries_of hS rfl fit ?_)
 rw [if_neg (by rw [hn]; simp)]
 refine wpAny_bind (wpAny_seqItems hF rfl ?_)
 dsimp only
 rw [Int.toNat_natCast, hp]
 refine wpAny_bind (wpAny_setField_rec hI (by simp) fun h' hI' sb => ?_)
 exact stop_now (o := sObj es ep t) hh hI' (by simp) (fun b o hb e => (sb.2 b hb).trans e) hQ
theorem next_text {hx : Int} {x : Value} {Q : Option Value → Shared → Prop} (bt : w.params.followText "set-order" = true) (hI : IsSI s.heap I (.int 0 0) i a n ep) (hS : s.heap.get? a = some (sObj es ep t)) (fit : t.fits es.size = true) (hn : es.size = n)
   (he : (pickOrder (w.params.setOrder a ep) es)[i]? = some (hx, x)) (hQ : ∀ h', IsSI h' I (.int 0 0) (i + 1) a n ep → Heap.SameBut I s.heap h' → Q (some x) { s with heap := h' }) : wpAny (model prog w) A (pyNext (.ref I)) Q E s := by
 have hT : s.TypeIs (.ref I) "set_iterator" := ⟨_, hI, rfl⟩
 unfold pyNext
 refine wpAny_bind (wpAny_attempt (wpAny_callSpecial?_slot (name := Str.ofString "__next__") hT slot_seti_next (wpAny_call_entry slot_seti_next hT entry_seti_next ?_ (args_seti_next _))))
 unfold Builtin.«set_iterator.__next__»
 refine wpAny_bind (m := slotArgs _ _ _) (wpAny_pure ?_)
 refine wpAny_bind (wpAny_fieldsOf hI rfl ?_)
 dsimp only
 refine wpAny_bind (wpAny_setEntries_of hS rfl fit ?_)
 rw [if_neg (by rw [hn]; simp)]
 refine wpAny_bind ?_
 unfold setNext setsByText
 rw [Int.toNat_natCast, Int.toNat_natCast]
 refine wpAny_bind (wpAny_setState_of hS rfl fit ?_)
 dsimp only
 refine wpAny_bind (wpAny_bind (wpAny_askSetting (wpAny_pure ?_)))
 show wpAny _ _ (if w.params.followText "set-order" = true then _ else _) _ _ s
 rw [if_pos bt, if_neg (by simp)]
 unfold setWalk setsByText
 refine wpAny_bind (wpAny_bind (wpAny_setState_of hS rfl fit ?_))
 dsimp only
 refine wpAny_bind (wpAny_bind (wpAny_askSetting (wpAny_pure ?_)))
 show wpAny _ _ (if w.params.followText "set-order" = true then _ else _) _ _ s
 rw [if_pos bt]
 refine wpAny_bind (wpAny_askSetting (wpAny_pure ?_))
 show wpAny _ _ (pure (Option.map _ (pickOrder (w.params.setOrder a ep) es)[i]?)) _ _ s
 rw [he]
 refine wpAny_pure ?_
 dsimp only [Option.map]
 refine wpAny_bind (wpAny_setField_rec hI (by simp) fun h1 hI1 sb1 => ?_)
 refine wpAny_bind (wpAny_setField_rec (s := { s with heap := h1 }) hI1 (by simp) fun h2 hI2 sb2 => wpAny_pure ⟨x, rfl, wpAny_pure (hQ h2 ?_ (sb1.trans sb2))⟩)
 show h2.get? I = _
 rw [hI2]
 simp [rawInt]
theorem end_text {Q : Option Value → Shared → Prop} (bt : w.params.followText "set-order" = true) (hh : A.handled = none) (hI : IsSI s.heap I (.int 0 0) i a n ep) (hS : s.heap.get? a = some (sObj es ep t)) (fit : t.fits es.size = true) (hn : es.size = n)
   (he : (pickOrder (w.params.setOrder a ep) es)[i]? = none) (hQ : ∀ h', (∀ b o, b ≠ I → s.heap.get? b = some o → h'.get? b = some o) → Q none { s with heap := h' }) : wpAny (model prog w) A (pyNext (.ref I)) Q E s := by
 have hT : s.TypeIs (.ref I) "set_iterator" := ⟨_, hI, rfl⟩
 unfold pyNext
 refine wpAny_bind (wpAny_attempt (wpAny_callSpecial?_slot (name := Str.ofString "__next__") hT slot_seti_next (wpAny_call_entry slot_seti_next hT entry_seti_next ?_ (args_seti_next _))))
 unfold Builtin.«set_iterator.__next__»
 refine wpAny_bind (m := slotArgs _ _ _) (wpAny_pure ?_)
 refine wpAny_bind (wpAny_fieldsOf hI rfl ?_)
 dsimp only
 refine wpAny_bind (wpAny_setEntries_of hS rfl fit ?_)
 rw [if_neg (by rw [hn]; simp)]
 refine wpAny_bind ?_
 unfold setNext setsByText
 rw [Int.toNat_natCast, Int.toNat_natCast]
 refine wpAny_bind (wpAny_setState_of hS rfl fit ?_)
 dsimp only
 refine wpAny_bind (wpAny_bind (wpAny_askSetting (wpAny_pure ?_)))
 show wpAny _ _ (if w.params.followText "set-order" = true then _ else _) _ _ s
 rw [if_pos bt, if_neg (by simp)]
 unfold setWalk setsByText
 refine wpAny_bind (wpAny_bind (wpAny_setState_of hS rfl fit ?_))
 dsimp only
 refine wpAny_bind (wpAny_bind (wpAny_askSetting (wpAny_pure ?_)))
 show wpAny _ _ (if w.params.followText "set-order" = true then _ else _) _ _ s
 rw [if_pos bt]
 refine wpAny_bind (wpAny_askSetting (wpAny_pure ?_))
 show wpAny _ _ (pure (Option.map _ (pickOrder (w.params.setOrder a ep) es)[i]?)) _ _ s
 rw [he]
 refine wpAny_pure ?_
 dsimp only [Option.map]
 exact stop_now (h0 := s.heap) (o := sObj es ep t) hh hI (by simp) (fun b o hb e => e) hQ
end
end L2
namespace L2
open PySem PySem.Spec PyProof.Rows
theorem erase_perm {α : Type} : ∀ (l : List α) (i : Nat) (h : i < l.length), (l[i] :: l.eraseIdx i).Perm l
 | x :: r, 0, _ => List.Perm.refl _
 | x :: r, i + 1, h => by
   have h' : i < r.length := by simpa using h
   exact (List.Perm.swap x r[i] (r.eraseIdx i)).trans (List.Perm.cons x (erase_perm r i h'))
theorem pick_go {α : Type} (next : Nat → Nat) : ∀ (f k : Nat) (left : List α) (out : Array α), left.length = f → ∃ r : List α, (pickOrder.go next f k left out).toList = out.toList ++ r ∧ r.Perm left
 | 0, k, left, out, h => by
   rw [List.length_eq_zero_iff.mp h]
   exact ⟨[], by simp [pickOrder.go], List.Perm.refl _⟩
 | f + 1, k, left, out, h => by
   have hlt : next k % left.length < left.length := Nat.mod_lt _ (by omega)
   unfold pickOrder.go
   rw [List.getElem?_eq_getElem hlt]
   dsimp only
   obtain ⟨r, e, p⟩ := pick_go next f (k + 1) (left.eraseIdx (next k % left.length)) (out.push left[next k % left.length]) (by rw [List.length_eraseIdx_of_lt hlt, h]; rfl)
   refine ⟨left[next k % left.length] :: r, by rw [e]; simp, (List.Perm.cons _ p).trans ?_⟩
   exact erase_perm left _ hlt
theorem pick_perm {α : Type} (next : Nat → Nat) (xs : Array α) : (pickOrder next xs).toList.Perm xs.toList := by
 obtain ⟨r, e, p⟩ := pick_go next xs.size 0 xs.toList #[] (by simp)
 unfold pickOrder
 rw [e]
 simpa using p
section
variable {prog : Program} {w : World} {A : Around} {E : Value → Shared → Prop}
theorem wpAny_choose_any {src : Source} {n : Nat} {Q : Nat → Shared → Prop} {s : Shared} (hn : 0 < n) (h : ∀ i d, i < n → Q i { s with drawn := d }) : wpAny (model prog w) A (choose src n) Q E s := by
 intro Γ p hΓ
 unfold choose
 rw [Sem.wp_choose]
 exact ⟨by omega, h _ _ (Nat.mod_lt _ hn)⟩
theorem draw_any {α : Type} : ∀ (n : Nat) (xs : List α) (s : Shared) (Q : List α → Shared → Prop), xs.length = n → (∀ r d, r.Perm xs → Q r { s with drawn := d }) → wpAny (model prog w) A (drawOrder n xs) Q E s
 | 0, xs, s, Q, h, q => by
   rw [List.length_eq_zero_iff.mp h]
   unfold drawOrder
   exact wpAny_pure (by have := q [] s.drawn (by rw [List.length_eq_zero_iff.mp h]); exact this)
 | n + 1, [], s, Q, h, q => by simp at h
 | n + 1, x :: xs, s, Q, h, q => by
   unfold drawOrder
   refine wpAny_bind (wpAny_choose_any (by simp) fun i d hi => ?_)
   rw [List.getElem?_eq_getElem hi]
   dsimp only
   refine wpAny_bind (draw_any n ((x :: xs).eraseIdx i) _ _ (by rw [List.length_eraseIdx_of_lt hi, h]; rfl) fun r d' p => ?_)
   exact wpAny_pure (q _ d' ((List.Perm.cons _ p).trans (erase_perm _ i hi)))
end
section
variable {prog : Program} {w : World} {A : Around} {E : Value → Shared → Prop} {s : Shared} {I a : Addr} {i n ep sl : Nat} {es : Array (Int × Value)} {t : SetTable}
theorem next_small {hx : Int} {x : Value} {j : Nat} {Q : Option Value → Shared → Prop} (bt : w.params.followText "set-order" = false) (hI : IsSI s.heap I (.int sl 0) i a n ep) (hS : s.heap.get? a = some (sObj es ep t)) (fit : t.fits es.size = true) (hn : es.size = n) (one : n ≤ 1) (led : t.led = true)
   (he : es[SetTable.below t.place sl]? = some (hx, x)) (hp : t.place[SetTable.below t.place sl]? = some j) (hQ : ∀ h', IsSI h' I (.int (j + 1 : Nat) 0) (i + 1) a n ep → Heap.SameBut I s.heap h' → Q (some x) { s with heap := h' }) : wpAny (model prog w) A (pyNext (.ref I)) Q E s := by
 have hT : s.TypeIs (.ref I) "set_iterator" := ⟨_, hI, rfl⟩
 unfold pyNext
 refine wpAny_bind (wpAny_attempt (wpAny_callSpecial?_slot (name := Str.ofString "__next__") hT slot_seti_next (wpAny_call_entry slot_seti_next hT entry_seti_next ?_ (args_seti_next _))))
 unfold Builtin.«set_iterator.__next__»
 refine wpAny_bind (m := slotArgs _ _ _) (wpAny_pure ?_)
 refine wpAny_bind (wpAny_fieldsOf hI rfl ?_)
 dsimp only
 refine wpAny_bind (wpAny_setEntries_of hS rfl fit ?_)
 rw [if_neg (by rw [hn]; simp)]
 refine wpAny_bind ?_
 unfold setNext setsByText
 rw [Int.toNat_natCast, Int.toNat_natCast, Int.toNat_natCast]
 refine wpAny_bind (wpAny_setState_of hS rfl fit ?_)
 dsimp only
 refine wpAny_bind (wpAny_bind (wpAny_askSetting (wpAny_pure ?_)))
 show wpAny _ _ (if w.params.followText "set-order" = true then _ else _) _ _ s
 rw [if_neg (by rw [bt]; exact Bool.false_ne_true)]
 show wpAny _ _ (if (!t.plain && decide (es.size > 1)) = true then _ else _) _ _ s
 rw [if_neg (by rw [decide_eq_false (by omega), Bool.and_false]; exact Bool.false_ne_true)]
 refine wpAny_bind ?_
 show wpAny _ _ (if (!t.led && !es.isEmpty) = true then _ else _) _ _ s
 rw [if_neg (by rw [led]; exact Bool.false_ne_true)]
 refine wpAny_pure ?_
 rw [he, hp]
 refine wpAny_pure ?_
 dsimp only
 refine wpAny_bind (wpAny_setField_rec hI (by simp) fun h1 hI1 sb1 => ?_)
 refine wpAny_bind (wpAny_setField_rec (s := { s with heap := h1 }) hI1 (by simp) fun h2 hI2 sb2 => wpAny_pure ⟨x, rfl, wpAny_pure (hQ h2 ?_ (sb1.trans sb2))⟩)
 show h2.get? I = _
 rw [hI2]
 simp [rawInt]
theorem end_small {Q : Option Value → Shared → Prop} (bt : w.params.followText "set-order" = false) (hh : A.handled = none) (hI : IsSI s.heap I (.int sl 0) i a n ep) (hS : s.heap.get? a = some (sObj es ep t)) (fit : t.fits es.size = true) (hn : es.size = n) (one : n ≤ 1) (led : t.led = true)
   (he : es[SetTable.below t.place sl]? = none) (hQ : ∀ h', (∀ b o, b ≠ I → s.heap.get? b = some o → h'.get? b = some o) → Q none { s with heap := h' }) : wpAny (model prog w) A (pyNext (.ref I)) Q E s := by
 have hT : s.TypeIs (.ref I) "set_iterator" := ⟨_, hI, rfl⟩
 unfold pyNext
 refine wpAny_bind (wpAny_attempt (wpAny_callSpecial?_slot (name := Str.ofString "__next__") hT slot_seti_next (wpAny_call_entry slot_seti_next hT entry_seti_next ?_ (args_seti_next _))))
 unfold Builtin.«set_iterator.__next__»
 refine wpAny_bind (m := slotArgs _ _ _) (wpAny_pure ?_)
 refine wpAny_bind (wpAny_fieldsOf hI rfl ?_)
 dsimp only
 refine wpAny_bind (wpAny_setEntries_of hS rfl fit ?_)
 rw [if_neg (by rw [hn]; simp)]
 refine wpAny_bind ?_
 unfold setNext setsByText
 rw [Int.toNat_natCast, Int.toNat_natCast, Int.toNat_natCast]
 refine wpAny_bind (wpAny_setState_of hS rfl fit ?_)
 dsimp only
 refine wpAny_bind (wpAny_bind (wpAny_askSetting (wpAny_pure ?_)))
 show wpAny _ _ (if w.params.followText "set-order" = true then _ else _) _ _ s
 rw [if_neg (by rw [bt]; exact Bool.false_ne_true)]
 show wpAny _ _ (if (!t.plain && decide (es.size > 1)) = true then _ else _) _ _ s
 rw [if_neg (by rw [decide_eq_false (by omega), Bool.and_false]; exact Bool.false_ne_true)]
 refine wpAny_bind ?_
 show wpAny _ _ (if (!t.led && !es.isEmpty) = true then _ else _) _ _ s
 rw [if_neg (by rw [led]; exact Bool.false_ne_true)]
 refine wpAny_pure ?_
 rw [he]
 refine wpAny_pure ?_
 dsimp only
 exact stop_now (h0 := s.heap) (o := sObj es ep t) hh hI (by simp) (fun b o hb e => e) hQ
theorem iter_self {first : Value} {Q : Value → Shared → Prop} (hI : IsSI s.heap I first i a n ep) (h : Q (.ref I) s) : wpAny (model prog w) A (pyIter (.ref I)) Q E s := by
 have hT : s.TypeIs (.ref I) "set_iterator" := ⟨_, hI, rfl⟩
 refine wpAny_pyIter_slot hT slot_seti_iter (wpAny_call_entry slot_seti_iter hT entry_seti_iter ?_ (args_seti_iter _))
 show wpAny _ _ (ret (.ref I)) _ _ s
 exact wpAny_pure ⟨_, rfl, "set_iterator", _, hT, slot_seti_next.lookup, h⟩
theorem iter_new {Q : Value → Shared → Prop} (hS : s.heap.get? a = some (sObj es ep t)) (fit : t.fits es.size = true) (tab : TabOk w t es.size)
   (hA : ¬ (w.params.followText "set-order" = false ∧ 1 < es.size) → Q (.ref s.heap.objs.size) { s with heap := s.heap.push { cls := .type "set_iterator", data := .fields #[.int 0 0, .int 0 0, .ref a, .int es.size 0, .int ep 0] } })
   (hB : w.params.followText "set-order" = false → ∀ (r : List Nat) d, r.Perm (List.range es.size) → Q (.ref (s.heap.objs.size + 1)) { s with heap := (s.heap.push { cls := .type "tuple", data := .seq (r.map fun i : Nat => rawInt i).toArray }).push { cls := .type "set_iterator", data := .fields #[.ref s.heap.objs.size, .int 0 0, .ref a, .int es.size 0, .int ep 0] }, drawn := d })
   (small : es.size ≤ sizeLine) : wpAny (model prog w) A (pyIter (.ref a)) Q E s := by
 have hT : s.TypeIs (.ref a) "set" := ⟨_, hS, rfl⟩
 refine wpAny_pyIter_slot hT F.slot_set_iter (wpAny_call_entry F.slot_set_iter hT entry_set_iter2 ?_ (F.args_set_iter_1 _))
 unfold Builtin.«frozenset.__iter__»
 refine wpAny_bind (m := Builtin.Frozenset.slot0 _ _) (wpAny_bind (m := slotArgs _ _ _) (wpAny_pure ?_))
 refine wpAny_pure ?_
 dsimp only
 unfold Builtin.Frozenset.sizeOf
 refine wpAny_bind (wpAny_bind (wpAny_setEntries_of hS rfl fit (wpAny_pure ?_)))
 unfold setDrawn setsByText
 refine wpAny_bind (wpAny_bind (wpAny_setState_of hS rfl fit ?_))
 dsimp only
 refine wpAny_bind (wpAny_bind (wpAny_askSetting (wpAny_pure (wpAny_pure ?_))))
 show wpAny _ _ (if (!w.params.followText "set-order" && (!t.plain && decide (es.size > 1))) = true then _ else _) _ _ s
 have hep : ∀ (s' : Shared) (Q' : Nat → Shared → Prop), s'.heap.get? a = some (sObj es ep t) → Q' ep s' → wpAny (model prog w) A.in1 (setEpoch a) Q' E s' := fun s' Q' h1 h2 => wpAny_setEpoch_of h1 rfl fit h2
 refine wpAny_ite_split (fun c => ?_) fun c => ?_
 · have c1 : w.params.followText "set-order" = false := by
     cases e : w.params.followText "set-order" with
     | false => rfl
     | true => rw [e] at c; simp at c
   refine wpAny_bind (draw_any es.size (List.range es.size) s _ (by simp) fun r d pm => ?_)
   refine wpAny_bind (wpAny_newTuple ?_ (by rw [List.length_map, pm.length_eq, List.length_range]; exact small))
   refine wpAny_bind (hep _ _ (Heap.get?_push_of_some _ hS) ?_)
   refine wpAny_bind (wpAny_newObj_type (wpAny_pure ⟨_, rfl, "set_iterator", _, ⟨_, Heap.get?_push_size _ rfl, rfl⟩, slot_seti_next.lookup, ?_⟩))
   have := hB c1 r d pm
   simpa [Heap.size_push, rawInt] using this
 · refine wpAny_bind (wpAny_pure ?_)
   refine wpAny_bind (hep _ _ hS ?_)
   refine wpAny_bind (wpAny_newObj_type (wpAny_pure ⟨_, rfl, "set_iterator", _, ⟨_, Heap.get?_push_size _ rfl, rfl⟩, slot_seti_next.lookup, ?_⟩))
   refine hA fun ⟨e1, e2⟩ => c ?_
   rw [e1, tab.2 (by omega), decide_eq_true (by omega)]
   rfl
end
end L2
namespace L2
open PySem PySem.Spec PyProof.Rows
abbrev vals (es : Array (Int × Value)) : List Value := es.toList.map (·.2)
theorem val_at {es : Array (Int × Value)} {p : Nat} {v : Value} (h : (vals es)[p]? = some v) : ∃ hx, es[p]? = some (hx, v) := by
 rw [List.getElem?_map] at h
 obtain ⟨⟨hx, x⟩, e, rfl⟩ := Option.map_eq_some_iff.mp h
 exact ⟨hx, by rw [← Array.getElem?_toList]; exact e⟩
theorem out_none {α : Type} {l : List α} {n : Nat} (h : l.length ≤ n) : l.toArray[n]? = none := by
 rw [Array.getElem?_eq_none]
 simpa using h
section
variable {prog : Program} {w : World} {A : Around} {I Fr a : Addr} {es : Array (Int × Value)} {t : SetTable} {ep : Nat}
theorem walk_drawn (hh : A.handled = none) (nIF : Fr ≠ I) (nIa : a ≠ I) (fit : t.fits es.size = true) {r : List Nat} (hr : r.Perm (List.range es.size)) :
   WalksS prog w A I [I, Fr, a] [I] (fun x y => y = x) es.size (fun i v => (r.map fun p => (vals es).getD p Value.none)[i]? = some v)
     (fun i s => IsSI s.heap I (.ref Fr) i a es.size ep ∧ s.heap.get? Fr = some { cls := .type "tuple", data := .seq (r.map fun i : Nat => rawInt i).toArray } ∧ s.heap.get? a = some (sObj es ep t)) where
 sub := fun b hb => by rw [List.mem_singleton.mp hb]; simp
 grefl := fun _ => rfl
 gtrans := fun _ _ _ h1 h2 => h2.trans h1
 frame := fun i s h' tk st _ k => ⟨k I (by simp) _ st.1, k Fr (by simp) _ st.2.1, k a (by simp) _ st.2.2⟩
 item := fun i s Q E hi st hQ => by
   have hl := hr.length_eq
   rw [List.length_range] at hl
   have hri : i < r.length := by omega
   have hp : r[i] < es.size := List.mem_range.mp (hr.mem_iff.mp (List.getElem_mem hri))
   have hv : (vals es)[r[i]]? = some ((vals es).getD r[i] Value.none) := by
     rw [List.getD_eq_getElem?_getD, List.getElem?_eq_getElem (by simpa using hp)]
     rfl
   obtain ⟨hx, he⟩ := val_at hv
   refine next_drawn st.1 st.2.1 st.2.2 fit rfl (p := r[i]) (by simp [hri]) he fun h' hI sb => hQ _ _ ?_ ⟨hI, (sb.2 Fr nIF).trans st.2.1, (sb.2 a nIa).trans st.2.2⟩ ⟨fun b o hb e => (sb.2 b (fun z => hb (by simp [z]))).trans e, rfl, rfl, rfl, Nat.le_refl _⟩
   rw [List.getElem?_map, List.getElem?_eq_getElem hri]
   rfl
 done := fun s Q E st hQ => by
   have hl := hr.length_eq
   rw [List.length_range] at hl
   exact end_drawn hh st.1 st.2.1 st.2.2 fit rfl (out_none (by rw [List.length_map]; omega)) fun h' k => hQ _ ⟨fun b o hb e => k b o (fun z => hb (by simp [z])) e, rfl, rfl, rfl, Nat.le_refl _⟩
 self := fun i s Q E st hQ => iter_self st.1 hQ
theorem walk_text (bt : w.params.followText "set-order" = true) (hh : A.handled = none) (nIa : a ≠ I) (fit : t.fits es.size = true) :
   WalksS prog w A I [I, a] [I] (fun x y => y = x) es.size (fun i v => ((pickOrder (w.params.setOrder a ep) es).toList.map (·.2))[i]? = some v)
     (fun i s => IsSI s.heap I (.int 0 0) i a es.size ep ∧ s.heap.get? a = some (sObj es ep t)) where
 sub := fun b hb => by rw [List.mem_singleton.mp hb]; simp
 grefl := fun _ => rfl
 gtrans := fun _ _ _ h1 h2 => h2.trans h1
 frame := fun i s h' tk st _ k => ⟨k I (by simp) _ st.1, k a (by simp) _ st.2⟩
 item := fun i s Q E hi st hQ => by
   have hl := (pick_perm (w.params.setOrder a ep) es).length_eq
   rw [Array.length_toList, Array.length_toList] at hl
   have hi' : i < (pickOrder (w.params.setOrder a ep) es).size := by omega
   refine next_text bt st.1 st.2 fit rfl (hx := (pickOrder (w.params.setOrder a ep) es)[i].1) (x := (pickOrder (w.params.setOrder a ep) es)[i].2) (by rw [Array.getElem?_eq_getElem hi']) fun h' hI sb => hQ _ _ ?_ ⟨hI, (sb.2 a nIa).trans st.2⟩ ⟨fun b o hb e => (sb.2 b (fun z => hb (by simp [z]))).trans e, rfl, rfl, rfl, Nat.le_refl _⟩
   rw [List.getElem?_map, Array.getElem?_toList, Array.getElem?_eq_getElem hi']
   rfl
 done := fun s Q E st hQ => by
   have hl := (pick_perm (w.params.setOrder a ep) es).length_eq
   rw [Array.length_toList, Array.length_toList] at hl
   exact end_text bt hh st.1 st.2 fit rfl (by rw [Array.getElem?_eq_none]; omega) fun h' k => hQ _ ⟨fun b o hb e => k b o (fun z => hb (by simp [z])) e, rfl, rfl, rfl, Nat.le_refl _⟩
 self := fun i s Q E st hQ => iter_self st.1 hQ
theorem below_zero (j : Nat) : SetTable.below #[j] 0 = 0 := by
 simp [SetTable.below, SetTable.below.go]
theorem below_next (j : Nat) : SetTable.below #[j] (j + 1) = 1 := by
 simp [SetTable.below, SetTable.below.go]
theorem walk_small (bt : w.params.followText "set-order" = false) (hh : A.handled = none) (nIa : a ≠ I) (fit : t.fits es.size = true) (one : es.size ≤ 1) (led : t.led = true) :
   ∃ g : Nat → Nat, g 0 = 0 ∧ WalksS prog w A I [I, a] [I] (fun x y => y = x) es.size (fun i v => (vals es)[i]? = some v)
     (fun i s => IsSI s.heap I (.int (g i : Nat) 0) i a es.size ep ∧ s.heap.get? a = some (sObj es ep t)) := by
 have hps : t.place.size = es.size := by
   unfold SetTable.fits at fit
   rw [Bool.and_eq_true] at fit
   exact eq_of_beq fit.1
 by_cases h0 : es.size = 0
 · have e0 : es = #[] := Array.eq_empty_of_size_eq_zero h0
   refine ⟨fun _ => 0, rfl, fun b hb => by rw [List.mem_singleton.mp hb]; simp, fun _ => rfl, fun _ _ _ h1 h2 => h2.trans h1, fun i s h' tk st _ k => ⟨k I (by simp) _ st.1, k a (by simp) _ st.2⟩, fun i s Q E hi st hQ => by omega, fun s Q E st hQ => ?_, fun i s Q E st hQ => iter_self st.1 hQ⟩
   exact end_small bt hh st.1 st.2 fit rfl one led (by rw [e0]; simp) fun h' k => hQ _ ⟨fun b o hb e => k b o (fun z => hb (by simp [z])) e, rfl, rfl, rfl, Nat.le_refl _⟩
 · have h1 : es.size = 1 := by omega
   obtain ⟨j, hj⟩ : ∃ j, t.place = #[j] := by
     have : t.place.size = 1 := hps.trans h1
     exact ⟨t.place[0], by
       apply Array.ext
       · simpa using this
       · intro i hi1 hi2
         have : i = 0 := by simp at hi2; omega
         subst this
         rfl⟩
   have hle : (vals es).length = 1 := by simpa using h1
   have hv : (vals es)[0]? = some ((vals es).getD 0 Value.none) := by
     rw [List.getD_eq_getElem?_getD, List.getElem?_eq_getElem (by omega)]
     rfl
   obtain ⟨hx, he⟩ := val_at hv
   refine ⟨fun i => if i = 0 then 0 else j + 1, rfl, fun b hb => by rw [List.mem_singleton.mp hb]; simp, fun _ => rfl, fun _ _ _ h1 h2 => h2.trans h1, fun i s h' tk st _ k => ⟨k I (by simp) _ st.1, k a (by simp) _ st.2⟩, fun i s Q E hi st hQ => ?_, fun s Q E st hQ => ?_, fun i s Q E st hQ => iter_self st.1 hQ⟩
   · have : i = 0 := by omega
     subst this
     refine next_small bt st.1 st.2 fit rfl one led (hx := hx) (j := j) ?_ ?_ fun h' hI sb => hQ _ _ hv ⟨hI, (sb.2 a nIa).trans st.2⟩ ⟨fun b o hb e => (sb.2 b (fun z => hb (by simp [z]))).trans e, rfl, rfl, rfl, Nat.le_refl _⟩
     · rw [hj]
       show es[SetTable.below #[j] 0]? = _
       rw [below_zero]
       exact he
     · rw [hj]
       show (#[j] : Array Nat)[SetTable.below #[j] 0]? = _
       rw [below_zero]
       rfl
   · have st1 := st.1
     rw [h1] at st1
     have st1' : IsSI s.heap I (.int (j + 1 : Nat) 0) 1 a es.size ep := by rw [h1]; exact st1
     exact end_small bt hh st1' st.2 fit rfl one led (by rw [hj, below_next]; exact Array.getElem?_eq_none (by omega)) fun h' k => hQ _ ⟨fun b o hb e => k b o (fun z => hb (by simp [z])) e, rfl, rfl, rfl, Nat.le_refl _⟩
end
section
variable {prog : Program} {w : World} {A : Around} {E : Value → Shared → Prop} {s : Shared} {a : Addr} {es : Array (Int × Value)} {t : SetTable} {ep : Nat}
theorem hint_set {Q : Bool → Shared → Prop} (hS : s.heap.get? a = some (sObj es ep t)) (h : Q false s) : wpAny (model prog w) A (Builtin.List.listLengthHint (.ref a)) Q E s := by
 have hT : s.TypeIs (.ref a) "set" := ⟨_, hS, rfl⟩
 unfold Builtin.List.listLengthHint
 refine wpAny_bind (wpAny_specialOf hT F.slot_set_len.lookup ?_)
 wp_delta
 refine wpAny_bind (wpAny_isInstance (T := "set") (b := true) hT sub_set_self ?_)
 show wpAny _ _ (typeOf (Value.ref a) >>= _) _ _ _
 refine wpAny_bind (wpAny_typeOf (T := "set") hT ?_)
 exact wpAny_pure h
theorem items_list {acc : Array Value} {n : Nat} {qs : List Value} (h : ItemsOf (fun i v => qs[i]? = some v) acc n) (hn : qs.length = n) : acc.toList = qs := by
 obtain ⟨h1, h2⟩ := h
 refine List.ext_getElem? fun i => ?_
 rw [Array.getElem?_toList]
 by_cases hi : i < acc.size
 · have := h2 i acc[i] (by rw [Array.getElem?_eq_getElem hi])
   rw [Array.getElem?_eq_getElem hi, this]
 · rw [Array.getElem?_eq_none (by omega), List.getElem?_eq_none (by omega)]
theorem go_on {R : Result → Shared → Prop} {G : Array GenState → Array GenState → Prop} {n c0 : Nat} {P : Nat → Value → Prop} {St : Nat → Shared → Prop} {I S : Addr} {fp : List Addr} {res : Value} {z : Shared} (W : WalksS prog w A.in1 I fp [I] G n P St) (out : S ∉ fp) (st : St 0 z) (hn : n ≤ sizeLine)
   (h0 : z.heap.get? S = some { cls := .type "list", data := .seq #[] c0 }) (fin : ∀ s' acc c', Moved (S :: [I]) G z s' → s'.heap.get? S = some { cls := .type "list", dict := none, data := .seq acc c', slots := #[] } → ItemsOf P acc n → R (.ok (.ret res)) s') :
   wpAny (model prog w) A.in1 (do
     rule "list.extend.makes-room"
     Builtin.List.listTouch (.ref S)
     again (.builtin "list.extend.loop" ⟨[.ref S, .ref I, res], []⟩))
     (fun fin s' => match fin with | .done f => R (.ok f) s' | .again c' => c'.quiet = true ∧ codeAny (model prog w) A c' R s') (fun e s' => R (.error e) s') z := by
 refine wpAny_bind (wpAny_rule ?_)
 refine wpAny_bind ?_
 show wpAny _ _ (updateSeq S (·.push .none) >>= fun _ => updateSeq S (·.pop)) _ _ _
 refine wpAny_bind (wpAny_updateSeq h0 rfl ?_)
 have g1 := Heap.get?_update_self (Obj.mapSeq (·.push Value.none)) h0 rfl
 refine wpAny_updateSeq (hz := by seq_fits) g1 rfl ?_
 have g2 := Heap.get?_update_self (Obj.mapSeq (·.pop)) g1 rfl
 have oth : ∀ b o, b ≠ S → z.heap.get? b = some o → ((z.heap.update S (Obj.mapSeq (·.push Value.none))).update S (Obj.mapSeq (·.pop))).get? b = some o := fun b o hb e =>
   (Heap.get?_update_other _ _ (Ne.symm hb)).trans ((Heap.get?_update_other _ _ (Ne.symm hb)).trans e)
 refine wpAny_pure ⟨plainId_quiet F.plain_extend_loop _, codeAny_extend_loopS W hn _ out _ n 0 _ #[] _ rfl (Nat.zero_le _) (W.frame 0 z _ z.toks st (Nat.le_refl _) fun b hb o e => oth b o (fun y => out (y ▸ hb)) e) g2 (ItemsOf.nil _) fun s' acc c' mv hS' it => ?_⟩
 refine fin s' acc c' ⟨fun b o hb e => mv.heap b o hb (oth b o (fun y => hb (by simp [y])) e), mv.gens, mv.drawn, mv.os, mv.toks⟩ hS' it
theorem extend_set {R : Result → Shared → Prop} (hh : A.handled = none) {S : Addr} {c0 : Nat} {res : Value} (h0 : s.heap.get? S = some { cls := .type "list", data := .seq #[] c0 }) (hS : s.heap.get? a = some (sObj es ep t)) (fit : t.fits es.size = true) (tab : TabOk w t es.size) (small : es.size < scanBound)
   (hR : ∀ s' acc c', s'.gens = s.gens → s'.os = s.os → (∀ b o, b ≠ S → s.heap.get? b = some o → s'.heap.get? b = some o) → s'.heap.get? S = some { cls := .type "list", dict := none, data := .seq acc c', slots := #[] } → acc.toList.Perm (vals es) → R (.ok (.ret res)) s') :
   wpAny (model prog w) A.in1 (Builtin.List.listExtendWith (.ref S) (.ref a) res)
     (fun fin s' => match fin with | .done f => R (.ok f) s' | .again c' => c'.quiet = true ∧ codeAny (model prog w) A c' R s') (fun e s' => R (.error e) s') s := by
 have hsl : sizeLine = 16777216 := sizeLine_eq
 have sm : es.size ≤ sizeLine := by unfold scanBound at small; omega
 have nSa : S ≠ a := fun z => by rw [z, hS] at h0; simp [sObj] at h0
 have lS : S < s.heap.objs.size := Heap.lt_size h0
 have la : a < s.heap.objs.size := Heap.lt_size hS
 have vl : (vals es).length = es.size := by simp
 unfold Builtin.List.listExtendWith
 refine wpAny_bind (wpAny_typeOf (T := "set") ⟨_, hS, rfl⟩ ?_)
 have e1 : Builtin.List.listSameRef (.ref S) (.ref a) = false := by simp [Builtin.List.listSameRef, nSa]
 have e2 : (Value.type "set" == Value.type "list") = false := by decide
 have e3 : (Value.type "set" == Value.type "tuple") = false := by decide
 simp only [e1, e2, e3, Bool.or_false, Bool.false_eq_true, if_false]
 refine wpAny_bind (iter_new hS fit tab (fun no => ?_) (fun bt r d pm => ?_) sm)
 · have nI : a ≠ s.heap.objs.size := Nat.ne_of_lt la
   have kept : ∀ b o, s.heap.get? b = some o → (s.heap.push { cls := .type "set_iterator", data := .fields #[.int 0 0, .int 0 0, .ref a, .int es.size 0, .int ep 0] }).get? b = some o := fun b o e => Heap.get?_push_of_some _ e
   have new : IsSI (s.heap.push { cls := .type "set_iterator", data := .fields #[.int 0 0, .int 0 0, .ref a, .int es.size 0, .int ep 0] }) s.heap.objs.size (.int 0 0) 0 a es.size ep := Heap.get?_push_size _ rfl
   refine wpAny_bind (wpAny_holding (hint_set (kept _ _ hS) ?_))
   rw [if_pos (by decide)]
   have out : S ∉ [s.heap.objs.size, a] := by
     simp only [List.mem_cons, List.not_mem_nil, or_false, not_or]
     exact ⟨Nat.ne_of_lt lS, nSa⟩
   have fin : ∀ (qs : List Value), qs.Perm (vals es) → ∀ (s' : Shared) (acc : Array Value) (c' : Nat), Moved (S :: [s.heap.objs.size]) (fun x y => y = x) { s with heap := s.heap.push { cls := .type "set_iterator", data := .fields #[.int 0 0, .int 0 0, .ref a, .int es.size 0, .int ep 0] } } s' →
       s'.heap.get? S = some { cls := .type "list", dict := none, data := .seq acc c', slots := #[] } → ItemsOf (fun i v => qs[i]? = some v) acc es.size → R (.ok (.ret res)) s' := fun qs pm s' acc c' mv hS' it => by
     refine hR s' acc c' mv.gens mv.os (fun b o hb e => mv.heap b o ?_ (kept b o e)) hS' (by rw [items_list it (by rw [pm.length_eq, vl])]; exact pm)
     simp only [List.mem_cons, List.not_mem_nil, or_false, not_or]
     exact ⟨hb, Nat.ne_of_lt (Heap.lt_size e)⟩
   cases bt : w.params.followText "set-order" with
   | true =>
     have W := walk_text (prog := prog) (w := w) (A := A.in1) (I := s.heap.objs.size) (a := a) (es := es) (t := t) (ep := ep) bt hh nI fit
     exact go_on W out ⟨new, kept _ _ hS⟩ (by omega) (kept _ _ h0) fun s' acc c' mv hS' it => fin _ ((pick_perm _ es).map _) s' acc c' mv hS' it
   | false =>
     have one : es.size ≤ 1 := Nat.le_of_not_lt fun z => no ⟨bt, z⟩
     obtain ⟨g, g0, W⟩ := walk_small (prog := prog) (w := w) (A := A.in1) (I := s.heap.objs.size) (a := a) (es := es) (t := t) (ep := ep) bt hh nI fit one (tab.1 bt)
     exact go_on W out ⟨by rw [g0]; exact new, kept _ _ hS⟩ (by omega) (kept _ _ h0) fun s' acc c' mv hS' it => fin _ (List.Perm.refl _) s' acc c' mv hS' it
 · generalize hF : ({ cls := .type "tuple", data := .seq (r.map fun i : Nat => rawInt i).toArray } : Obj) = oF
   generalize hO : ({ cls := .type "set_iterator", data := .fields #[.ref s.heap.objs.size, .int 0 0, .ref a, .int es.size 0, .int ep 0] } : Obj) = oI
   have kept : ∀ b o, s.heap.get? b = some o → ((s.heap.push oF).push oI).get? b = some o := fun b o e => Heap.get?_push_of_some _ (Heap.get?_push_of_some _ e)
   have sz : (s.heap.push oF).objs.size = s.heap.objs.size + 1 := Heap.size_push ..
   have new : ((s.heap.push oF).push oI).get? (s.heap.objs.size + 1) = some oI := by
     have := Heap.get?_push_size (s.heap.push oF) (o := oI) (by rw [← hO]; rfl)
     rwa [sz] at this
   have newF : ((s.heap.push oF).push oI).get? s.heap.objs.size = some oF := Heap.get?_push_of_some _ (Heap.get?_push_size _ (by rw [← hF]; rfl))
   refine wpAny_bind (wpAny_holding (hint_set (kept _ _ hS) ?_))
   rw [if_pos (by decide)]
   have nF : @Ne Addr s.heap.objs.size (s.heap.objs.size + 1) := Nat.ne_of_lt (Nat.lt_succ_self _)
   have nI : @Ne Addr a (s.heap.objs.size + 1) := Nat.ne_of_lt (Nat.lt_succ_of_lt la)
   have W := walk_drawn (prog := prog) (w := w) (A := A.in1) (I := s.heap.objs.size + 1) (Fr := s.heap.objs.size) (a := a) (es := es) (t := t) (ep := ep) hh nF nI fit pm
   have out : S ∉ [s.heap.objs.size + 1, s.heap.objs.size, a] := by
     simp only [List.mem_cons, List.not_mem_nil, or_false, not_or]
     exact ⟨Nat.ne_of_lt (Nat.lt_succ_of_lt lS), Nat.ne_of_lt lS, nSa⟩
   refine go_on W out ⟨new.trans (by rw [← hO]; rfl), newF.trans (by rw [← hF]), kept _ _ hS⟩ (by omega) (kept _ _ h0) fun s' acc c' mv hS' it => ?_
   have pq : (r.map fun p => (vals es).getD p Value.none).Perm (vals es) := by
     have h1 := pm.map fun p => (vals es).getD p Value.none
     have h2 : ((List.range es.size).map fun p => (vals es).getD p Value.none) = vals es := by
       refine List.ext_getElem (by simp) fun i hi1 hi2 => ?_
       rw [List.getElem_map, List.getElem_range, List.getD_eq_getElem?_getD, List.getElem?_eq_getElem hi2]
       rfl
     rw [h2] at h1
     exact h1
   refine hR s' acc c' mv.gens mv.os (fun b o hb e => mv.heap b o ?_ (kept b o e)) hS' (by rw [items_list it (by rw [pq.length_eq, vl])]; exact pq)
   simp only [List.mem_cons, List.not_mem_nil, or_false, not_or]
   exact ⟨hb, Nat.ne_of_lt (Nat.lt_succ_of_lt (Heap.lt_size e))⟩
end
section
variable {prog : Program} {w : World} {A : Around} {E : Value → Shared → Prop} {s : Shared} {a : Addr}
theorem vals_perm {xs : List V} {us vs : List Value} (h : Vals xs us) (p : vs.Perm us) : ∃ ys, ys.Perm xs ∧ Vals ys vs := by
 induction p generalizing xs with
 | nil => exact ⟨xs, List.Perm.refl _, h⟩
 | cons v p ih =>
   cases h with
   | cons r h =>
     obtain ⟨ys, q1, q2⟩ := ih h
     exact ⟨_ :: ys, List.Perm.cons _ q1, .cons r q2⟩
 | swap x y l =>
   cases h with
   | cons r1 h =>
     cases h with
     | cons r2 h => exact ⟨_, List.Perm.swap _ _ _, .cons r2 (.cons r1 h)⟩
 | trans p1 p2 ih1 ih2 =>
   obtain ⟨ys, q1, q2⟩ := ih2 h
   obtain ⟨zs, q3, q4⟩ := ih1 q2
   exact ⟨zs, q3.trans q1, q4⟩
theorem collect_set {cs : List Nat} {Q : List Value → Shared → Prop} (hh : A.handled = none) (st : StrSet w s.heap a cs)
   (h : ∀ vs s' (ds : List Nat), ds.Perm cs → Vals (ds.map fun c => V.str (T [c])) vs → s'.gens = s.gens → s'.os = s.os → (∀ b o, s.heap.get? b = some o → s'.heap.get? b = some o) → Q vs s') : wpAny (model prog w) A (collect (.ref a)) Q E s := by
 obtain ⟨es, ep, t, ho, vl, fit, small, tab⟩ := st
 have hsl : sizeLine = 16777216 := sizeLine_eq
 unfold collect
 refine wpAny_bind (wpAny_runValue (codeAny_builtin F.entry_proto_collect ?_))
 rw [Around.under_plainId F.plain_proto_collect _]
 show wpAny _ A.in1 (newList [] >>= fun l => again (.builtin "list.__iadd__" ⟨[l, .ref a], []⟩)) _ _ s
 refine wpAny_bind (wpAny_newObj_type ?_)
 refine wpAny_pure ⟨plainId_quiet F.plain_list_iadd _, codeAny_builtin F.entry_list_iadd ?_⟩
 rw [Around.under_plainId F.plain_list_iadd _]
 show wpAny _ A.in1 (Builtin.List.listExtendWith (.ref s.heap.objs.size) (.ref a) (.ref s.heap.objs.size)) _ _ _
 let Good : Shared → Prop := fun s' => ∃ acc c', s'.gens = s.gens ∧ s'.os = s.os ∧ (∀ b o, s.heap.get? b = some o → s'.heap.get? b = some o) ∧ s'.heap.get? s.heap.objs.size = some { cls := .type "list", dict := none, data := .seq acc c', slots := #[] } ∧ acc.toList.Perm (vals es)
 have fin : ∀ s' : Shared, Good s' → wpAny (model prog w) A (match Value.ref s.heap.objs.size with
     | Value.ref a => do
       match (← load a).data with
         | Data.seq xs _ => pure xs.toList
         | _ => unsupported "internal:collect"
     | _ => unsupported "internal:collect") Q E s' := by
   rintro s' ⟨acc, c', g1, g2, g3, g4, g5⟩
   show wpAny _ A (load s.heap.objs.size >>= _) _ _ _
   refine wpAny_bind (wpAny_load g4 ?_)
   obtain ⟨ys, q1, q2⟩ := vals_perm vl g5
   obtain ⟨ds, hd, rfl⟩ : ∃ ds : List Nat, ds.Perm cs ∧ (ds.map fun c => V.str (T [c])) = ys := by
     have back : ∀ {ys zs : List V}, ys.Perm zs → ∀ cs : List Nat, zs = (cs.map fun c => V.str (T [c])) → ∃ ds : List Nat, ds.Perm cs ∧ (ds.map fun c => V.str (T [c])) = ys := by
       intro ys zs p
       induction p with
       | nil =>
         intro cs e
         exact ⟨[], by rw [show cs = [] by simpa using e.symm], rfl⟩
       | cons v p ih =>
         intro cs e
         cases cs with
         | nil => cases e
         | cons c r =>
           rw [List.map_cons] at e
           obtain ⟨e1, e2⟩ := List.cons.inj e
           obtain ⟨ds, q1, q2⟩ := ih r e2
           exact ⟨c :: ds, List.Perm.cons _ q1, by rw [List.map_cons, q2, e1]⟩
       | swap x y l =>
         intro cs e
         match cs, e with
         | c :: d :: r, e =>
           rw [List.map_cons, List.map_cons] at e
           obtain ⟨e1, e2⟩ := List.cons.inj e
           obtain ⟨e3, e4⟩ := List.cons.inj e2
           exact ⟨d :: c :: r, List.Perm.swap _ _ _, by rw [List.map_cons, List.map_cons, e1, e3, e4]⟩
       | trans p1 p2 ih1 ih2 =>
         intro cs e
         obtain ⟨ds, q1, q2⟩ := ih2 cs e
         obtain ⟨fs, q3, q4⟩ := ih1 ds q2.symm
         exact ⟨fs, q3.trans q1, q4⟩
     exact back q1 cs rfl
   exact wpAny_pure (h _ s' ds hd q2 g1 g2 g3)
 refine wpAny_mono (extend_set (s := { s with heap := s.heap.push { cls := .type "list", data := .seq ([] : List Value).toArray } }) (R := fun r s' => r = .ok (.ret (.ref s.heap.objs.size)) ∧ Good s') hh (Heap.get?_push_size _ rfl) (Heap.get?_push_of_some _ ho) fit tab small fun s' acc c' g1 g2 g3 g4 g5 => ⟨rfl, acc, c', g1, g2, fun b o e => g3 b o (Nat.ne_of_lt (Heap.lt_size e)) (Heap.get?_push_of_some _ e), g4, g5⟩) (fun fn s' hf => ?_) fun e s' he => ?_
 · cases fn with
   | done fl =>
     obtain ⟨e, hf⟩ := hf
     cases e
     exact fin s' hf
   | again c' =>
     refine ⟨hf.1, codeAny_mono hf.2 fun r s2 hr => ?_⟩
     obtain ⟨e, hr⟩ := hr
     subst e
     exact fin s2 hr
 · exact absurd he.1 (by intro z; cases z)
end
section
variable {X : Cx}
def sortO (w : World) : List V → Hp → VK → Prop := fun vs H Q => match vs with
 | [.ref a] => ∃ cs : List Nat, H a = some (SetO w a cs) ∧ cs.length < 64 ∧ ∀ l (qs : List Nat), H l = none → qs.Perm cs → qs.Pairwise (fun i j => i ≤ j) → Q (.ref l) (upd H l (.lst (qs.map fun c => V.str (T [c]))))
 | _ => False
theorem c_sortO {w : World} (hw : X.w = w) (hc : X.calm = true) : CallR X (.builtin "sorted") (sortO w) := by
 subst hw
 intro pins s σ H vs us Q I r h
 unfold sortO at h
 split at h
 · rename_i a
   obtain ⟨cs, hx, h64, q⟩ := h
   obtain ⟨u, rfl, ru⟩ := vals1 r
   cases ru
   have st : StrSet X.w s.heap a cs := (I.hok a _ hx).1
   refine sorted_gen (H := H) (κ := oneType') (O := PyProof.Rows.strKind.toKeyOrd) hc (I.ok.hd hc) fun A E hA => collect_set hA st fun vs s' ds pm rv g1 g2 g3 => ?_
   have I' : Inv X pins σ H s' := by
     obtain ⟨h', g', d', t', o'⟩ := s'
     have e1 : g' = s.gens := g1
     have e2 : o' = s.os := g2
     subst e1 e2
     refine I.call' (ch := []) rfl ⟨fun b o q n hb hx => g3 b o q, fun b o q n hb hx => ⟨o.slots, g3 b o q⟩, fun b o q n hx => n, fun b o q hx => ⟨o, g3 b o q⟩, fun b ys q => q, fun b o y q => q, fun b ps q => ⟨#[], by rw [q]; simp⟩⟩ (fun b o q => (I.hok b o q).stay (fun c y hc z => g3 c y z) (fun c z => z) fun c ys z => z) I.bare fun b hb => (List.not_mem_nil hb).elim
   have hl : (ds.map fun c => V.str (T [c])).length = ds.length := List.length_map ..
   have em : (ds.map fun c => V.str (T [c])) = (ds.map fun c => [c]).map fun k => V.str (T k) := by rw [List.map_map]; rfl
   refine ⟨ds.map fun c => V.str (T [c]), fun i => (ds.map fun c => [c]).getD i [], I', rv, by rw [hl, pm.length_eq]; exact h64, fun s2 vs2 E2 Q2 I2 rv2 h2 q2 => ?_, fun s2 vs2 I2 rv2 => ?_, fun l p hl' pp pu => ?_⟩
   · rw [em] at rv2
     exact kind_str rv2 (by rw [hl] at h2; simpa using h2) q2
   · rw [em] at rv2
     have := ask_str (prog := X.prog) (w := X.w) (A := X.A.in1.in1) (s := s2) rv2
     rw [hl]
     rw [List.length_map] at this
     exact this
   · rw [hl] at pp pu
     have pl : ∀ i ∈ p.toList, i < ds.length := fun i hi => List.mem_range.mp (pp.mem_iff.mp hi)
     have up := up_pairs pp pu
     have e : (p.toList.map fun i => (ds.map fun c => V.str (T [c])).getD i .non) = (p.toList.map fun i => ds.getD i 0).map fun c => V.str (T [c]) := by
       rw [List.map_map]
       refine List.map_congr_left fun i hi => ?_
       have hi := pl i hi
       show _ = V.str (T [ds.getD i 0])
       rw [List.getD_eq_getElem?_getD, List.getD_eq_getElem?_getD, List.getElem?_map, List.getElem?_eq_getElem hi]
       rfl
     rw [e]
     refine q l _ hl' ?_ ?_
     · have h1 : (p.toList.map fun i => ds.getD i 0).Perm ((List.range ds.length).map fun i => ds.getD i 0) := pp.map _
       have h2 : ((List.range ds.length).map fun i => ds.getD i 0) = ds := by
         refine List.ext_getElem (by simp) fun i hi1 hi2 => ?_
         rw [List.getElem_map, List.getElem_range, List.getD_eq_getElem?_getD, List.getElem?_eq_getElem hi2]
         rfl
       rw [h2] at h1
       exact h1.trans pm
     · rw [List.pairwise_map]
       refine up.imp_of_mem fun {i j} hi hj hij => ?_
       have hi := pl i hi
       have hj := pl j hj
       rw [List.getD_eq_getElem?_getD, List.getD_eq_getElem?_getD, List.getElem?_map, List.getElem?_map, List.getElem?_eq_getElem hi, List.getElem?_eq_getElem hj] at hij
       rw [List.getD_eq_getElem?_getD, List.getD_eq_getElem?_getD, List.getElem?_eq_getElem hi, List.getElem?_eq_getElem hj]
       rcases LO.cons_le hij with z | ⟨z, _⟩
       · exact Nat.le_of_lt z
       · exact Nat.le_of_eq z
 · exact h.elim
end
end L2
namespace L2
open PySem PySem.Spec PyProof.Rows
theorem occ_size (x y : Str) (hi limit : Nat) (hy : y.length = 1) : ∀ (l : List Nat) (st : Array Nat × Nat), (∀ i ∈ l, st.2 ≤ i) → l.Pairwise (· < ·) → st.1.size + l.length ≤ limit →
   (forIn l st (StrLaws.occBody x y hi limit)).run.fst.size = st.1.size + l.countP fun i => decide (i + 1 ≤ hi) && Builtin.Str.subAt x y i
 | [], st, _, _, _ => rfl
 | a :: l, st, hf, pw, hl => by
   rw [List.forIn_cons]
   unfold StrLaws.occBody
   obtain ⟨p1, p2⟩ := List.pairwise_cons.mp pw
   rw [List.length_cons] at hl
   by_cases hc : a + y.length ≤ hi ∧ Builtin.Str.subAt x y a = true
   · rw [if_pos ⟨⟨⟨by omega, hf a (List.mem_cons_self ..)⟩, hc.1⟩, hc.2⟩]
     have := occ_size x y hi limit hy l (st.1.push a, a + y.length) (fun i h => by have := p1 i h; show a + y.length ≤ i; omega) p2 (by rw [Array.size_push]; omega)
     rw [Array.size_push] at this
     refine this.trans ?_
     rw [List.countP_cons, if_pos (by rw [hc.2, Bool.and_true, decide_eq_true_eq]; omega)]
     omega
   · rw [if_neg fun z => hc ⟨z.1.2, z.2⟩]
     have := occ_size x y hi limit hy l st (fun i h => hf i (List.mem_cons_of_mem _ h)) p2 (by omega)
     refine this.trans ?_
     rw [List.countP_cons, if_neg]
     · rfl
     · intro z
       rw [Bool.and_eq_true, decide_eq_true_eq] at z
       exact hc ⟨by omega, z.2⟩
theorem count_take (l : List Nat) (c : Nat) : ∀ hi, hi ≤ l.length → (List.range hi).countP (fun i => decide (l[i]? = some c)) = (l.take hi).count c
 | 0, _ => rfl
 | hi + 1, h => by
   rw [List.range_succ, List.countP_append, count_take l c hi (by omega), List.take_succ, List.count_append, List.getElem?_eq_getElem (by omega)]
   have e : l[hi]? = some l[hi] := List.getElem?_eq_getElem (by omega)
   simp [List.count_cons, List.countP_cons, e]
theorem occ_sign (x y : Str) (c hi : Nat) (hy : L y = [c]) (hh : hi ≤ (L x).length) : (Builtin.Str.occurrences x y 0 hi (x.length + 1)).length = ((L x).take hi).count c := by
 have ly : y.length = 1 := by rw [← L_len, hy]; rfl
 rw [StrLaws.occ_eq, Array.length_toList, occ_size x y hi _ ly _ _ (fun i _ => Nat.zero_le _) (List.pairwise_lt_range' ..) (by rw [List.length_range', ← L_len]; simp; omega)]
 rw [← List.range_eq_range', ← count_take (L x) c hi hh]
 show 0 + _ = _
 rw [Nat.zero_add, Nat.sub_zero, List.range_succ, List.countP_append]
 have e0 : [hi].countP (fun i => decide (i + 1 ≤ hi) && Builtin.Str.subAt x y i) = 0 := by
   rw [List.countP_eq_zero]
   intro i h
   rw [List.mem_singleton.mp h, decide_eq_false (by omega)]
   exact Bool.false_ne_true
 rw [e0, Nat.add_zero]
 refine List.countP_congr fun i h => ?_
 have h := List.mem_range.mp h
 rw [Bool.and_eq_true, decide_eq_true_eq, decide_eq_true_eq]
 have e := sub_T x y i
 unfold stAt at e
 rw [hy] at e
 have hl : i + y.length ≤ x.length := by rw [ly, ← L_len]; omega
 rw [decide_eq_true hl, Bool.true_and] at e
 rw [e, decide_eq_true_eq]
 constructor
 · rintro ⟨_, _, e2⟩
   have := congrArg (fun l : List Nat => l[0]?) e2
   simpa using this
 · intro e2
   refine ⟨by omega, by show i + 1 ≤ _; omega, ?_⟩
   refine List.ext_getElem (by simp; omega) fun k h1 h2 => ?_
   have : k = 0 := by simp at h2; omega
   subst this
   rw [List.getElem?_eq_getElem (by omega)] at e2
   simpa using Option.some.inj e2
theorem gives_count4 (x y : Str) (i j : Int) (t u v v' : Tok) : Gives (Builtin.«str.count» ⟨[.str x t, .str y u, .int i v, .int j v'], []⟩) (.int (Builtin.Str.occurrences x y (PySem.fromIndex x.length i) (min (PySem.fromIndex x.length j) x.length) (x.length + 1)).length) := by
 show Gives (retInt (Builtin.Str.occurrences x y (PySem.fromIndex x.length i) (min (PySem.fromIndex x.length j) x.length) (x.length + 1)).length) _
 exact .of_eq rfl
section
variable {X : Cx}
def cntS : V → List V → Hp → VK → Prop := fun x vs H Q => match x, vs with
 | .str z, [.str y] => ∃ c, L y = [c] ∧ Q (.int ((L z).count c : Nat)) H
 | .str z, [.str y, .int i, .int j] => ∃ c, L y = [c] ∧ i = 0 ∧ 0 ≤ j ∧ Q (.int (((L z).take j.toNat).count c : Nat)) H
 | _, _ => False
theorem m_countS : MtR X "str.count" cntS := by
 intro pins s σ H x vs v us Q I rx rv h
 unfold cntS at h
 split at h
 · rename_i z y
   obtain ⟨c, hy, q⟩ := h
   obtain ⟨t, rfl⟩ := rx
   obtain ⟨u, rfl, t', rfl⟩ := vals1 rv
   refine call_gives F.slot_str_count (typeIs_str _ _ _) F.entry_str_count (F.args_str_count_2 _ _) (gives_str_count z y t t') ?_
   have := occ_sign z y c (L z).length hy (Nat.le_refl _)
   rw [List.take_length, L_len] at this
   rw [this]
   exact ⟨.int ((L z).count c : Nat), H, I.tok _, ⟨_, rfl⟩, q⟩
 · rename_i z y i j
   obtain ⟨c, hy, hi, hj, q⟩ := h
   subst hi
   obtain ⟨t, rfl⟩ := rx
   obtain ⟨t', t'', t3, rfl⟩ : ∃ t' t'' t3, us = [.str y t', .int 0 t'', .int j t3] := by
     cases rv with
     | cons r1 rv =>
       cases rv with
       | cons r2 rv =>
         cases rv with
         | cons r3 rv =>
           cases rv
           obtain ⟨t', rfl⟩ := r1
           obtain ⟨t'', rfl⟩ := r2
           obtain ⟨t3, rfl⟩ := r3
           exact ⟨t', t'', t3, rfl⟩
   refine call_gives F.slot_str_count (typeIs_str _ _ _) F.entry_str_count (F.args_str_count_4 _ _ _ _) (gives_count4 z y 0 j t t' t'' t3) ?_
   have e1 : PySem.fromIndex z.length 0 = 0 := rfl
   have e2 : PySem.fromIndex z.length j = j.toNat := by
     unfold PySem.fromIndex
     rw [if_neg (by omega)]
     omega
   rw [e1, e2]
   have := occ_sign z y c (min j.toNat z.length) hy (by rw [L_len]; omega)
   rw [this, ← L_len]
   have e3 : (L z).take (min j.toNat (L z).length) = (L z).take j.toNat := by
     by_cases h : j.toNat ≤ (L z).length
     · rw [Nat.min_eq_left h]
     · rw [Nat.min_eq_right (by omega), List.take_length, List.take_of_length_le (by omega)]
   rw [e3]
   exact ⟨.int (((L z).take j.toNat).count c : Nat), H, I.tok _, ⟨_, rfl⟩, q⟩
 · exact h.elim
end
end L2
namespace L2
open PySem PySem.Spec PyProof.Rows
def clsBody : Stmt → List Stmt
 | .ClassDef _ _ _ b _ _ _ _ _ _ _ => b
 | _ => []
section
variable {P : Program} {w : World} {K : PySem.W.Frag} {mg : Str → Option Value} {base : Heap}
theorem Fun.okLX {x qual : Str} {st : Stmt} {f c : Addr} {fd : FuncData} {N ps : List Str} {k : Nat} {sp : Sp} (F : Fun K x qual st f fd) (hc : fd.code = .ref c) (S : FnScope N ps (defScope st)) (len : ∀ vs H Q E, sp vs H Q E → vs.length = ps.length)
   (hbody : ∀ (A : Around) (outer : List Env) (s : Shared) (H : Hp) (vs : List V) (Q : VK) (E : XK), Room k (A.deeper (envOfC qual (defScope st) s.heap.objs.size f (.ref c))) → sp vs H Q E →
     ∃ t, PSs (cxOf (CX1 P w) P w K mg base N qual (defScope st) f (.ref c) A outer s H E) (defBody st) t ∧ t { nx := fun _ H' => Q .non H', rt := Q } (start N vs) H) : FnOk P w K mg base (CX1 P w) (k + 1) f fd ps sp := by
 obtain ⟨oc, od, kV, doc, pm, an, cdv, ct, osl, rfl, lk, hcd⟩ := F.ex
 have hc : cdv = .ref c := hc
 subst hc
 exact fn_of lk hcd S len fun A outer s H vs Q E hr hsp => hbody A outer s H vs Q E hr hsp
end
section
variable {X : Cx} {K : PySem.W.Frag} {o e value : Expr} {f : Str} {pos pos' : Pos} {ta tv : TE}
def rFld (C : Addr) (ta : TE) (f : Str) : TE := fun σ H Q => ta σ H fun x H1 => match x with
 | .ref a => ∃ dx fs v, H1 a = some (.ins C dx fs) ∧ fs.lookup f = some v ∧ Q v H1
 | _ => False
theorem pe_fldC {C : Addr} (hK : X.K = K) (c : Cls K C) (n : NoAttr K C f) (he : PE X e ta) (hb : attributeBase e f X.env (eval e X.env) = eval e X.env := by rfl) : PE X (.Attribute e f pos) (rFld C ta f) := by
 subst hK
 have he' : PE X e (fun σ H Q => ∃ Q0 : VK, ta σ H Q0 ∧ ∀ v H', Q0 v H' → Q v H') := he.imp fun σ H Q h => h
 intro pins s σ H Q I h
 refine pe_fld (pos := pos) he' hb pins s σ H Q I ⟨_, h, fun v H' q => ?_⟩
 cases v with
 | ref a =>
   obtain ⟨dx, fs, v, q1, q2, q3⟩ := q
   exact ⟨a, C, dx, fs, v, rfl, q1, c, n, q2, q3⟩
 | _ => exact False.elim q
def wFld (C : Addr) (ta tv : TE) (f : Str) : TS := fun D σ H => tv σ H fun y H1 => ta σ H1 fun x H2 => match x with
 | .ref a => ∃ dx fs, H2 a = some (.ins C dx fs) ∧ fs.length < 1000 ∧ D.nx σ (upd H2 a (.ins C dx (putF f y fs)))
 | _ => False
theorem ps_fldC {C : Addr} (hK : X.K = K) (c : Cls K C) (n : NoAttr K C f) (ha : PE X o ta) (hv : PE X value tv) (hs : swapsWith value (some (.Attribute o f pos')) pos.line X.env = pure false) : PS X (.Assign [.Attribute o f pos'] value pos) (wFld C ta tv f) := by
 subst hK
 have ha' : PE X o (fun σ H Q => ∃ Q0 : VK, ta σ H Q0 ∧ ∀ v H', Q0 v H' → Q v H') := ha.imp fun σ H Q h => h
 have hv' : PE X value (fun σ H Q => ∃ Q0 : VK, tv σ H Q0 ∧ ∀ v H', Q0 v H' → Q v H') := hv.imp fun σ H Q h => h
 intro pins s σ H D I h
 refine ps_fld (pos' := pos') (pos := pos) ha' hv' hs pins s σ H D I ⟨_, h, fun y H1 q1 => ⟨_, q1, fun x H2 q => ?_⟩⟩
 cases x with
 | ref a =>
   obtain ⟨dx, fs, q1, q2, q3⟩ := q
   exact ⟨a, C, dx, fs, rfl, q1, c, n, q2, q3⟩
 | _ => exact False.elim q
end
section
variable {X : Cx} {x : Str} {pos : Pos}
theorem pe_globS {z : Str} (hg : Gl X x) (hm : ∃ t, X.mg x = some (.str z t)) (hd : (x == ("__debug__" : Str)) = false := by decide) : PE X (.Name x pos) (tC (.str z)) := by
 obtain ⟨t, hm⟩ := hm
 exact pe_glob hg hm ⟨t, rfl⟩ hd
theorem pe_globI {z : Int} (hg : Gl X x) (hm : ∃ t, X.mg x = some (.int z t)) (hd : (x == ("__debug__" : Str)) = false := by decide) : PE X (.Name x pos) (tC (.int z)) := by
 obtain ⟨t, hm⟩ := hm
 exact pe_glob hg hm ⟨t, rfl⟩ hd
end
end L2
namespace L2
open PySem
def colL (cs : List Nat) (h : Nat) : List Nat := cs.take h ++ 10 :: cs.drop h
theorem colL_len {cs : List Nat} {h : Nat} (hh : h ≤ cs.length) : (colL cs h).length = cs.length + 1 := by
 unfold colL
 rw [List.length_append, List.length_cons, List.length_take, List.length_drop]
 omega
def fsL (cs : List Nat) (h : Nat) (tot fo : Addr) : List (Str × V) := [("column", .str (T (colL cs h))), ("home", .int h), ("last", .int cs.length), ("totals", .ref tot), ("forths", .ref fo)]
def Tot (H : Hp) (tot : Addr) (cs : List Nat) : Prop := ∃ (ts : List Addr) (ds : List Nat), H tot = some (.lst (ts.map V.ref)) ∧ ts.length = ds.length ∧ (∀ (j d : Nat), ds[j]? = some d → ∃ t, ts[j]? = some t ∧ H t = some (.tup [.str (T [d]), .int (cs.count d : Nat)])) ∧ ds.Nodup ∧ (∀ c, c ∈ ds ↔ c ∈ cs)
def Fo (H : Hp) (fo : Addr) (cs : List Nat) (h : Nat) : Prop := ∃ p : List Nat, H fo = some (.lst (p.map fun i : Nat => V.int i)) ∧ p.Perm (List.range (cs.length + 1)) ∧ p.Pairwise (fun i j => [(colL cs h).getD i 0] ≤ [(colL cs h).getD j 0] ∧ ([(colL cs h).getD i 0] = [(colL cs h).getD j 0] → i < j))
def IsLet (C : Addr) (H : Hp) (a : Addr) (cs : List Nat) (h : Nat) : Prop := ∃ dx tot fo, H a = some (.ins C dx (fsL cs h tot fo)) ∧ (Tot H tot cs ∧ Fo H fo cs h) ∧ h ≤ cs.length
theorem fs_build (cs : List Nat) (h : Nat) (tot fo : Addr) : putF "forths" (.ref fo) (putF "totals" (.ref tot) (putF "last" (.int cs.length) (putF "home" (.int h) (putF "column" (.str (T (colL cs h))) [])))) = fsL cs h tot fo := by
 unfold fsL
 rfl
theorem cut_to {α : Type} (l : List α) (m : Nat) : cut l none (some (m : Int)) = l.take m := by
 unfold cut
 show (l.drop 0).take ((if (m : Int) < 0 then ((m : Int) + (l.length : Int)).toNat else min (m : Int).toNat l.length) - 0) = l.take m
 rw [if_neg (by omega), Int.toNat_natCast, List.drop_zero, Nat.sub_zero]
 by_cases h : m ≤ l.length
 · rw [Nat.min_eq_left h]
 · rw [Nat.min_eq_right (by omega), List.take_of_length_le (Nat.le_refl _), List.take_of_length_le (by omega)]
theorem colL_cut (cs : List Nat) (m : Nat) : cut cs none (some (m : Int)) ++ L (Str.ofString "\n") ++ cut cs (some (m : Int)) none = colL cs m := by
 have e : L (Str.ofString "\n") = [10] := by decide +kernel
 rw [cut_to, LP.cut_from, e]
 unfold colL
 simp
def Prs (H : Hp) (ts : List Addr) (ds cs : List Nat) : Prop := ts.length = ds.length ∧ ∀ (j d : Nat), ds[j]? = some d → ∃ t, ts[j]? = some t ∧ H t = some (.tup [.str (T [d]), .int (cs.count d : Nat)])
theorem Prs.same {H H' : Hp} {ts : List Addr} {ds cs : List Nat} (x : Prs H ts ds cs) (sm : LP.SameT H H') : Prs H' ts ds cs := ⟨x.1, fun j d e => by
 obtain ⟨t, e1, e2⟩ := x.2 j d e
 exact ⟨t, e1, sm _ _ e2⟩⟩
theorem Prs.snoc {H : Hp} {ts : List Addr} {ds cs : List Nat} {t : Addr} {d : Nat} (x : Prs H ts ds cs) (ht : H t = some (.tup [.str (T [d]), .int (cs.count d : Nat)])) : Prs H (ts ++ [t]) (ds ++ [d]) cs := by
 refine ⟨by simp [x.1], fun j e hj => ?_⟩
 by_cases h : j < ds.length
 · rw [List.getElem?_append_left h] at hj
   obtain ⟨u, e1, e2⟩ := x.2 j e hj
   exact ⟨u, by rw [List.getElem?_append_left (by rw [x.1]; exact h)]; exact e1, e2⟩
 · have hl := (List.getElem?_eq_some_iff.mp hj).1
   rw [List.length_append, List.length_singleton] at hl
   have ej : j = ds.length := by omega
   subst ej
   rw [List.getElem?_append_right (Nat.le_refl _), Nat.sub_self] at hj
   have hj : d = e := by simpa using hj
   subst hj
   exact ⟨t, by rw [← x.1, List.getElem?_append_right (Nat.le_refl _), Nat.sub_self]; rfl, ht⟩
theorem bk_ins {P : Addr} {pos : Pos} {q : Str} {H : Hp} {a C dx : Addr} {fs : List (Str × V)} {o : HO} (h : Bk P pos q H) (hl : H a = some (.ins C dx fs)) : Bk P pos q (upd H a o) := by
 rcases h with h | ⟨c', h1, h2⟩
 · have : P ≠ a := by rintro rfl; rw [h] at hl; cases hl
   exact .inl ((upd_ne this).trans h)
 · have n1 : P ≠ a := by rintro rfl; rw [h1] at hl; cases hl
   have n2 : c' ≠ a := by rintro rfl; rw [h2] at hl; cases hl
   exact .inr ⟨c', (upd_ne n1).trans h1, (upd_ne n2).trans h2⟩
theorem rng_nat0 (n : Nat) : rngL 0 (n : Int) = (List.range n).map fun j : Nat => V.int j := by
 unfold rngL
 rw [show ((n : Int) - 0).toNat = n by omega]
 refine List.map_congr_left fun j _ => ?_
 rw [Int.zero_add]
end L2
namespace L2
open PySem PySem.Spec PyProof.Rows Builtin Builtin.Str
section
variable {prog : Program} {w : World} {A : Around} {E : Value → Shared → Prop} {s : Shared} {I l : Addr}
end
section
variable {X : Cx} {K : PySem.W.Frag}
end
end L2
namespace LO
open L2
end LO
namespace L2
open PySem
theorem upd_nn {H : Hp} {a b : Addr} {o : HO} (h : H b ≠ none) : upd H a o b ≠ none := by
 unfold upd
 split
 · simp
 · exact h
theorem Same.nn {H H' : Hp} (s : Same H H') {b : Addr} (h : H b ≠ none) : H' b ≠ none := by
 cases e : H b with
 | none => exact absurd e h
 | some o => rw [s b o e]; simp
theorem SameN.nn {H H' : Hp} (s : SameN H H') {b : Addr} (h : H b ≠ none) : H' b ≠ none := by
 cases e : H b with
 | none => exact absurd e h
 | some o => exact (s b o e).1
theorem made_same {H H' : Hp} {x dx : Addr} {o1 o2 : HO} (hx : H x = none) (hdx : H dx = none) (kp : ∀ b o, b ≠ x → upd (upd H dx o1) x o2 b = some o → (∀ ps, o ≠ .tbl ps) → H' b = some o)
   (nn : ∀ b, upd (upd H dx o1) x o2 b ≠ none → H' b ≠ none) : SameN H H' := fun b o e => by
 have n1 := ne_of_none e hx
 have e2 : upd (upd H dx o1) x o2 b = some o := (upd_ne n1).trans ((upd_ne (ne_of_none e hdx)).trans e)
 exact ⟨nn b (by rw [e2]; simp), fun n => kp b o n1 e2 n⟩
end L2
namespace L2
open PySem
def encV (ps : List (Int × V)) : List (Key × V) := ps.map fun p => (.inl p.1, p.2)
end L2
namespace LO
end LO
namespace LO
end LO
namespace L2
open PySem
end L2
namespace L2
open PySem PySem.Spec PyProof.Rows
section
variable {X : Cx} {pos : Pos} {K : PySem.W.Frag}
def b2i (b : Bool) : Int := if b then 1 else 0
def intV : List V → Hp → VK → Prop := fun xs H Q => match xs with
 | [.bl b] => Q (.int (b2i b)) H
 | [.int i] => Q (.int i) H
 | _ => False
theorem c_int : CallR X (.type "int") intV := by
 intro pins s σ H xs us Q I r h
 unfold intV at h
 split at h
 · rename_i b
   obtain ⟨u, rfl, rfl⟩ := vals1 r
   exact call_int_bool ⟨.int (b2i b), H, I.tok _, ⟨_, rfl⟩, h⟩
 · rename_i i
   obtain ⟨u, rfl, t, rfl⟩ := vals1 r
   exact call_int_int ⟨.int i, H, I, ⟨_, rfl⟩, h⟩
 · exact h.elim
def forT (K : PySem.W.Frag) (a : Addr) (xs : List V) (g : TG) (tb : TS) : TS := fun D σ H => ∃ Pv : Nat → St → Hp → Prop, Pv 0 σ H ∧ (∀ i σ H, i ≤ xs.length → Pv i σ H → SqT K H a xs) ∧
 (∀ i x σ H, xs[i]? = some x → Pv i σ H → g x σ H fun σ2 H2 => tb { nx := Pv (i + 1), rt := D.rt, bk := D.nx, ct := Pv (i + 1) } σ2 H2) ∧ ∀ σ H, Pv xs.length σ H → D.nx σ H
def tTupF (K : PySem.W.Frag) (tl : TE) (g : TG) (tb : TS) : TS := fun D σ H => tl σ H fun v H1 => match v with
 | .ref a => ∃ xs, SqT K H1 a xs ∧ forT K a xs g tb D σ H1
 | _ => False
theorem ps_tupF {l tg : Expr} {body : List Stmt} {tl : TE} {g : TG} {tb : TS} (hK : X.K = K) (hp : PassesOwn (model X.prog X.w) X.A X.env X.xe) (hc : X.calm = true) (hl : PE X l tl) (hg : PG X tg g) (hb : PSs X body tb)
   (hf : ∀ x, foldedSetIterable l X.env x = pure x := by intro _; rfl) : PS X (.For tg l body [] pos) (tTupF K tl g tb) := by
 subst hK
 have hl' : PE X l (fun σ H Q => ∃ Q0 : VK, tl σ H Q0 ∧ ∀ v H', Q0 v H' → Q v H') := hl.imp fun σ H Q h => h
 intro pins s σ H D I h
 refine ps_for hp hc (pi_tup hl') hg hb hf pins s σ H D I ⟨_, h, fun v H1 q => ?_⟩
 cases v with
 | ref a =>
   obtain ⟨xs, hx, Pv, h0, hs, h1, hd⟩ := q
   exact ⟨a, rfl, ⟨xs, hx⟩, for_tup Pv h0 hs h1 hd⟩
 | _ => exact False.elim q
end
end L2
namespace LO
end LO
namespace L2
open PySem
end L2
namespace LO
end LO
namespace L2
open PySem PySem.Spec PyProof.Rows
section
variable {X : Cx} {K : PySem.W.Frag}
end
def Bd (i : Int) (m : Nat) : Prop := 0 ≤ i ∧ i ≤ m
end L2
namespace L2
open PySem PySem.Spec PyProof.Rows
def IsRvS (h : Heap) (a : Addr) (z : Str) (t : Tok) (i : Int) : Prop := ∃ o, h.get? a = some o ∧ o.cls = .type "reversed" ∧ o.data = .fields #[.str z t, rawInt i]
section
variable {prog : Program} {w : World} {A : Around} {E : Value → Shared → Prop} {s : Shared}
end
section
variable {P : Program} {w : World} {K : PySem.W.Frag} {tg : Expr}
end
section
variable {X : Cx} {tg : Expr}
end
end L2
namespace L2
open PySem PySem.Spec PyProof.Rows
structure FunD (K : PySem.W.Frag) (x qual : Str) (st : Stmt) (f T : Addr) (fd : FuncData) : Prop where
 ex : ∃ (oc : Value) (od : Option Addr) (kV doc pm : Value) (an : Option Addr) (cdv ct : Value) (osl : Array (Option Value)),
   fd = PySem.W.fnOf x qual (defArgs st) (defBody st) (defScope st) (.ref T) kV doc pm an cdv ct ∧ K.lookup f = some ⟨oc, od, .func fd, osl⟩ ∧ PySem.W.codeIn K cdv qual = true
 kp : PySem.W.keepIn K (.ref f) = true
section
variable {P : Program} {w : World} {K : PySem.W.Frag} {mg : Str → Option Value} {base : Heap} {x qual : Str} {st : Stmt} {f T : Addr} {fd : FuncData} {N ps : List Str} {k : Nat} {sp : Sp}
theorem fund_mk {oc : Value} {od an : Option Addr} {osl : Array (Option Value)} {kV doc pm cdv ct : Value} (l : K.lookup f = some ⟨oc, od, .func (PySem.W.fnOf x qual (defArgs st) (defBody st) (defScope st) (.ref T) kV doc pm an cdv ct), osl⟩)
   (c : PySem.W.codeIn K cdv qual = true) (k : PySem.W.keepIn K (.ref f) = true) : FunD K x qual st f T (PySem.W.fnOf x qual (defArgs st) (defBody st) (defScope st) (.ref T) kV doc pm an cdv ct) := ⟨⟨oc, od, kV, doc, pm, an, cdv, ct, osl, rfl, l, c⟩, k⟩
theorem FunD.okX (F : FunD K x qual st f T fd) (S : FnScope N ps (defScope st)) (len : ∀ vs H Q E, sp vs H Q E → vs.length = ps.length)
   (hbody : ∀ (cdv : Value) (A : Around) (outer : List Env) (s : Shared) (H : Hp) (vs : List V) (Q : VK) (E : XK), Room k (A.deeper (envOfC qual (defScope st) s.heap.objs.size f cdv)) → sp vs H Q E →
     ∃ t, PSs (cxOf (CX1 P w) P w K mg base N qual (defScope st) f cdv A outer s H E) (defBody st) t ∧ t { nx := fun _ H' => Q .non H', rt := Q } (start N vs) H) : FnOk P w K mg base (CX1 P w) (k + 1) f fd ps sp := by
 obtain ⟨oc, od, kV, doc, pm, an, cdv, ct, osl, rfl, lk, hcd⟩ := F.ex
 exact fn_of lk hcd S len fun A outer s H vs Q E hr hsp => hbody cdv A outer s H vs Q E hr hsp
theorem FunD.binds {ds : List Value} {items : Array Value} {n : Nat} {qc : Value} {qo : Option Addr} {qs : Array (Option Value)} (F : FunD K x qual st f T fd) (hT : K.lookup T = some ⟨qc, qo, .seq items n, qs⟩)
   (h : ∀ (kV doc pm : Value) (an : Option Addr) (cdv ct : Value) (us : List Value), us.length + ds.length = ps.length →
     ∃ g : Option (Array Value) → Sem (List (Str × Value)), bindArgs (PySem.W.fnOf x qual (defArgs st) (defBody st) (defScope st) (.ref T) kV doc pm an cdv ct) ⟨us, []⟩ = seqItems? (.ref T) >>= g ∧ g (some items) = pure (ps.zip (us ++ ds))) : Binds K fd ps ds := by
 obtain ⟨oc, od, kV, doc, pm, an, cdv, ct, osl, rfl, lk, hcd⟩ := F.ex
 intro s us hin hl
 obtain ⟨g, h1, h2⟩ := h kV doc pm an cdv ct us (by rw [← List.length_append]; exact hl)
 exact PySem.W.binds_K hin rfl hT rfl h1 h2
end
end L2
namespace L2
open PySem PySem.Spec PyProof.Rows
section
variable {X : Cx}
end
end L2
namespace L2
open PySem PySem.Spec PyProof.Rows
def KeepX (x d : Addr) (H H' : Hp) : Prop := (∀ b o, b ≠ x → b ≠ d → H b = some o → (∀ ps, o ≠ .tbl ps) → H' b = some o) ∧ ∀ b, H b ≠ none → H' b ≠ none
def ordAt (l : List Nat) (r : Nat) : Nat := (LO.ord l).getD r 0
def KnownTo (ps : List (Int × V)) (l : List Nat) (g : Int) (k : Nat) : Prop := ∀ r : Int, ps.lookup r = if 0 ≤ r ∧ r < k ∧ (ordAt l r.toNat : Int) % g = 0 then some (.int (ordAt l r.toNat : Nat)) else none
def fsF (h d : Addr) (g : Int) : List (Str × V) := [("held", .ref h), ("gap", .int g), ("known", .ref d)]
def IsFin (C CL : Addr) (H : Hp) (x : Addr) (l : List Nat) (g : Int) : Prop := ∃ dx h d ps, H x = some (.ins C dx (fsF h d g)) ∧ IsLet CL H h (LO.letters l) (LO.home l) ∧ H d = some (.dK (encV ps)) ∧ KnownTo ps l g (l.length + 1) ∧ 1 ≤ g
end L2
namespace LO
end LO
namespace L2
open PySem
end L2
namespace L2
open PySem
end L2
namespace L2
open PySem
end L2
namespace L2
open PySem PySem.Spec PyProof.Rows
structure MkrK (P : Program) (w : World) (K : PySem.W.Frag) (mg : Str → Option Value) (base : Heap) (CX : CXT) (k : Nat) (x : Str) (C : Addr) (ps : List Str) (kw : Str) (sp : Sp) : Prop where
 ex : ∃ f fd, FnOk P w K mg base CX k f fd ps sp ∧ Mk K C f ∧ ∀ (s : Shared) (a b c : Value), K.In s.heap → BindsTo s fd ⟨[a, b], [(kw, c)]⟩ (ps.zip [a, b, c])
 at_ : mg x = some (.ref C)
section
variable {X : Cx} {k : Nat} {C : Addr} {x kw : Str} {ps : List Str} {sp : Sp} {e e2 : Expr} {ta tb : TE} {p pos kpos : Pos}
end
section
variable {K : PySem.W.Frag} {x qual : Str} {st : Stmt} {f T : Addr} {fd : FuncData} {ps : List Str}
end
end L2
namespace L2
open PySem
end L2
namespace L2
open PySem PySem.Spec PyProof.Rows
def KeepY (x d t1 t2 : Addr) (H H' : Hp) : Prop := KeepX x d H H' ∧ ∀ b o, b ≠ x → b ≠ d → b ≠ t1 → b ≠ t2 → H b = some o → H' b = some o
end L2
namespace L2
open PySem PySem.Spec PyProof.Rows
section
variable {X : Cx}
end
end L2
namespace LO
open L2
end LO
namespace L2
open PySem PySem.Spec PyProof.Rows
structure FnD (P : Program) (w : World) (K : PySem.W.Frag) (mg : Str → Option Value) (base : Heap) (k : Nat) (x : Str) (ps : List Str) (dvs : List V) (sp : Sp) : Prop where
 ex : ∃ f fd ds, FnOk P w K mg base CX0 k f fd ps sp ∧ mg x = some (.ref f) ∧ PySem.W.keepIn K (.ref f) = true ∧ Binds K fd ps ds ∧ Vals dvs ds
structure FnK (P : Program) (w : World) (K : PySem.W.Frag) (mg : Str → Option Value) (base : Heap) (k : Nat) (x : Str) (ps : List Str) (kw : Str) (sp : Sp) : Prop where
 ex : ∃ f fd, FnOk P w K mg base CX0 k f fd ps sp ∧ mg x = some (.ref f) ∧ PySem.W.keepIn K (.ref f) = true ∧ ∀ (s : Shared) (a c : Value), K.In s.heap → BindsTo s fd ⟨[a], [(kw, c)]⟩ (ps.zip [a, c])
section
variable {X : Cx} {k : Nat} {x kw : Str} {ps : List Str} {sp : Sp} {p pos kpos : Pos} {e e2 : Expr} {es : List Expr} {t : TA} {ta tb : TE} {dvs : List V}
end
section
variable {K : PySem.W.Frag} {x qual : Str} {st : Stmt} {f T : Addr} {fd : FuncData} {ps : List Str}
theorem FunD.bindsK1 {kw : Str} {items : Array Value} {n : Nat} {qc : Value} {qo : Option Addr} {qs : Array (Option Value)} (F : FunD K x qual st f T fd) (hT : K.lookup T = some ⟨qc, qo, .seq items n, qs⟩)
   (h : ∀ (kV doc pm : Value) (an : Option Addr) (cdv ct : Value) (a c : Value),
     ∃ g : Option (Array Value) → Sem (List (Str × Value)), bindArgs (PySem.W.fnOf x qual (defArgs st) (defBody st) (defScope st) (.ref T) kV doc pm an cdv ct) ⟨[a], [(kw, c)]⟩ = seqItems? (.ref T) >>= g ∧ g (some items) = pure (ps.zip [a, c])) :
   ∀ (s : Shared) (a c : Value), K.In s.heap → BindsTo s fd ⟨[a], [(kw, c)]⟩ (ps.zip [a, c]) := by
 obtain ⟨oc, od, kV, doc, pm, an, cdv, ct, osl, rfl, lk, hcd⟩ := F.ex
 intro s a c hin
 obtain ⟨g, h1, h2⟩ := h kV doc pm an cdv ct a c
 exact PySem.W.binds_K hin rfl hT rfl h1 h2
end
end L2
namespace LO
open LW L2
def sz (l : List Nat) (m r : Nat) : Nat := com (l.drop (ordAt l r)) (l.drop (ordAt l (r + (m - 1))))
def pc (l : List Nat) (m r : Nat) : List Nat := (l.drop (ordAt l r)).take (sz l m r)
structure Lng (l : List Nat) (m i : Nat) (c : List Nat) : Prop where
 one : m ≤ many l c
 most : ∀ r, r < i → sz l m r ≤ c.length
 first : ∀ r, r < i → sz l m r = c.length → ¬ pc l m r < c
 src : ∀ j, i ≤ j → j ≤ l.length → ¬ (l.drop (ordAt l j)).take c.length < c
end LO
namespace L2
open PySem PySem.Spec PyProof.Rows
section
variable {prog : Program} {w : World} {A : Around} {E : Value → Shared → Prop} {s : Shared}
structure Zap (z TI TO i1 i2 : Addr) : Prop where
 TIz : TI ≠ z
 TOz : TO ≠ z
 i1z : i1 ≠ z
 i2z : i2 ≠ z
 TITO : TI ≠ TO
 TIi1 : TI ≠ i1
 TIi2 : TI ≠ i2
 TOi1 : TO ≠ i1
 TOi2 : TO ≠ i2
 i12 : i1 ≠ i2
variable {z TI TO i1 i2 : Addr} {n1 n2 k : Nat} {P1 P2 : Nat → Value → Prop} {S1 S2 : Nat → Heap → Prop} {a b : Value}
end
section
variable {prog : Program} {w : World} {A : Around} {E : Value → Shared → Prop} {s : Shared}
end
section
variable {X : Cx} {es : List Expr} {k : Nat} {tp : Pos}
end
end L2
namespace L2
open PySem PySem.Spec PyProof.Rows
section
variable {X : Cx} {elt : Expr} {ifs : List Expr} {u v : Str} {pu pv : Pos} {scope : Scope} {pos tp : Pos} {k : Nat} {cl : List (Str × Addr)} {own : List Str} {cp : List (Str × Nat)} {ta : TA} {tc : TT} {te : TE}
end
end L2
namespace L2
open PySem PySem.Spec PyProof.Rows Builtin Builtin.Str
section
variable {prog : Program} {w : World} {A : Around} {E : Value → Shared → Prop} {s : Shared} {I l : Addr}
end
section
variable {X : Cx} {K : PySem.W.Frag}
end
end L2
namespace LG
open LO
def suf (u : List Nat) (k : Nat) : List Nat := u.drop (u.length - k)
def lg (l u : List Nat) : Nat := ((List.range u.length).takeWhile fun k => decide (many l (suf u (k + 1)) ≠ 0)).length
structure Row (l u : List Nat) (ps : List (List Nat)) : Prop where
 flat : ps.flatten = u
 each : ∀ a x b, ps = a ++ x :: b → x ≠ [] ∧ (many l x = 0 → x.length = 1) ∧ (many l x ≠ 0 → a.flatten ≠ [] → many l (suf (a.flatten ++ x) (x.length + 1)) = 0)
end LG
namespace LG
open LO
end LG
namespace LG
open LO
structure Best (z y c : List Nat) : Prop where
 one : many z c ≠ 0
 two : many y c ≠ 0
 most : ∀ w, many z w ≠ 0 → many y w ≠ 0 → w.length < c.length ∨ w.length = c.length ∧ ¬ w < c
def cand (z y : List Nat) (i : Nat) : List Nat := suf (y.take i) (lg z (y.take i))
structure Upto (z y : List Nat) (i : Nat) (c : List Nat) : Prop where
 one : many z c ≠ 0
 two : many y c ≠ 0
 most : ∀ j, j < i → (cand z y j).length < c.length ∨ (cand z y j).length = c.length ∧ ¬ cand z y j < c
end LG
namespace LG
open LO L2
end LG
namespace LG
end LG
namespace L2
open PySem
end L2
namespace L2
open PySem PySem.Spec PyProof.Rows
theorem one_sign {y : Str} {c : Nat} (h : L y = [c]) : y = ⟨#[c]⟩ := by
 have := T_L y
 rw [h] at this
 exact this.symm
theorem sub_L (z : Str) (i j : Nat) : Builtin.Str.strSub z i j = T (((L z).take j).drop i) := by
 have e : L (Builtin.Str.strSub z i j) = ((L z).take j).drop i := by
   show (z.cps.extract i j).toList = _
   rw [Array.toList_extract]
   show ((z.cps.toList).drop i).take (j - i) = _
   rw [List.drop_take]
   rfl
 rw [← e, T_L]
theorem take_while_all {f : Nat → Bool} : ∀ {l : List Nat}, (∀ c ∈ l, f c = true) → l.takeWhile f = l
 | [], _ => rfl
 | c :: r, h => by rw [List.takeWhile_cons_of_pos (h c (List.mem_cons_self ..)), take_while_all fun d hd => h d (List.mem_cons_of_mem _ hd)]
theorem take_while_lt {f : Nat → Bool} : ∀ {l : List Nat} {c : Nat}, c ∈ l → f c = false → (l.takeWhile f).length < l.length
 | d :: r, c, hc, h => by
   rw [List.takeWhile_cons]
   split
   · rename_i hd
     rcases List.mem_cons.mp hc with e | hc
     · rw [e, hd] at h
       cases h
     · have := take_while_lt hc h
       rw [List.length_cons, List.length_cons]
       omega
   · rw [List.length_cons, List.length_nil]
     omega
theorem drop_while_head {f : Nat → Bool} : ∀ {l : List Nat} {c : Nat}, c ∈ l → f c = false → ∃ d ∈ l.drop (l.takeWhile f).length, f d = false
 | d :: r, c, hc, h => by
   rw [List.takeWhile_cons]
   split
   · rename_i hd
     rcases List.mem_cons.mp hc with e | hc
     · rw [e, hd] at h
       cases h
     · obtain ⟨x, h1, h2⟩ := drop_while_head hc h
       exact ⟨x, by rw [List.length_cons, List.drop_succ_cons]; exact h1, h2⟩
   · rename_i hd
     exact ⟨d, List.mem_cons_self .., by simpa using hd⟩
theorem strip_nil (z y : Str) : L (Txt.stripChars z y) = [] ↔ ∀ c ∈ L z, y.cps.contains c = true := by
 have e0 : Txt.stripChars z y = T (((L z).take (stripHi y.cps.contains true z (stripLo y.cps.contains true z))).drop (stripLo y.cps.contains true z)) := by
   unfold Txt.stripChars Txt.stripBy
   by_cases hs : stripSame y.cps.contains true true z = true
   · rw [if_pos hs]
     unfold stripSame at hs
     rw [Bool.and_eq_true] at hs
     rw [eq_of_beq hs.1]
     have h2 := eq_of_beq hs.2
     rw [eq_of_beq hs.1] at h2
     rw [h2, ← L_len, List.take_length]
     exact (T_L z).symm
   · rw [if_neg hs]
     unfold stripped
     exact sub_L ..
 have elo : stripLo y.cps.contains true z = ((L z).takeWhile y.cps.contains).length := rfl
 have ehi : ∀ lo, stripHi y.cps.contains true z lo = (L z).length - (((L z).drop lo).reverse.takeWhile y.cps.contains).length := fun lo => by rw [L_len]; rfl
 rw [e0, L_T, ehi, elo]
 constructor
 · intro h c hc
   cases hg : y.cps.contains c with
   | true => rfl
   | false =>
     exfalso
     obtain ⟨d, hd, hd2⟩ := drop_while_head hc hg
     have l1 := take_while_lt hc hg
     have l2 := take_while_lt (f := y.cps.contains) (List.mem_reverse.mpr hd) hd2
     rw [List.length_reverse, List.length_drop] at l2
     have := congrArg List.length h
     rw [List.length_drop, List.length_take, List.length_nil] at this
     omega
 · intro h
   rw [take_while_all h, List.drop_eq_nil_of_le]
   rw [List.length_take]
   omega
section
variable {X : Cx}
def intW : List V → Hp → VK → Prop := fun xs H Q => match xs with
 | [.bl b] => Q (.int (b2i b)) H
 | [.int i] => Q (.int i) H
 | [.str z] => (L z).length ≤ 640 ∧ L z ≠ [] ∧ (∀ c ∈ L z, 48 ≤ c ∧ c ≤ 57) ∧ Q (.int (NumText.digitsVal (L z) : Nat)) H
 | _ => False
theorem c_intW : CallR X (.type "int") intW := by
 intro pins s σ H xs us Q I r h
 unfold intW at h
 split at h
 · exact c_int pins s σ H _ us Q I r h
 · exact c_int pins s σ H _ us Q I r h
 · rename_i z
   obtain ⟨hl, h0, hd, q⟩ := h
   obtain ⟨u, rfl, t, rfl⟩ := vals1 r
   rw [L_len] at hl
   exact PySem.W.KIN.call_text (intText_digits (x := z) hd h0 (by omega)) hl ⟨.int _, H, I.tok _, ⟨_, rfl⟩, q⟩
 · exact h.elim
def prtV : V → List V → Hp → VK → Prop := fun x vs H Q => match x, vs with
 | .str z, [.str y] => ∃ c, L y = [c] ∧ (L z).length ≤ sizeLine ∧ (∀ k : Nat, (L z)[k]? = some c → (∀ v, v < k → (L z)[v]? ≠ some c) → ∀ p, H p = none → Q (.ref p) (upd H p (.tup [.str (T ((L z).take k)), .str (T [c]), .str (T ((L z).drop (k + 1)))]))) ∧
   ((∀ v : Nat, (L z)[v]? ≠ some c) → ∀ p, H p = none → Q (.ref p) (upd H p (.tup [.str z, .str (T []), .str (T [])])))
 | _, _ => False
theorem m_partition : MtR X "str.partition" prtV := by
 intro pins s σ H x vs v us Q I rx rv h
 unfold prtV at h
 split at h
 · rename_i z y
   obtain ⟨c, hy, hl, q1, q2⟩ := h
   obtain ⟨t, rfl⟩ := rx
   obtain ⟨u, rfl, t', rfl⟩ := vals1 rv
   have hy2 := one_sign hy
   subst hy2
   rw [L_len] at hl
   have hn := I.hok.fresh (Nat.le_refl s.heap.objs.size)
   refine call_meets F.slot_str_partition (typeIs_str _ _ _) F.entry_str_partition (F.args_str_partition_2 _ _) (meets_str_partition z ⟨#[c]⟩ t t' rfl hl) ?_
   rcases StrLaws.occ_head z ⟨#[c]⟩ 1 (Nat.le_refl 1) with ⟨h0, h1⟩ | ⟨k, r, h0, hk, h1⟩
   · rw [h0]
     refine ⟨.ref s.heap.objs.size, _, ?_, rfl, q2 (fun v e => h1 v ((StrLaws.subAt_one z c v).mpr e)) _ hn⟩
     refine I.laid (fun b o e => Heap.get?_push_of_some _ e) (Nat.le_refl _) ⟨by simp only [List.length_cons, List.length_nil]; rw [sizeLine_eq]; decide, [.str z t, .str Str.empty s.toks, .str Str.empty s.toks], .cons ⟨_, rfl⟩ (.cons ⟨_, rfl⟩ (.cons ⟨_, rfl⟩ .nil)), ?_⟩
     exact ⟨_, Heap.get?_push_size s.heap rfl, rfl, 0, rfl⟩
   · rw [h0]
     have hm := (StrLaws.subAt_one z c k).mp hk
     refine ⟨.ref s.heap.objs.size, _, ?_, rfl, q1 k hm (fun v h2 e => h1 v h2 ((StrLaws.subAt_one z c v).mpr e)) _ hn⟩
     refine I.laid (fun b o e => Heap.get?_push_of_some _ e) (Nat.le_refl _) ⟨by simp only [List.length_cons, List.length_nil]; rw [sizeLine_eq]; decide, [.str (Builtin.Str.strSub z 0 k) s.toks, .str ⟨#[c]⟩ t', .str (Builtin.Str.strSub z (k + 1) z.length) (s.toks + 1)], .cons ⟨s.toks, ?_⟩ (.cons ⟨_, rfl⟩ (.cons ⟨s.toks + 1, ?_⟩ .nil)), ?_⟩
     · rw [sub_L]
       rfl
     · rw [sub_L, ← L_len, List.take_length]
     · exact ⟨_, Heap.get?_push_size s.heap rfl, rfl, 0, rfl⟩
 · exact h.elim
def stpV : V → List V → Hp → VK → Prop := fun x vs H Q => match x, vs with
 | .str z, [.str y] => (L z).length ≤ sizeLine ∧ ∀ l : List Nat, (l = [] ↔ ∀ c ∈ L z, c ∈ L y) → Q (.str (T l)) H
 | _, _ => False
theorem m_strip : MtR X "str.strip" stpV := by
 intro pins s σ H x vs v us Q I rx rv h
 unfold stpV at h
 split at h
 · rename_i z y
   obtain ⟨hl, q⟩ := h
   obtain ⟨t, rfl⟩ := rx
   obtain ⟨u, rfl, t', rfl⟩ := vals1 rv
   rw [L_len] at hl
   refine SC.stripChars (fun t2 k => ⟨.str (T (L (Txt.stripChars z y))), H, I.tok _, ⟨_, by rw [T_L]⟩, q _ ?_⟩) hl
   rw [strip_nil]
   refine forall_congr' fun c => forall_congr' fun _ => ?_
   show (y.cps.contains c = true) ↔ c ∈ y.cps.toList
   rw [Array.contains_iff, Array.mem_toList_iff]
 · exact h.elim
end
section
variable {X : Cx}
variable {elt iter : Expr} {ifs : List Expr} {u v : Str} {pu pv : Pos} {scope : Scope} {pos : Pos} {cl : List (Str × Addr)} {own : List Str} {cp : List (Str × Nat)} {ta : TA} {tl : TE} {tc : TT} {te : TE}
end
end L2
namespace LP
open PySem L2
def wr (rs : List (Nat × Nat)) : List Nat := (rs.map fun r => r.1 :: (numL (r.2 : Nat) ++ [59])).flatten
end LP
namespace L2
open PySem PySem.Spec PyProof.Rows
section
variable {X : Cx}
end
end L2
namespace LP
open PySem L2 NumText
def GoodN (l : List Nat) : Prop := 1 ≤ l.length ∧ l.length ≤ 9 ∧ (∀ c ∈ l, 48 ≤ c ∧ c ≤ 57) ∧ (l.getD 0 0 = 48 → l = [48])
def RAt (H : Hp) (a : Addr) : Prop := ∃ ts : List Addr, H a = some (.lst (ts.map V.ref)) ∧ ts.length ≤ 25 ∧ ∀ t ∈ ts, ∃ c n : Nat, H t = some (.tup [.str (T [c]), .int (n : Int)]) ∧ 1 ≤ n ∧ n ≤ 300
def TAt (m : Nat) (H : Hp) (a : Addr) : Prop := ∃ ts : List Addr, H a = some (.lst (ts.map V.ref)) ∧ ts.length ≤ m ∧ ∀ t ∈ ts, ∃ x y : List Nat, H t = some (.tup [.str (T x), .str (T y)]) ∧ x.length ≤ 1 ∧ y.length ≤ 2500
def Tu (H : Hp) (us : List Addr) : Prop := ∀ t ∈ us, ∃ x y : List Nat, H t = some (.tup [.str (T x), .str (T y)]) ∧ x.length ≤ 1 ∧ y.length ≤ 2000
end LP
namespace L2
open PySem PySem.Spec PyProof.Rows
section
variable {X : Cx} {pins : List (Addr × Obj)} {σ : St} {H : Hp} {s : Shared}
end
end L2
namespace L2
open PySem PySem.Spec PyProof.Rows
section
variable {X : Cx} {pins : List (Addr × Obj)} {σ : St} {H : Hp} {s : Shared} {d : Addr} {kvs : List (Key × V)} {ob : Obj}
end
end L2
namespace L2
open PySem PySem.Spec PyProof.Rows
end L2
namespace L2
open PySem PySem.Spec PyProof.Rows
theorem entry_dict_update_loop : entryFor table "dict.update.loop" = some Builtin.«dict.update.loop» := entryFor_of_tree (by kernel_rfl)
theorem plain_dict_update_loop : plainId "dict.update.loop" = true := by decide +kernel
def fillU (vs : List (Key × Value)) (ps : List (Key × Value)) : List (Key × Value) := ps.foldl (fun acc p => stored acc p.1 p.2) vs
section
variable {prog : Program} {w : World} {A : Around} {R : Result → Shared → Prop} {I o D : Addr} {its : List Value} {ps : List (Key × Value)}
theorem len_stored (vs : List (Key × Value)) (k : Key) (u : Value) : (stored vs k u).length ≤ vs.length + 1 := by
 unfold stored
 split
 · rw [List.length_map]; omega
 · rw [List.length_append, List.length_singleton]; omega
end
def fillV (ps : List (Key × V)) (acc : List (Key × V)) : List (Key × V) := ps.foldl (fun acc p => putK acc p.1 p.2) acc
theorem KV.fill : ∀ {ps : List (Key × V)} {us : List (Key × Value)} {acc : List (Key × V)} {bcc : List (Key × Value)}, KV ps us → KV acc bcc → KV (fillV ps acc) (fillU bcc us)
 | _, _, _, _, .nil, h => h
 | p :: ps, q :: us, _, _, .cons e t, h => by
   obtain ⟨e1, e2⟩ := e
   show KV (fillV ps (putK _ p.1 p.2)) (fillU (stored _ q.1 q.2) us)
   refine KV.fill t ?_
   rw [← e1]
   exact KV.put h _ e2
theorem len_fill : ∀ (ps : List (Key × V)) (acc : List (Key × V)), (fillV ps acc).length ≤ acc.length + ps.length
 | [], acc => Nat.le_refl _
 | p :: ps, acc => by
   have h1 := len_fill ps (putK acc p.1 p.2)
   have h2 := length_putK acc p.1 p.2
   rw [List.length_cons]
   show (fillV ps (putK acc p.1 p.2)).length ≤ _
   omega
section
variable {X : Cx}
end
end L2
namespace L2
open PySem PySem.Spec PyProof.Rows
section
variable {X : Cx} {tg : Expr}
end
end L2
namespace L2
open PySem PySem.Spec PyProof.Rows
def MkAt (H : Hp) (m : Addr) (ds : List Nat) (f : Nat → Nat) : Prop := ∃ ts : List Addr, H m = some (.lst (ts.map V.ref)) ∧ ts.length = ds.length ∧ ∀ (j : Nat) t d, ts[j]? = some t → ds[j]? = some d → H t = some (.tup [.str (T [d]), .int (f d : Nat)])
def fsM (a m : Addr) (g : Int) : List (Str × V) := [("held", .ref a), ("gap", .int g), ("marks", .ref m)]
def MksAt (H : Hp) (ms : List Addr) (ds cs : List Nat) (h : Nat) (g : Int) : Prop := ∀ (k : Nat) mk, ms[k]? = some mk → MkAt H mk ds fun d => ((colL cs h).take ((k : Int) * g).toNat).count d
def IsMks (C CL : Addr) (H : Hp) (x : Addr) (cs : List Nat) (h : Nat) (g : Int) : Prop := ∃ dx a m ms ds, H x = some (.ins C dx (fsM a m g)) ∧ IsLet CL H a cs h ∧ 1 ≤ g ∧ (ds.Nodup ∧ (∀ c, c ∈ ds ↔ c ∈ cs) ∧ ds.Pairwise (· ≤ ·)) ∧ H m = some (.lst (ms.map V.ref)) ∧ (ms.length : Int) = ((cs.length : Int) + 1) / g + 1 ∧ MksAt H ms ds cs h g
def MkK (x : Addr) (H H' : Hp) : Prop := (∀ b o, b ≠ x → H b = some o → (∀ ps, o ≠ .tbl ps) → H' b = some o) ∧ ∀ b, H b ≠ none → H' b ≠ none
end L2
namespace L2
open PySem PySem.Spec PyProof.Rows
section
variable {X : Cx}
end
end L2
namespace L2
open PySem PySem.Spec PyProof.Rows
section
variable {X : Cx}
end
end L2
namespace L2
open PySem PySem.Spec PyProof.Rows
section
variable {X : Cx}
end
end L2
namespace L2
open PySem PySem.Spec PyProof.Rows
theorem o_inL {X : Cx} {K : PySem.W.Frag} (hK : X.K = K) : OpR X (compareOp .In) (rIn K false) := by
 subst hK
 exact op_in_seq
end L2
namespace L2
open PySem PySem.Spec PyProof.Rows
theorem entry_unchain : entryFor table "proto.unchain" = some Builtin.«proto.unchain» := entryFor_of_tree (by kernel_rfl)
theorem plain_unchain : plainId "proto.unchain" = true := by decide +kernel
section
variable {prog : Program} {w : World} {A : Around} {E : Value → Shared → Prop} {s : Shared}
theorem unchain0 {e a : Addr} {Q : Value → Shared → Prop} (c : Ctx0 a s.heap) (q : Q .none s) : wpAny (model prog w) A (runValue (.builtin "proto.unchain" ⟨[.ref e, .ref a, .ref a, .bool false], []⟩)) Q E s := by
 obtain ⟨o, vs, h1, h2, h3⟩ := c
 refine wpAny_runValue (codeAny_builtin entry_unchain ?_)
 rw [Around.under_plainId plain_unchain _]
 show wpAny _ _ (field (.ref a) 2 >>= _) _ _ s
 refine wpAny_bind (wpAny_field h1 h2 h3 ?_)
 exact wpAny_pure q
theorem list_endH {it l xa : Addr} {i : Nat} {its : Array Value} {Q : Option Value → Shared → Prop} (hh : A.handled = some (.ref xa)) (c : Ctx0 xa s.heap) (hit : s.heap.IsListIter it l i) (hl : s.heap.IsList l its) (hx : its[i]? = none) (hne : xa ≠ it)
   (hQ : ∀ h', Heap.ExtBut it s.heap h' → Q none { s with heap := h' }) : wpAny (model prog w) A (pyNext (.ref it)) Q E s := by
 obtain ⟨o1, k1, kc, kd⟩ := id hit
 obtain ⟨o2, l1, lc, n2, l2⟩ := hl
 unfold pyNext
 refine wpAny_bind (wpAny_attempt (wpAny_callSpecial?_slot (name := Str.ofString "__next__") hit.typeIs slot_listiter_next (wpAny_call_entry slot_listiter_next hit.typeIs entry_listiter_next ?_ (args_listiter_next _))))
 show wpAny _ _ (field (.ref it) 0 >>= _) _ _ s; refine wpAny_bind (wpAny_field k1 kd (x := .ref l) rfl ?_)
 show wpAny _ _ (if (Value.ref l == Value.none) = true then _ else _) _ _ s; rw [if_neg (by exact Bool.false_ne_true)]
 show wpAny _ _ (field (.ref it) 1 >>= _) _ _ s; refine wpAny_bind (wpAny_field k1 kd (x := .int i 0) rfl ?_)
 show wpAny _ _ (seqItems? (.ref l) >>= _) _ _ s; refine wpAny_bind (wpAny_seqItems l1 l2 ?_)
 dsimp only; rw [Int.toNat_natCast, hx]; refine wpAny_bind (wpAny_rule (wpAny_bind (wpAny_setField k1 kd (by simp) ?_)))
 have c1 : Ctx0 xa (s.heap.update it (Obj.mapFields (·.setIfInBounds 0 Value.none))) := by
   obtain ⟨o, vs, h1, h2, h3⟩ := c
   exact ⟨o, vs, (Heap.get?_update_other _ _ (Ne.symm hne)).trans h1, h2, h3⟩
 show wpAny _ _ (newExc (.type "StopIteration") [] >>= _) _ _ _; refine wpAny_bind ?_
 simp only [newExc, newTuple]
 refine wpAny_bind (wpAny_newObj_type ?_ (by size_fits)); refine wpAny_bind (m := firstArgMember _ _) (wpAny_of_eq (a := Value.none) (by first | rfl | (simp only [firstArgMember]; rfl)) ?_)
 refine wpAny_newObj_type ?_ (by size_fits)
 simp only [raiseNew]
 refine wpAny_bind (wpAny_handled ?_)
 rw [show A.in1.handled = some (.ref xa) from hh]
 have l0 : xa < (s.heap.update it (Obj.mapFields (·.setIfInBounds 0 Value.none))).objs.size := by
   obtain ⟨o, vs, h1, _⟩ := c1
   exact Heap.lt_size h1
 have ek : ∀ b o, b ≠ it → s.heap.get? b = some o → (s.heap.update it (Obj.mapFields (·.setIfInBounds 0 Value.none))).get? b = some o := fun b o hb e => (Heap.get?_update_other _ _ (Ne.symm hb)).trans e
 generalize s.heap.update it (Obj.mapFields (·.setIfInBounds 0 Value.none)) = hA at c1 l0 ek ⊢
 have c2 := c1.push { cls := .type "tuple", dict := none, data := .seq ([] : List Value).toArray }
 have l1 : xa < (hA.push { cls := .type "tuple", dict := none, data := .seq ([] : List Value).toArray }).objs.size := by rw [Heap.size_push]; exact Nat.lt_succ_of_lt l0
 have ek2 : ∀ b o, b ≠ it → s.heap.get? b = some o → (hA.push { cls := .type "tuple", dict := none, data := .seq ([] : List Value).toArray }).get? b = some o := fun b o hb e => Heap.get?_push_of_some _ (ek b o hb e)
 generalize hA.push { cls := .type "tuple", dict := none, data := .seq ([] : List Value).toArray } = hB at c2 l1 ek2 ⊢
 show wpAny _ _ (if (Value.ref xa != Value.ref hB.objs.size) = true then _ else _) _ _ _
 have nx : (Value.ref xa != Value.ref hB.objs.size) = true := by
   rw [bne_iff_ne]
   intro z
   injection z with z
   exact Nat.lt_irrefl _ (z ▸ l1)
 rw [if_pos nx]
 refine wpAny_bind (wpAny_holding (unchain0 (c2.push _) ?_))
 show wpAny _ _ (setField (.ref hB.objs.size) 2 (.ref xa) >>= _) _ _ _
 refine wpAny_bind (wpAny_setField (Heap.get?_push_size _ rfl) rfl (by simp; omega) ?_)
 refine wpAny_throw ?_
 refine wpAny_bind (wpAny_isInstance (T := "StopIteration") (b := true) ⟨_, Heap.get?_update_self _ (Heap.get?_push_size _ rfl) (Obj.isFreed_of_fields (Obj.data_mapFields rfl _)), rfl⟩ isSubtype_stop ?_)
 refine wpAny_pure (hQ _ fun b o hb e => ?_)
 have e2 := ek2 b o hb e
 rw [Heap.get?_update_other _ _ (fun z => Nat.lt_irrefl _ (z ▸ Heap.lt_size e2))]
 exact Heap.get?_push_of_some _ e2
end
structure TurnH (xa : Addr) (P : Program) (w : World) (K : PySem.W.Frag) (tg : Expr) (J : It) (fp : List Addr) (it : Addr) (tn : Nat → Heap → Prop) : Prop where
 mem : it ∈ fp
 obj : ∀ i h, tn i h → ∀ b ∈ fp, ∃ o, h.get? b = some o ∧ ∀ v, o.data ≠ .cell v
 keep : ∀ i h h', tn i h → (∀ b ∈ fp, ∀ o, h.get? b = some o → h'.get? b = some o) → tn i h'
 item : ∀ (X : Cx), X.prog = P → X.w = w → X.K = K → X.A.handled = some (.ref xa) → ∀ (i : Nat) (pins : List (Addr × Obj)) (s : Shared) (σ : St) (H : Hp) (E : Value → Shared → Prop), Inv X pins σ H s → (∀ b ∈ fp, FpOk X pins H b) → tn i s.heap → J.go i H →
   wpAny (model P w) X.A (pyNext (.ref it)) (fun r s1 => ∃ u, r = some u ∧ wpAny (model P w) X.A (letOwnedTupleGo tg (.ref it) u) (fun _ s2 => ∃ x H', Inv X pins σ H' s2 ∧ RelV x u ∧ J.yld i H x H' ∧ tn (i + 1) s2.heap ∧ ∀ b ∈ fp, H' b = none) E s1) E s
 done : ∀ (X : Cx), X.prog = P → X.w = w → X.K = K → X.A.handled = some (.ref xa) → ∀ (i : Nat) (pins : List (Addr × Obj)) (s : Shared) (σ : St) (H : Hp) (E : Value → Shared → Prop), Inv X pins σ H s → (∀ b ∈ fp, FpOk X pins H b) → tn i s.heap → J.stop i H → wpAny (model P w) X.A (pyNext (.ref it)) (fun r s1 => r = none ∧ Inv X pins σ H s1) E s
 self : ∀ (A : Around) (i : Nat) (s : Shared) (Q : Value → Shared → Prop) (E : Value → Shared → Prop), tn i s.heap → Q (.ref it) s → wpAny (model P w) A (pyIter (.ref it)) Q E s
def PIEH (xa : Addr) (X : Cx) (pins : List (Addr × Obj)) (σ : St) (tg : Expr) (R : It → Hp → Prop) (itv : Value) (s2 : Shared) : Prop :=
 ∃ (it : Addr) (fp : List Addr) (tn : Nat → Heap → Prop) (J : It) (H' : Hp), itv = .ref it ∧ Inv X pins σ H' s2 ∧ TurnH xa X.prog X.w X.K tg J fp it tn ∧ tn 0 s2.heap ∧ (∀ b ∈ fp, FpOk X pins H' b) ∧ R J H'
def PIH (xa : Addr) (X : Cx) (tg iter : Expr) (wi : TI) : Prop := ∀ (pins : List (Addr × Obj)) (s : Shared) (σ : St) (H : Hp) (R : It → Hp → Prop), Inv X pins σ H s → wi σ H R → wpAny (model X.prog X.w) X.A (eval iter X.env) (fun v s1 => wpAny (model X.prog X.w) X.A (pyIter v) (PIEH xa X pins σ tg R) X.xe s1) X.xe s
def ItlH (xa : Addr) (K : PySem.W.Frag) (a : Addr) : It := ⟨(Itl K a).go, (Itl K a).yld, fun i H => (∃ C, H xa = some (ExcO xa C)) ∧ (Itl K a).stop i H⟩
theorem turn_listH {xa : Addr} {P : Program} {w : World} {K : PySem.W.Frag} {tg : Expr} (a it : Addr) : TurnH xa P w K tg (ItlH xa K a) [it] it (fun i h => h.IsListIter it a i) where
 mem := (turn_list (P := P) (w := w) (K := K) (tg := tg) a it).mem
 obj := (turn_list (P := P) (w := w) (K := K) (tg := tg) a it).obj
 keep := (turn_list (P := P) (w := w) (K := K) (tg := tg) a it).keep
 item := by
   intro X hP hw hK hh i pins s σ H E I hf st hg
   subst hP hw hK
   obtain ⟨xs, x, hq, hx⟩ := hg
   obtain ⟨its, rv, p, hz⟩ := I.list hq
   obtain ⟨u, hu, ru⟩ := rv.get hx
   obtain ⟨f0, f1, f2, f3, f4, f5⟩ := hf it (by simp)
   refine wpAny_pyNext_list_item st p.isList (x := u) (by simpa using hu) fun h1 st1 sb => ?_
   obtain ⟨o, e, c, d⟩ := id st1
   exact ⟨u, rfl, go_of (s := { s with heap := h1 }) e c d (by decide) ⟨x, H, I.turned (t' := s.toks) (fun b o hb e => (sb.2 b hb).trans e) f0 f1 f3 f4 f5, ru, ⟨rfl, fun ys hy => by rw [I.list_inj hy hq]; exact hx⟩, st1, fun b hb => (hf b hb).1⟩⟩
 done := by
   intro X hP hw hK hh i pins s σ H E I hf st hg
   subst hP hw hK
   obtain ⟨⟨C, hxa⟩, xs, hq, hx⟩ := hg
   obtain ⟨its, rv, p, hz⟩ := I.list hq
   obtain ⟨f0, f1, f2, f3, f4, f5⟩ := hf it (by simp)
   have hl := rv.length
   obtain ⟨⟨o0, v0, z1, z2, z3, z4⟩, _, _⟩ := I.hok xa _ hxa
   exact list_endH hh ⟨o0, v0, z1, z3, z4⟩ st p.isList (by simp; omega) (fun z => by rw [z, f0] at hxa; cases hxa) fun h1 eb => ⟨rfl, I.turned (t' := s.toks) (fun b o hb e => eb b o hb e) f0 f1 f3 f4 f5⟩
 self := (turn_list (P := P) (w := w) (K := K) (tg := tg) a it).self
def iListH (xa : Addr) (K : PySem.W.Frag) (tl : TE) : TI := fun σ H R => tl σ H fun v H1 => ∃ a, v = .ref a ∧ (∃ xs, SqL K H1 a xs) ∧ R (ItlH xa K a) H1
section
variable {X : Cx}
theorem pi_listH {tg l : Expr} {tl : TE} (xa : Addr) (hl : PE X l tl) : PIH xa X tg l (iListH xa X.K tl) := by
 intro pins s σ H R I h
 refine thn (hl pins s σ H _ I h) fun v s1 ⟨x, H1, I1, r1, q1⟩ => ?_
 obtain ⟨a, e, ⟨xs, hq⟩, q⟩ := q1
 subst e
 cases r1
 obtain ⟨its, rv, p, hz⟩ := I1.list hq
 refine wpAny_pyIter_list p.isList ?_
 have hb : ∀ b ∈ [s1.heap.objs.size], FpOk X pins H1 b := fun b hb => by
   cases List.mem_singleton.mp hb
   exact I1.fpOk (Nat.le_refl _) (I1.hok.fresh (Nat.le_refl _))
 exact ⟨s1.heap.objs.size, [s1.heap.objs.size], _, _, H1, rfl, I1.kept (t' := s1.toks) fun b o e => Heap.get?_push_of_some _ e, turn_listH a _, ⟨_, Heap.get?_push_size _ rfl, rfl, rfl⟩, hb, q⟩
theorem ps_compH {elt iter target : Expr} {i₀ : Nat} {y₀ : Str} {p₀ p₁ : Pos} {ifs : List Expr} {scope : Scope} {pos : Pos} {cl : List (Str × Addr)} {own : List Str} {cp : List (Str × Nat)} {wi : TI} {g : TG} {tc : TT} {te : TE}
   {xa : Addr} (hh : X.A.handled = some (.ref xa)) (hcl : closL scope.names X.env.cells [] = some cl) (hk : scope.kind = .function) (hnc : ∀ y ∈ scope.names, y.2 ≠ .cell)
   (hnm : ∀ x ∈ scope.names, x.2 = .local → scope.names.lookup x.1 = some .local) (hcp : CapOk X scope cp) (hi : PIH xa X target iter wi) (gk : GKeep own.length g)
   (hg : ∀ fp C s H, PG (cxC X scope cl (own ++ cp.map (·.1)) fp C s H) target g) (ht : ∀ fp C s H, PFs (cxC X scope cl (own ++ cp.map (·.1)) fp C s H) ifs tc) (he : ∀ fp C s H, PE (cxC X scope cl (own ++ cp.map (·.1)) fp C s H) elt te)
   (hN : X.N.Nodup) (hi₀ : X.N[i₀]? = some y₀) (hx₀ : X.env.scope.names.lookup y₀ = some .local) (hsw : swapsWith (.ListComp elt [⟨target, iter, ifs, 0⟩] scope pos) (some (.Name y₀ p₀)) p₁.line X.env = pure true)
   (hs : ∀ x, foldedSetIterable iter X.env x = pure x := by intro _; rfl) : PS X (.Assign [.Name y₀ p₀] (.ListComp elt [⟨target, iter, ifs, 0⟩] scope pos) p₁) (tAsg (tComp own.length cp wi g tc te) (gName i₀)) := by
 intro pins s σ H D I h
 rw [exec_Assign_Name_used _ _ _ _ hsw]
 refine wpAny_bind (wpAny_standAt (wpAny_bind ?_))
 show wpAny _ _ (comprehension (.ListComp elt [⟨target, iter, ifs, 0⟩] scope pos) scope X.env (firstIterPos [⟨target, iter, ifs, 0⟩] pos) (newList []) false (eval iter X.env) (some (assign (.Name y₀ p₀) X.env)) >>= fun _ => pure ()) _ _ s
 refine wpAny_bind ?_
 refine wpAny_comprehension_free (use := some (assign (.Name y₀ p₀) X.env)) rfl hs (closureFor_L hcl) hk hnm (thn (hi pins s σ H _ I h) fun xv s1 h1 => thn h1 fun itv s2 h2 => ?_)
 obtain ⟨it, fp, tn, J, H2, e, I2, Tn, st2, f2, W, ⟨m0, w0⟩, turn⟩ := h2
 subst e
 have hlt : ∀ b ∈ fp, b < s2.heap.objs.size := fun b hb => by
   obtain ⟨o, e, _⟩ := Tn.obj _ _ st2 b hb
   exact Heap.lt_size e
 refine wpAny_newObj_type (wpAny_newFunctionEnv hnc (by intro y hy; simp at hy) (fun h1 hns hsb => ?_) hk)
 dsimp only at hns hsb ⊢
 generalize hP : s2.heap.push { cls := .type "list", dict := none, data := .seq ([] : List Value).toArray } = h0 at hns hsb ⊢
 have hCs : h0.objs.size = s2.heap.objs.size + 1 := by rw [← hP, Heap.size_push]
 generalize hCg : h0.objs.size = C at hns hsb hCs ⊢
 have hC : s2.heap.objs.size < C := by omega
 have neC : ∀ b : Addr, b < s2.heap.objs.size → b ≠ C := fun b h => Nat.ne_of_lt (Nat.lt_trans h hC)
 have old : ∀ b o, s2.heap.get? b = some o → h1.get? b = some o := fun b o e =>
   (hsb.2 b (neC b (Heap.lt_size e))).trans (by rw [Heap.get?_push_of_some _ (by rw [← hP]; exact Heap.get?_push_of_some _ e)])
 have hD : h1.get? s2.heap.objs.size = some (lobj [] 0) :=
   (hsb.2 _ (Nat.ne_of_lt hC)).trans (by rw [Heap.get?_push_of_some _ (by rw [← hP]; exact Heap.get?_push_size _ rfl)])
 have fpok : ∀ {its : List Value} {k : Nat} {H' : Hp}, (∀ b ∈ fp, H' b = none) → ∀ b ∈ fp, FpOk (cxC X scope cl (own ++ cp.map (·.1)) fp C s2 H2) [(s2.heap.objs.size, lobj its k)] H' b := fun {its k H'} fr b hb => by
   refine ⟨fr b hb, neC b (hlt b hb), fun hf => ?_, .inl hb, fun x c e => ?_, fun p hp => ?_⟩
   · have hf : b ∈ frs X.stack := hf
     rcases List.mem_cons.mp (I2.stkSub b hf) with z | z
     · exact (f2 b hb).2.1 z
     · exact (f2 b hb).2.2.1 z
   · exact (f2 b hb).2.2.2.2.1 x c ((closL_in scope.names [] hcl (fun x c h => by simp at h)).1 x c e)
   · have hp : p ∈ [(s2.heap.objs.size, lobj its k)] := hp
     cases List.mem_singleton.mp hp
     exact Nat.ne_of_gt (hlt b hb)
 have loop : ∀ s4 : Shared, s4 = { s2 with heap := h1, toks := s2.toks + ([] : List (Str × Value)).length } →
     codeAny (model X.prog X.w) X.A (.compLoop (.ListComp elt [⟨target, iter, ifs, 0⟩] scope pos) 0 (.ref it) (.ref s2.heap.objs.size) (compEnvC scope cl C X.env))
       (compPost (model X.prog X.w) X.A X.xe (some (assign (.Name y₀ p₀) X.env)) (fun _ s' => wpAny (model X.prog X.w) X.A (pure ()) (fun _ s'' => wpAny (model X.prog X.w) X.A (pure Flow.next) (SP X pins D) X.xe s'') X.xe s') (.ref s2.heap.objs.size) C) s4 := by
   intro s4 e4
   have I4 : Inv (cxC X scope cl (own ++ cp.map (·.1)) fp C s2 H2) [(s2.heap.objs.size, lobj [] 0)] (capS own.length cp σ) H2 s4 := by
     rw [e4]
     exact comp_start I2 hcl hk hnc hcp f2 hC hlt (by simpa using hns) old hD
   have st4 : tn 0 s4.heap := by
     rw [e4]
     exact Tn.keep _ _ _ st2 fun b _ o e => old b o e
   refine codeAny_loop rfl (fun n s' => ∃ i H' acc its k, Inv (cxC X scope cl (own ++ cp.map (·.1)) fp C s2 H2) [(s2.heap.objs.size, lobj its k)] (capS own.length cp σ) H' s' ∧ Vals acc its ∧ tn i s'.heap ∧ (∀ b ∈ fp, H' b = none) ∧ W i n H' acc)
     (fun n s' hI => ?_) m0 ⟨0, H2, [], [], 0, I4, .nil, st4, fun b hb => (f2 b hb).1, w0⟩
   obtain ⟨i, H', acc, its, k, I', rv, st, fr, w⟩ := hI
   show wpAny _ X.A ((compTurn (.ListComp elt [⟨target, iter, ifs, 0⟩] scope pos) 0 (.ref it) (.ref s2.heap.objs.size) (compEnvC scope cl C X.env)).onRaise (fun x => do noteFrame x (compEnvC scope cl C X.env); theTreesLotGoes x)) _ _ s'
   refine wpAny_noted ?_
   rw [compTurn_list]
   refine wpAny_bind (wpAny_standAt (wpAny_bind ?_))
   obtain ⟨hz, ⟨stop, fin⟩ | ⟨go, step⟩⟩ := turn i n H' acc w
   · refine thnE (Tn.done (cxC X scope cl (own ++ cp.map (·.1)) fp C s2 H2) rfl rfl rfl hh i _ s' _ H' (fun _ _ => False) I' (fpok fr) st stop) fun r s5 ⟨hr, I5⟩ => ?_
     subst hr
     refine wpAny_pure ?_
     obtain ⟨mm, hmm, _⟩ := I5.loc
     have hmm : s5.heap.Ns C mm := hmm
     obtain ⟨hn, I6⟩ := comp_end (h'' := s5.heap) I2 f2 rfl hC I5 rv (Nat.le_of_lt hz) ⟨rfl, fun _ _ => rfl⟩
     obtain ⟨oC, eC, pC, g1, g2, g3⟩ := id hmm
     have hC2 : s2.heap.objs.size ≤ C := Nat.le_of_lt hC
     have fC : FpOk X pins (upd H' s2.heap.objs.size (.lst acc)) C := I2.fpOk hC2 (by rw [upd_ne (Nat.ne_of_gt hC)]; exact I5.free)
     have I7 : Inv X (pins ++ [(C, oC)]) σ (upd H' s2.heap.objs.size (.lst acc)) s5 := I6.pins_of fun p hp => by
       rcases List.mem_append.mp hp with hp | hp
       · exact I6.pin p (List.mem_append_right _ hp)
       · cases List.mem_singleton.mp hp
         exact ⟨g1, fC.1, fC.2.1, fC.2.2.1, fun v z => by rw [g2] at z; cases z⟩
     refine wpAny_assign_Name (store_ok I7 hN hi₀ (.inl hx₀) (show RelV (.ref s2.heap.objs.size) (.ref s2.heap.objs.size) from rfl) (fun s6 I8 => ?_) (.inr hx₀))
     have e6 := (I8.pin (C, oC) (List.mem_append_right _ (List.mem_append_right _ (List.mem_singleton.mpr rfl)))).1
     refine ⟨mm, ⟨oC, eC, pC, e6, g2, g3⟩, fun h'' hs'' => wpAny_pure (wpAny_pure ⟨_, _, I8.unpinned.turned (t' := s6.toks) (it := C) (fun b o hb e => (hs''.2 b hb).trans e) fC.1 fC.2.1 fC.2.2.2.1 fC.2.2.2.2.1 fC.2.2.2.2.2, fin _ hn⟩)⟩
   · refine thnE (Tn.item (cxC X scope cl (own ++ cp.map (·.1)) fp C s2 H2) rfl rfl rfl hh i _ s' _ H' (fun _ _ => False) I' (fpok fr) st go) fun r s5 ⟨u, hr, h5⟩ => ?_
     subst hr
     refine wpAny_bind (thnE h5 fun _ s6 ⟨x, H6, I6, r6, y6, st6, fr6⟩ => ?_)
     have I6' := I6.pinned (fpok fr6) (Tn.obj _ _ st6)
     refine wpAny_bind (thnE (hg fp C s2 H2 _ s6 _ H6 x u _ I6' r6 (gk _ _ _ _ (step x H6 y6))) fun _ s7 ⟨σ7, H7, I7, q7, kp7⟩ => ?_)
     refine wpAny_bind (thnE (ht fp C s2 H2 _ s7 σ7 H7 _ I7 q7) fun b s8 ⟨H8, I8, q8⟩ => ?_)
     have weak : ∀ {H9 : Hp} {s9 : Shared} {ps : List (Addr × Obj)}, Inv (cxC X scope cl (own ++ cp.map (·.1)) fp C s2 H2) ps σ7 H9 s9 → Inv (cxC X scope cl (own ++ cp.map (·.1)) fp C s2 H2) ps (capS own.length cp σ) H9 s9 := fun {H9 s9 ps} I9 =>
       I9.weak (by rw [I9.len]; exact I'.len) fun j v e => by
         by_cases hj : own.length ≤ j
         · rw [kp7 j hj]
           exact e
         · unfold capS at e
           rw [List.getElem?_append_left (by rw [List.length_replicate]; omega), List.getElem?_replicate] at e
           split at e <;> cases e
     have turned : ∀ {H9 : Hp} {s9 : Shared}, Inv (cxC X scope cl (own ++ cp.map (·.1)) fp C s2 H2) ([(s2.heap.objs.size, lobj its k)] ++ pinsAt fp s6.heap) σ7 H9 s9 → (∀ b ∈ fp, H9 b = none) ∧ ∀ b ∈ fp, ∀ o, s6.heap.get? b = some o → s9.heap.get? b = some o := fun {H9 s9} I9 => by
       refine ⟨fun b hb => ?_, fun b hb o e => ?_⟩
       · obtain ⟨o, e, _⟩ := Tn.obj _ _ st6 b hb
         exact (I9.pin (b, o) (List.mem_append_right _ (List.mem_append_right _ (mem_pinsAt hb e)))).2.1
       · exact (I9.pin (b, o) (List.mem_append_right _ (List.mem_append_right _ (mem_pinsAt hb e)))).1
     cases b with
     | false =>
       obtain ⟨m', hm', w8⟩ := q8
       refine wpAny_pure ⟨rfl, m', hm', i + 1, H8, acc, its, k, weak I8.unpinned, rv, Tn.keep _ _ _ st6 (turned I8).2, (turned I8).1, w8⟩
     | true =>
       refine wpAny_bind (wpAny_bind (thnE (he fp C s2 H2 _ s8 σ7 H8 _ I8 q8) fun uy s9 ⟨y, H9, I9, r9, m', hm', w9⟩ => ?_))
       have pD := I9.pin (s2.heap.objs.size, lobj its k) (List.mem_append_right _ (List.mem_append_left _ (List.mem_singleton.mpr rfl)))
       have lenI := rv.length
       refine wpAny_bind (wpAny_list_append_plain (items := its.toArray) ⟨k, pD.1⟩ (fun h10 pl sb => ?_) (by rw [List.size_toArray]; omega))
       obtain ⟨k', hk'⟩ := pl
       have I10 : Inv (cxC X scope cl (own ++ cp.map (·.1)) fp C s2 H2) (pinsAt fp s6.heap) σ7 H9 { s9 with heap := h10 } := by
         have I9' : Inv (cxC X scope cl (own ++ cp.map (·.1)) fp C s2 H2) (pinsAt fp s6.heap) σ7 H9 s9 := I9.pins_of fun p hp => I9.pin p (List.mem_append_right _ (List.mem_append_right _ hp))
         refine I9'.turned (t' := s9.toks) (it := s2.heap.objs.size) (fun b o hb e => (sb.2 b hb).trans e) pD.2.1 pD.2.2.1 (.inr (Nat.le_refl _)) (fun x c e z => ?_) fun p hp z => ?_
         · obtain ⟨v, o, ho, hd⟩ := I9.cell x c e
           rw [z, pD.1] at ho
           cases ho
           cases hd
         · have hp : p ∈ pinsAt fp s6.heap := hp
           exact Nat.ne_of_lt (hlt p.1 (of_pinsAt hp).1) z
       have kk : ∀ b ∈ fp, ∀ o, s6.heap.get? b = some o → h10.get? b = some o := fun b hb o e => (sb.2 b (Nat.ne_of_lt (hlt b hb))).trans ((turned I9).2 b hb o e)
       have I11 : Inv (cxC X scope cl (own ++ cp.map (·.1)) fp C s2 H2) [(s2.heap.objs.size, lobj (its ++ [uy]) k')] σ7 H9 { s9 with heap := h10 } := I10.pins_of fun p hp => by
         cases List.mem_singleton.mp hp
         refine ⟨?_, pD.2.1, pD.2.2.1, pD.2.2.2.1, fun v z => by cases z⟩
         rw [hk']
         simp
       exact wpAny_pure (wpAny_pure ⟨rfl, m', hm', i + 1, H9, acc ++ [y], its ++ [uy], k', weak I11, rv.append (.cons r9 .nil), Tn.keep _ _ _ st6 kk, (turned I9).1, w9⟩)
 exact codeAny_compStart_list (loop _ rfl) (Tn.self _ 0 _ _ _ (Tn.keep _ _ _ st2 fun b _ o e => old b o e) (loop _ rfl))
def tCLH (K : PySem.W.Frag) (xa : Addr) (n : Nat) (cp : List (Str × Nat)) (tl : TE) (tc : TT) (te : TE) : TE := fun σ H Q => tl σ H fun v H1 => match v with
 | .ref a => ∃ xs, SqL K H1 a xs ∧ xs.length < 16777216 ∧ ∃ Pv : Nat → Hp → List V → Prop, Pv 0 H1 [] ∧ (∀ i H2 acc, i ≤ xs.length → Pv i H2 acc → SqL K H2 a xs ∧ ∃ C, H2 xa = some (ExcO xa C)) ∧ (∀ i y H2 acc, xs[i]? = some y → Pv i H2 acc → oneC tc te ((capS n cp σ).set 0 (some y)) acc (Pv (i + 1)) H2) ∧ ∀ H2 acc, Pv xs.length H2 acc → ∀ l, H2 l = none → Q (.ref l) (upd H2 l (.lst acc))
 | _ => False
theorem ps_compLH {i₀ : Nat} {y₀ : Str} {p₀ p₁ : Pos} {K : PySem.W.Frag} {elt iter : Expr} {ifs : List Expr} {x : Str} {px : Pos} {scope : Scope} {pos : Pos} {cl : List (Str × Addr)} {own : List Str} {cp : List (Str × Nat)} {tl : TE} {tc : TT} {te : TE} (hK : X.K = K)
   {xa : Addr} (hh : X.A.handled = some (.ref xa)) (hcl : closL scope.names X.env.cells [] = some cl) (hk : scope.kind = .function) (hnc : ∀ y ∈ scope.names, y.2 ≠ .cell)
   (hnm : ∀ x ∈ scope.names, x.2 = .local → scope.names.lookup x.1 = some .local) (hcp : CapOk X scope cp) (hl : PE X iter tl) (hn : 0 < own.length)
   (hg : ∀ fp C s H, PG (cxC X scope cl (own ++ cp.map (·.1)) fp C s H) (.Name x px) (gName 0)) (ht : ∀ fp C s H, PFs (cxC X scope cl (own ++ cp.map (·.1)) fp C s H) ifs tc) (he : ∀ fp C s H, PE (cxC X scope cl (own ++ cp.map (·.1)) fp C s H) elt te)
   (hN : X.N.Nodup) (hi₀ : X.N[i₀]? = some y₀) (hx₀ : X.env.scope.names.lookup y₀ = some .local) (hsw : swapsWith (.ListComp elt [⟨.Name x px, iter, ifs, 0⟩] scope pos) (some (.Name y₀ p₀)) p₁.line X.env = pure true := by rfl)
   (hs : ∀ z, foldedSetIterable iter X.env z = pure z := by intro _; rfl) : PS X (.Assign [.Name y₀ p₀] (.ListComp elt [⟨.Name x px, iter, ifs, 0⟩] scope pos) p₁) (tAsg (tCLH K xa own.length cp tl tc te) (gName i₀)) := by
 subst hK
 have hl' : PE X iter (fun σ H Q => ∃ Q0 : VK, tl σ H Q0 ∧ ∀ v H', Q0 v H' → Q v H') := hl.imp fun σ H Q h => h
 intro pins s σ H D I h
 refine ps_compH hh hcl hk hnc hnm hcp (pi_listH xa hl') (gk_name hn) hg (fun fp C s H => (ht fp C s H).imp (t' := cloT tc) fun _ _ _ z => z) (fun fp C s H => (he fp C s H).imp (t' := cloE te) fun _ _ _ z => z) hN hi₀ hx₀ hsw hs pins s σ H D I ?_
 refine ⟨_, h, fun v H1 q => ?_⟩
 cases v with
 | ref a =>
   obtain ⟨xs, hx, hz, Pv, p0, pl, ps, pe⟩ := q
   have hsl : sizeLine = 16777216 := sizeLine_eq
   refine ⟨a, rfl, ⟨xs, hx⟩, fun i m H2 acc => m = xs.length - i ∧ i ≤ xs.length ∧ acc.length ≤ i ∧ Pv i H2 acc, ⟨xs.length, by omega, Nat.zero_le _, Nat.le_refl _, p0⟩, ?_⟩
   rintro i m H2 acc ⟨rfl, hi, hla, pv'⟩
   refine ⟨by omega, ?_⟩
   obtain ⟨hx2, hxa⟩ := pl i H2 acc hi pv'
   by_cases hlt : i < xs.length
   · refine .inr ⟨⟨xs, xs[i], hx2, by simp [hlt]⟩, fun y H3 ⟨e3, ey⟩ => ?_⟩
     subst e3
     exact oneC_clo (N' := fun H a => ∃ m', m' < xs.length - i ∧ (m' = xs.length - (i + 1) ∧ i + 1 ≤ xs.length ∧ a.length ≤ i + 1 ∧ Pv (i + 1) H a)) (fun H a ha z => ⟨xs.length - (i + 1), by omega, rfl, hlt, by omega, z⟩) (ps i y H3 acc (ey xs hx2) pv')
   · have e : i = xs.length := by omega
     subst e
     exact .inl ⟨⟨hxa, xs, hx2, Nat.le_refl _⟩, fun l hl' => pe H2 acc pv' l hl'⟩
 | _ => exact False.elim q
end
end L2
namespace LP
def ahd (p : List Nat) : List (List Nat) → List (List Nat)
 | [] => [p]
 | w :: r => (p ++ w) :: r
def spl (c : Nat) : Nat → List Nat → List (List Nat)
 | _, [] => [[]]
 | 0, x :: r => [x :: r]
 | n + 1, x :: r => if x = c then [] :: spl c n r else ahd [x] (spl c (n + 1) r)
def plcS (c : Nat) : Nat → List Nat → List Nat
 | _, [] => []
 | i, x :: r => if x = c then i :: plcS c (i + 1) r else plcS c (i + 1) r
theorem spl_ne (c n : Nat) : ∀ l, spl c n l ≠ []
 | [] => by simp [spl]
 | x :: r => by
   cases n with
   | zero => simp [spl]
   | succ n =>
     unfold spl
     split
     · simp
     · cases spl c (n + 1) r <;> simp [ahd]
theorem ahd_ahd (p q : List Nat) : ∀ {ws : List (List Nat)}, ws ≠ [] → ahd p (ahd q ws) = ahd (p ++ q) ws
 | [], h => absurd rfl h
 | w :: r, _ => by simp [ahd]
theorem spl_zero (c : Nat) : ∀ l, spl c 0 l = [l]
 | [] => rfl
 | _ :: _ => rfl
theorem spl_cons {c : Nat} (n : Nat) (r : List Nat) : ∀ {p : List Nat}, c ∉ p → spl c (n + 1) (p ++ c :: r) = p :: spl c n r
 | [], _ => by simp [spl]
 | x :: p, h => by
   have hx : x ≠ c := fun e => h (by simp [e])
   have hp : c ∉ p := fun e => h (by simp [e])
   show (if x = c then _ else ahd [x] (spl c (n + 1) (p ++ c :: r))) = _
   rw [if_neg hx, spl_cons n r hp]
   rfl
theorem spl_none {c : Nat} (n : Nat) : ∀ {p : List Nat}, c ∉ p → spl c n p = [p]
 | [], _ => rfl
 | x :: p, h => by
   cases n with
   | zero => rfl
   | succ n =>
     have hx : x ≠ c := fun e => h (by simp [e])
     have hp : c ∉ p := fun e => h (by simp [e])
     show (if x = c then _ else ahd [x] (spl c (n + 1) p)) = _
     rw [if_neg hx, spl_none (n + 1) hp]
     rfl
theorem spl_len (c : Nat) : ∀ (n : Nat) (l : List Nat), (spl c n l).length ≤ l.length + 1
 | n, [] => by simp [spl]
 | 0, x :: r => by simp [spl]
 | n + 1, x :: r => by
   unfold spl
   split
   · have := spl_len c n r
     simp only [List.length_cons]
     omega
   · have := spl_len c (n + 1) r
     have e : (ahd [x] (spl c (n + 1) r)).length = (spl c (n + 1) r).length := by
       have := spl_ne c (n + 1) r
       cases h : spl c (n + 1) r with
       | nil => exact absurd h this
       | cons w ws => rfl
     rw [e]
     simp only [List.length_cons]
     omega
end LP
namespace L2
open PySem PySem.Spec PyProof.Rows Builtin.Str LP
theorem occ_from (z : Str) (c : Nat) (lim : Nat) : ∀ (l : List Nat) (i : Nat) (acc : Array Nat) (free : Nat), (L z).drop i = l → free ≤ i → i ≤ z.length →
   (forIn (List.range' i (l.length + 1)) (acc, free) (StrLaws.occBody z ⟨#[c]⟩ z.length lim)).run.fst.toList = acc.toList ++ (plcS c i l).take (lim - acc.size)
 | [], i, acc, free, hl, hf, hi => by
   rw [List.length_nil, List.range'_succ, List.forIn_cons]
   unfold StrLaws.occBody
   have hn : (L z)[i]? = none := by
     have := congrArg (·[0]?) hl
     simpa using this
   rw [if_neg (fun h => by
     have := (StrLaws.subAt_one z c i).mp ⟨h.1.2, h.2⟩
     have h2 : (L z)[i]? = some c := this
     rw [hn] at h2
     cases h2)]
   show (forIn (List.range' (i + 1) 0) (acc, free) (StrLaws.occBody z ⟨#[c]⟩ z.length lim)).run.fst.toList = _
   simp [plcS]
 | x :: r, i, acc, free, hl, hf, hi => by
   have hx : (L z)[i]? = some x := by
     have := congrArg (·[0]?) hl
     simpa using this
   have hlt : i < z.length := by
     have := (List.getElem?_eq_some_iff.mp hx).1
     rw [L_len] at this
     exact this
   have hr : (L z).drop (i + 1) = r := by
     rw [← List.drop_drop, hl]
     rfl
   rw [List.length_cons, List.range'_succ, List.forIn_cons]
   unfold StrLaws.occBody
   by_cases e : x = c
   · by_cases hs : acc.size < lim
     · have st := (StrLaws.subAt_one z c i).mpr (show (L z)[i]? = some c by rw [hx, e])
       rw [if_pos ⟨⟨⟨hs, hf⟩, st.1⟩, st.2⟩]
       show (forIn (List.range' (i + 1) (r.length + 1)) (acc.push i, i + 1) (StrLaws.occBody z ⟨#[c]⟩ z.length lim)).run.fst.toList = _
       rw [occ_from z c lim r (i + 1) _ _ hr (Nat.le_refl _) hlt]
       rw [show plcS c i (x :: r) = i :: plcS c (i + 1) r from if_pos e, Array.size_push]
       obtain ⟨d, hd⟩ : ∃ d, lim - acc.size = d + 1 := ⟨lim - acc.size - 1, by omega⟩
       rw [hd, show lim - (acc.size + 1) = d by omega, List.take_succ_cons]
       simp
     · rw [if_neg (fun h => hs h.1.1.1)]
       show (forIn (List.range' (i + 1) (r.length + 1)) (acc, free) (StrLaws.occBody z ⟨#[c]⟩ z.length lim)).run.fst.toList = _
       rw [occ_from z c lim r (i + 1) _ _ hr (Nat.le_succ_of_le hf) hlt, show lim - acc.size = 0 by omega]
       simp
   · rw [if_neg (fun h => by
       have := (StrLaws.subAt_one z c i).mp ⟨h.1.2, h.2⟩
       have h2 : (L z)[i]? = some c := this
       rw [hx] at h2
       exact e (Option.some.inj h2))]
     show (forIn (List.range' (i + 1) (r.length + 1)) (acc, free) (StrLaws.occBody z ⟨#[c]⟩ z.length lim)).run.fst.toList = _
     rw [occ_from z c lim r (i + 1) _ _ hr (Nat.le_succ_of_le hf) hlt]
     rw [show plcS c i (x :: r) = plcS c (i + 1) r from if_neg e]
theorem occ_one (z : Str) (c lim : Nat) : occurrences z ⟨#[c]⟩ 0 z.length lim = (plcS c 0 (L z)).take lim := by
 rw [StrLaws.occ_eq]
 have := occ_from z c lim (L z) 0 #[] 0 rfl (Nat.le_refl _) (Nat.zero_le _)
 rw [L_len] at this
 simpa using this
theorem parts_one (z : Str) (c : Nat) : ∀ (l : List Nat) (n : Nat) (A P : List Nat), L z = A ++ P ++ l → StrLaws.partsFrom z 1 A.length ((plcS c (A.length + P.length) l).take n) = (ahd P (spl c n l)).map T
 | [], n, A, P, h => by
   have e : strSub z A.length z.length = T P := by
     rw [sub_L, ← L_len, List.take_length, h]
     simp
   show StrLaws.partsFrom z 1 A.length (([] : List Nat).take n) = _
   rw [List.take_nil]
   show [strSub z A.length z.length] = _
   rw [e]
   simp [spl, ahd]
 | x :: r, 0, A, P, h => by
   rw [List.take_zero, spl_zero]
   show [strSub z A.length z.length] = _
   rw [sub_L, ← L_len, List.take_length, h]
   simp [ahd]
 | x :: r, n + 1, A, P, h => by
   by_cases e : x = c
   · rw [show plcS c (A.length + P.length) (x :: r) = (A.length + P.length) :: plcS c (A.length + P.length + 1) r from if_pos e, show spl c (n + 1) (x :: r) = [] :: spl c n r from if_pos e, List.take_succ_cons]
     show strSub z A.length (A.length + P.length) :: StrLaws.partsFrom z 1 (A.length + P.length + 1) _ = _
     have ih := parts_one z c r n (A ++ P ++ [x]) [] (by rw [h]; simp)
     simp only [List.length_append, List.length_singleton, List.length_nil, Nat.add_zero] at ih
     rw [ih, sub_L, h]
     have e2 : List.drop A.length (List.take (A.length + P.length) (A ++ P ++ x :: r)) = P := by
       rw [List.take_append_of_le_length (by simp), List.take_of_length_le (by simp)]
       simp
     rw [e2]
     cases hs : spl c n r with
     | nil => exact absurd hs (spl_ne c n r)
     | cons w ws => simp [ahd]
   · rw [show plcS c (A.length + P.length) (x :: r) = plcS c (A.length + P.length + 1) r from if_neg e, show spl c (n + 1) (x :: r) = ahd [x] (spl c (n + 1) r) from if_neg e]
     have ih := parts_one z c r (n + 1) A (P ++ [x]) (by rw [h]; simp)
     rw [List.length_append, List.length_singleton, ← Nat.add_assoc] at ih
     rw [ih, ahd_ahd _ _ (spl_ne c (n + 1) r)]
theorem parts_spl (z : Str) (c lim : Nat) : partsBetween z (occurrences z ⟨#[c]⟩ 0 z.length lim) 1 = (spl c lim (L z)).map T := by
 rw [StrLaws.partsBetween_eq, occ_one]
 have := parts_one z c (L z) lim [] [] rfl
 simp only [List.length_nil, Nat.add_zero] at this
 rw [this]
 cases hs : spl c lim (L z) with
 | nil => exact absurd hs (spl_ne c lim (L z))
 | cons w ws => simp [ahd]
theorem itself_spl {z : Str} {c lim : Nat} (h : (occurrences z ⟨#[c]⟩ 0 z.length lim).isEmpty = true) : (spl c lim (L z)).map T = [z] := by
 rw [← parts_spl, List.isEmpty_iff.mp h]
 show [strSub z 0 z.length] = _
 rw [sub_L, ← L_len, List.take_length, List.drop_zero, T_L]
theorem vals_strs : ∀ (xs : List Str) (tk : Nat), Vals (xs.map V.str) (strsFrom tk xs)
 | [], _ => .nil
 | x :: r, tk => .cons ⟨tk, rfl⟩ (vals_strs r (tk + 1))
theorem kind_pos (z : Str) : 1 ≤ Builtin.Str.strKind z := by
 unfold Builtin.Str.strKind
 split
 · exact Nat.le_refl _
 · split <;> decide
section
variable {X : Cx}
def splV : V → List V → Hp → VK → Prop := fun x vs H Q => match x, vs with
 | .str z, [.str y] => ∃ c, L y = [c] ∧ c < 256 ∧ (L z).length + 2 ≤ sizeLine ∧ ∀ a, H a = none → Q (.ref a) (upd H a (.lst ((spl c ((L z).length + 1) (L z)).map fun w => V.str (T w))))
 | .str z, [.str y, .int k] => ∃ c, L y = [c] ∧ c < 256 ∧ (L z).length + 2 ≤ sizeLine ∧ 0 ≤ k ∧ k < 1000 ∧ ∀ a, H a = none → Q (.ref a) (upd H a (.lst ((spl c k.toNat (L z)).map fun w => V.str (T w))))
 | _, _ => False
theorem m_split : MtR X "str.split" splV := by
 intro pins s σ H x vs v us Q I rx rv h
 have fin : ∀ (c lim : Nat) (z : Str) (tk : Nat) (its : List Value), (L z).length + 2 ≤ sizeLine → Vals (((spl c lim (L z)).map T).map V.str) its → (∀ a, H a = none → Q (.ref a) (upd H a (.lst ((spl c lim (L z)).map fun w => V.str (T w))))) →
     EP X pins σ Q (.ref s.heap.objs.size) { s with toks := tk, heap := s.heap.push { cls := .type "list", data := .seq its.toArray } } := fun c lim z tk its hz r q => by
   have hn := I.hok.fresh (Nat.le_refl s.heap.objs.size)
   have em : ((spl c lim (L z)).map T).map V.str = (spl c lim (L z)).map fun w => V.str (T w) := by rw [List.map_map]; rfl
   have hl := spl_len c lim (L z)
   refine ⟨.ref s.heap.objs.size, _, I.laid (o := .lst ((spl c lim (L z)).map fun w => V.str (T w))) (t' := tk) (fun b o e => Heap.get?_push_of_some _ e) (Nat.le_refl _) ⟨by rw [List.length_map]; omega, its, 0, em ▸ r, Heap.get?_push_size _ rfl⟩, rfl, q _ hn⟩
 have kd : ∀ (z : Str) (c : Nat), c < 256 → z.length ≠ 0 → (decide (z.length < (⟨#[c]⟩ : Str).length) || decide (Builtin.Str.strKind z < Builtin.Str.strKind ⟨#[c]⟩)) = false := fun z c hc hz => by
   have h1 : Builtin.Str.strKind ⟨#[c]⟩ = 1 := by
     unfold Builtin.Str.strKind
     rw [if_pos (by simpa using hc)]
   have h2 := kind_pos z
   rw [h1, show (⟨#[c]⟩ : Str).length = 1 from rfl, decide_eq_false (by omega), decide_eq_false (by omega)]
   rfl
 have mt : ∀ (z : Str) (c : Nat), z.length = 0 → (decide (z.length < (⟨#[c]⟩ : Str).length) || decide (Builtin.Str.strKind z < Builtin.Str.strKind ⟨#[c]⟩)) = true := fun z c hz => by
   rw [hz]
   rfl
 have one : ∀ (z : Str) (c lim : Nat) (t : Tok), (spl c lim (L z)).map T = [z] → Vals (((spl c lim (L z)).map T).map V.str) [.str z t] := fun z c lim t e => by
   rw [e]
   exact .cons ⟨t, rfl⟩ .nil
 have nil : ∀ (z : Str) (c lim : Nat), z.length = 0 → (spl c lim (L z)).map T = [z] := fun z c lim hz => by
   have e : L z = [] := by
     rw [← L_len] at hz
     exact List.length_eq_zero_iff.mp hz
   rw [e]
   have := T_L z
   rw [e] at this
   simp [spl, this]
 unfold splV at h
 split at h
 · rename_i z y
   obtain ⟨c, hy, hc, hz, q⟩ := h
   obtain ⟨t, rfl⟩ := rx
   obtain ⟨u, rfl, t', rfl⟩ := vals1 rv
   have hy2 := one_sign hy
   subst hy2
   have hl := spl_len c ((L z).length + 1) (L z)
   by_cases h0 : z.length = 0
   · exact call_meets F.slot_str_split (typeIs_str _ _ _) F.entry_str_split (F.args_str_split_2 _ _) (meets_str_split_cannot_occur z ⟨#[c]⟩ t t' (mt z c h0)) (fin c _ z _ _ hz (one z c _ t (nil z c _ h0)) q)
   · cases hf : (occurrences z ⟨#[c]⟩ 0 z.length (z.length + 1)).isEmpty with
     | true => exact call_meets F.slot_str_split (typeIs_str _ _ _) F.entry_str_split (F.args_str_split_2 _ _) (meets_str_split_not_found z ⟨#[c]⟩ t t' (kd z c hc h0) rfl hf) (fin c _ z _ _ hz (one z c _ t (by rw [L_len]; exact itself_spl hf)) q)
     | false =>
       have e := parts_spl z c (z.length + 1)
       refine call_meets F.slot_str_split (typeIs_str _ _ _) F.entry_str_split (F.args_str_split_2 _ _) (meets_str_split_sep z ⟨#[c]⟩ t t' (kd z c hc h0) rfl hf (by rw [← L_len]; omega) (by show (partsBetween z _ 1).length ≤ _; rw [e, List.length_map, ← L_len]; omega)) ?_
       exact fin c _ z _ _ hz (by show Vals _ (strsFrom _ (partsBetween z _ 1)); rw [e, L_len]; exact vals_strs _ _) q
 · rename_i z y k
   obtain ⟨c, hy, hc, hz, k0, k1, q⟩ := h
   obtain ⟨t, rfl⟩ := rx
   obtain ⟨u, u2, rfl, ⟨t', rfl⟩, ⟨t2, rfl⟩⟩ := vals2 rv
   have hy2 := one_sign hy
   subst hy2
   have hk : (decide (k < -(2 ^ 63 : Int)) || decide (k ≥ 2 ^ 63)) = false := by
     rw [decide_eq_false (by omega), decide_eq_false (by omega)]
     rfl
   have hlim : limitOf z k = k.toNat := if_neg (by omega)
   have hl := spl_len c k.toNat (L z)
   by_cases h0 : z.length = 0
   · exact call_meets F.slot_str_split (typeIs_str _ _ _) F.entry_str_split (F.args_str_split_3 _ _ _) (meets_str_split_max_cannot_occur z ⟨#[c]⟩ k t t' t2 hk (mt z c h0)) (fin c _ z _ _ hz (one z c _ t (nil z c _ h0)) q)
   · cases hf : (occurrences z ⟨#[c]⟩ 0 z.length (limitOf z k)).isEmpty with
     | true => exact call_meets F.slot_str_split (typeIs_str _ _ _) F.entry_str_split (F.args_str_split_3 _ _ _) (meets_str_split_max_not_found z ⟨#[c]⟩ k t t' t2 hk (kd z c hc h0) rfl hf) (fin c _ z _ _ hz (one z c _ t (by rw [hlim] at hf; exact itself_spl hf)) q)
     | false =>
       have e := parts_spl z c (limitOf z k)
       have e' : partsBetween z (occurrences z ⟨#[c]⟩ 0 z.length (limitOf z k)) (⟨#[c]⟩ : Str).length = (spl c k.toNat (L z)).map T := by rw [hlim] at e ⊢; exact e
       refine call_meets F.slot_str_split (typeIs_str _ _ _) F.entry_str_split (F.args_str_split_3 _ _ _) (meets_str_split_sep_max z ⟨#[c]⟩ k t t' t2 hk (kd z c hc h0) rfl hf (by rw [← L_len]; omega) (by rw [e', List.length_map]; omega)) ?_
       exact fin c _ z _ _ hz (by rw [e']; exact vals_strs _ _) q
 · exact h.elim
end
end L2
namespace L2
open PySem PySem.Spec PyProof.Rows
section
variable {X : Cx}
def vChain (r1 r2 : R2) (ta tb tc : TE) : TE := fun σ H Q => ta σ H fun x H1 => tb σ H1 fun y H2 => r1 x y H2 fun z H3 => match z with
 | .bl k => if k = true then tc σ H3 fun u H4 => r2 y u H4 Q else Q (.bl false) H3
 | _ => False
theorem pe_chain2 {op1 op2 : CmpOp} {r1 r2 : R2} {a b c : Expr} {ta tb tc : TE} {pos : Pos} (h1 : OpR X (compareOp op1) r1) (h2 : OpR X (compareOp op2) r2) (ha : PE X a ta) (hb : PE X b tb) (hc : PE X c tc) (hm : lastMarks [op1, op2] [b, c] = false := by with_unfolding_all rfl) : PE X (.Compare a [op1, op2] [b, c] pos) (vChain r1 r2 ta tb tc) := by
 intro pins s σ H Q I h
 refine Compare_chain (thn (ha pins s σ H _ I h) fun v s1 ⟨x, H1, I1, rx, q1⟩ => chain_link (thn (hb pins s1 σ H1 _ I1 q1) fun u s2 ⟨y, H2, I2, ry, q2⟩ => thn (h1 pins s2 σ H2 x y v u _ I2 rx ry q2) fun k s3 ⟨z, H3, I3, rz, q3⟩ => ?_)) hm
 cases z with
 | bl k =>
   cases rz
   refine wpAny_truthy_bool ?_
   cases k with
   | true => exact chain_last (thn (hc pins s3 σ H3 _ I3 q3) fun t s4 ⟨w', H4, I4, rw', q4⟩ => h2 pins s4 σ H4 y w' u t _ I4 ry rw' q4)
   | false => exact ⟨.bl false, H3, I3, rfl, q3⟩
 | _ => exact False.elim q3
def Ents : List DictEntry → List (Str × V) → Prop
 | [], [] => True
 | e :: es, p :: ps => (∃ t, e.key = .str p.1 t) ∧ RelV p.2 e.val ∧ Ents es ps
 | _, _ => False
def topV : List (Str × V) → Str → Option V
 | [], _ => none
 | p :: r, z => if p.1 = z then some p.2 else topV r z
structure TopD (K : PySem.W.Frag) (P : Params) (a : Addr) (kvs : List (Str × V)) : Prop where
 ex : ∃ es n, K.lookup a = some ⟨.type "dict", none, .dict es n, #[]⟩ ∧ PySem.W.KeysLit P es.toList ∧ Ents es.toList kvs
 ns : (a == sysModules) = false
theorem ents_find {z : Str} : ∀ {es : List DictEntry} {kvs : List (Str × V)}, Ents es kvs → (∃ u v, (es.find? fun d => Value.isStrOf z d.key).map (·.val) = some u ∧ topV kvs z = some v ∧ RelV v u) ∨ ((es.find? fun d => Value.isStrOf z d.key).map (·.val) = none ∧ topV kvs z = none)
 | [], [], _ => .inr ⟨rfl, rfl⟩
 | e :: es, p :: ps, ⟨⟨t, hk⟩, hv, r⟩ => by
   unfold topV
   rw [List.find?_cons, hk]
   by_cases q : p.1 = z
   · have : Value.isStrOf z (.str p.1 t) = true := by
       subst q
       simp [Value.isStrOf]
     rw [this, if_pos q]
     exact .inl ⟨_, _, rfl, rfl, hv⟩
   · have : Value.isStrOf z (.str p.1 t) = false := by
       simp [Value.isStrOf, q]
     rw [this, if_neg q]
     exact ents_find r
 | [], _ :: _, h => h.elim
 | _ :: _, [], h => h.elim
theorem TopD.map {P : Program} {w : World} {K : PySem.W.Frag} {a : Addr} {kvs : List (Str × V)} {h : Heap} (D : TopD K w.params a kvs) (KX : K.In h) : ∃ f, h.MapOf (strKind P w) a f ∧ ∀ z, (∃ u v, f z = some u ∧ topV kvs z = some v ∧ RelV v u) ∨ (f z = none ∧ topV kvs z = none) := by
 obtain ⟨es, n, hl, hk, he⟩ := D.ex
 refine ⟨_, PySem.W.mapOf_K (prog := P) KX hl hk, fun z => ?_⟩
 have := ents_find (z := z) he
 obtain ⟨l⟩ := es
 unfold findBy
 rw [List.find?_toArray]
 exact this
def rTopIn (neg : Bool) (A : Addr) (kvs : List (Str × V)) : R2 := fun x y H Q => match x, y with
 | .str z, .ref a => a = A ∧ Q (.bl (neg != (topV kvs z).isSome)) H
 | _, _ => False
def rTopIx (A : Addr) (kvs : List (Str × V)) : R2 := fun x y H Q => match x, y with
 | .ref a, .str z => a = A ∧ ∃ v, topV kvs z = some v ∧ Q v H
 | _, _ => False
theorem o_ninTop {A : Addr} {kvs : List (Str × V)} (D : TopD X.K X.w.params A kvs) : OpR X (compareOp .NotIn) (rTopIn true A kvs) := by
 intro pins s σ H x y v u Q I rx ry h
 unfold rTopIn at h
 split at h
 · rename_i z a
   obtain ⟨rfl, q⟩ := h
   obtain ⟨t, rfl⟩ := rx
   cases ry
   obtain ⟨f, hm, hf⟩ := D.map (P := X.prog) (w := X.w) I.kIn
   refine wpAny_notIn_of (strKind_is X.prog X.w z t) D.ns hm ⟨.bl _, H, I.kept (t' := s.toks + 1) fun b o e => e, rfl, ?_⟩
   have e : (f z).isSome = (topV kvs z).isSome := by
     rcases hf z with ⟨_, _, e1, e2, _⟩ | ⟨e1, e2⟩ <;> rw [e1, e2] <;> rfl
   rw [e]
   simpa using q
 · exact h.elim
theorem i_top {A : Addr} {kvs : List (Str × V)} (D : TopD X.K X.w.params A kvs) : IxR X (rTopIx A kvs) := by
 intro value slice pins s σ H x y v u Q I rx ry h hs
 unfold rTopIx at h
 split at h
 · rename_i a z
   obtain ⟨rfl, v', hv, q⟩ := h
   obtain ⟨t, rfl⟩ := ry
   cases rx
   obtain ⟨f, hm, hf⟩ := D.map (P := X.prog) (w := X.w) I.kIn
   rcases hf z with ⟨u', v2, e1, e2, r⟩ | ⟨_, e2⟩
   · rw [hv] at e2
     cases e2
     exact tail_any hm.typeIs slot_dict_getitem.lookup (wpAny_getItem_of (strKind_is X.prog X.w z t) hm e1 ⟨v', H, I.kept (t' := s.toks + 1) fun b o e => e, r, q⟩) hs
   · rw [hv] at e2
     cases e2
 · exact h.elim
structure TopT (K : PySem.W.Frag) (a : Addr) (xs : List V) : Prop where
 ex : ∃ (o : Obj) (its : Array Value) (n : Nat), K.lookup a = some o ∧ o.cls = .type "tuple" ∧ o.data = .seq its n ∧ its.size ≤ sizeLine ∧ Vals xs its.toList
theorem TopT.sq {K : PySem.W.Frag} {a : Addr} {xs : List V} (T : TopT K a xs) (H : Hp) : SqT K H a xs := .inr T.ex
structure TopF (K : PySem.W.Frag) (P : Params) (mg : Str → Option Value) (a : Addr) (kns : List (Str × Str)) : Prop where
 ex : ∃ kvs, TopD K P a kvs ∧ ∀ z nm, (kns.find? fun p => p.1 = z).map (·.2) = some nm → ∃ f, mg nm = some (.ref f) ∧ topV kvs z = some (.ref f)
def tAns (kns : List (Str × Str)) (G : Str → Sp → Prop) (F : St → XK) (tk : TE) (t : TA) : TE := fun σ H Q => tk σ H fun kv H1 => match kv with
 | .str z => ∃ nm sp, (kns.find? fun p => p.1 = z).map (·.2) = some nm ∧ G nm sp ∧ t σ H1 fun vs H2 => sp vs H2 Q (F σ)
 | _ => False
theorem pe_ansX {F : St → XK} {A : Addr} {kns : List (Str × Str)} {G : Str → Sp → Prop} {k : Nat} {x : Str} {ke e : Expr} {es : List Expr} {tk : TE} {t : TA} {p p' pos : Pos} (T : Tk X F) (D : TopF X.K X.w.params X.mg A kns) (hA : X.mg x = some (.ref A)) (hG : ∀ nm sp, G nm sp → ∃ j ps, j ≤ k ∧ FnX X.prog X.w X.K X.mg X.base j nm ps sp) (hr : Room k X.A) (hk : PE X ke tk) (ha : PA X (e :: es) t) (hs : PlainIx ke) (hg : Gl X x := by rfl) (hdb : (x == ("__debug__" : Str)) = false := by decide)
   (he : starEach (e :: es) X.env = (false, eval e X.env) :: starEach es X.env := by rfl) (hpl : (backTo pos (starEach es X.env)).any (·.1) = false := by rfl)
   (hev : eval (.Call (.Subscript (.Name x p) ke p') (e :: es) [] pos) X.env = (do callWith pos (← eval (.Subscript (.Name x p) ke p') X.env) [] (backTo pos (starEach (e :: es) X.env)) (backToKw pos (keywordEach [] X.env))) := by rfl) :
   PE X (.Call (.Subscript (.Name x p) ke p') (e :: es) [] pos) (tAns kns G F tk t) := by
 intro pins s σ H Q I h
 obtain ⟨kvs, D, hD⟩ := D.ex
 refine Call_ ?_ hev
 have hsub : PE X (.Subscript (.Name x p) ke p') (tOp (rTopIx A kvs) (tC (.ref A)) tk) := pe_ix (i_top D) (pe_glob (v := .ref A) hg hA rfl hdb) hk hs
 have h0 : ∃ Q0 : VK, tk σ H Q0 ∧ ∀ kv H1, Q0 kv H1 → match kv with
     | .str z => ∃ nm sp, (kns.find? fun p => p.1 = z).map (·.2) = some nm ∧ G nm sp ∧ t σ H1 fun vs H2 => sp vs H2 Q (F σ)
     | _ => False := ⟨_, h, fun _ _ z => z⟩
 have hk' : PE X ke (fun σ H Q => ∃ Q0 : VK, tk σ H Q0 ∧ ∀ v H', Q0 v H' → Q v H') := hk.imp fun σ H Q h => h
 have hsub : PE X (.Subscript (.Name x p) ke p') (tOp (rTopIx A kvs) (tC (.ref A)) (fun σ H Q => ∃ Q0 : VK, tk σ H Q0 ∧ ∀ v H', Q0 v H' → Q v H')) := pe_ix (i_top D) (pe_glob (v := .ref A) hg hA rfl hdb) hk' hs
 refine thn (hsub pins s σ H (fun v H1 => ∃ nm sp f, v = .ref f ∧ X.mg nm = some (.ref f) ∧ G nm sp ∧ t σ H1 fun vs H2 => sp vs H2 Q (F σ)) I ?_) fun v s1 ⟨v', H1, I1, rv, nm, sp, f, ev, hf, hg1, q1⟩ => ?_
 · obtain ⟨Q0, a1, a2⟩ := h0
   refine ⟨Q0, a1, fun kv H1 q => ?_⟩
   have q := a2 kv H1 q
   cases kv with
   | str z =>
     obtain ⟨nm, sp, e1, e2, e3⟩ := q
     obtain ⟨f, f1, f2⟩ := hD z nm e1
     exact ⟨rfl, _, f2, nm, sp, f, rfl, f1, e2, e3⟩
   | _ => exact q.elim
 · subst ev
   cases rv
   obtain ⟨j, ps, hj, G1⟩ := hG nm sp hg1
   obtain ⟨f', fd, G1, hm, hkp, hb⟩ := G1.ex
   rw [hf] at hm
   cases hm
   refine PySem.W.callWith_K (h₀ := X.base) I1.ok.mod.kin hkp (thn (ha pos pins s1 σ H1 _ I1 q1) fun us s2 ⟨vs, H2, I2, r, q⟩ => ⟨I2.kIn, ?_⟩) he hpl
   have hl : us.length = ps.length := by rw [← r.length]; exact G1.len _ _ _ _ q
   refine wpAny_call (codeAny_mono (G1.run X.A X.stack s2 H2 ⟨us, []⟩ us vs Q (F σ) (hr.mono hj) I2.env0 (by simpa using hb s2 us I2.kIn (by simpa using hl)) r q) fun r s' hq => ?_)
   cases r with
   | error e => exact T.pass pins σ H2 s2 e s' I2 hq
   | ok fl =>
     cases fl with
     | ret u => exact I2.after hq
     | next => exact False.elim hq
     | brk => exact False.elim hq
     | cont => exact False.elim hq
end
structure FnZ0 (P : Program) (w : World) (K : PySem.W.Frag) (mg : Str → Option Value) (base : Heap) (k : Nat) (f : Addr) (fd : FuncData) (ps : List Str) (sp : Addr → Sp) : Prop where
 len : ∀ xa vs H Q E, sp xa vs H Q E → vs.length = ps.length
 run : ∀ (A : Around) (outer : List Env) (s : Shared) (H : Hp) (args : Args) (us : List Value) (vs : List V) (Q : VK) (xa : Addr), A.handled = some (.ref xa) → RoomW k A → Env0 P w K mg base A outer s H → BindsTo s fd args (ps.zip us) → Vals vs us → sp xa vs H Q E0 →
   codeAny (model P w) A (.call (.ref f) args) (CR CX0 outer P w H s Q E0) s
structure FnZ (P : Program) (w : World) (K : PySem.W.Frag) (mg : Str → Option Value) (base : Heap) (k : Nat) (x : Str) (ps : List Str) (sp : Addr → Sp) : Prop where
 ex : ∃ f fd, FnZ0 P w K mg base k f fd ps sp ∧ mg x = some (.ref f) ∧ PySem.W.keepIn K (.ref f) = true ∧ Binds K fd ps []
section
variable {P : Program} {w : World} {K : PySem.W.Frag} {mg : Str → Option Value} {base : Heap}
theorem Fun.okZ {x qual : Str} {st : Stmt} {f : Addr} {fd : FuncData} {N ps : List Str} {k : Nat} {sp : Addr → Sp} (F : Fun K x qual st f fd) (S : FnScope N ps (defScope st)) (len : ∀ xa vs H Q E, sp xa vs H Q E → vs.length = ps.length)
   (hbody : ∀ (xa : Addr) (cdv : Value) (A : Around) (outer : List Env) (s : Shared) (H : Hp) (vs : List V) (Q : VK), (A.deeper (envOfC qual (defScope st) s.heap.objs.size f cdv)).handled = some (.ref xa) → RoomW k (A.deeper (envOfC qual (defScope st) s.heap.objs.size f cdv)) → sp xa vs H Q E0 →
     ∃ t, PSs (cxW P w K mg base N qual (defScope st) f cdv A outer s H) (defBody st) t ∧ t { nx := fun _ H' => Q .non H', rt := Q } (start N vs) H) : FnZ0 P w K mg base (k + 1) f fd ps sp := by
 obtain ⟨oc, od, kV, doc, pm, an, cdv, ct, osl, rfl, lk, hcd⟩ := F.ex
 refine ⟨len, fun A outer s H args us vs Q xa hh hr e0 hb r hsp => ?_⟩
 have hl := len _ _ _ _ _ hsp
 have KX : K.In s.heap := e0.mod.kin.keeps fun b o e => (e0.bs b o e).1
 have lim : s.heap.NoLimit := e0.mod.nolimit.keeps fun b o e => (e0.bs b o e).1
 have hkind : ∀ y ∈ ps.zip us, (defScope st).names.lookup y.1 = some .local ∨ ((defScope st).names.lookup y.1 = some .cell ∧ ((cellsFrom (s.heap.objs.size + 1) (defScope st).names []).lookup y.1).isSome = true) := fun ⟨n, v⟩ hy => by
   rcases S.par n (List.of_mem_zip hy).1 with q | q
   · exact .inl q
   · exact .inr ⟨q, PySem.W.cellsFrom_some _ _ _ (.inl q)⟩
 refine codeAny_call_function (by have := hr.dp; omega) (KX _ _ lk) rfl S.co S.gen rfl (PySem.W.codeRec_of KX hcd) (hb _ _ _ _ ?_)
 refine wpAny_newFunctionEnv_cells S.kind hkind fun env he s1 x => ?_
 subst he
 refine ⟨lim.keeps x.toInCall.keep, codeAny_func ?_⟩
 obtain ⟨t, ht, hq⟩ := hbody xa cdv A outer s H vs Q hh (hr.deeper _) hsp
 have I0 : Inv (cxOf CX0 P w K mg base N qual (defScope st) f cdv (still A) outer s H E0) [] (start N vs) H s1 := inv_start S rfl e0.still hl r x
 refine wpAny_mono (ht [] s1 (start N vs) H _ I0.toW hq) (fun fl s' hs => ?_) fun e s' hs => False.elim hs
 have fin : ∀ {σ' : St} {H' : Hp} {v : V} {u : Value}, Inv (cxW P w K mg base N qual (defScope st) f cdv A outer s H) [] σ' H' s' → RelV v u → Q v H' → CE outer P w H s Q u s' :=
   fun {σ' H' v u} J rv q => ⟨v, H', J.os, J.bare, J.base, J.hok, rv, q⟩
 cases fl with
 | ret u =>
   obtain ⟨v, σ', H', J, rv, q⟩ := hs
   exact fin J rv q
 | next =>
   obtain ⟨σ', H', J, q⟩ := hs
   exact fin (v := V.non) (u := Value.none) J rfl q
 | brk =>
   obtain ⟨_, _, _, q⟩ := hs
   exact False.elim q
 | cont =>
   obtain ⟨_, _, _, q⟩ := hs
   exact False.elim q
end
section
variable {X : Cx} {k : Nat} {x : Str} {ps : List Str} {sp : Addr → Sp} {p pos : Pos} {e : Expr} {es : List Expr} {t : TA}
def tFnZ (xa : Addr) (sp : Addr → Sp) (t : TA) : TE := fun σ H Q => t σ H fun vs H1 => sp xa vs H1 Q E0
theorem pe_fnZ {xa : Addr} (hh : X.A.handled = some (.ref xa)) (G : FnZ X.prog X.w X.K X.mg X.base k x ps sp) (hr : RoomW k X.A) (ha : PA X (e :: es) t) (hg : Gl X x := by rfl) (hdb : (x == ("__debug__" : Str)) = false := by decide)
   (he : starEach (e :: es) X.env = (false, eval e X.env) :: starEach es X.env := by rfl) (hpl : (backTo pos (starEach es X.env)).any (·.1) = false := by rfl) : PE X (.Call (.Name x p) (e :: es) [] pos) (tFnZ xa sp t) := by
 obtain ⟨f, fd, G, hm, hk, hb⟩ := G.ex
 intro pins s σ H Q I h
 refine wpAny_Call_Name_kw (ld_glob I hg hm ?_ hdb)
 refine PySem.W.callWith_K (h₀ := X.base) I.ok.mod.kin hk (thn (ha pos pins s σ H _ I h) fun us s1 ⟨vs, H1, I1, r, q⟩ => ⟨I1.kIn, ?_⟩) he hpl
 have hl : us.length = ps.length := by rw [← r.length]; exact G.len _ _ _ _ _ q
 refine wpAny_call (codeAny_mono (G.run X.A X.stack s1 H1 ⟨us, []⟩ us vs Q xa hh hr I1.env0 (by simpa using hb s1 us I1.kIn (by simpa using hl)) r q) fun r s' hq => ?_)
 cases r with
 | error e => exact False.elim hq
 | ok fl =>
   cases fl with
   | ret u => exact I1.after hq
   | next => exact False.elim hq
   | brk => exact False.elim hq
   | cont => exact False.elim hq
end
def tH1Z (K : PySem.W.Frag) (C0 : Addr) (i : Nat) (ts : Addr → TS) (th : Ends → St → XK) : Ends → St → XK := fun D σ cls d H => match cls with
 | .ref C => ExC K C ∧ if (clsMro K C).contains (.ref C0) = true then ∀ a, H a = none → ts a (unb i D) (σ.set i (some (.ref a))) (upd H a (ExcO a C)) else th D σ (.ref C) d H
 | _ => False
theorem ph_cons1Z {X : Cx} {x n : Str} {C0 : Addr} {i : Nat} {np pos : Pos} {b₀ : Stmt} {suite : List Stmt} {rest : List ExceptHandler} {ts : Addr → TS} {th : Ends → St → XK} (hex : X.ex = []) (hC0 : ExC X.K C0) (hg : Gl X x) (hm : X.mg x = some (.ref C0)) (hN : X.N.Nodup) (hi : X.N[i]? = some n) (hk : X.env.kindOf n = some .local) (hb : ∀ a, PSs (cxH X a (fun _ _ => False)) (b₀ :: suite) (ts a)) (hr : PHs X rest th) (hdb : (x == ("__debug__" : Str)) = false := by decide) :
   PHs X (.ExceptHandler (some (.Name x np)) (some n) (b₀ :: suite) pos :: rest) (tH1Z X.K C0 i ts th) := by
 intro pins σ H1 s1 a C a0 B H s2 h D c hfl hup q
 have I := c.inv hfl hup
 have hd : X.calm = true → X.A.handled = none := c.inv1.ok.hd
 obtain ⟨hC, q⟩ := q
 obtain ⟨ob, hob, hobc⟩ := hfl.1.there
 refine wpAny_handleBy_cons (codeAny_handlers_test (ld_glob (X := cxH X a (notedBy (model X.prog X.w) (X.A.mark (some (.ref a))) X.env (cameBackBy (model X.prog X.w) X.A X.env X.xe))) (I.marked a _) hg hm ?_ hdb)) (by intro z; cases z)
 refine matches_own (s := { s2 with heap := h }) I.kIn hC hC0 hob hobc ?_
 cases e : (clsMro X.K C).contains (.ref C0) with
 | true =>
   rw [e] at q
   refine codeAny_handlers_suite_as (lands_againX hfl fun h3 hfl3 hup3 => ?_)
   obtain ⟨ha, I3⟩ := c.held hex hfl3 (hup.trans hup3)
   refine store_ok I3 hN hi (.inl hk) (show RelV (.ref a) (.ref a) from rfl) (fun s4 I4 => ?_) (.inr hk)
   refine wpAny_mono (hb a pins _ _ _ _ (I4.marked a _) (q a ha)) (fun f s' z => ?_) fun _ _ z => False.elim z
   have z := z.unmarked hd
   cases f with
   | next => obtain ⟨σ', H', J, w'⟩ := z; exact goes_ok J hN hi hk fun s5 J5 => ⟨_, H', J5, w'⟩
   | brk => obtain ⟨σ', H', J, w'⟩ := z; exact goes_ok J hN hi hk fun s5 J5 => ⟨_, H', J5, w'⟩
   | cont => obtain ⟨σ', H', J, w'⟩ := z; exact goes_ok J hN hi hk fun s5 J5 => ⟨_, H', J5, w'⟩
   | ret u => obtain ⟨v, σ', H', J, r, w'⟩ := z; exact goes_ok J hN hi hk fun s5 J5 => ⟨v, _, H', J5, r, w'⟩
 | false =>
   rw [e] at q
   exact hr pins σ H1 s1 a C a0 B H s2 h D c hfl hup q
end L2
namespace L2
open PySem PySem.Spec PyProof.Rows
def ZipB (h : Heap) (z TI TO : Addr) : Prop := ∃ (t : Addr) (b : Bool) (o : Obj), h.get? z = some { cls := .type "zip", dict := none, data := .fields #[rawInt t, .bool b, .bool false, .ref TI, .ref TO], slots := #[] } ∧ h.get? t = some o ∧ t ≠ z
section
variable {prog : Program} {w : World} {A : Around} {E : Value → Shared → Prop} {s : Shared} {z TI TO i1 i2 l1 l2 : Addr} {k1 k2 : Nat} {xs ys : Array Value}
theorem busy_of {Q : Bool → Shared → Prop} (hz : ZipB s.heap z TI TO) (hQ : ∀ h', ZipB h' z TI TO → Heap.SameBut z s.heap h' → Q false { s with heap := h' }) : wpAny (model prog w) A (Builtin.SmallTypes.ownedTupleIsFree (.ref z)) Q E s := by
 obtain ⟨t, b, o, g, ht, ne⟩ := hz
 unfold Builtin.SmallTypes.ownedTupleIsFree
 refine wpAny_bind (wpAny_field g rfl (x := rawInt t) rfl ?_)
 show wpAny _ _ (loadIfAlive ((t : Int).toNat) >>= _) _ _ _
 rw [Int.toNat_natCast]
 refine wpAny_bind ?_
 have la : ∀ (Q' : Option Obj → Shared → Prop), Q' (s.heap.get? t) s → wpAny (model prog w) A (loadIfAlive t) Q' E s := fun Q' q Γ p hΓ => by
   show Sem.wp _ _ (Sem.loadIfAlive t Sem.pure) _ _ _ _
   rw [Sem.wp_loadIfAlive, Sem.wp_pure]
   exact q
 refine la _ ?_
 rw [ht]
 show wpAny _ _ (field (.ref z) 1 >>= _) _ _ _
 refine wpAny_bind (wpAny_field g rfl (x := .bool b) rfl ?_)
 cases b with
 | true => 
   refine wpAny_pure (hQ s.heap ⟨t, true, o, g, ht, ne⟩ ⟨rfl, fun _ _ => rfl⟩)
 | false =>
   show wpAny _ _ (setField (.ref z) 1 (.bool true) >>= _) _ _ _
   refine wpAny_bind (wpAny_setField_rec g (by simp) fun h' hz' hs' => wpAny_pure (hQ h' ⟨t, true, o, hz', (hs'.2 t ne).trans ht, ne⟩ hs'))
theorem zb_item {x y : Value} {Q : Option Value → Shared → Prop} (D : ZipApart z TI TO i1 i2 l1 l2) (hz : ZipB s.heap z TI TO) (hTI : IsPair s.heap TI (.ref i1) (.ref i2))
   (h1 : s.heap.IsListIter i1 l1 k1) (h2 : s.heap.IsListIter i2 l2 k2) (hl1 : s.heap.IsList l1 xs) (hl2 : s.heap.IsList l2 ys) (hx : xs[k1]? = some x) (hy : ys[k2]? = some y)
   (hQ : ∀ h', ZipB h' z TI TO → h'.IsListIter i1 l1 (k1 + 1) → h'.IsListIter i2 l2 (k2 + 1) → IsPair h' s.heap.objs.size x y → (∀ c o, c ≠ z → c ≠ i1 → c ≠ i2 → s.heap.get? c = some o → h'.get? c = some o) → Q (some (.ref s.heap.objs.size)) { s with heap := h' }) :
   wpAny (model prog w) A (pyNext (.ref z)) Q E s := by
 have hT : s.TypeIs (.ref z) "zip" := by
   obtain ⟨t, b, o, g, _⟩ := hz
   exact ⟨_, g, rfl⟩
 obtain ⟨t, b, o, g, ht, ne⟩ := id hz
 unfold pyNext
 refine wpAny_bind (wpAny_attempt (wpAny_callSpecial?_slot (name := Str.ofString "__next__") hT F.slot_zip_next (wpAny_call_entry F.slot_zip_next hT F.entry_zip_next ?_ (F.args_zip_next_1 _))))
 show wpAny _ _ (field (.ref z) 2 >>= _) _ _ _
 refine wpAny_bind (wpAny_field g rfl (x := .bool false) rfl ?_)
 show wpAny _ _ (field (.ref z) 3 >>= _) _ _ _
 refine wpAny_bind (wpAny_field g rfl (x := .ref TI) rfl (wpAny_bind (wpAny_seqItems hTI rfl ?_)))
 show wpAny _ _ (Builtin.SmallTypes.ownedTupleIsFree (.ref z) >>= _) _ _ _
 refine wpAny_bind (busy_of hz fun ha hza hsa => ?_)
 rw [if_neg Bool.false_ne_true]
 dsimp only
 refine wpAny_bind ?_
 rw [← Array.forIn_toList]
 show wpAny _ _ (forIn [Value.ref i1, Value.ref i2] _ _) _ _ _
 rw [List.forIn_cons]
 refine wpAny_bind (wpAny_bind (wpAny_holding ?_))
 show wpAny _ _ (Builtin.SmallTypes.nextOf (.ref i1) >>= _) _ _ _
 refine wpAny_bind (wpAny_nextOf_list_item (h1.extBut hsa.extBut D.i1z) (hl1.extBut hsa.extBut D.l1z) hx fun hb b1 hsb => wpAny_pure (wpAny_pure ?_))
 dsimp only
 rw [List.forIn_cons]
 refine wpAny_bind (wpAny_bind (wpAny_holding ?_))
 show wpAny _ _ (Builtin.SmallTypes.nextOf (.ref i2) >>= _) _ _ _
 refine wpAny_bind (wpAny_nextOf_list_item ((h2.extBut hsa.extBut D.i2z).extBut hsb.extBut D.i12.symm) ((hl2.extBut hsa.extBut D.l2z).extBut hsb.extBut D.l2i1) hy fun hc c1 hsc => wpAny_pure (wpAny_pure ?_))
 dsimp only
 rw [List.forIn_nil]
 refine wpAny_pure ?_
 dsimp only
 refine wpAny_bind (wpAny_newTuple ?_ (by show 2 ≤ sizeLine; rw [sizeLine_eq]; decide))
 have esz : hc.objs.size = s.heap.objs.size := by rw [hsc.1, hsb.1, hsa.1]
 refine wpAny_pure ⟨_, rfl, wpAny_pure ?_⟩
 have up : ∀ c o, c ≠ i1 → c ≠ i2 → ha.get? c = some o → hc.get? c = some o := fun c o n1 n2 e => (hsc.2 c n2).trans ((hsb.2 c n1).trans e)
 have hzc : ZipB hc z TI TO := by
   obtain ⟨t', b', o', g', ht', ne'⟩ := hza
   have : ∃ o2, hc.get? t' = some o2 := by
     by_cases n1 : t' = i1
     · subst n1
       obtain ⟨oo, e, _⟩ := b1
       exact ⟨oo, (hsc.2 _ D.i12).trans e⟩
     · by_cases n2 : t' = i2
       · subst n2
         obtain ⟨oo, e, _⟩ := c1
         exact ⟨oo, e⟩
       · exact ⟨o', up t' o' n1 n2 ht'⟩
   obtain ⟨o2, e2⟩ := this
   exact ⟨t', b', o2, up z _ D.i1z.symm D.i2z.symm g', e2, ne'⟩
 have r := hQ (hc.push { cls := .type "tuple", data := .seq #[x, y] }) ?_ ?_ ?_ ?_ ?_
 · rw [← esz] at r
   exact r
 · obtain ⟨t', b', o', g', ht', ne'⟩ := hzc
   exact ⟨t', b', o', Heap.get?_push_of_some _ g', Heap.get?_push_of_some _ ht', ne'⟩
 · exact (b1.at fun o e => (hsc.2 _ D.i12).trans e).at fun o e => Heap.get?_push_of_some _ e
 · exact c1.at fun o e => Heap.get?_push_of_some _ e
 · rw [← esz]
   exact Heap.get?_push_size _ rfl
 · exact fun c o n0 n1 n2 e => Heap.get?_push_of_some _ (up c o n1 n2 ((hsa.2 c n0).trans e))
theorem zb_end {Q : Option Value → Shared → Prop} (hh : A.handled = none) (D : ZipApart z TI TO i1 i2 l1 l2) (hz : ZipB s.heap z TI TO) (hTI : IsPair s.heap TI (.ref i1) (.ref i2))
   (h1 : s.heap.IsListIter i1 l1 k1) (hl1 : s.heap.IsList l1 xs) (hx : xs[k1]? = none)
   (hQ : ∀ h', (∀ c o, c ≠ z → c ≠ i1 → c ≠ i2 → s.heap.get? c = some o → h'.get? c = some o) → Q none { s with heap := h' }) :
   wpAny (model prog w) A (pyNext (.ref z)) Q E s := by
 have hT : s.TypeIs (.ref z) "zip" := by
   obtain ⟨t, b, o, g, _⟩ := hz
   exact ⟨_, g, rfl⟩
 obtain ⟨t, b, o, g, ht, ne⟩ := id hz
 unfold pyNext
 refine wpAny_bind (wpAny_attempt (wpAny_callSpecial?_slot (name := Str.ofString "__next__") hT F.slot_zip_next (wpAny_call_entry F.slot_zip_next hT F.entry_zip_next ?_ (F.args_zip_next_1 _))))
 show wpAny _ _ (field (.ref z) 2 >>= _) _ _ _
 refine wpAny_bind (wpAny_field g rfl (x := .bool false) rfl ?_)
 show wpAny _ _ (field (.ref z) 3 >>= _) _ _ _
 refine wpAny_bind (wpAny_field g rfl (x := .ref TI) rfl (wpAny_bind (wpAny_seqItems hTI rfl ?_)))
 show wpAny _ _ (Builtin.SmallTypes.ownedTupleIsFree (.ref z) >>= _) _ _ _
 refine wpAny_bind (busy_of hz fun ha hza hsa => ?_)
 rw [if_neg Bool.false_ne_true]
 dsimp only
 refine wpAny_bind ?_
 rw [← Array.forIn_toList]
 show wpAny _ _ (forIn [Value.ref i1, Value.ref i2] _ _) _ _ _
 rw [List.forIn_cons]
 refine wpAny_bind (wpAny_bind (wpAny_holding ?_))
 show wpAny _ _ (Builtin.SmallTypes.nextOf (.ref i1) >>= _) _ _ _
 refine wpAny_bind (wpAny_nextOf_list_end hh (h1.extBut hsa.extBut D.i1z) (hl1.extBut hsa.extBut D.l1z) hx fun hb e hsb he => ?_)
 obtain ⟨oe, hoe, hce⟩ := he
 refine wpAny_bind (wpAny_isInstance (T := "StopIteration") (b := true) ⟨oe, hoe, hce⟩ isSubtype_stop ?_)
 exact wpAny_pure (hQ _ fun c o n0 n1 n2 q => hsb _ _ n1 ((hsa.2 c n0).trans q))
def ZipS (h : Heap) (z TI TO : Addr) : Prop := (IsZip h z TI TO .none ∧ ∃ a b, IsPair h TO a b) ∨ ZipB h z TI TO
theorem zs_item {x y : Value} {Q : Option Value → Shared → Prop} (D : ZipApart z TI TO i1 i2 l1 l2) (hz : ZipS s.heap z TI TO) (hTI : IsPair s.heap TI (.ref i1) (.ref i2))
   (h1 : s.heap.IsListIter i1 l1 k1) (h2 : s.heap.IsListIter i2 l2 k2) (hl1 : s.heap.IsList l1 xs) (hl2 : s.heap.IsList l2 ys) (hx : xs[k1]? = some x) (hy : ys[k2]? = some y)
   (hQ : ∀ h', ZipB h' z TI TO → h'.IsListIter i1 l1 (k1 + 1) → h'.IsListIter i2 l2 (k2 + 1) → IsPair h' s.heap.objs.size x y → (∀ c o, c ≠ z → c ≠ TO → c ≠ i1 → c ≠ i2 → s.heap.get? c = some o → h'.get? c = some o) → Q (some (.ref s.heap.objs.size)) { s with heap := h' }) :
   wpAny (model prog w) A (pyNext (.ref z)) Q E s := by
 rcases hz with ⟨g, a, b, gT⟩ | hz
 · have lz := Heap.lt_size g
   exact wpAny_pyNext_zip_item D g hTI gT h1 h2 hl1 hl2 hx hy fun h' a1 a2 a3 a4 a5 a6 a7 => hQ h' ⟨_, false, _, a1, a5, Nat.ne_of_gt lz⟩ a3 a4 a5 a7
 · exact zb_item D hz hTI h1 h2 hl1 hl2 hx hy fun h' a1 a2 a3 a4 a5 => hQ h' a1 a2 a3 a4 fun c o n0 _ n1 n2 e => a5 c o n0 n1 n2 e
theorem zs_end {Q : Option Value → Shared → Prop} (hh : A.handled = none) (D : ZipApart z TI TO i1 i2 l1 l2) (hz : ZipS s.heap z TI TO) (hTI : IsPair s.heap TI (.ref i1) (.ref i2))
   (h1 : s.heap.IsListIter i1 l1 k1) (h2 : s.heap.IsListIter i2 l2 k2) (hl1 : s.heap.IsList l1 xs) (hl2 : s.heap.IsList l2 ys) (hx : xs[k1]? = none)
   (hQ : ∀ h', (∀ c o, c ≠ z → c ≠ TO → c ≠ i1 → c ≠ i2 → s.heap.get? c = some o → h'.get? c = some o) → Q none { s with heap := h' }) :
   wpAny (model prog w) A (pyNext (.ref z)) Q E s := by
 rcases hz with ⟨g, a, b, gT⟩ | hz
 · exact wpAny_pyNext_zip_end hh D g hTI gT h1 h2 hl1 hl2 (.inl hx) hQ
 · exact zb_end hh D hz hTI h1 hl1 hx fun h' a => hQ h' fun c o n0 _ n1 n2 e => a c o n0 n1 n2 e
theorem loop_zip {R : Result → Shared → Prop} {Dd : Addr} {its ist : List Value} {ps : List (Key × Value)} (hh : A.handled = none) (D : ZipApart z TI TO i1 i2 l1 l2) (nz : Dd ≠ z) (nTI : Dd ≠ TI) (nTO : Dd ≠ TO) (n1 : Dd ≠ i1) (n2 : Dd ≠ i2) (nl1 : Dd ≠ l1) (nl2 : Dd ≠ l2)
   (e1 : its.length = ps.length) (e2 : ist.length = ps.length) (hz : ps.length ≤ sizeLine) (hk : ∀ (j : Nat) u (p : Key × Value), its[j]? = some u → ps[j]? = some p → keyIs p.1 u = true) (hv : ∀ (j : Nat) v (p : Key × Value), ist[j]? = some v → ps[j]? = some p → v = p.2) :
   ∀ (n i : Nat) (s : Shared) (vs : List (Key × Value)), ps.length - i = n → i ≤ ps.length → vs.length ≤ i → ZipS s.heap z TI TO → IsPair s.heap TI (.ref i1) (.ref i2) → s.heap.IsListIter i1 l1 i → s.heap.IsListIter i2 l2 i → s.heap.IsList l1 its.toArray → s.heap.IsList l2 ist.toArray → s.heap.DictOf (mixKind prog w) Dd vs →
     (∀ h' tk, (∀ c o, c ≠ Dd → c ≠ z → c ≠ TO → c ≠ i1 → c ≠ i2 → s.heap.get? c = some o → h'.get? c = some o) → h'.DictOf (mixKind prog w) Dd (fillU vs (ps.drop i)) → R (.ok (.ret .none)) { s with heap := h', toks := tk }) →
     codeAny (model prog w) A (.builtin "dict.update.loop" ⟨[.ref Dd, .ref z, rawInt (i : Int), .none], []⟩) R s := by
 intro n
 induction n with
 | zero =>
   intro i s vs hn hi hvs zs pTI q1 q2 g1 g2 dd fin
   refine codeAny_builtin entry_dict_update_loop ?_
   rw [Around.under_plainId plain_dict_update_loop _]
   show wpAny _ A.in1 (pyNext (.ref z) >>= _) _ _ s
   refine wpAny_bind (zs_end hh D zs pTI q1 q2 g1 g2 (by simp; omega) fun h' eb => wpAny_bind (wpAny_pure (wpAny_pure (fin h' s.toks (fun c o _ c1 c2 c3 c4 e => eb c o c1 c2 c3 c4 e) ?_))))
   rw [List.drop_of_length_le (by omega)]
   obtain ⟨ob, es, ep, e, r⟩ := dd
   exact ⟨ob, es, ep, eb _ _ nz nTO n1 n2 e, r⟩
 | succ n ih =>
   intro i s vs hn hi hvs zs pTI q1 q2 g1 g2 dd fin
   have lt : i < ps.length := by omega
   have hx : its[i]? = some (its[i]'(by omega)) := List.getElem?_eq_getElem _
   have hy : ist[i]? = some (ist[i]'(by omega)) := List.getElem?_eq_getElem _
   have ep : ps[i]? = some ps[i] := List.getElem?_eq_getElem _
   have ku := hk i _ _ hx ep
   have ev := hv i _ _ hy ep
   generalize its[i]'(by omega) = u at hx ku
   generalize ist[i]'(by omega) = v at hy ev
   subst ev
   generalize hp : ps[i] = p at ep ku hy
   refine codeAny_builtin entry_dict_update_loop ?_
   rw [Around.under_plainId plain_dict_update_loop _]
   show wpAny _ A.in1 (pyNext (.ref z) >>= _) _ _ s
   refine wpAny_bind (zs_item D zs pTI q1 q2 g1 g2 (x := u) (y := p.2) (by simpa using hx) (by simpa using hy) fun h' a1 a2 a3 a4 a5 => ?_)
   show wpAny _ A.in1 (holding [Value.ref s.heap.objs.size] _ >>= _) _ _ _
   refine wpAny_bind (wpAny_holding (wpAny_bind ?_))
   have hpi : ∀ (Q : List Value → Shared → Prop) (E : Value → Shared → Prop), Q [u, p.2] { s with heap := h' } → wpAny (model prog w) A.in1 (Builtin.Dict.pairItems (Value.ref s.heap.objs.size)) Q E { s with heap := h' } := fun Q E q => by
     have hT : ({ s with heap := h' } : Shared).TypeIs (.ref s.heap.objs.size) "tuple" := ⟨_, a4, rfl⟩
     unfold Builtin.Dict.pairItems
     refine wpAny_bind (wpAny_typeOf hT ?_)
     rw [if_pos (by decide)]
     exact wpAny_bind (wpAny_seqItems a4 rfl (wpAny_pure q))
   refine wpAny_tryCatch (hpi _ _ ?_)
   show wpAny _ _ (holding [u, p.2] (dictSet Dd u p.2)) _ _ _
   have dd' : h'.DictOf (mixKind prog w) Dd vs := by
     obtain ⟨ob, es, epp, e, r⟩ := dd
     exact ⟨ob, es, epp, a5 _ _ nz nTO n1 n2 e, r⟩
   refine wpAny_holding (wpAny_dictSet_pairs (s := { s with heap := h' }) (knd := mixKind prog w) ku dd' (fun h2 dd2 sb2 => ?_) (by omega))
   refine wpAny_pure ⟨plainId_quiet plain_dict_update_loop _, ?_⟩
   have er : rawInt ((i : Int) + 1) = rawInt ((i + 1 : Nat) : Int) := by rw [Int.natCast_add]; rfl
   rw [er]
   have keep : ∀ c o, c ≠ Dd → c ≠ z → c ≠ TO → c ≠ i1 → c ≠ i2 → s.heap.get? c = some o → h2.get? c = some o := fun c o c0 c1 c2 c3 c4 e => (sb2.2 c c0).trans (a5 c o c1 c2 c3 c4 e)
   refine ih (i + 1) { s with heap := h2, toks := s.toks + 1 } _ (by omega) (by omega) (by have := len_stored vs p.1 p.2; omega) (.inr ?_) ?_ (a2.at fun o e => (sb2.2 _ (Ne.symm n1)).trans e) (a3.at fun o e => (sb2.2 _ (Ne.symm n2)).trans e) (g1.at fun o e => keep _ o (Ne.symm nl1) D.l1z D.l1TO D.l1i1 D.l1i2 e) (g2.at fun o e => keep _ o (Ne.symm nl2) D.l2z D.l2TO D.l2i1 D.l2i2 e) dd2 fun h3 tk keep3 dd3 => ?_
   · obtain ⟨t, b, o, w1, w2, w3⟩ := a1
     by_cases c0 : t = Dd
     · subst c0
       obtain ⟨ob, es, epp, e, r⟩ := dd2
       exact ⟨t, b, ob, (sb2.2 _ (Ne.symm nz)).trans w1, e, w3⟩
     · exact ⟨t, b, o, (sb2.2 _ (Ne.symm nz)).trans w1, (sb2.2 _ c0).trans w2, w3⟩
   · exact keep _ _ (Ne.symm nTI) D.TIz D.TITO D.TIi1 D.TIi2 pTI
   · refine fin h3 tk (fun c o c0 c1 c2 c3 c4 e => keep3 c o c0 c1 c2 c3 c4 (keep c o c0 c1 c2 c3 c4 e)) ?_
     rw [List.drop_eq_getElem_cons lt, hp]
     exact dd3
end
theorem keys_miss_zip : typeLookup (.type "zip") "keys" = pure none := am_miss_of_fast (by decide +kernel)
theorem zip_getattr_no : typeLookup (.type "zip") "__getattr__" = pure none := by rw [typeLookup_type, builtinLookup_eq_fast]; kernel_rfl
theorem zip_getattribute_at : entryFor table "zip.__getattribute__" = some Builtin.«object.__getattribute__» := entryFor_alias (id' := "object.__getattribute__") (by kernel_rfl) (by decide +kernel) (by decide +kernel) (by kernel_rfl)
theorem zip_no_attr (z : Addr) (ws : Array Value) (name : Str) (u : Tok) (hmiss : typeLookup (.type "zip") name = pure none) (hname : (["__module__", "__name__", "__qualname__", "__doc__", "__annotations__"] : List Str).contains name = false) (hsz : name.length + 100 ≤ sizeLine) :
   Meets (Builtin.«object.__getattribute__» ⟨[.ref z, .str name u], []⟩) (fun A R s => s.heap.get? z = some { cls := .type "zip", dict := none, data := .fields ws, slots := #[] } ∧ raisesAttr (.ref z) name A R s) :=
 Meets.of_wp fun prog w A R s hs => by
   obtain ⟨hp, g, d, tk, os⟩ := s; obtain ⟨hx, hs⟩ := hs
   have hT : (⟨hp, g, d, tk, os⟩ : Shared).TypeIs (.ref z) "zip" := ⟨_, hx, rfl⟩
   unfold Builtin.«object.__getattribute__»
   repeat (any_goals (first | assumption | wp_step))
   simp only [hname, Bool.false_eq_true, if_false]; repeat (any_goals (first | assumption | wp_step))
   exact wpAny_raiseAttrError hs.1 hs.2 (attrMsg_fits (by decide +kernel) hsz)
theorem zip_keys_none {prog : Program} {w : World} {A : Around} {E : Value → Shared → Prop} {s : Shared} {z : Addr} {ws : Array Value} {Q : Option Value → Shared → Prop}
   (hx : s.heap.get? z = some { cls := .type "zip", dict := none, data := .fields ws, slots := #[] }) (hA : A.handled = none) (h : ∀ h' tk, (∀ b ob, s.heap.get? b = some ob → h'.get? b = some ob) → Q none { s with heap := h', toks := tk }) :
   wpAny (model prog w) A (getAttr? (.ref z) "keys") Q E s := by
 obtain ⟨hp, g, d, tk, os⟩ := s
 have hT : ∀ tk', (⟨hp, g, d, tk', os⟩ : Shared).TypeIs (.ref z) "zip" := fun _ => ⟨_, hx, rfl⟩
 have f1 := sub_AttributeError; have f3 := F.slot_zip_getattribute.lookup; have f4 := F.slot_zip_getattribute.bind (.ref z); have f5 := zip_getattr_no
 unfold getAttr? getAttrBy? getAttrBy
 repeat (any_goals (first | assumption | exact hT _ | ((with_reducible show wpAny _ _ (call (Value.builtin "zip.__getattribute__") _ _) _ _ _); refine call_meets F.slot_zip_getattribute (hT _) zip_getattribute_at (F.args_zip_getattribute_2 _ _) (zip_no_attr z ws _ _ keys_miss_zip (by decide +kernel) (by size_fits)) ⟨hx, hA, fun h' tk' e hx' => ?_⟩) | wp_step))
 obtain ⟨t', u', he⟩ := hx'.there; show wpAny _ _ (getattributeRaised _ _ _ _ _ _ _) _ _ _
 unfold getattributeRaised; repeat (any_goals (first | assumption | wp_step))
 exact h _ _ hx'.keeps
end L2
namespace L2
open PySem PySem.Spec PyProof.Rows
section
variable {prog : Program} {w : World} {A : Around} {E : Value → Shared → Prop} {s : Shared} {z TI TO i1 i2 l1 l2 : Addr} {its ist : List Value} {ps : List (Key × Value)} {Q : Value → Shared → Prop}
theorem call_dictZip (hh : A.handled = none) (D : ZipApart z TI TO i1 i2 l1 l2) (hz : IsZip s.heap z TI TO .none) (hTI : IsPair s.heap TI (.ref i1) (.ref i2)) (hTO : ∃ a b, IsPair s.heap TO a b) (h1 : s.heap.IsListIter i1 l1 0) (h2 : s.heap.IsListIter i2 l2 0) (hl1 : s.heap.IsList l1 its.toArray) (hl2 : s.heap.IsList l2 ist.toArray)
   (e1 : its.length = ps.length) (e2 : ist.length = ps.length) (hsz : ps.length ≤ sizeLine) (hk : ∀ (j : Nat) u (p : Key × Value), its[j]? = some u → ps[j]? = some p → keyIs p.1 u = true) (hv : ∀ (j : Nat) v (p : Key × Value), ist[j]? = some v → ps[j]? = some p → v = p.2)
   (fin : ∀ h' tk, (∀ c o, c ≠ z → c ≠ TO → c ≠ i1 → c ≠ i2 → s.heap.get? c = some o → h'.get? c = some o) → h'.DictOf (mixKind prog w) s.heap.objs.size (fillU [] ps) → Q (.ref s.heap.objs.size) { s with heap := h', toks := tk }) :
   wpAny (model prog w) A (call (.type "dict") [.ref z]) Q E s := by
 refine callType_codes (Q₁ := fun obj s₁ => obj = .ref s.heap.objs.size ∧ s₁ = { s with heap := s.heap.push { cls := .type "dict", data := .dict #[] } }) F.kt_called_dict (F.kt_typeCall_dict_1 _) F.entry_dict_init (kt_code_dict_new _ ⟨rfl, rfl⟩) ?_
 rintro obj s₁ ⟨rfl, rfl⟩
 have hnew : (s.heap.push { cls := .type "dict", data := .dict #[] }).DictOf (mixKind prog w) s.heap.objs.size [] := Heap.DictOf.new s.heap
 have kp0 : ∀ c o, s.heap.get? c = some o → (s.heap.push { cls := .type "dict", data := .dict #[] }).get? c = some o := fun c o e => Heap.get?_push_of_some _ e
 refine ⟨hnew.typeIs, F.args_dict_init_2 _ _, ?_⟩
 unfold Builtin.«dict.__init__»
 refine wpAny_bind ?_
 unfold Builtin.Dict.selfAndRest
 refine wpAny_bind (wpAny_notOrdered_dict hnew.typeIs ?_)
 show wpAny _ _ (pure (s.heap.objs.size, [Value.ref z])) _ _ _
 refine wpAny_pure ?_
 show wpAny _ _ (Builtin.Dict.updateFrom "dict.__init__" s.heap.objs.size (.ref z) [] .none) _ _ _
 unfold Builtin.Dict.updateFrom
 refine wpAny_bind (wpAny_typeOf (show ({ s with heap := s.heap.push { cls := .type "dict", data := .dict #[] } } : Shared).TypeIs (.ref z) "zip" from ⟨_, kp0 _ _ hz, rfl⟩) ?_)
 rw [if_pos (by decide)]
 refine wpAny_bind (zip_keys_none (s := { s with heap := s.heap.push { cls := .type "dict", data := .dict #[] } }) (kp0 _ _ hz) hh fun h1' tk1 keep1 => ?_)
 rw [show (none : Option Value).isNone = true from rfl, if_pos rfl]
 refine wpAny_bind (wpAny_rule ?_)
 have keep0 : ∀ c o, s.heap.get? c = some o → h1'.get? c = some o := fun c o e => keep1 c o (kp0 c o e)
 have dd1 : h1'.DictOf (mixKind prog w) s.heap.objs.size [] := by
   obtain ⟨ob, es, ep, e, r⟩ := hnew
   exact ⟨ob, es, ep, keep1 _ _ e, r⟩
 have ne : ∀ {b : Addr} {ob : Obj}, s.heap.get? b = some ob → s.heap.objs.size ≠ b := fun e => Nat.ne_of_gt (Heap.lt_size e)
 obtain ⟨a, b, hTO⟩ := hTO
 refine wpAny_bind (wpAny_pyIter_zip (s := { s with heap := h1', toks := tk1 }) (keep0 _ _ hz) ?_)
 refine wpAny_pure ⟨plainId_quiet plain_dict_update_loop _, ?_⟩
 have n1 : s.heap.objs.size ≠ i1 := by obtain ⟨o, e, _⟩ := h1; exact ne e
 have n2 : s.heap.objs.size ≠ i2 := by obtain ⟨o, e, _⟩ := h2; exact ne e
 have m1 : s.heap.objs.size ≠ l1 := by obtain ⟨o, e, _⟩ := hl1; exact ne e
 have m2 : s.heap.objs.size ≠ l2 := by obtain ⟨o, e, _⟩ := hl2; exact ne e
 refine loop_zip (A := A.in1) hh D (ne hz) (ne hTI) (ne hTO) n1 n2 m1 m2 e1 e2 hsz hk hv ps.length 0 { s with heap := h1', toks := tk1 } [] rfl (Nat.zero_le _) (Nat.le_refl _) (.inl ⟨keep0 _ _ hz, a, b, keep0 _ _ hTO⟩) (keep0 _ _ hTI) (h1.at fun o e => keep0 _ o e) (h2.at fun o e => keep0 _ o e) (hl1.at fun o e => keep0 _ o e) (hl2.at fun o e => keep0 _ o e) dd1 fun h3 tk keep3 dd3 => ?_
 exact ⟨rfl, fin h3 tk (fun c o c1 c2 c3 c4 e => keep3 c o (Ne.symm (ne e)) c1 c2 c3 c4 (keep0 c o e)) dd3⟩
end
section
variable {X : Cx}
def zipK (ks : List (List Nat)) (xs : List V) : List (Key × V) := (ks.map fun q => (Sum.inr (T q) : Key)).zip xs
theorem kv_zip : ∀ (ks : List (List Nat)) (xs : List V) (us : List Value), ks.length = xs.length → Vals xs us → KV (zipK ks xs) ((ks.map fun q => (Sum.inr (T q) : Key)).zip us)
 | [], [], _, _, .nil => .nil
 | k :: ks, x :: xs, u :: us, h, .cons r rr => .cons ⟨rfl, r⟩ (kv_zip ks xs us (Nat.succ.inj h) rr)
def qDictZ (K : PySem.W.Frag) (Q : VK) : List V → Hp → Prop := fun vs H1 => match vs with
 | [.ref a, .ref b] => ∃ (ks : List (List Nat)) (xs : List V), SqL K H1 a (ks.map fun q => V.str (T q)) ∧ SqL K H1 b xs ∧ ks.length = xs.length ∧ ∀ d, H1 d = none → Q (.ref d) (upd H1 d (.dK (fillV (zipK ks xs) [])))
 | _ => False
def tDictZ (K : PySem.W.Frag) (ta : TA) : TE := fun σ H Q => ta σ H (qDictZ K Q)
theorem pe_dictZ {K : PySem.W.Frag} {x y : Expr} {ta : TA} {p0 p p' pos : Pos} (hK : X.K = K) (hc : X.calm = true) (hmd : X.mg "dict" = none) (hmz : X.mg "zip" = none) (ha : PA X [x, y] ta)
   (hg0 : Gl X "dict" := by rfl) (hgl : Gl X "zip" := by rfl) (hs : starEach [x, y] X.env = [(false, eval x X.env), (false, eval y X.env)] := by rfl) (hs2 : starEach [y] X.env = [(false, eval y X.env)] := by rfl)
   (hsd : starEach [.Call (.Name "zip" p) [x, y] [] p'] X.env = [(false, eval (.Call (.Name "zip" p) [x, y] [] p') X.env)] := by rfl) :
   PE X (.Call (.Name "dict" p0) [.Call (.Name "zip" p) [x, y] [] p'] [] pos) (tDictZ K ta) := by
 subst hK
 intro pins s σ H Q I h
 refine wpAny_Call_Name_kw (ld_blt I hg0 hmd bt_dict ?_)
 refine PyProof.Rows.callWith_type1 ?_ hsd rfl
 rw [hsd]
 show wpAny _ _ (spliced ((false, _) :: [])) _ _ s
 refine Calls.spliced_cons ?_
 refine Call_ (ld_blt I hgl hmz bt_zip (PyProof.Rows.callWith_type1 (thn (ha p' pins s σ H _ I h) fun us s1 ⟨vs, H1, I1, r1, q1⟩ => ?_) (by rw [hs, hs2]) (by rw [hs2]; rfl)))
 unfold qDictZ at q1
 split at q1
 · rename_i a b
   obtain ⟨ks, xs, hq1, hq2, el, q⟩ := q1
   obtain ⟨u1, u2, rfl, r, r'⟩ := vals2 r1
   cases r
   cases r'
   obtain ⟨its, rv1, p1, z1⟩ := I1.list hq1
   obtain ⟨ist, rv2, p2, z2⟩ := I1.list hq2
   refine call_zip_2 p1.isList p2.isList fun h' k1 k2 k3 k4 k5 k6 k7 => ?_
   refine Calls.spliced_nil ?_
   have la : a < s1.heap.objs.size := by obtain ⟨o, q, _⟩ := p1.isList; exact Heap.lt_size q
   have lb : b < s1.heap.objs.size := by obtain ⟨o, q, _⟩ := p2.isList; exact Heap.lt_size q
   have D := zip_apart la lb
   have l1 := rv1.length
   have l2 := rv2.length
   rw [List.length_map] at l1
   have lp : ((ks.map fun q => (Sum.inr (T q) : Key)).zip ist).length = ks.length := by
     rw [List.length_zip, List.length_map]
     omega
   have hz2 : h'.objs.size = s1.heap.objs.size + 5 := k6
   refine call_dictZip (s := { s1 with heap := h' }) (ps := (ks.map fun q => (Sum.inr (T q) : Key)).zip ist) (I1.ok.hd hc) D k1 k2 ⟨_, _, k3⟩ k4 k5 (p1.isList.at fun o e => k7 _ o e) (p2.isList.at fun o e => k7 _ o e) (by rw [lp]; omega) (by rw [lp]; omega) (by rw [lp]; omega) (fun j u p g1 g2 => ?_) (fun j v p g1 g2 => ?_) fun h3 tk keep dd => ?_
   · obtain ⟨g3, g4⟩ := List.getElem?_zip_eq_some.mp g2
     rw [List.getElem?_map] at g3
     obtain ⟨q', hq', e'⟩ := Option.map_eq_some_iff.mp g3
     have rk : RelV (V.str (T q')) u := by
       obtain ⟨u', hu, ru⟩ := rv1.get (i := j) (x := V.str (T q')) (by rw [List.getElem?_map, hq']; rfl)
       rw [g1] at hu
       cases hu
       exact ru
     rw [← e']
     exact kV_is (P := X.prog) (w := X.w) (k := Sum.inr (T q')) rk
   · obtain ⟨g3, g4⟩ := List.getElem?_zip_eq_some.mp g2
     rw [g1] at g4
     exact Option.some.inj g4
   · have lf := len_fill (zipK ks xs) []
     have lzk : (zipK ks xs).length = ks.length := by
       unfold zipK
       rw [List.length_zip, List.length_map]
       omega
     rw [List.length_nil] at lf
     have big := I1.big
     have hsz : sizeLine = 16777216 := sizeLine_eq
     have up : ∀ c o, s1.heap.get? c = some o → h3.get? c = some o := fun c o e => by
       have lc := Heap.lt_size e
       have nk : ∀ k : Nat, c ≠ (s1.heap.objs.size + k : Nat) := fun k => Nat.ne_of_lt (Nat.lt_of_lt_of_le lc (Nat.le_add_right _ _))
       exact keep c o (nk 4) (nk 3) (nk 0) (nk 1) (k7 c o e)
     have hsn : s1.heap.objs.size ≤ h'.objs.size := by omega
     refine ⟨.ref h'.objs.size, _, I1.laid (a := h'.objs.size) (o := .dK (fillV (zipK ks xs) [])) (t' := tk) up hsn ⟨by omega, beq_false_of_ne (Nat.ne_of_gt (Nat.lt_of_lt_of_le big hsn)), _, KV.fill (kv_zip ks xs ist el rv2) .nil, dd⟩, rfl, q _ (I1.hok.fresh hsn)⟩
 · exact q1.elim
theorem o_ninTopK {K : PySem.W.Frag} {P : Params} {A : Addr} {kvs : List (Str × V)} (hK : X.K = K) (hP : X.w.params = P) (D : TopD K P A kvs) : OpR X (compareOp .NotIn) (rTopIn true A kvs) := by
 subst hK hP
 exact o_ninTop D
theorem i_topK {K : PySem.W.Frag} {P : Params} {A : Addr} {kvs : List (Str × V)} (hK : X.K = K) (hP : X.w.params = P) (D : TopD K P A kvs) : IxR X (rTopIx A kvs) := by
 subst hK hP
 exact i_top D
end
theorem topF_mk {K : PySem.W.Frag} {P : Params} {mg : Str → Option Value} {a : Addr} {kvs : List (Str × V)} {kns : List (Str × Str)} (D : TopD K P a kvs) (h : ∀ p ∈ kns, ∃ f, mg p.2 = some (.ref f) ∧ topV kvs p.1 = some (.ref f)) : TopF K P mg a kns := by
 refine ⟨kvs, D, fun z nm e => ?_⟩
 obtain ⟨p, hp, rfl⟩ := Option.map_eq_some_iff.mp e
 obtain ⟨f, f1, f2⟩ := h p (List.mem_of_find?_eq_some hp)
 have hz : p.1 = z := by simpa using List.find?_some hp
 exact ⟨f, f1, hz ▸ f2⟩
end L2
namespace LD
open PySem L2 LP NumText
def cd (s : String) : List Nat := L (Str.ofString s)
theorem T_cd (s : String) : T (cd s) = Str.ofString s := T_L _
def fstr : Nat → String
 | 0 => "word name rest"
 | 1 => "word name"
 | 2 => "word name number"
 | 3 => "word name number rest"
 | _ => "word name other"
def formT : List (String × Nat) := [("keep", 0), ("load", 0), ("ahead", 0), ("drop", 1), ("off", 2), ("text", 1), ("pack", 1), ("count", 0), ("find", 0), ("near", 3), ("often", 2), ("kinds", 1), ("lone", 1), ("cut", 0), ("both", 4)]
def fparts : Nat → List (List Nat)
 | 0 => [cd "word", cd "name", cd "rest"]
 | 1 => [cd "word", cd "name"]
 | 2 => [cd "word", cd "name", cd "number"]
 | 3 => [cd "word", cd "name", cd "number", cd "rest"]
 | _ => [cd "word", cd "name", cd "other"]
def frmIx (w : List Nat) : Option Nat := (formT.find? fun p => cd p.1 = w).map (·.2)
theorem top_map (w : List Nat) : ∀ l : List (String × Nat), topV (l.map fun p => (Str.ofString p.1, V.str (Str.ofString (fstr p.2)))) (T w) = ((l.find? fun p => cd p.1 = w).map (·.2)).map fun i => V.str (Str.ofString (fstr i))
 | [] => rfl
 | p :: r => by
   rw [List.map_cons, List.find?_cons]
   unfold topV
   by_cases h : cd p.1 = w
   · have e : Str.ofString p.1 = T w := by rw [← h, T_cd]
     rw [if_pos e, decide_eq_true h]
     rfl
   · have e : ¬ Str.ofString p.1 = T w := fun z => h (by show L (Str.ofString p.1) = w; rw [z, L_T])
     rw [if_neg e, decide_eq_false h]
     exact top_map w r
theorem frm_lt {w : List Nat} {i : Nat} (h : frmIx w = some i) : i < 5 := by
 obtain ⟨p, hp, rfl⟩ := Option.map_eq_some_iff.mp h
 have m := List.mem_of_find?_eq_some hp
 have all : ∀ p ∈ formT, p.2 < 5 := by decide
 exact all p m
theorem spl_fstr : ∀ i, i < 5 → spl 32 ((cd (fstr i)).length + 1) (cd (fstr i)) = fparts i := by decide +kernel
theorem fparts_len : ∀ i, i < 5 → (fparts i).length = if i = 1 then 2 else if i = 3 then 4 else 3 := by decide +kernel
def lastP : Nat → List Nat
 | 0 => cd "rest"
 | 1 => cd "name"
 | 2 => cd "number"
 | 3 => cd "rest"
 | _ => cd "other"
theorem last_part {i : Nat} (hi : i < 5) : atI ((fparts i).map fun w => V.str (T w)) (-1) = some (V.str (T (lastP i))) := by
 match i, hi with
 | 0, _ => rfl
 | 1, _ => rfl
 | 2, _ => rfl
 | 3, _ => rfl
 | 4, _ => rfl
theorem lastP_rest : ∀ i, i < 5 → decide (lastP i = cd "rest") = decide (i = 0 ∨ i = 3) := by decide +kernel
def fw (r : List Nat) : List Nat := r.takeWhile fun c => decide (c ≠ 32)
theorem fw_cons {p : List Nat} (r : List Nat) (h : 32 ∉ p) : fw (p ++ 32 :: r) = p := by
 unfold fw
 rw [List.takeWhile_append_of_pos (by intro c hc; simp; rintro rfl; exact h hc)]
 simp
theorem fw_none : ∀ {p : List Nat}, 32 ∉ p → fw p = p
 | [], _ => rfl
 | x :: p, h => by
   have hx : x ≠ 32 := fun e => h (by simp [e])
   have hp : 32 ∉ p := fun e => h (by simp [e])
   unfold fw
   rw [List.takeWhile_cons_of_pos (by simpa using hx)]
   exact congrArg (x :: ·) (fw_none hp)
theorem fw_at {r : List Nat} {k : Nat} (h : r[k]? = some 32) (hn : ∀ v, v < k → r[v]? ≠ some 32) : fw r = r.take k := by
 have e : r = r.take k ++ 32 :: r.drop (k + 1) := by
   have hk := (List.getElem?_eq_some_iff.mp h)
   obtain ⟨hk, e⟩ := hk
   rw [← e, ← List.drop_eq_getElem_cons hk, List.take_append_drop]
 rw [e]
 have nm : 32 ∉ r.take k := fun m => by
   obtain ⟨v, hv, ev⟩ := List.mem_iff_getElem.mp m
   rw [List.length_take] at hv
   rw [List.getElem_take] at ev
   exact hn v (by omega) (by rw [List.getElem?_eq_getElem (by omega), ev])
 rw [fw_cons _ nm]
 have hk := (List.getElem?_eq_some_iff.mp h).1
 rw [List.take_append_of_le_length (by rw [List.length_take]; omega), List.take_take, Nat.min_self]
theorem fw_no {r : List Nat} (hn : ∀ v : Nat, r[v]? ≠ some 32) : fw r = r := fw_none fun m => by
 obtain ⟨v, hv, ev⟩ := List.mem_iff_getElem.mp m
 exact hn v (by rw [List.getElem?_eq_getElem hv, ev])
theorem spl_mem (c : Nat) : ∀ (n : Nat) (l : List Nat), ∀ w ∈ spl c n l, w.length ≤ l.length
 | n, [], w, h => by
   have : w = [] := by simpa [spl] using h
   simp [this]
 | 0, x :: r, w, h => by
   have : w = x :: r := by simpa [spl] using h
   simp [this]
 | n + 1, x :: r, w, h => by
   unfold spl at h
   split at h
   · rcases List.mem_cons.mp h with rfl | h
     · simp
     · have := spl_mem c n r w h
       simp only [List.length_cons]
       omega
   · cases hs : spl c (n + 1) r with
     | nil => exact absurd hs (spl_ne c (n + 1) r)
     | cons v vs =>
       rw [hs] at h
       have ih := spl_mem c (n + 1) r
       rw [hs] at ih
       rcases List.mem_cons.mp h with rfl | h
       · have := ih v (List.mem_cons_self ..)
         simp only [List.length_cons, List.cons_append, List.nil_append]
         omega
       · have := ih w (List.mem_cons_of_mem _ h)
         simp only [List.length_cons]
         omega
def rowWs (i : Nat) (r : List Nat) : List (List Nat) := if i = 0 ∨ i = 3 then spl 32 ((fparts i).length - 1) r else spl 32 (r.length + 1) r
theorem row_mem {i : Nat} {r w : List Nat} (h : w ∈ rowWs i r) : w.length ≤ r.length := by
 unfold rowWs at h
 split at h
 · exact spl_mem _ _ _ _ h
 · exact spl_mem _ _ _ _ h
theorem row_get (i : Nat) (r : List Nat) (k : Nat) : ((rowWs i r).getD k []).length ≤ r.length := by
 rw [List.getD_eq_getElem?_getD]
 cases h : (rowWs i r)[k]? with
 | none => simp
 | some w => exact row_mem (List.mem_of_getElem? h)
def GoodRow (r : List Nat) (i : Nat) (ws : List (List Nat)) : Prop := frmIx (fw r) = some i ∧ ws = rowWs i r ∧ ws.length = (fparts i).length ∧ ((i = 2 ∨ i = 3) → GoodN (ws.getD 2 []))
theorem GoodRow.uniq {r : List Nat} {i j : Nat} {ws vs : List (List Nat)} (a : GoodRow r i ws) (b : GoodRow r j vs) : i = j ∧ ws = vs := by
 have e : i = j := Option.some.inj (a.1.symm.trans b.1)
 subst e
 exact ⟨rfl, a.2.1.trans b.2.1.symm⟩
abbrev ky (s : String) : Key := .inr (T (cd s))
def toldK (i : Nat) (ws : List (List Nat)) : List (Key × V) := (ky "word", V.str (T (ws.getD 0 []))) :: (ky "name", V.str (T (ws.getD 1 []))) ::
 (if i = 0 then [(ky "rest", V.str (T (ws.getD 2 [])))] else if i = 1 then [] else if i = 2 then [(ky "number", V.int (digitsVal (ws.getD 2 []) : Nat))] else if i = 3 then [(ky "number", V.int (digitsVal (ws.getD 2 []) : Nat)), (ky "rest", V.str (T (ws.getD 3 [])))] else [(ky "other", V.str (T (ws.getD 2 [])))])
def told0 (i : Nat) (ws : List (List Nat)) : List (Key × V) := (ky "word", V.str (T (ws.getD 0 []))) :: (ky "name", V.str (T (ws.getD 1 []))) ::
 (if i = 0 then [(ky "rest", V.str (T (ws.getD 2 [])))] else if i = 1 then [] else if i = 2 then [(ky "number", V.str (T (ws.getD 2 [])))] else if i = 3 then [(ky "number", V.str (T (ws.getD 2 []))), (ky "rest", V.str (T (ws.getD 3 [])))] else [(ky "other", V.str (T (ws.getD 2 [])))])
def keyNs : List String := ["word", "name", "rest", "number", "other"]
theorem ky_ne : ∀ a ∈ keyNs, ∀ b ∈ keyNs, a ≠ b → cd a ≠ cd b := by decide +kernel
theorem ky_inj {a b : String} (h : cd a ≠ cd b) : (ky a = ky b) = False := by
 rw [eq_iff_iff, iff_false]
 intro z
 exact h (T_inj.mp (Sum.inr.inj z))
theorem fill_told {i : Nat} (hi : i < 5) {ws : List (List Nat)} (hl : ws.length = (fparts i).length) : fillV (zipK (fparts i) (ws.map fun w => V.str (T w))) [] = told0 i ws := by
 have q : ∀ a ∈ keyNs, ∀ b ∈ keyNs, a ≠ b → (ky a = ky b) = False := fun a ha b hb n => ky_inj (ky_ne a ha b hb n)
 have q1 := q "word" (by decide) "name" (by decide) (by decide)
 have q2 := q "word" (by decide) "rest" (by decide) (by decide)
 have q3 := q "word" (by decide) "number" (by decide) (by decide)
 have q4 := q "word" (by decide) "other" (by decide) (by decide)
 have q5 := q "name" (by decide) "rest" (by decide) (by decide)
 have q6 := q "name" (by decide) "number" (by decide) (by decide)
 have q7 := q "name" (by decide) "other" (by decide) (by decide)
 have q8 := q "number" (by decide) "rest" (by decide) (by decide)
 match i, hi, ws, hl with
 | 0, _, [a, b, c], _ => simp [fparts, zipK, fillV, putK, told0, q1, q2, q5]
 | 1, _, [a, b], _ => simp [fparts, zipK, fillV, putK, told0, q1]
 | 2, _, [a, b, c], _ => simp [fparts, zipK, fillV, putK, told0, q1, q3, q6]
 | 3, _, [a, b, c, d], _ => simp [fparts, zipK, fillV, putK, told0, q1, q2, q3, q5, q6, q8]
 | 4, _, [a, b, c], _ => simp [fparts, zipK, fillV, putK, told0, q1, q4, q7]
theorem val_number {i : Nat} (hi : i < 5) (ws : List (List Nat)) : valV (told0 i ws) (ky "number") = if i = 2 ∨ i = 3 then some (V.str (T (ws.getD 2 []))) else none := by
 have q : ∀ a ∈ keyNs, ∀ b ∈ keyNs, a ≠ b → (ky a = ky b) = False := fun a ha b hb n => ky_inj (ky_ne a ha b hb n)
 have q1 := q "word" (by decide) "number" (by decide) (by decide)
 have q2 := q "name" (by decide) "number" (by decide) (by decide)
 have q3 := q "rest" (by decide) "number" (by decide) (by decide)
 have q4 := q "other" (by decide) "number" (by decide) (by decide)
 match i, hi with
 | 0, _ => simp [told0, valV, q1, q2, q3]
 | 1, _ => simp [told0, valV, q1, q2, q3]
 | 2, _ => simp [told0, valV, q1, q2, q3]
 | 3, _ => simp [told0, valV, q1, q2, q3]
 | 4, _ => simp [told0, valV, q1, q2, q4]
theorem put_number {i : Nat} (hi : i < 5) (h2 : i = 2 ∨ i = 3) (ws : List (List Nat)) : putK (told0 i ws) (ky "number") (V.int (digitsVal (ws.getD 2 []) : Nat)) = toldK i ws := by
 have q : ∀ a ∈ keyNs, ∀ b ∈ keyNs, a ≠ b → (ky a = ky b) = False := fun a ha b hb n => ky_inj (ky_ne a ha b hb n)
 have q1 := q "word" (by decide) "number" (by decide) (by decide)
 have q2 := q "name" (by decide) "number" (by decide) (by decide)
 have q3 := q "rest" (by decide) "number" (by decide) (by decide)
 rcases h2 with rfl | rfl
 · simp [told0, toldK, putK, q1, q2, q3]
 · simp [told0, toldK, putK, q1, q2, q3]
theorem told_no {i : Nat} (h2 : ¬ (i = 2 ∨ i = 3)) (ws : List (List Nat)) : told0 i ws = toldK i ws := by
 unfold told0 toldK
 rw [if_neg (c := i = 2) fun z => h2 (.inl z), if_neg (c := i = 3) fun z => h2 (.inr z), if_neg (c := i = 2) fun z => h2 (.inl z), if_neg (c := i = 3) fun z => h2 (.inr z)]
theorem told_len (i : Nat) (ws : List (List Nat)) : (told0 i ws).length ≤ 4 := by
 unfold told0
 repeat' split
 all_goals simp
theorem val_word (i : Nat) (ws : List (List Nat)) : valV (toldK i ws) (ky "word") = some (V.str (T (ws.getD 0 []))) := valV_pos (p := (ky "word", _)) rfl
theorem val_name (i : Nat) (ws : List (List Nat)) : valV (toldK i ws) (ky "name") = some (V.str (T (ws.getD 1 []))) := by
 have q1 := ky_inj (ky_ne "word" (by decide) "name" (by decide) (by decide))
 exact (valV_neg (p := (ky "word", _)) (by rw [q1]; exact id)).trans (valV_pos (p := (ky "name", _)) rfl)
theorem val_rest (ws : List (List Nat)) : valV (toldK 0 ws) (ky "rest") = some (V.str (T (ws.getD 2 []))) := by
 have q1 := ky_inj (ky_ne "word" (by decide) "rest" (by decide) (by decide))
 have q2 := ky_inj (ky_ne "name" (by decide) "rest" (by decide) (by decide))
 simp [toldK, valV, q1, q2]
theorem val_other {i : Nat} (hi : i < 5) (ws : List (List Nat)) : valV (toldK i ws) (ky "other") = if i = 4 then some (V.str (T (ws.getD 2 []))) else none := by
 have q : ∀ a ∈ keyNs, ∀ b ∈ keyNs, a ≠ b → (ky a = ky b) = False := fun a ha b hb n => ky_inj (ky_ne a ha b hb n)
 have q1 := q "word" (by decide) "other" (by decide) (by decide)
 have q2 := q "name" (by decide) "other" (by decide) (by decide)
 have q3 := q "rest" (by decide) "other" (by decide) (by decide)
 have q4 := q "number" (by decide) "other" (by decide) (by decide)
 match i, hi with
 | 0, _ => simp [toldK, valV, q1, q2, q3]
 | 1, _ => simp [toldK, valV, q1, q2, q3]
 | 2, _ => simp [toldK, valV, q1, q2, q4]
 | 3, _ => simp [toldK, valV, q1, q2, q3, q4]
 | 4, _ => simp [toldK, valV, q1, q2, q3]
theorem _root_.L2.DGet.kys {H : Hp} {d : Addr} {kvs : List (Key × V)} (h : H d = some (.dK kvs)) (s : String) : DGet H d (V.str (Str.ofString s)) (valV kvs (ky s)) := by
 have e : V.str (Str.ofString s) = kV (ky s) := by
   show _ = V.str (T (cd s))
   rw [T_cd]
 rw [e]
 exact DGet.k h
abbrev KeptT := List (List Nat × List Nat)
def txK (kept : KeptT) : List (Key × V) := kept.map fun p => ((.inr (T p.1) : Key), V.str (T p.2))
def lookT (kept : KeptT) (n : List Nat) : Option (List Nat) := (kept.find? fun p => p.1 = n).map (·.2)
def putT (kept : KeptT) (n x : List Nat) : KeptT := if (lookT kept n).isSome then kept.map (fun p => if p.1 = n then (p.1, x) else p) else kept ++ [(n, x)]
theorem val_txK (n : List Nat) : ∀ kept : KeptT, valV (txK kept) (.inr (T n)) = (lookT kept n).map fun x => V.str (T x)
 | [] => rfl
 | p :: r => by
   by_cases h : p.1 = n
   · have e1 : valV (txK (p :: r)) (.inr (T n)) = some (V.str (T p.2)) := valV_pos (p := ((.inr (T p.1) : Key), V.str (T p.2))) (r := txK r) (by rw [h])
     rw [e1]
     unfold lookT
     rw [List.find?_cons, decide_eq_true h]
     rfl
   · have e1 : valV (txK (p :: r)) (.inr (T n)) = valV (txK r) (.inr (T n)) := valV_neg (p := ((.inr (T p.1) : Key), V.str (T p.2))) (r := txK r) fun z => h (T_inj.mp (Sum.inr.inj z))
     rw [e1, val_txK n r]
     unfold lookT
     rw [List.find?_cons, decide_eq_false h]
theorem put_txK (kept : KeptT) (n x : List Nat) : putK (txK kept) (.inr (T n)) (V.str (T x)) = txK (putT kept n x) := by
 unfold putK putT
 rw [valV_any, val_txK, Option.isSome_map]
 cases (lookT kept n).isSome with
 | true =>
   rw [if_pos rfl, if_pos rfl]
   unfold txK
   rw [List.map_map, List.map_map]
   refine List.map_congr_left fun p _ => ?_
   show (if (Sum.inr (T p.1) : Key) = .inr (T n) then _ else _) = _
   by_cases h : p.1 = n
   · rw [if_pos (by rw [h])]
     show _ = ((Sum.inr (T (if p.1 = n then (p.1, x) else p).1) : Key), V.str (T (if p.1 = n then (p.1, x) else p).2))
     rw [if_pos h]
   · rw [if_neg fun z => h (T_inj.mp (Sum.inr.inj z))]
     show _ = ((Sum.inr (T (if p.1 = n then (p.1, x) else p).1) : Key), V.str (T (if p.1 = n then (p.1, x) else p).2))
     rw [if_neg h]
 | false =>
   rw [if_neg (by decide), if_neg (by decide)]
   unfold txK
   rw [List.map_append]
   rfl
def IsName (n : List Nat) : Prop := 1 ≤ n.length ∧ n.length ≤ 8 ∧ ∀ c ∈ n, 97 ≤ c ∧ c ≤ 122
def NameOk (kept : KeptT) (i : Nat) (ws : List (List Nat)) : Prop := ((ws.getD 0 [] = cd "keep" ∨ ws.getD 0 [] = cd "load") → IsName (ws.getD 1 [])) ∧ (¬ (ws.getD 0 [] = cd "keep" ∨ ws.getD 0 [] = cd "load") → (lookT kept (ws.getD 1 [])).isSome = true ∧ (i = 4 → (lookT kept (ws.getD 2 [])).isSome = true))
theorem same_upd2 {H H' : Hp} {t : Addr} {o : HO} (s : Same H H') : Same (upd H t o) (upd H' t o) := fun b u h => by
 by_cases e : b = t
 · subst e
   rw [upd_same] at h ⊢
   exact h
 · rw [upd_ne e] at h ⊢
   exact s b u h
theorem same_upd0 {H H' : Hp} {t : Addr} {o : HO} (h : H t = some o) (s : Same H H') : Same (upd H t o) H' := fun b u e => by
 by_cases z : b = t
 · subst z
   rw [upd_same] at e
   rw [← e]
   exact s b o h
 · rw [upd_ne z] at e
   exact s b u e
def fsD (t : Addr) : List (Str × V) := [("texts", .ref t)]
def IsDesk (C : Addr) (H : Hp) (o : Addr) (t : Addr) (kept : KeptT) : Prop := (∃ dx, H o = some (.ins C dx (fsD t))) ∧ H t = some (.dK (txK kept))
end LD
namespace LD
open PySem L2 LP NumText
def jn : List (List Nat) → List Nat
 | [] => []
 | [w] => w
 | w :: v :: r => w ++ 32 :: jn (v :: r)
def NoB (ws : List (List Nat)) : Prop := ∀ w ∈ ws, 32 ∉ w
theorem fw_jn : ∀ {w : List Nat} {r : List (List Nat)}, 32 ∉ w → fw (jn (w :: r)) = w
 | w, [], h => fw_none h
 | w, v :: r, h => fw_cons _ h
theorem spl_jn_len : ∀ (n : Nat) (ws : List (List Nat)), ws ≠ [] → NoB ws → (spl 32 n (jn ws)).length = min (n + 1) ws.length
 | _, [], h, _ => absurd rfl h
 | 0, w :: r, _, _ => by
   rw [spl_zero]
   simp only [List.length_cons, List.length_nil]
   omega
 | n + 1, [w], _, h => by
   rw [show jn [w] = w from rfl, spl_none _ (h w (by simp))]
   simp only [List.length_singleton]
   omega
 | n + 1, w :: v :: r, _, h => by
   rw [show jn (w :: v :: r) = w ++ 32 :: jn (v :: r) from rfl, spl_cons n _ (h w (by simp)), List.length_cons, spl_jn_len n (v :: r) (by simp) fun u hu => h u (List.mem_cons_of_mem _ hu)]
   simp only [List.length_cons]
   omega
theorem spl_jn_get : ∀ (n : Nat) (ws : List (List Nat)), NoB ws → ∀ k, k < n → k < ws.length → (spl 32 n (jn ws)).getD k [] = ws.getD k []
 | _, [], _, k, _, h => absurd h (by simp)
 | 0, _, _, k, h, _ => absurd h (by omega)
 | n + 1, [w], h, k, _, hk => by
   rw [show jn [w] = w from rfl, spl_none _ (h w (by simp))]
 | n + 1, w :: v :: r, h, k, h1, h2 => by
   rw [show jn (w :: v :: r) = w ++ 32 :: jn (v :: r) from rfl, spl_cons n _ (h w (by simp))]
   cases k with
   | zero => rfl
   | succ k =>
     rw [List.getD_cons_succ, List.getD_cons_succ]
     exact spl_jn_get n (v :: r) (fun u hu => h u (List.mem_cons_of_mem _ hu)) k (by omega) (by simpa using h2)
theorem len_jn : ∀ (ws : List (List Nat)), ws ≠ [] → ws.length ≤ (jn ws).length + 1
 | [], h => absurd rfl h
 | [w], _ => by simp
 | w :: v :: r, _ => by
   have := len_jn (v :: r) (by simp)
   rw [show jn (w :: v :: r) = w ++ 32 :: jn (v :: r) from rfl]
   simp only [List.length_cons, List.length_append] at this ⊢
   omega
def badW (i : Nat) (n : Nat) (num : Prop) : Prop := (i = 0 ∧ n < 3) ∨ (i = 1 ∧ n ≠ 2) ∨ (i = 2 ∧ (n ≠ 3 ∨ num)) ∨ (i = 3 ∧ (n < 4 ∨ num)) ∨ (4 ≤ i ∧ n ≠ 3)
theorem bad_row {ws : List (List Nat)} (hne : ws ≠ []) (hb : NoB ws) (h : ∀ i, frmIx (ws.getD 0 []) = some i → badW i ws.length (¬ GoodN (ws.getD 2 []))) : ¬ ∃ i vs, GoodRow (jn ws) i vs := by
 rintro ⟨i, vs, g1, g2, g3, g4⟩
 obtain ⟨w, r, rfl⟩ : ∃ w r, ws = w :: r := by
   cases ws with
   | nil => exact absurd rfl hne
   | cons w r => exact ⟨w, r, rfl⟩
 rw [fw_jn (hb w (by simp))] at g1
 have hi := frm_lt g1
 have hw := h i g1
 have hl := len_jn (w :: r) hne
 have e1 : (spl 32 ((jn (w :: r)).length + 1) (jn (w :: r))).length = (w :: r).length := by
   rw [spl_jn_len ((jn (w :: r)).length + 1) (w :: r) hne hb]
   omega
 have e2 := spl_jn_len ((fparts i).length - 1) (w :: r) hne hb
 have fl := fparts_len i hi
 subst g2
 rcases hw with ⟨rfl, hn⟩ | ⟨rfl, hn⟩ | ⟨rfl, hn⟩ | ⟨rfl, hn⟩ | ⟨h4, hn⟩
 · rw [show rowWs 0 (jn (w :: r)) = spl 32 ((fparts 0).length - 1) (jn (w :: r)) from rfl, e2, fl] at g3
   simp at g3
   simp at hn
   omega
 · rw [show rowWs 1 (jn (w :: r)) = spl 32 ((jn (w :: r)).length + 1) (jn (w :: r)) from rfl, e1, fl] at g3
   simp at g3
   simp at hn
   omega
 · rw [show rowWs 2 (jn (w :: r)) = spl 32 ((jn (w :: r)).length + 1) (jn (w :: r)) from rfl, e1, fl] at g3
   have g4 := g4 (.inl rfl)
   rw [show rowWs 2 (jn (w :: r)) = spl 32 ((jn (w :: r)).length + 1) (jn (w :: r)) from rfl] at g4
   rcases hn with hn | hn
   · simp at g3
     simp at hn
     omega
   · rw [spl_jn_get _ _ hb 2 (by simp at g3; simp only [List.length_cons] at hl; omega) (by simp at g3; simp only [List.length_cons]; omega)] at g4
     exact hn g4
 · rw [show rowWs 3 (jn (w :: r)) = spl 32 ((fparts 3).length - 1) (jn (w :: r)) from rfl, e2, fl] at g3
   have g4 := g4 (.inr rfl)
   rw [show rowWs 3 (jn (w :: r)) = spl 32 ((fparts 3).length - 1) (jn (w :: r)) from rfl] at g4
   rcases hn with hn | hn
   · simp at g3
     simp at hn
     omega
   · rw [spl_jn_get _ _ hb 2 (by rw [fl]; decide) (by simp at g3; simp only [List.length_cons]; omega)] at g4
     exact hn g4
 · obtain rfl : i = 4 := by omega
   rw [show rowWs 4 (jn (w :: r)) = spl 32 ((jn (w :: r)).length + 1) (jn (w :: r)) from rfl, e1, fl] at g3
   simp at g3
   simp at hn
   omega
theorem good_keep {n x : List Nat} (hn : 32 ∉ n) : GoodRow (jn [cd "keep", n] ++ 32 :: x) 0 [cd "keep", n, x] := by
 have hk : 32 ∉ cd "keep" := by decide +kernel
 have e : jn [cd "keep", n] ++ 32 :: x = cd "keep" ++ 32 :: (n ++ 32 :: x) := by simp [jn]
 rw [e]
 refine ⟨by rw [fw_cons _ hk]; decide +kernel, ?_, rfl, fun h => absurd h (by decide)⟩
 show _ = spl 32 2 _
 rw [spl_cons 1 _ hk, spl_cons 0 _ hn, spl_zero]
theorem good_text {n : List Nat} (hn : 32 ∉ n) : GoodRow (jn [cd "text", n]) 1 [cd "text", n] := by
 have hk : 32 ∉ cd "text" := by decide +kernel
 refine ⟨by rw [fw_jn hk]; decide +kernel, ?_, rfl, fun h => absurd h (by decide)⟩
 show _ = spl 32 ((jn [cd "text", n]).length + 1) (cd "text" ++ 32 :: n)
 rw [spl_cons _ _ hk, spl_none _ hn]
def NameF (n : List Nat) : Prop := ∃ p q b s, n = List.replicate p b ++ s :: List.replicate q b ∧ p + q < 8 ∧ 97 ≤ b ∧ b ≤ 122 ∧ 97 ≤ s ∧ s ≤ 122
theorem IsName.noB {n : List Nat} (h : IsName n) : 32 ∉ n := fun m => by
 have := h.2.2 32 m
 omega
def nameB (n : List Nat) : Bool := decide (n.length ≤ 1) || n.any fun b => decide ((n.filter fun c => decide (c ≠ b)).length ≤ 1)
end LD
namespace L2
open PySem
theorem pe_mk0 {X : Cx} {k : Nat} {x : Str} {C : Addr} {ps : List Str} {dvs : List V} {sp : Sp} {p pos : Pos} (M : Mkr X.prog X.w X.K X.mg X.base CX0 k x C ps dvs sp) (hr : Room (k + 1) X.A) (hg : Gl X x := by rfl) (hdb : (x == ("__debug__" : Str)) = false := by decide) : PE X (.Call (.Name x p) [] [] pos) (tMake C sp dvs E0 tNil) := by
 obtain ⟨f, fd, ds, F, hm, hb, hd⟩ := M.ex
 exact pe_make0 hm F hr hg M.at_ hb hd pass0 hdb
theorem pss_dead {X : Cx} {ss : List Stmt} : PSs X ss (fun _ _ _ => False) := fun _ _ _ _ _ _ h => h.elim
end L2
-- GEN prune
-- GEN raising: check_place check_gap rows_of Letters.__init__ Marks.__init__ road_of read_back longest_often taken_off number_in read_row check_names keep_text answer_keep answer_text Desk.say _law_tried
-- GEN handz: _law_which
-- GEN dead: Marks.__init__:2 longest_often:2 taken_off:2 road_of:3.0 read_back:2
-- GEN tops: FORMS KEEPING ANSWERS
-- GEN ans: answer_keep answer_text
-- GEN dicts: texts told
-- GEN strm: letters column
-- GEN objs: held=Letters
-- GEN comps: _law_which law Letters.__init__ Marks.__init__
-- GEN cuts: Letters.__init__:4 Marks.__init__:0 read_row:0 read_row:2 read_row:3 read_row:4 read_row:6 read_row:7 _law_mixed:0 _law_mixed:1 _law_which:0 _law_which:1 _law_which:2 _law_which:3 _law_which:4 _law_which:5 law:0 law:1.0 law:1.1 law:1.2
namespace My
open PySem L2 LW LP LD NumText
def top (i : Nat) : Stmt := PySem.Challenge.pw_backindex_k94_refusals_apart.main.body.getD i (.Pass ⟨0, 0, 0, 0⟩)
abbrev s_p_check_place : Stmt := top 14
abbrev P_p_check_place : List Str := ["place", "last"]
theorem sc_p_check_place : FnScope ["place", "last"] P_p_check_place (defScope s_p_check_place) := ⟨rfl, rfl, rfl, by decide +kernel, rfl, by decide +kernel, by decide +kernel⟩
abbrev s_p_check_gap : Stmt := top 15
abbrev P_p_check_gap : List Str := ["gap"]
theorem sc_p_check_gap : FnScope ["gap"] P_p_check_gap (defScope s_p_check_gap) := ⟨rfl, rfl, rfl, by decide +kernel, rfl, by decide +kernel, by decide +kernel⟩
abbrev s_p_number_in : Stmt := top 16
abbrev P_p_number_in : List Str := ["word"]
theorem sc_p_number_in : FnScope ["word"] P_p_number_in (defScope s_p_number_in) := ⟨rfl, rfl, rfl, by decide +kernel, rfl, by decide +kernel, by decide +kernel⟩
abbrev s_p_order_of : Stmt := top 18
abbrev P_p_order_of : List Str := ["text"]
theorem sc_p_order_of : FnScope ["text"] P_p_order_of (defScope s_p_order_of) := ⟨rfl, rfl, rfl, by decide +kernel, rfl, by decide +kernel, by decide +kernel⟩
abbrev s_p_rows_of : Stmt := top 19
abbrev P_p_rows_of : List Str := ["order"]
theorem sc_p_rows_of : FnScope ["order", "rows", "row", "place"] P_p_rows_of (defScope s_p_rows_of) := ⟨rfl, rfl, rfl, by decide +kernel, rfl, by decide +kernel, by decide +kernel⟩
abbrev s_p_road_of : Stmt := top 44
abbrev P_p_road_of : List Str := ["letters", "home"]
theorem sc_p_road_of : FnScope ["letters", "home", "held", "row", "road"] P_p_road_of (defScope s_p_road_of) := ⟨rfl, rfl, rfl, by decide +kernel, rfl, by decide +kernel, by decide +kernel⟩
abbrev s_p_read_back : Stmt := top 45
abbrev P_p_read_back : List Str := ["letters", "home"]
theorem sc_p_read_back : FnScope ["letters", "home", "road", "held", "signs"] P_p_read_back (defScope s_p_read_back) := ⟨rfl, rfl, rfl, by decide +kernel, rfl, by decide +kernel, by decide +kernel⟩
abbrev s_p_longest_often : Stmt := top 49
abbrev P_p_longest_often : List Str := ["text", "times"]
theorem sc_p_longest_often : FnScope ["text", "times", "order", "longest", "one", "other", "size"] P_p_longest_often (defScope s_p_longest_often) := ⟨rfl, rfl, rfl, by decide +kernel, rfl, by decide +kernel, by decide +kernel⟩
abbrev s_p_read_row : Stmt := top 55
abbrev P_p_read_row : List Str := ["row"]
theorem sc_p_read_row : FnScope ["row", "word", "parts", "words", "told"] P_p_read_row (defScope s_p_read_row) := ⟨rfl, rfl, rfl, by decide +kernel, rfl, by decide +kernel, by decide +kernel⟩
abbrev s_p_is_name : Stmt := top 56
abbrev P_p_is_name : List Str := ["word"]
theorem sc_p_is_name : FnScope ["word"] P_p_is_name (defScope s_p_is_name) := ⟨rfl, rfl, rfl, by decide +kernel, rfl, by decide +kernel, by decide +kernel⟩
abbrev s_p_check_names : Stmt := top 57
abbrev P_p_check_names : List Str := ["texts", "told"]
theorem sc_p_check_names : FnScope ["texts", "told", "part"] P_p_check_names (defScope s_p_check_names) := ⟨rfl, rfl, rfl, by decide +kernel, rfl, by decide +kernel, by decide +kernel⟩
abbrev s_p_keep_text : Stmt := top 58
abbrev P_p_keep_text : List Str := ["texts", "name", "text"]
theorem sc_p_keep_text : FnScope ["texts", "name", "text"] P_p_keep_text (defScope s_p_keep_text) := ⟨rfl, rfl, rfl, by decide +kernel, rfl, by decide +kernel, by decide +kernel⟩
abbrev s_p_answer_keep : Stmt := top 60
abbrev P_p_answer_keep : List Str := ["texts", "told"]
theorem sc_p_answer_keep : FnScope ["texts", "told"] P_p_answer_keep (defScope s_p_answer_keep) := ⟨rfl, rfl, rfl, by decide +kernel, rfl, by decide +kernel, by decide +kernel⟩
abbrev s_p_answer_text : Stmt := top 65
abbrev P_p_answer_text : List Str := ["texts", "told"]
theorem sc_p_answer_text : FnScope ["texts", "told"] P_p_answer_text (defScope s_p_answer_text) := ⟨rfl, rfl, rfl, by decide +kernel, rfl, by decide +kernel, by decide +kernel⟩
abbrev s_p_taken_off : Stmt := top 78
abbrev P_p_taken_off : List Str := ["letters", "home"]
theorem sc_p_taken_off : FnScope ["letters", "home", "held", "row"] P_p_taken_off (defScope s_p_taken_off) := ⟨rfl, rfl, rfl, by decide +kernel, rfl, by decide +kernel, by decide +kernel⟩
abbrev s_w_cell_at : Stmt := top 82
abbrev P_w_cell_at : List Str := ["_law_script", "_law_k"]
theorem sc_w_cell_at : FnScope ["_law_script", "_law_k"] P_w_cell_at (defScope s_w_cell_at) := ⟨rfl, rfl, rfl, by decide +kernel, rfl, by decide +kernel, by decide +kernel⟩
abbrev s_w_mixed : Stmt := top 83
abbrev P_w_mixed : List Str := ["_law_cell", "_law_turn", "_law_many"]
theorem sc_w_mixed : FnScope ["_law_cell", "_law_turn", "_law_many", "_law_by", "_law_prime"] P_w_mixed (defScope s_w_mixed) := ⟨rfl, rfl, rfl, by decide +kernel, rfl, by decide +kernel, by decide +kernel⟩
abbrev s_w_signs : Stmt := top 84
abbrev P_w_signs : List Str := []
theorem sc_w_signs : FnScope ["_law_some"] P_w_signs (defScope s_w_signs) := ⟨rfl, rfl, rfl, by decide +kernel, rfl, by decide +kernel, by decide +kernel⟩
abbrev s_w_which : Stmt := top 85
abbrev P_w_which : List Str := ["_law_e"]
theorem sc_w_which : FnScope ["_law_e", "_law_kinds", "_law_met"] P_w_which (defScope s_w_which) := ⟨rfl, rfl, rfl, by decide +kernel, rfl, by decide +kernel, by decide +kernel⟩
abbrev s_w_tried : Stmt := top 86
abbrev P_w_tried : List Str := ["_law_kind", "_law_text", "_law_many"]
theorem sc_w_tried : FnScope ["_law_kind", "_law_text", "_law_many"] P_w_tried (defScope s_w_tried) := ⟨rfl, rfl, rfl, by decide +kernel, rfl, by decide +kernel, by decide +kernel⟩
abbrev s_w_word : Stmt := top 87
abbrev P_w_word : List Str := ["_law_kind", "_law_text", "_law_many"]
theorem sc_w_word : FnScope ["_law_kind", "_law_text", "_law_many", "_law_e"] P_w_word (defScope s_w_word) := ⟨rfl, rfl, rfl, by decide +kernel, rfl, by decide +kernel, by decide +kernel⟩
abbrev s_law : Stmt := top 88
abbrev P_law : List Str := ["_law_script"]
theorem sc_law : FnScope ["_law_script", "_law_words", "_law_k", "_law_cell", "_law_kind", "_law_text"] P_law (defScope s_law) := ⟨rfl, rfl, rfl, by decide +kernel, rfl, by decide +kernel, by decide +kernel⟩
abbrev s_m_Letters_init : Stmt := (clsBody (top 26)).getD 0 (.Pass ⟨0, 0, 0, 0⟩)
abbrev P_m_Letters_init : List Str := ["self", "letters", "home"]
theorem sc_m_Letters_init : FnScope ["self", "letters", "home", "column"] P_m_Letters_init (defScope s_m_Letters_init) := ⟨rfl, rfl, rfl, by decide +kernel, rfl, by decide +kernel, by decide +kernel⟩
abbrev s_m_Desk_init : Stmt := (clsBody (top 76)).getD 0 (.Pass ⟨0, 0, 0, 0⟩)
abbrev P_m_Desk_init : List Str := ["self"]
theorem sc_m_Desk_init : FnScope ["self"] P_m_Desk_init (defScope s_m_Desk_init) := ⟨rfl, rfl, rfl, by decide +kernel, rfl, by decide +kernel, by decide +kernel⟩
abbrev s_m_Desk_say : Stmt := (clsBody (top 76)).getD 1 (.Pass ⟨0, 0, 0, 0⟩)
abbrev P_m_Desk_say : List Str := ["self", "row"]
theorem sc_m_Desk_say : FnScope ["self", "row", "told"] P_m_Desk_say (defScope s_m_Desk_say) := ⟨rfl, rfl, rfl, by decide +kernel, rfl, by decide +kernel, by decide +kernel⟩
abbrev s_m_Marks_init : Stmt := (clsBody (top 80)).getD 0 (.Pass ⟨0, 0, 0, 0⟩)
abbrev P_m_Marks_init : List Str := ["self", "letters", "home", "gap"]
theorem sc_m_Marks_init : FnScope ["self", "letters", "home", "gap", "signs", "row"] P_m_Marks_init (defScope s_m_Marks_init) := ⟨rfl, rfl, rfl, by decide +kernel, rfl, by decide +kernel, by decide +kernel⟩
abbrev lp_p_order_of : Pos := ⟨41, 44, 41, 70⟩
abbrev qn_p_order_of : Str := "order_of.<locals>.<lambda>"
abbrev Bk_p_order_of (tb : Addr) (H : Hp) : Prop := Bk tb lp_p_order_of qn_p_order_of H
abbrev lp_m_Letters_init : Pos := ⟨75, 53, 75, 76⟩
abbrev qn_m_Letters_init : Str := "Letters.__init__.<locals>.<lambda>"
abbrev Bk_m_Letters_init (tb : Addr) (H : Hp) : Prop := Bk tb lp_m_Letters_init qn_m_Letters_init H
structure Cs where
 BackError : Addr
 NoOrder : Addr
 NoPlace : Addr
 NoGap : Addr
 NoText : Addr
 NoTimes : Addr
 Empty : Addr
 TooLong : Addr
 NoName : Addr
 NoRow : Addr
structure Er (K : PySem.W.Frag) (mg : Str → Option Value) (c : Cs) : Prop where
 m_BackError : mg "BackError" = some (.ref c.BackError)
 x_BackError : ExC K c.BackError
 m_NoOrder : mg "NoOrder" = some (.ref c.NoOrder)
 x_NoOrder : ExC K c.NoOrder
 g_NoOrder : ExcG K c.NoOrder
 v_NoOrder : PySem.W.kitOne K (.ref c.NoOrder) (.type "ValueError") = some true
 r_NoOrder_BackError : (clsMro K c.NoOrder).contains (.ref c.BackError) = true
 t_NoOrder_NoOrder : PySem.W.kitOne K (.ref c.NoOrder) (.ref c.NoOrder) = some true
 t_NoOrder_NoPlace : PySem.W.kitOne K (.ref c.NoOrder) (.ref c.NoPlace) = some false
 t_NoOrder_NoGap : PySem.W.kitOne K (.ref c.NoOrder) (.ref c.NoGap) = some false
 t_NoOrder_NoText : PySem.W.kitOne K (.ref c.NoOrder) (.ref c.NoText) = some false
 t_NoOrder_NoTimes : PySem.W.kitOne K (.ref c.NoOrder) (.ref c.NoTimes) = some false
 t_NoOrder_Empty : PySem.W.kitOne K (.ref c.NoOrder) (.ref c.Empty) = some false
 t_NoOrder_TooLong : PySem.W.kitOne K (.ref c.NoOrder) (.ref c.TooLong) = some false
 t_NoOrder_NoName : PySem.W.kitOne K (.ref c.NoOrder) (.ref c.NoName) = some false
 t_NoOrder_NoRow : PySem.W.kitOne K (.ref c.NoOrder) (.ref c.NoRow) = some false
 m_NoPlace : mg "NoPlace" = some (.ref c.NoPlace)
 x_NoPlace : ExC K c.NoPlace
 g_NoPlace : ExcG K c.NoPlace
 v_NoPlace : PySem.W.kitOne K (.ref c.NoPlace) (.type "ValueError") = some true
 r_NoPlace_BackError : (clsMro K c.NoPlace).contains (.ref c.BackError) = true
 t_NoPlace_NoOrder : PySem.W.kitOne K (.ref c.NoPlace) (.ref c.NoOrder) = some false
 t_NoPlace_NoPlace : PySem.W.kitOne K (.ref c.NoPlace) (.ref c.NoPlace) = some true
 t_NoPlace_NoGap : PySem.W.kitOne K (.ref c.NoPlace) (.ref c.NoGap) = some false
 t_NoPlace_NoText : PySem.W.kitOne K (.ref c.NoPlace) (.ref c.NoText) = some false
 t_NoPlace_NoTimes : PySem.W.kitOne K (.ref c.NoPlace) (.ref c.NoTimes) = some false
 t_NoPlace_Empty : PySem.W.kitOne K (.ref c.NoPlace) (.ref c.Empty) = some false
 t_NoPlace_TooLong : PySem.W.kitOne K (.ref c.NoPlace) (.ref c.TooLong) = some false
 t_NoPlace_NoName : PySem.W.kitOne K (.ref c.NoPlace) (.ref c.NoName) = some false
 t_NoPlace_NoRow : PySem.W.kitOne K (.ref c.NoPlace) (.ref c.NoRow) = some false
 m_NoGap : mg "NoGap" = some (.ref c.NoGap)
 x_NoGap : ExC K c.NoGap
 g_NoGap : ExcG K c.NoGap
 v_NoGap : PySem.W.kitOne K (.ref c.NoGap) (.type "ValueError") = some true
 r_NoGap_BackError : (clsMro K c.NoGap).contains (.ref c.BackError) = true
 t_NoGap_NoOrder : PySem.W.kitOne K (.ref c.NoGap) (.ref c.NoOrder) = some false
 t_NoGap_NoPlace : PySem.W.kitOne K (.ref c.NoGap) (.ref c.NoPlace) = some false
 t_NoGap_NoGap : PySem.W.kitOne K (.ref c.NoGap) (.ref c.NoGap) = some true
 t_NoGap_NoText : PySem.W.kitOne K (.ref c.NoGap) (.ref c.NoText) = some false
 t_NoGap_NoTimes : PySem.W.kitOne K (.ref c.NoGap) (.ref c.NoTimes) = some false
 t_NoGap_Empty : PySem.W.kitOne K (.ref c.NoGap) (.ref c.Empty) = some false
 t_NoGap_TooLong : PySem.W.kitOne K (.ref c.NoGap) (.ref c.TooLong) = some false
 t_NoGap_NoName : PySem.W.kitOne K (.ref c.NoGap) (.ref c.NoName) = some false
 t_NoGap_NoRow : PySem.W.kitOne K (.ref c.NoGap) (.ref c.NoRow) = some false
 m_NoText : mg "NoText" = some (.ref c.NoText)
 x_NoText : ExC K c.NoText
 g_NoText : ExcG K c.NoText
 v_NoText : PySem.W.kitOne K (.ref c.NoText) (.type "ValueError") = some true
 r_NoText_BackError : (clsMro K c.NoText).contains (.ref c.BackError) = true
 t_NoText_NoOrder : PySem.W.kitOne K (.ref c.NoText) (.ref c.NoOrder) = some false
 t_NoText_NoPlace : PySem.W.kitOne K (.ref c.NoText) (.ref c.NoPlace) = some false
 t_NoText_NoGap : PySem.W.kitOne K (.ref c.NoText) (.ref c.NoGap) = some false
 t_NoText_NoText : PySem.W.kitOne K (.ref c.NoText) (.ref c.NoText) = some true
 t_NoText_NoTimes : PySem.W.kitOne K (.ref c.NoText) (.ref c.NoTimes) = some false
 t_NoText_Empty : PySem.W.kitOne K (.ref c.NoText) (.ref c.Empty) = some false
 t_NoText_TooLong : PySem.W.kitOne K (.ref c.NoText) (.ref c.TooLong) = some false
 t_NoText_NoName : PySem.W.kitOne K (.ref c.NoText) (.ref c.NoName) = some false
 t_NoText_NoRow : PySem.W.kitOne K (.ref c.NoText) (.ref c.NoRow) = some false
 m_NoTimes : mg "NoTimes" = some (.ref c.NoTimes)
 x_NoTimes : ExC K c.NoTimes
 g_NoTimes : ExcG K c.NoTimes
 v_NoTimes : PySem.W.kitOne K (.ref c.NoTimes) (.type "ValueError") = some true
 r_NoTimes_BackError : (clsMro K c.NoTimes).contains (.ref c.BackError) = true
 t_NoTimes_NoOrder : PySem.W.kitOne K (.ref c.NoTimes) (.ref c.NoOrder) = some false
 t_NoTimes_NoPlace : PySem.W.kitOne K (.ref c.NoTimes) (.ref c.NoPlace) = some false
 t_NoTimes_NoGap : PySem.W.kitOne K (.ref c.NoTimes) (.ref c.NoGap) = some false
 t_NoTimes_NoText : PySem.W.kitOne K (.ref c.NoTimes) (.ref c.NoText) = some false
 t_NoTimes_NoTimes : PySem.W.kitOne K (.ref c.NoTimes) (.ref c.NoTimes) = some true
 t_NoTimes_Empty : PySem.W.kitOne K (.ref c.NoTimes) (.ref c.Empty) = some false
 t_NoTimes_TooLong : PySem.W.kitOne K (.ref c.NoTimes) (.ref c.TooLong) = some false
 t_NoTimes_NoName : PySem.W.kitOne K (.ref c.NoTimes) (.ref c.NoName) = some false
 t_NoTimes_NoRow : PySem.W.kitOne K (.ref c.NoTimes) (.ref c.NoRow) = some false
 m_Empty : mg "Empty" = some (.ref c.Empty)
 x_Empty : ExC K c.Empty
 g_Empty : ExcG K c.Empty
 v_Empty : PySem.W.kitOne K (.ref c.Empty) (.type "ValueError") = some true
 r_Empty_BackError : (clsMro K c.Empty).contains (.ref c.BackError) = true
 t_Empty_NoOrder : PySem.W.kitOne K (.ref c.Empty) (.ref c.NoOrder) = some false
 t_Empty_NoPlace : PySem.W.kitOne K (.ref c.Empty) (.ref c.NoPlace) = some false
 t_Empty_NoGap : PySem.W.kitOne K (.ref c.Empty) (.ref c.NoGap) = some false
 t_Empty_NoText : PySem.W.kitOne K (.ref c.Empty) (.ref c.NoText) = some false
 t_Empty_NoTimes : PySem.W.kitOne K (.ref c.Empty) (.ref c.NoTimes) = some false
 t_Empty_Empty : PySem.W.kitOne K (.ref c.Empty) (.ref c.Empty) = some true
 t_Empty_TooLong : PySem.W.kitOne K (.ref c.Empty) (.ref c.TooLong) = some false
 t_Empty_NoName : PySem.W.kitOne K (.ref c.Empty) (.ref c.NoName) = some false
 t_Empty_NoRow : PySem.W.kitOne K (.ref c.Empty) (.ref c.NoRow) = some false
 m_TooLong : mg "TooLong" = some (.ref c.TooLong)
 x_TooLong : ExC K c.TooLong
 g_TooLong : ExcG K c.TooLong
 v_TooLong : PySem.W.kitOne K (.ref c.TooLong) (.type "ValueError") = some true
 r_TooLong_BackError : (clsMro K c.TooLong).contains (.ref c.BackError) = true
 t_TooLong_NoOrder : PySem.W.kitOne K (.ref c.TooLong) (.ref c.NoOrder) = some false
 t_TooLong_NoPlace : PySem.W.kitOne K (.ref c.TooLong) (.ref c.NoPlace) = some false
 t_TooLong_NoGap : PySem.W.kitOne K (.ref c.TooLong) (.ref c.NoGap) = some false
 t_TooLong_NoText : PySem.W.kitOne K (.ref c.TooLong) (.ref c.NoText) = some false
 t_TooLong_NoTimes : PySem.W.kitOne K (.ref c.TooLong) (.ref c.NoTimes) = some false
 t_TooLong_Empty : PySem.W.kitOne K (.ref c.TooLong) (.ref c.Empty) = some false
 t_TooLong_TooLong : PySem.W.kitOne K (.ref c.TooLong) (.ref c.TooLong) = some true
 t_TooLong_NoName : PySem.W.kitOne K (.ref c.TooLong) (.ref c.NoName) = some false
 t_TooLong_NoRow : PySem.W.kitOne K (.ref c.TooLong) (.ref c.NoRow) = some false
 m_NoName : mg "NoName" = some (.ref c.NoName)
 x_NoName : ExC K c.NoName
 g_NoName : ExcG K c.NoName
 v_NoName : PySem.W.kitOne K (.ref c.NoName) (.type "ValueError") = some true
 r_NoName_BackError : (clsMro K c.NoName).contains (.ref c.BackError) = true
 t_NoName_NoOrder : PySem.W.kitOne K (.ref c.NoName) (.ref c.NoOrder) = some false
 t_NoName_NoPlace : PySem.W.kitOne K (.ref c.NoName) (.ref c.NoPlace) = some false
 t_NoName_NoGap : PySem.W.kitOne K (.ref c.NoName) (.ref c.NoGap) = some false
 t_NoName_NoText : PySem.W.kitOne K (.ref c.NoName) (.ref c.NoText) = some false
 t_NoName_NoTimes : PySem.W.kitOne K (.ref c.NoName) (.ref c.NoTimes) = some false
 t_NoName_Empty : PySem.W.kitOne K (.ref c.NoName) (.ref c.Empty) = some false
 t_NoName_TooLong : PySem.W.kitOne K (.ref c.NoName) (.ref c.TooLong) = some false
 t_NoName_NoName : PySem.W.kitOne K (.ref c.NoName) (.ref c.NoName) = some true
 t_NoName_NoRow : PySem.W.kitOne K (.ref c.NoName) (.ref c.NoRow) = some false
 m_NoRow : mg "NoRow" = some (.ref c.NoRow)
 x_NoRow : ExC K c.NoRow
 g_NoRow : ExcG K c.NoRow
 v_NoRow : PySem.W.kitOne K (.ref c.NoRow) (.type "ValueError") = some true
 r_NoRow_BackError : (clsMro K c.NoRow).contains (.ref c.BackError) = true
 t_NoRow_NoOrder : PySem.W.kitOne K (.ref c.NoRow) (.ref c.NoOrder) = some false
 t_NoRow_NoPlace : PySem.W.kitOne K (.ref c.NoRow) (.ref c.NoPlace) = some false
 t_NoRow_NoGap : PySem.W.kitOne K (.ref c.NoRow) (.ref c.NoGap) = some false
 t_NoRow_NoText : PySem.W.kitOne K (.ref c.NoRow) (.ref c.NoText) = some false
 t_NoRow_NoTimes : PySem.W.kitOne K (.ref c.NoRow) (.ref c.NoTimes) = some false
 t_NoRow_Empty : PySem.W.kitOne K (.ref c.NoRow) (.ref c.Empty) = some false
 t_NoRow_TooLong : PySem.W.kitOne K (.ref c.NoRow) (.ref c.TooLong) = some false
 t_NoRow_NoName : PySem.W.kitOne K (.ref c.NoRow) (.ref c.NoName) = some false
 t_NoRow_NoRow : PySem.W.kitOne K (.ref c.NoRow) (.ref c.NoRow) = some true
structure Cf (K : PySem.W.Frag) (C_Letters : Addr) (C_Desk : Addr) (C_Marks : Addr) : Prop where
 cl_Letters : Cls K C_Letters
 na_Letters_column : NoAttr K C_Letters "column"
 na_Letters_forths : NoAttr K C_Letters "forths"
 na_Letters_home : NoAttr K C_Letters "home"
 na_Letters_last : NoAttr K C_Letters "last"
 na_Letters_totals : NoAttr K C_Letters "totals"
 cl_Desk : Cls K C_Desk
 na_Desk_texts : NoAttr K C_Desk "texts"
 cl_Marks : Cls K C_Marks
 na_Marks_gap : NoAttr K C_Marks "gap"
 na_Marks_held : NoAttr K C_Marks "held"
 na_Marks_marks : NoAttr K C_Marks "marks"
def kv_FORMS : List (Str × V) := [("keep", .str "word name rest"), ("load", .str "word name rest"), ("ahead", .str "word name rest"), ("drop", .str "word name"), ("off", .str "word name number"), ("text", .str "word name"), ("pack", .str "word name"), ("count", .str "word name rest"), ("find", .str "word name rest"), ("near", .str "word name number rest"), ("often", .str "word name number"), ("kinds", .str "word name"), ("lone", .str "word name"), ("cut", .str "word name rest"), ("both", .str "word name other")]
def xs_KEEPING : List V := [.str "keep", .str "load"]
def kn_ANSWERS : List (Str × Str) := [("keep", "answer_keep"), ("text", "answer_text")]
structure Tp (K : PySem.W.Frag) (P : Params) (mg : Str → Option Value) (A_FORMS A_KEEPING A_ANSWERS : Addr) : Prop where
 m_FORMS : mg "FORMS" = some (.ref A_FORMS)
 d_FORMS : TopD K P A_FORMS kv_FORMS
 m_KEEPING : mg "KEEPING" = some (.ref A_KEEPING)
 d_KEEPING : TopT K A_KEEPING xs_KEEPING
 m_ANSWERS : mg "ANSWERS" = some (.ref A_ANSWERS)
 d_ANSWERS : TopF K P mg A_ANSWERS kn_ANSWERS
structure Gc (mg : Str → Option Value) : Prop where
 MOST_SIGNS : ∃ t, mg "MOST_SIGNS" = some (.int 300 t)
 NO_LETTER : ∃ t, mg "NO_LETTER" = some (.str "\n" t)
structure Bn (mg : Str → Option Value) : Prop where
 ValueError : mg "ValueError" = none
 dict : mg "dict" = none
 enumerate : mg "enumerate" = none
 int : mg "int" = none
 isinstance : mg "isinstance" = none
 len : mg "len" = none
 max : mg "max" = none
 min : mg "min" = none
 range : mg "range" = none
 reversed : mg "reversed" = none
 set : mg "set" = none
 sorted : mg "sorted" = none
 zip : mg "zip" = none
section
variable {P : Program} {w : World} {K : PySem.W.Frag} {mg : Str → Option Value} {base : Heap}
def sp_p_number_in (K : PySem.W.Frag) (c : Cs) : Sp := fun vs H Q E => match vs with
 | [.str z] => (L z).length ≤ sizeLine ∧ (GoodN (L z) → Q (.int (digitsVal (L z) : Nat)) H) ∧ (¬ GoodN (L z) → E (.ref c.NoRow) none H)
 | _ => False
theorem ok_p_number_in {f : Addr} {fd : FuncData} (F : Fun K "number_in" "number_in" s_p_number_in f fd) (B : Bn mg) {c : Cs} (ER : Er K mg c) {A_FORMS A_KEEPING A_ANSWERS : Addr} (TP : Tp K w.params mg A_FORMS A_KEEPING A_ANSWERS) {C_Letters C_Desk C_Marks : Addr} (CF : Cf K C_Letters C_Desk C_Marks) (GC : Gc mg)  : FnOk P w K mg base (CX1 P w) 1 f fd P_p_number_in (sp_p_number_in K c) := by
 refine F.okX sc_p_number_in (fun vs H Q E h => ?_) (fun cdv A outer s H vs Q E hr h => ?_) <;> unfold sp_p_number_in at h <;> split at h <;> first | exact h.elim | skip
 · rfl
 · rename_i z
   obtain ⟨hl, q, e⟩ := h
   refine ⟨_, (pss_cons (ps_if (PW.pt (pw_or (pt_c2 o_lt (pe_callB (c_lenK (K := K) rfl) (by rfl) B.len bt_len (pa_cons (qv 0) pa_nil)) pe_int) (pw_or (pt_c2 o_gt (pe_callB (c_lenK (K := K) rfl) (by rfl) B.len bt_len (pa_cons (qv 0) pa_nil)) pe_int) (pw_or1 (pt_c2 o_ne (pe_bmK (K := K) rfl PySem.F.plainAttrs_str PySem.F.slot_str_strip PySem.F.type_str_strip m_strip (qv 0) (pa_cons pe_str pa_nil)) pe_str))))) (pss_one (ps_raise tk_def rfl ER.x_NoRow rfl ER.m_NoRow (pa_cons pe_str pa_nil))) pss_nil)
       (pss_cons (ps_if (PW.pt (pw_and (pt_c2 o_eq (pe_ix (i_ixK (K := K) rfl) (qv 0) pe_int (fun _ _ => rfl)) pe_str) (pw_and1 (pt_c2 o_ne (qv 0) pe_str)))) (pss_one (ps_raise tk_def rfl ER.x_NoRow rfl ER.m_NoRow (pa_cons pe_str pa_nil))) pss_nil)
       (pss_one (ps_ret (pe_callTy c_intW (by rfl) B.int bt_int (pa_cons (qv 0) pa_nil)))))), ?_⟩
   have hsz : sizeLine = 16777216 := sizeLine_eq
   have e1 : L (Str.ofString "0123456789") = [48, 49, 50, 51, 52, 53, 54, 55, 56, 57] := by decide +kernel
   have e2 : L (Str.ofString "") = [] := by decide +kernel
   have e3 : L (Str.ofString "0") = [48] := by decide +kernel
   have dg : (∀ c ∈ L z, c ∈ [48, 49, 50, 51, 52, 53, 54, 55, 56, 57]) ↔ ∀ c ∈ L z, 48 ≤ c ∧ c ≤ 57 := by
     refine forall_congr' fun c => forall_congr' fun _ => ?_
     simp only [List.mem_cons, List.not_mem_nil, or_false]
     omega
   simp only [L2.start, List.map_cons, List.map_nil, List.length_cons, List.length_nil, List.replicate_zero, Nat.reduceAdd, Nat.reduceSub, true_and, decide_eq_true_eq, if_true, if_false, Bool.false_eq_true, gS, rVar, tC, tSeq, tNext, tRet, tIfS, tOp, tCB, tCons, tNil, tB2, tAnd, tOr, int2', ltV, eqR, neR, sc, ixV, lenV, tBM, tyV, L_T, tRaise, intW, stpV, List.append_nil, gtV, e1, e2, e3]
   refine ⟨hl, ite2 (fun w => ⟨by decide, e fun g => by have := g.1; omega⟩) fun w1 => ⟨hl, ite2 (fun w => ⟨by decide, e fun g => by have := g.2.1; omega⟩) fun w2 => ⟨hl, fun l hll => ?_⟩⟩⟩
   have h0 : L z ≠ [] := fun w => by
     rw [w] at w1
     exact w1 (by decide)
   by_cases l0 : l = []
   · have d := dg.mp (hll.mp l0)
     rw [decide_eq_true l0]
     refine iteF ⟨hl, _, atI_getD 0 (by omega) (by omega), ite2 (fun w => ?_) fun w => ⟨by omega, h0, d, q ⟨by omega, by omega, d, fun v => absurd (by rw [show ((0 : Int)).toNat = 0 from rfl, v]) w⟩⟩⟩
     have e0 : (L z).getD 0 0 = 48 := List.head_eq_of_cons_eq w
     by_cases e4 : L z = [48]
     · rw [decide_eq_true e4]
       exact iteF ⟨by omega, h0, d, q ⟨by omega, by omega, d, fun _ => e4⟩⟩
     · rw [decide_eq_false e4]
       exact iteT ⟨by decide, e fun g => e4 (g.2.2.2 e0)⟩
   · rw [decide_eq_false l0]
     exact iteT ⟨by decide, e fun g => l0 (hll.mpr (dg.mpr g.2.2.1))⟩
theorem kv_forms : kv_FORMS = formT.map fun p => (Str.ofString p.1, V.str (Str.ofString (fstr p.2))) := rfl
theorem top_forms (w : List Nat) : topV kv_FORMS (T w) = (frmIx w).map fun i => V.str (Str.ofString (fstr i)) := by
 rw [kv_forms]
 exact top_map w formT
def sp_p_read_row (K : PySem.W.Frag) (c : Cs) : Sp := fun vs H Q E => match vs with
 | [.str z] => (L z).length ≤ 5000 ∧ (∀ i ws, GoodRow (L z) i ws → ∀ H' d, Same H H' → H d = none → H' d = some (.dK (toldK i ws)) → Q (.ref d) H') ∧ ((¬ ∃ i ws, GoodRow (L z) i ws) → ∀ H', Same H H' → E (.ref c.NoRow) none H')
 | _ => False
theorem ok_p_read_row {f : Addr} {fd : FuncData} (F : Fun K "read_row" "read_row" s_p_read_row f fd) (B : Bn mg) {c : Cs} (ER : Er K mg c) {A_FORMS A_KEEPING A_ANSWERS : Addr} (TP : Tp K w.params mg A_FORMS A_KEEPING A_ANSWERS) {C_Letters C_Desk C_Marks : Addr} (CF : Cf K C_Letters C_Desk C_Marks) (GC : Gc mg) (G_p_number_in : FnX P w K mg base 1 "number_in" P_p_number_in (sp_p_number_in K c)) : FnOk P w K mg base (CX1 P w) 2 f fd P_p_read_row (sp_p_read_row K c) := by
 refine F.okX sc_p_read_row (fun vs H Q E h => ?_) (fun cdv A outer s H vs Q E hr h => ?_) <;> unfold sp_p_read_row at h <;> split at h <;> first | exact h.elim | skip
 · rfl
 · rename_i z
   obtain ⟨hl, q, e⟩ := h
   refine ⟨_, (pss_cons (ps_cut (ps_set (i := 1) sc_p_read_row.nd rfl (by first | exact Or.inl rfl | exact Or.inr rfl) (pe_ix (i_ixK (K := K) rfl) (pe_bmK (K := K) rfl PySem.F.plainAttrs_str PySem.F.slot_str_partition PySem.F.type_str_partition m_partition (qv 0) (pa_cons pe_str pa_nil)) pe_int (fun _ _ => rfl))))
       (pss_cons (ps_if (pt_c2 (o_ninTopK (K := K) rfl rfl TP.d_FORMS) (qv 1) (pe_glob (v := .ref A_FORMS) rfl TP.m_FORMS rfl)) (pss_one (ps_raise tk_def rfl ER.x_NoRow rfl ER.m_NoRow (pa_cons pe_str pa_nil))) pss_nil)
       (pss_cons (ps_cut (ps_set (i := 2) sc_p_read_row.nd rfl (by first | exact Or.inl rfl | exact Or.inr rfl) (pe_bmK (K := K) rfl PySem.F.plainAttrs_str PySem.F.slot_str_split PySem.F.type_str_split m_split (pe_ix (i_topK (K := K) rfl rfl TP.d_FORMS) (pe_glob (v := .ref A_FORMS) rfl TP.m_FORMS rfl) (qv 1) (fun _ _ => rfl)) (pa_cons pe_str pa_nil))))
       (pss_cons (ps_cut (ps_set (i := 3) sc_p_read_row.nd rfl (by first | exact Or.inl rfl | exact Or.inr rfl) (pe_bmK (K := K) rfl PySem.F.plainAttrs_str PySem.F.slot_str_split PySem.F.type_str_split m_split (qv 0) (pa_cons pe_str pa_nil))))
       (pss_cons (ps_cut (ps_if (pt_c2 o_eq (pe_ix (i_ixK (K := K) rfl) (qv 2) (pe_un u_neg pe_int) (fun _ _ => rfl)) pe_str) (pss_one (ps_set (i := 3) sc_p_read_row.nd rfl (by first | exact Or.inl rfl | exact Or.inr rfl) (pe_bmK (K := K) rfl PySem.F.plainAttrs_str PySem.F.slot_str_split PySem.F.type_str_split m_split (qv 0) (pa_cons pe_str (pa_cons (pe_op o_sub (pe_callB (c_lenK (K := K) rfl) (by rfl) B.len bt_len (pa_cons (qv 2) pa_nil)) pe_int) pa_nil))))) pss_nil))
       (pss_cons (ps_if (pt_c2 o_ne (pe_callB (c_lenK (K := K) rfl) (by rfl) B.len bt_len (pa_cons (qv 3) pa_nil)) (pe_callB (c_lenK (K := K) rfl) (by rfl) B.len bt_len (pa_cons (qv 2) pa_nil))) (pss_one (ps_raise tk_def rfl ER.x_NoRow rfl ER.m_NoRow (pa_cons pe_str pa_nil))) pss_nil)
       (pss_cons (ps_cut (ps_set (i := 4) sc_p_read_row.nd rfl (by first | exact Or.inl rfl | exact Or.inr rfl) (pe_dictZ (K := K) rfl rfl B.dict B.zip (pa_cons (qv 2) (pa_cons (qv 3) pa_nil)))))
       (pss_cons (ps_cut (ps_if (pt_cmp (pc_din (hu_of hr) pe_str (qv 4))) (pss_one (ps_dput (hu_of hr) (qv 4) pe_str (pe_fnX tk_def.toTk G_p_number_in (hr.mono (by decide)) (pa_cons (pe_dget (hu_of hr) (qv 4) pe_str (fun _ _ => rfl)) pa_nil)) rfl)) pss_nil))
       (pss_one (ps_ret (qv 4))))))))))), ?_⟩
   have hsz : sizeLine = 16777216 := sizeLine_eq
   have e1 : L (Str.ofString " ") = [32] := by decide +kernel
   refine cutS (fun σ' H' => Same H H' ∧ σ' = [some (V.str z), some (V.str (T (fw (L z)))), none, none, none]) ?_ ?_
   · simp only [L2.start, List.map_cons, List.map_nil, List.length_cons, List.length_nil, List.replicate_succ, List.replicate_zero, List.cons_append, List.nil_append, Nat.reduceAdd, Nat.reduceSub, true_and, List.set_cons_zero, List.set_cons_succ, gS, rVar, tC, tAsg, gName, tOp, tCons, tNil, ixV, tBM, tyV, prtV, e1]
     refine ⟨32, rfl, by omega, fun k h1 h2 p hp => ⟨_, _, .inr (SqT.of upd_same), rfl, Same.updN hp, by rw [fw_at h1 h2]⟩, fun h1 p hp => ⟨_, _, .inr (SqT.of upd_same), rfl, Same.updN hp, by rw [fw_no h1, T_L]⟩⟩
   rintro _ H1 ⟨s1, rfl⟩
   simp only [List.length_cons, List.length_nil, Nat.reduceAdd, true_and, gS, rVar, tC, tSeq, tNext, tIfS, tCons, tNil, tB2, tRaise, rTopIn]
   have hfm := top_forms (fw (L z))
   cases hf : frmIx (fw (L z)) with
   | none =>
     rw [hf] at hfm
     rw [hfm]
     exact iteT ⟨by decide, e (fun ⟨i, ws, g⟩ => by have := g.1; rw [hf] at this; cases this) H1 s1⟩
   | some i =>
     have hi := frm_lt hf
     replace hfm : topV kv_FORMS (T (fw (L z))) = some (V.str (Str.ofString (fstr i))) := by rw [hfm, hf]; rfl
     rw [hfm]
     refine iteF ?_
     have hL : ∀ s : String, L (Str.ofString s) = cd s := fun _ => rfl
     refine cutS (fun σ' H' => Same H H' ∧ ∃ p, H' p = some (.lst ((fparts i).map fun w => V.str (T w))) ∧ σ' = [some (V.str z), some (V.str (T (fw (L z)))), some (V.ref p), none, none]) ?_ ?_
     · simp only [true_and, String.reduceEq, List.set_cons_zero, List.set_cons_succ, gS, rVar, tC, tAsg, gName, tOp, tCons, tNil, tBM, tyV, splV, rTopIx, hfm]
       have l1 : ∀ i, i < 5 → (L (Str.ofString (fstr i))).length + 2 ≤ sizeLine := by rw [hsz]; decide +kernel
       refine ⟨_, rfl, ?_⟩
       simp only [true_and, e1]
       refine ⟨32, rfl, by decide, l1 i hi, fun p hp => ⟨s1.upd hp, p, ?_, rfl⟩⟩
       rw [hL, spl_fstr i hi]
       exact upd_same
     rintro _ H2 ⟨s2, p, hp, rfl⟩
     refine cutS (fun σ' H' => Same H H' ∧ ∃ q, H' p = some (.lst ((fparts i).map fun w => V.str (T w))) ∧ H' q = some (.lst ((spl 32 ((L z).length + 1) (L z)).map fun w => V.str (T w))) ∧ σ' = [some (V.str z), some (V.str (T (fw (L z)))), some (V.ref p), some (V.ref q), none]) ?_ ?_
     · simp only [true_and, List.set_cons_zero, List.set_cons_succ, gS, rVar, tC, tAsg, gName, tCons, tNil, tBM, tyV, splV, e1]
       exact ⟨32, rfl, by decide, by omega, fun q hq => ⟨s2.upd hq, q, (upd_ne (ne_of_none hp hq)).trans hp, upd_same, rfl⟩⟩
     rintro _ H3 ⟨s3, q0, hp3, hq3, rfl⟩
     refine cutS (fun σ' H' => Same H H' ∧ ∃ q, H' p = some (.lst ((fparts i).map fun w => V.str (T w))) ∧ H' q = some (.lst ((rowWs i (L z)).map fun w => V.str (T w))) ∧ σ' = [some (V.str z), some (V.str (T (fw (L z)))), some (V.ref p), some (V.ref q), none]) ?_ ?_
     · simp only [true_and, List.set_cons_zero, List.set_cons_succ, gS, rVar, tC, tNext, tAsg, gName, tIfS, tOp, tUn, tCB, tCons, tNil, tB2, int2', eqR, sc, negV, ixV, lenV, tBM, tyV, splV, e1]
       refine ⟨_, _, .inl (SqL.of hp3), last_part hi, ?_⟩
       simp only [decide_eq_true_eq, L_T, hL]
       have hlr : lastP i = cd "rest" ↔ (i = 0 ∨ i = 3) := decide_eq_decide.mp (lastP_rest i hi)
       refine ite2 (fun h03 => ?_) fun h03 => ?_
       · rw [hlr] at h03
         have fl : 1 ≤ (fparts i).length ∧ (fparts i).length ≤ 4 := by
           rw [fparts_len i hi]
           split
           · omega
           · split <;> omega
         have hn : ((((fparts i).map fun w => V.str (T w)).length : Int) - 1).toNat = (fparts i).length - 1 := by rw [List.length_map]; omega
         refine ⟨_, .inl (SqL.of hp3), 32, rfl, by decide, by omega, by rw [List.length_map]; omega, by rw [List.length_map]; omega, fun q hq => ⟨s3.upd hq, q, (upd_ne (ne_of_none hp3 hq)).trans hp3, ?_, rfl⟩⟩
         rw [upd_same, hn]
         unfold rowWs
         rw [if_pos h03]
       · rw [hlr] at h03
         refine ⟨s3, q0, hp3, ?_, rfl⟩
         unfold rowWs
         rw [if_neg h03]
         exact hq3
     rintro _ H4 ⟨s4, q1, hp4, hq4, rfl⟩
     simp only [List.length_cons, List.length_nil, Nat.reduceAdd, gS, rVar, tC, tSeq, tNext, tIfS, tCB, tCons, tNil, tB2, neR, sc, lenV, tRaise]
     refine ⟨_, .inl (SqL.of hq4), _, .inl (SqL.of hp4), ite2 (fun hne => ⟨by decide, e (fun ⟨j, ws, g⟩ => ?_) H4 s4⟩) fun heq => ?_⟩
     · have ej : j = i := Option.some.inj (g.1.symm.trans hf)
       subst ej
       simp only [Bool.not_eq_true', decide_eq_false_iff_not, List.length_map] at hne
       exact hne (by have := g.2.2.1; rw [g.2.1] at this; omega)
     have hwl : (rowWs i (L z)).length = (fparts i).length := by
       simp only [Bool.not_eq_true', decide_eq_false_iff_not, List.length_map, Decidable.not_not] at heq
       omega
     refine cutS (fun σ' H' => Same H H' ∧ ∃ d, H d = none ∧ H' d = some (.dK (told0 i (rowWs i (L z)))) ∧ σ' = [some (V.str z), some (V.str (T (fw (L z)))), some (V.ref p), some (V.ref q1), some (V.ref d)]) ?_ ?_
     · simp only [List.set_cons_zero, List.set_cons_succ, gS, rVar, tAsg, gName, tCons, tNil, tDictZ, qDictZ]
       refine ⟨fparts i, (rowWs i (L z)).map fun w => V.str (T w), SqL.of hp4, SqL.of hq4, by rw [List.length_map]; exact hwl.symm, fun d hd => ⟨s4.upd hd, d, s4.free hd, ?_, rfl⟩⟩
       rw [upd_same, fill_told hi hwl]
     rintro _ H5 ⟨s5, d, hd0, hd5, rfl⟩
     refine cutS (fun σ' H' => Same H H' ∧ GoodRow (L z) i (rowWs i (L z)) ∧ H' d = some (.dK (toldK i (rowWs i (L z)))) ∧ σ' = [some (V.str z), some (V.str (T (fw (L z)))), some (V.ref p), some (V.ref q1), some (V.ref d)]) ?_ ?_
     · simp only [and_true, gS, rVar, tC, tNext, tIfS, tCons, tNil, tFnX, tDGet, tDIn, sDPut, tB]
       have ek : V.str (Str.ofString "number") = kV (ky "number") := by
         show _ = V.str (T (cd "number"))
         rw [T_cd]
       refine ⟨d, _, rfl, by rw [ek]; exact DGet.k hd5, _, rfl, ?_⟩
       rw [val_number hi]
       by_cases h2 : i = 2 ∨ i = 3
       · rw [if_pos h2]
         refine iteT ⟨d, _, rfl, by rw [ek]; exact (val_number hi (rowWs i (L z))).trans (if_pos h2) ▸ DGet.k hd5, ?_⟩
         have hw3 : ((rowWs i (L z)).getD 2 []).length ≤ 5000 := Nat.le_trans (row_get i (L z) 2) hl
         simp only [sp_p_number_in, L_T]
         refine ⟨by omega, fun g => ⟨d, _, rfl, by rw [ek]; exact .inl ⟨_, ky "number", hd5, rfl, by have := told_len i (rowWs i (L z)); omega, rfl⟩, ?_⟩, fun g => e (fun ⟨j, ws, gr⟩ => ?_) H5 s5⟩
         · rw [put_number hi h2]
           refine ⟨fun b o hb => ?_, ⟨hf, rfl, hwl, fun _ => g⟩, upd_same⟩
           rw [upd_ne (ne_of_none hb hd0)]
           exact s5 b o hb
         · have ej : j = i := Option.some.inj (gr.1.symm.trans hf)
           subst ej
           exact g (gr.2.1 ▸ gr.2.2.2 h2)
       · rw [if_neg h2]
         exact iteF ⟨s5, ⟨hf, rfl, hwl, fun z => absurd z h2⟩, told_no h2 _ ▸ hd5⟩
     rintro _ H6 ⟨s6, g6, hd6, rfl⟩
     simp only [gS, rVar, tRet]
     exact q i _ g6 H6 d s6 hd0 hd6
def sp_p_is_name (K : PySem.W.Frag) : Sp := fun vs H Q _ => match vs with
 | [.str z] => (L z).length ≤ 5000 ∧ ∀ b : Bool, (b = true ↔ IsName (L z)) → Q (.bl b) H
 | _ => False
theorem ok_p_is_name {f : Addr} {fd : FuncData} (F : Fun K "is_name" "is_name" s_p_is_name f fd) (B : Bn mg) {c : Cs} (ER : Er K mg c) {A_FORMS A_KEEPING A_ANSWERS : Addr} (TP : Tp K w.params mg A_FORMS A_KEEPING A_ANSWERS) {C_Letters C_Desk C_Marks : Addr} (CF : Cf K C_Letters C_Desk C_Marks) (GC : Gc mg)  : FnOk P w K mg base CX0 1 f fd P_p_is_name (sp_p_is_name K) := by
 refine F.ok sc_p_is_name (fun vs H Q E h => ?_) (fun cdv A outer s H vs Q E hr h => ?_) <;> unfold sp_p_is_name at h <;> split at h <;> first | exact h.elim | skip
 · rfl
 · rename_i z
   obtain ⟨hl, q⟩ := h
   refine ⟨_, (pss_one (ps_ret (pe_and2 (pe_chain2 o_le o_le pe_int (pe_callB (c_lenK (K := K) rfl) (by rfl) B.len bt_len (pa_cons (qv 0) pa_nil)) pe_int) (pe_one (pe_c2 o_eq (pe_bmK (K := K) rfl PySem.F.plainAttrs_str PySem.F.slot_str_strip PySem.F.type_str_strip m_strip (qv 0) (pa_cons pe_str pa_nil)) pe_str))))), ?_⟩
   have hsz : sizeLine = 16777216 := sizeLine_eq
   have e1 : L (Str.ofString "abcdefghijklmnopqrstuvwxyz") = [97, 98, 99, 100, 101, 102, 103, 104, 105, 106, 107, 108, 109, 110, 111, 112, 113, 114, 115, 116, 117, 118, 119, 120, 121, 122] := by decide +kernel
   have e2 : L (Str.ofString "") = [] := by decide +kernel
   have dg : (∀ c ∈ L z, c ∈ [97, 98, 99, 100, 101, 102, 103, 104, 105, 106, 107, 108, 109, 110, 111, 112, 113, 114, 115, 116, 117, 118, 119, 120, 121, 122]) ↔ ∀ c ∈ L z, 97 ≤ c ∧ c ≤ 122 := by
     refine forall_congr' fun c => forall_congr' fun _ => ?_
     simp only [List.mem_cons, List.not_mem_nil, or_false]
     omega
   simp only [L2.start, List.map_cons, List.map_nil, List.length_cons, List.length_nil, List.replicate_zero, Nat.reduceAdd, Nat.reduceSub, true_and, decide_eq_true_eq, if_false, Bool.false_eq_true, gS, rVar, tC, tRet, tOp, tCB, tCons, tNil, vAnd, int2', eqR, sc, lenV, tBM, tyV, L_T, vChain, stpV, List.append_nil, leV, e1, e2]
   exact ⟨by omega, ite2 (fun h1 => ite2 (fun h2 => ⟨by omega, fun l hl' => q _ ⟨fun z => ⟨by omega, by omega, dg.mp (hl'.mp (of_decide_eq_true z))⟩, fun n => decide_eq_true (hl'.mpr (dg.mpr n.2.2))⟩⟩) fun h2 => q false ⟨fun z => (by cases z), fun n => by have := n.2.1; omega⟩) fun h1 => q false ⟨fun z => (by cases z), fun n => by have := n.1; omega⟩⟩
def sp_p_check_names (K : PySem.W.Frag) (c : Cs) : Sp := fun vs H Q E => match vs with
 | [.ref t, .ref d] => ∃ kept i ws, H t = some (.dK (txK kept)) ∧ i < 5 ∧ H d = some (.dK (toldK i ws)) ∧ (∀ k, (ws.getD k []).length ≤ 5000) ∧ (NameOk kept i ws → ∀ H', Same H H' → Q .non H') ∧ (¬ NameOk kept i ws → ∀ H', Same H H' → E (.ref c.NoName) none H')
 | _ => False
theorem ok_p_check_names {f : Addr} {fd : FuncData} (F : Fun K "check_names" "check_names" s_p_check_names f fd) (B : Bn mg) {c : Cs} (ER : Er K mg c) {A_FORMS A_KEEPING A_ANSWERS : Addr} (TP : Tp K w.params mg A_FORMS A_KEEPING A_ANSWERS) {C_Letters C_Desk C_Marks : Addr} (CF : Cf K C_Letters C_Desk C_Marks) (GC : Gc mg) (G_p_is_name : Fn P w K mg base 1 "is_name" P_p_is_name (sp_p_is_name K)) : FnOk P w K mg base (CX1 P w) 2 f fd P_p_check_names (sp_p_check_names K c) := by
 refine F.okX sc_p_check_names (fun vs H Q E h => ?_) (fun cdv A outer s H vs Q E hr h => ?_) <;> unfold sp_p_check_names at h <;> split at h <;> first | exact h.elim | skip
 · rfl
 · rename_i t d
   obtain ⟨kept, i, ws, ht, hi, hd, hw, q, e⟩ := h
   refine ⟨_, (pss_cons (ps_if (pt_c2 (o_inL (K := K) rfl) (pe_dget (hu_of hr) (qv 1) pe_str (fun _ _ => rfl)) (pe_glob (v := .ref A_KEEPING) rfl TP.m_KEEPING rfl)) (pss_cons (ps_if (pt_not (pt_trK (K := K) rfl (pe_fn G_p_is_name (hr.mono (by decide)) (pa_cons (pe_dget (hu_of hr) (qv 1) pe_str (fun _ _ => rfl)) pa_nil)))) (pss_one (ps_raise tk_def rfl ER.x_NoName rfl ER.m_NoName (pa_cons pe_str pa_nil))) pss_nil)
       (pss_one ps_retN)) pss_nil)
       (pss_one (ps_tupF (K := K) rfl tk_def.own rfl (pe_tup (pa_cons pe_str (pa_cons pe_str pa_nil))) (pg_name (i := 2) sc_p_check_names.nd rfl (by first | exact Or.inl rfl | exact Or.inr rfl)) (pss_one (ps_if (PW.pt (pw_and (pt_cmp (pc_din (hu_of hr) (qv 2) (qv 1))) (pw_and1 (pt_cmp (pc_dnotin (hu_of hr) (pe_dget (hu_of hr) (qv 1) (qv 2) (fun _ _ => rfl)) (qv 0)))))) (pss_one (ps_raise tk_def rfl ER.x_NoName rfl ER.m_NoName (pa_cons pe_str pa_nil))) pss_nil))))), ?_⟩
   have hsz : sizeLine = 16777216 := sizeLine_eq
   have ek : ∀ s : String, V.str (Str.ofString s) = kV (ky s) := fun s => by
     show _ = V.str (T (cd s))
     rw [T_cd]
   simp only [L2.start, List.map_cons, List.map_nil, List.length_cons, List.length_nil, List.replicate_succ, List.replicate_zero, List.cons_append, List.nil_append, Nat.reduceAdd, Nat.reduceSub, if_false, Bool.false_eq_true, gS, rVar, tC, tSeq, tNext, tRetN, tIfS, tCons, tNil, tFn, tB2, tNot, trV, tRaise, tDGet, rIn, sp_p_is_name]
   have hin : inV (V.str (T (ws.getD 0 []))) xs_KEEPING = true ↔ (ws.getD 0 [] = cd "keep" ∨ ws.getD 0 [] = cd "load") := by
     have es : ∀ s : String, (Str.ofString s == T (ws.getD 0 [])) = true ↔ ws.getD 0 [] = cd s := fun s => by
       rw [beq_iff_eq, ← T_cd, T_inj]
       exact eq_comm
     show ((Str.ofString "keep" == T (ws.getD 0 [])) || ((Str.ofString "load" == T (ws.getD 0 [])) || false)) = true ↔ _
     rw [Bool.or_eq_true, Bool.or_eq_true, es, es]
     simp
   refine ⟨d, _, rfl, val_word i ws ▸ DGet.kys hd "word", A_KEEPING, xs_KEEPING, rfl, .inr (TP.d_KEEPING.sq H), rfl, rfl, ite2 (fun h1 => ?_) fun h1 => ?_⟩
   · refine ⟨d, _, rfl, val_name i ws ▸ DGet.kys hd "name", ?_⟩
     simp only [L_T]
     refine ⟨hw 1, fun b hb => ite2 (fun h2 => ⟨by decide, e (fun n => ?_) H (Same.refl H)⟩) fun h2 => q ⟨fun _ => hb.mp (by simpa using h2), fun n => absurd (hin.mp h1) n⟩ H (Same.refl H)⟩
     have := hb.mpr (n.1 (hin.mp h1))
     rw [this] at h2
     cases h2
   · rw [hin] at h1
     simp only [List.length_cons, List.length_nil, Nat.reduceAdd, if_false, Bool.false_eq_true, rVar, tC, tNext, gName, tIfS, tCons, tNil, tTup, tAnd, tRaise, tDGet, tDIn, tDNotIn, tB, tTupF, forT]
     refine ⟨by omega, ?_⟩
     intro p hp
     have np : ∀ {b : Addr} {o : HO}, H b = some o → b ≠ p := fun h => ne_of_none h hp
     have s1 : Same H (upd H p (HO.tup [V.str (Str.ofString "name"), V.str (Str.ofString "other")])) := Same.updN hp
     refine ⟨_, SqT.of upd_same, fun k σ' H' => H' = upd H p (HO.tup [V.str (Str.ofString "name"), V.str (Str.ofString "other")]) ∧ (∃ x, σ' = [some (V.ref t), some (V.ref d), x]) ∧ (1 ≤ k → (lookT kept (ws.getD 1 [])).isSome = true) ∧ (2 ≤ k → i = 4 → (lookT kept (ws.getD 2 [])).isSome = true), ⟨rfl, ⟨_, rfl⟩, fun z => absurd z (by decide), fun z => absurd z (by decide)⟩, ?_, ?_, ?_⟩
     · rintro k σ' H' _ ⟨rfl, _⟩
       exact SqT.of upd_same
     · rintro k x σ' H' hx ⟨rfl, ⟨y, rfl⟩, g1, g2⟩
       simp only [true_and, List.set_cons_zero, List.set_cons_succ, gS]
       have hd' := s1 d _ hd
       have ht' := s1 t _ ht
       match k, hx, g1, g2 with
       | 0, hx, _, _ =>
         cases Option.some.inj hx
         refine ⟨d, _, rfl, DGet.kys hd' "name", _, rfl, ?_⟩
         rw [val_name]
         refine iteT ⟨d, _, rfl, val_name i ws ▸ DGet.kys hd' "name", t, _, rfl, DGet.k (k := .inr (T (ws.getD 1 []))) ht', _, rfl, ?_⟩
         rw [val_txK, Option.isSome_map]
         refine ite2 (fun h2 => ⟨by decide, e (fun n => ?_) _ s1⟩) fun h2 => ⟨⟨_, rfl⟩, fun _ => by rw [Bool.not_eq_true', Bool.not_eq_false] at h2; exact h2, fun z => absurd z (by decide)⟩
         have := (n.2 h1).1
         rw [this] at h2
         cases h2
       | 1, hx, g1, _ =>
         cases Option.some.inj hx
         refine ⟨d, _, rfl, DGet.kys hd' "other", _, rfl, ?_⟩
         rw [val_other hi]
         by_cases h4 : i = 4
         · rw [if_pos h4]
           refine iteT ⟨d, _, rfl, (val_other hi ws).trans (if_pos h4) ▸ DGet.kys hd' "other", t, _, rfl, DGet.k (k := .inr (T (ws.getD 2 []))) ht', _, rfl, ?_⟩
           rw [val_txK, Option.isSome_map]
           refine ite2 (fun h2 => ⟨by decide, e (fun n => ?_) _ s1⟩) fun h2 => ⟨⟨_, rfl⟩, fun _ => g1 (by decide), fun _ _ => by rw [Bool.not_eq_true', Bool.not_eq_false] at h2; exact h2⟩
           have := (n.2 h1).2 h4
           rw [this] at h2
           cases h2
         · rw [if_neg h4]
           exact iteF ⟨⟨_, rfl⟩, fun _ => g1 (by decide), fun _ z => absurd z h4⟩
       | k + 2, hx, _, _ => cases hx
     · rintro σ' H' ⟨rfl, _, g1, g2⟩
       exact q ⟨fun z => absurd z h1, fun _ => ⟨g1 (by decide), g2 (by decide)⟩⟩ _ s1
def sp_p_keep_text (K : PySem.W.Frag) (c : Cs) : Sp := fun vs H Q E => match vs with
 | [.ref t, .str n, .str x] => ∃ kept, H t = some (.dK (txK kept)) ∧ kept.length ≤ 1000 ∧ (L x).length ≤ 5000 ∧ ((L x).length ≤ 300 → Q (.str (Str.ofString "ok")) (upd H t (.dK (txK (putT kept (L n) (L x)))))) ∧ (300 < (L x).length → E (.ref c.TooLong) none H)
 | _ => False
theorem ok_p_keep_text {f : Addr} {fd : FuncData} (F : Fun K "keep_text" "keep_text" s_p_keep_text f fd) (B : Bn mg) {c : Cs} (ER : Er K mg c) {A_FORMS A_KEEPING A_ANSWERS : Addr} (TP : Tp K w.params mg A_FORMS A_KEEPING A_ANSWERS) {C_Letters C_Desk C_Marks : Addr} (CF : Cf K C_Letters C_Desk C_Marks) (GC : Gc mg)  : FnOk P w K mg base (CX1 P w) 1 f fd P_p_keep_text (sp_p_keep_text K c) := by
 refine F.okX sc_p_keep_text (fun vs H Q E h => ?_) (fun cdv A outer s H vs Q E hr h => ?_) <;> unfold sp_p_keep_text at h <;> split at h <;> first | exact h.elim | skip
 · rfl
 · rename_i t n x
   obtain ⟨kept, ht, hk, hxl, q, e⟩ := h
   refine ⟨_, (pss_cons (ps_if (pt_c2 o_gt (pe_callB (c_lenK (K := K) rfl) (by rfl) B.len bt_len (pa_cons (qv 2) pa_nil)) (pe_globI rfl GC.MOST_SIGNS)) (pss_one (ps_raise tk_def rfl ER.x_TooLong rfl ER.m_TooLong (pa_cons pe_str pa_nil))) pss_nil)
       (pss_cons (ps_dput (hu_of hr) (qv 0) (qv 1) (qv 2) rfl)
       (pss_one (ps_ret pe_str)))), ?_⟩
   have hsz : sizeLine = 16777216 := sizeLine_eq
   simp only [L2.start, List.map_cons, List.map_nil, List.length_cons, List.length_nil, List.replicate_zero, Nat.reduceAdd, Nat.reduceSub, decide_eq_true_eq, gS, rVar, tC, tSeq, tNext, tRet, tIfS, tCB, tCons, tNil, tB2, int2', lenV, tRaise, sDPut, List.append_nil, gtV]
   refine ⟨by omega, ite2 (fun h1 => ⟨by decide, e (by omega)⟩) fun h1 => ⟨t, _, rfl, .inl ⟨_, .inr (T (L n)), ht, by rw [T_L]; rfl, by unfold txK; rw [List.length_map]; omega, rfl⟩, ?_⟩⟩
   have := put_txK kept (L n) (L x)
   rw [T_L, T_L] at this
   rw [T_L, this]
   exact q (by omega)
def sp_p_answer_keep (K : PySem.W.Frag) (c : Cs) : Sp := fun vs H Q E => match vs with
 | [.ref t, .ref d] => ∃ kept ws, H t = some (.dK (txK kept)) ∧ kept.length ≤ 1000 ∧ H d = some (.dK (toldK 0 ws)) ∧ (ws.getD 2 []).length ≤ 5000 ∧ ((ws.getD 2 []).length ≤ 300 → Q (.str (Str.ofString "ok")) (upd H t (.dK (txK (putT kept (ws.getD 1 []) (ws.getD 2 [])))))) ∧ (300 < (ws.getD 2 []).length → E (.ref c.TooLong) none H)
 | _ => False
theorem ok_p_answer_keep {f : Addr} {fd : FuncData} (F : Fun K "answer_keep" "answer_keep" s_p_answer_keep f fd) (B : Bn mg) {c : Cs} (ER : Er K mg c) {A_FORMS A_KEEPING A_ANSWERS : Addr} (TP : Tp K w.params mg A_FORMS A_KEEPING A_ANSWERS) {C_Letters C_Desk C_Marks : Addr} (CF : Cf K C_Letters C_Desk C_Marks) (GC : Gc mg) (G_p_keep_text : FnX P w K mg base 1 "keep_text" P_p_keep_text (sp_p_keep_text K c)) : FnOk P w K mg base (CX1 P w) 2 f fd P_p_answer_keep (sp_p_answer_keep K c) := by
 refine F.okX sc_p_answer_keep (fun vs H Q E h => ?_) (fun cdv A outer s H vs Q E hr h => ?_) <;> unfold sp_p_answer_keep at h <;> split at h <;> first | exact h.elim | skip
 · rfl
 · rename_i t d
   obtain ⟨kept, ws, ht, hk, hd, hxl, q, e⟩ := h
   refine ⟨_, (pss_one (ps_ret (pe_fnX tk_def.toTk G_p_keep_text (hr.mono (by decide)) (pa_cons (qv 0) (pa_cons (pe_dget (hu_of hr) (qv 1) pe_str (fun _ _ => rfl)) (pa_cons (pe_dget (hu_of hr) (qv 1) pe_str (fun _ _ => rfl)) pa_nil)))))), ?_⟩
   have ek : ∀ s : String, V.str (Str.ofString s) = kV (ky s) := fun s => by
     show _ = V.str (T (cd s))
     rw [T_cd]
   simp only [L2.start, List.map_cons, List.map_nil, List.length_cons, List.length_nil, List.replicate_zero, Nat.reduceAdd, Nat.reduceSub, gS, rVar, tC, tRet, tCons, tNil, tFnX, tDGet, List.append_nil]
   refine ⟨d, _, rfl, val_name 0 ws ▸ DGet.kys hd "name", d, _, rfl, val_rest ws ▸ DGet.kys hd "rest", ?_⟩
   simp only [sp_p_keep_text, L_T]
   exact ⟨kept, ht, hk, hxl, q, e⟩
def sp_p_answer_text (K : PySem.W.Frag) (c : Cs) : Sp := fun vs H Q E => match vs with
 | [.ref t, .ref d] => ∃ kept i ws x, H t = some (.dK (txK kept)) ∧ H d = some (.dK (toldK i ws)) ∧ lookT kept (ws.getD 1 []) = some x ∧ Q (.str (T x)) H
 | _ => False
theorem ok_p_answer_text {f : Addr} {fd : FuncData} (F : Fun K "answer_text" "answer_text" s_p_answer_text f fd) (B : Bn mg) {c : Cs} (ER : Er K mg c) {A_FORMS A_KEEPING A_ANSWERS : Addr} (TP : Tp K w.params mg A_FORMS A_KEEPING A_ANSWERS) {C_Letters C_Desk C_Marks : Addr} (CF : Cf K C_Letters C_Desk C_Marks) (GC : Gc mg)  : FnOk P w K mg base (CX1 P w) 1 f fd P_p_answer_text (sp_p_answer_text K c) := by
 refine F.okX sc_p_answer_text (fun vs H Q E h => ?_) (fun cdv A outer s H vs Q E hr h => ?_) <;> unfold sp_p_answer_text at h <;> split at h <;> first | exact h.elim | skip
 · rfl
 · rename_i t d
   obtain ⟨kept, i, ws, x, ht, hd, hx, q⟩ := h
   refine ⟨_, (pss_one (ps_ret (pe_dget (hu_of hr) (qv 0) (pe_dget (hu_of hr) (qv 1) pe_str (fun _ _ => rfl)) (fun _ _ => rfl)))), ?_⟩
   have ek : ∀ s : String, V.str (Str.ofString s) = kV (ky s) := fun s => by
     show _ = V.str (T (cd s))
     rw [T_cd]
   simp only [L2.start, List.map_cons, List.map_nil, List.length_cons, List.length_nil, List.replicate_zero, Nat.reduceAdd, Nat.reduceSub, gS, rVar, tC, tRet, tDGet, List.append_nil]
   have hv : valV (txK kept) (.inr (T (ws.getD 1 []))) = some (V.str (T x)) := by rw [val_txK, hx]; rfl
   exact ⟨d, _, rfl, val_name i ws ▸ DGet.kys hd "name", t, _, rfl, hv ▸ DGet.k (k := .inr (T (ws.getD 1 []))) ht, q⟩
abbrev Ga (K : PySem.W.Frag) (c : Cs) : Str → Sp → Prop := fun nm sp => (nm = "answer_keep" ∧ sp = (sp_p_answer_keep K c)) ∨ (nm = "answer_text" ∧ sp = (sp_p_answer_text K c))
def AnsRes (kept : KeptT) (i : Nat) (ws : List (List Nat)) (Qs : KeptT → List Nat → Prop) (Qr : Nat → Prop) : Prop :=
 (ws.getD 0 [] = cd "keep" ∧ i = 0 ∧ ((ws.getD 2 []).length ≤ 300 → Qs (putT kept (ws.getD 1 []) (ws.getD 2 [])) (cd "ok")) ∧ (300 < (ws.getD 2 []).length → Qr 2)) ∨
 (ws.getD 0 [] = cd "text" ∧ ∃ x, lookT kept (ws.getD 1 []) = some x ∧ Qs kept x)
def DeskRes (kept : KeptT) (r : List Nat) (Qs : KeptT → List Nat → Prop) (Qr : Nat → Prop) : Prop :=
 ((¬ ∃ i ws, GoodRow r i ws) → Qr 0) ∧ ∀ i ws, GoodRow r i ws → (¬ NameOk kept i ws → Qr 1) ∧ (NameOk kept i ws → AnsRes kept i ws Qs Qr)
def clsK (c : Cs) : Nat → Addr
 | 0 => c.NoRow
 | 1 => c.NoName
 | _ => c.TooLong
def sp_m_Desk_init (K : PySem.W.Frag) (C : Addr) : Sp := fun vs H Q _ => match vs with
 | [.ref o] => (∃ dx, H o = some (.ins C dx [])) ∧ ∀ H' t, (∀ b u, b ≠ o → H b = some u → H' b = some u) → H t = none → IsDesk C H' o t [] → Q .non H'
 | _ => False
theorem ok_m_Desk_init {f : Addr} {fd : FuncData} (F : Fun K "__init__" "Desk.__init__" s_m_Desk_init f fd) (B : Bn mg) {c : Cs} (ER : Er K mg c) {A_FORMS A_KEEPING A_ANSWERS : Addr} (TP : Tp K w.params mg A_FORMS A_KEEPING A_ANSWERS) {C_Letters C_Desk C_Marks : Addr} (CF : Cf K C_Letters C_Desk C_Marks) (GC : Gc mg)  : FnOk P w K mg base CX0 1 f fd P_m_Desk_init (sp_m_Desk_init K C_Desk) := by
 refine F.ok sc_m_Desk_init (fun vs H Q E h => ?_) (fun cdv A outer s H vs Q E hr h => ?_) <;> unfold sp_m_Desk_init at h <;> split at h <;> first | exact h.elim | skip
 · rfl
 · rename_i o
   obtain ⟨⟨dx, ho⟩, q⟩ := h
   refine ⟨_, (pss_one (ps_fldC (K := K) rfl CF.cl_Desk CF.na_Desk_texts (qv 0) pe_dnewK rfl)), ?_⟩
   simp only [L2.start, List.map_cons, List.map_nil, List.length_cons, List.length_nil, List.replicate_zero, Nat.reduceAdd, Nat.reduceSub, gS, rVar, tDNewK, wFld, List.append_nil]
   refine fun p hp => ⟨dx, _, (upd_ne (ne_of_none ho hp)).trans ho, by decide, q _ p (fun b u hb h => ?_) hp ⟨⟨dx, upd_same⟩, (upd_ne fun z => ?_).trans upd_same⟩⟩
   · rw [upd_ne hb, upd_ne (ne_of_none h hp)]
     exact h
   · rw [z, ho] at hp
     cases hp
def sp_m_Desk_say (K : PySem.W.Frag) (c : Cs) (C : Addr) : Sp := fun vs H Q E => match vs with
 | [.ref o, .str z] => ∃ t kept, IsDesk C H o t kept ∧ kept.length ≤ 1000 ∧ (L z).length ≤ 5000 ∧ DeskRes kept (L z) (fun kept' x => ∀ H', Same (upd H t (.dK (txK kept'))) H' → Q (.str (T x)) H') (fun k => ∀ H', Same H H' → E (.ref (clsK c k)) none H')
 | _ => False
theorem ok_m_Desk_say {f : Addr} {fd : FuncData} (F : Fun K "say" "Desk.say" s_m_Desk_say f fd) (B : Bn mg) {c : Cs} (ER : Er K mg c) {A_FORMS A_KEEPING A_ANSWERS : Addr} (TP : Tp K w.params mg A_FORMS A_KEEPING A_ANSWERS) {C_Letters C_Desk C_Marks : Addr} (CF : Cf K C_Letters C_Desk C_Marks) (GC : Gc mg) (G_p_read_row : FnX P w K mg base 2 "read_row" P_p_read_row (sp_p_read_row K c)) (G_p_check_names : FnX P w K mg base 2 "check_names" P_p_check_names (sp_p_check_names K c)) (G_p_answer_keep : FnX P w K mg base 2 "answer_keep" P_p_answer_keep (sp_p_answer_keep K c)) (G_p_answer_text : FnX P w K mg base 1 "answer_text" P_p_answer_text (sp_p_answer_text K c)) : FnOk P w K mg base (CX1 P w) 3 f fd P_m_Desk_say (sp_m_Desk_say K c C_Desk) := by
 refine F.okX sc_m_Desk_say (fun vs H Q E h => ?_) (fun cdv A outer s H vs Q E hr h => ?_) <;> unfold sp_m_Desk_say at h <;> split at h <;> first | exact h.elim | skip
 · rfl
 · rename_i o z
   obtain ⟨t, kept, ⟨⟨dx, ho⟩, ht⟩, hk, hz, q0, q⟩ := h
   refine ⟨_, (pss_cons (ps_set (i := 2) sc_m_Desk_say.nd rfl (by first | exact Or.inl rfl | exact Or.inr rfl) (pe_fnX tk_def.toTk G_p_read_row (hr.mono (by decide)) (pa_cons (qv 1) pa_nil)))
       (pss_cons (ps_expr (pe_fnX tk_def.toTk G_p_check_names (hr.mono (by decide)) (pa_cons (pe_fldC (K := K) rfl CF.cl_Desk CF.na_Desk_texts (qv 0)) (pa_cons (qv 2) pa_nil))))
       (pss_one (ps_ret (pe_ansX (k := 2) (G := Ga K c) tk_def.toTk TP.d_ANSWERS TP.m_ANSWERS (fun nm sp h => by rcases h with ⟨rfl, rfl⟩ | ⟨rfl, rfl⟩ <;> first | exact ⟨_, _, by decide, G_p_answer_keep⟩ | exact ⟨_, _, by decide, G_p_answer_text⟩) (hr.mono (by decide)) (pe_dget (hu_of hr) (qv 2) pe_str (fun _ _ => rfl)) (pa_cons (pe_fldC (K := K) rfl CF.cl_Desk CF.na_Desk_texts (qv 0)) (pa_cons (qv 2) pa_nil)) (fun _ _ => rfl)))))), ?_⟩
   simp only [L2.start, List.map_cons, List.map_nil, List.length_cons, List.length_nil, List.replicate_succ, List.replicate_zero, List.cons_append, List.nil_append, Nat.reduceAdd, Nat.reduceSub, List.set_cons_zero, List.set_cons_succ, gS, rVar, tC, tSeq, tAsg, gName, tRet, tDrop, tCons, tNil, tFnX, tDGet, tAns, rFld, sp_p_read_row]
   refine ⟨hz, fun i ws g H1 d s1 hd0 hd => ?_, fun n => q0 n⟩
   have hi := frm_lt g.1
   have hw : ∀ k, (ws.getD k []).length ≤ 5000 := fun k => by
     rw [g.2.1]
     exact Nat.le_trans (row_get i (L z) k) hz
   refine ⟨dx, _, .ref t, s1 o _ ho, rfl, ?_⟩
   simp only [sp_p_check_names]
   refine ⟨kept, i, ws, s1 t _ ht, hi, hd, hw, fun n H2 s2 => ?_, fun n H2 s2 => (q i ws g).1 n H2 (s1.trans s2)⟩
   have s3 := s1.trans s2
   have hd2 := s2 d _ hd
   refine ⟨d, _, rfl, val_word i ws ▸ DGet.kys hd2 "word", ?_⟩
   rcases (q i ws g).2 n with ⟨e0, rfl, a1, a2⟩ | ⟨e0, x, hx, a⟩
   · rw [e0]
     refine ⟨"answer_keep", sp_p_answer_keep K c, by rw [T_cd]; rfl, .inl ⟨rfl, rfl⟩, dx, _, .ref t, s3 o _ ho, rfl, ?_⟩
     simp only [sp_p_answer_keep]
     exact ⟨kept, ws, s3 t _ ht, hk, hd2, hw 2, fun l => a1 l _ (same_upd2 s3), fun l => a2 l H2 s3⟩
   · rw [e0]
     refine ⟨"answer_text", sp_p_answer_text K c, by rw [T_cd]; rfl, .inr ⟨rfl, rfl⟩, dx, _, .ref t, s3 o _ ho, rfl, ?_⟩
     simp only [sp_p_answer_text]
     exact ⟨kept, i, ws, x, s3 t _ ht, hd2, hx, a H2 (same_upd0 ht s3)⟩
def nm9 : Nat → Str
 | 0 => Str.ofString "NoOrder"
 | 1 => Str.ofString "NoPlace"
 | 2 => Str.ofString "NoGap"
 | 3 => Str.ofString "NoText"
 | 4 => Str.ofString "NoTimes"
 | 5 => Str.ofString "Empty"
 | 6 => Str.ofString "TooLong"
 | 7 => Str.ofString "NoName"
 | _ => Str.ofString "NoRow"
def cl9 (c : Cs) : Nat → Addr
 | 0 => c.NoOrder
 | 1 => c.NoPlace
 | 2 => c.NoGap
 | 3 => c.NoText
 | 4 => c.NoTimes
 | 5 => c.Empty
 | 6 => c.TooLong
 | 7 => c.NoName
 | _ => c.NoRow
def Kinds (H : Hp) (p : Addr) (k n : Nat) : Prop := ∃ ts : List Addr, ts.length = n ∧ H p = some (.lst (ts.map V.ref)) ∧ ∀ (j : Nat) t, ts[j]? = some t → H t = some (.tup [.str (nm9 j), .bl (decide (j = k))])
theorem Kinds.add {H H' : Hp} {r : Addr} {k n : Nat} {ts us : List Addr} (hl : ts.length = n) (ht : ∀ (j : Nat) t, ts[j]? = some t → H t = some (.tup [.str (nm9 j), .bl (decide (j = k))])) (s : Same H H') (hr : H' r = some (.lst (ts.map V.ref ++ us.map V.ref)))
   (hu : ∀ (j : Nat) t, us[j]? = some t → H' t = some (.tup [.str (nm9 (n + j)), .bl (decide (n + j = k))])) : Kinds H' r k (n + us.length) := by
 refine ⟨ts ++ us, by rw [List.length_append, hl], by rw [List.map_append]; exact hr, fun j t e => ?_⟩
 by_cases h : j < n
 · rw [List.getElem?_append_left (by omega)] at e
   exact s t _ (ht j t e)
 · rw [List.getElem?_append_right (by omega), hl] at e
   have := hu (j - n) t e
   rw [show n + (j - n) = j by omega] at this
   exact this
theorem upd4 {H : Hp} {p p1 p2 p3 : Addr} {o0 o1 o2 o3 : HO} (h0 : H p = none) (h1 : upd H p o0 p1 = none) (h2 : upd (upd H p o0) p1 o1 p2 = none) (h3 : upd (upd (upd H p o0) p1 o1) p2 o2 p3 = none) :
   Same H (upd (upd (upd (upd H p o0) p1 o1) p2 o2) p3 o3) ∧ upd (upd (upd (upd H p o0) p1 o1) p2 o2) p3 o3 p = some o0 ∧ upd (upd (upd (upd H p o0) p1 o1) p2 o2) p3 o3 p1 = some o1 := by
 have s1 : Same (upd H p o0) (upd (upd H p o0) p1 o1) := Same.updN h1
 have s2 : Same (upd (upd H p o0) p1 o1) (upd (upd (upd H p o0) p1 o1) p2 o2) := Same.updN h2
 have s3 : Same (upd (upd (upd H p o0) p1 o1) p2 o2) (upd (upd (upd (upd H p o0) p1 o1) p2 o2) p3 o3) := Same.updN h3
 exact ⟨(Same.updN h0).trans (s1.trans (s2.trans s3)), (s1.trans (s2.trans s3)) p _ upd_same, (s2.trans s3) p1 _ upd_same⟩
theorem upd3 {H : Hp} {p p1 p2 : Addr} {o0 o1 o2 : HO} (h0 : H p = none) (h1 : upd H p o0 p1 = none) (h2 : upd (upd H p o0) p1 o1 p2 = none) :
   Same H (upd (upd (upd H p o0) p1 o1) p2 o2) ∧ upd (upd (upd H p o0) p1 o1) p2 o2 p = some o0 ∧ upd (upd (upd H p o0) p1 o1) p2 o2 p1 = some o1 := by
 have s1 : Same (upd H p o0) (upd (upd H p o0) p1 o1) := Same.updN h1
 have s2 : Same (upd (upd H p o0) p1 o1) (upd (upd (upd H p o0) p1 o1) p2 o2) := Same.updN h2
 exact ⟨(Same.updN h0).trans (s1.trans s2), (s1.trans s2) p _ upd_same, s2 p1 _ upd_same⟩
theorem kinds_pair {H1 : Hp} {p p1 p2 l : Addr} {k n : Nat} (hk : Kinds H1 l k n) (h0 : H1 p = none) (h1 : upd H1 p (.tup [.str (nm9 n), .bl (decide (n = k))]) p1 = none) (h2 : upd (upd H1 p (.tup [.str (nm9 n), .bl (decide (n = k))])) p1 (.tup [.str (nm9 (n + 1)), .bl (decide (n + 1 = k))]) p2 = none) :
   ∃ xs, xs.length = n ∧ upd (upd (upd H1 p (.tup [.str (nm9 n), .bl (decide (n = k))])) p1 (.tup [.str (nm9 (n + 1)), .bl (decide (n + 1 = k))])) p2 (.lst [.ref p, .ref p1]) l = some (.lst xs) ∧ ∀ p3, upd (upd (upd H1 p (.tup [.str (nm9 n), .bl (decide (n = k))])) p1 (.tup [.str (nm9 (n + 1)), .bl (decide (n + 1 = k))])) p2 (.lst [.ref p, .ref p1]) p3 = none →
     Same H1 (upd (upd (upd (upd H1 p (.tup [.str (nm9 n), .bl (decide (n = k))])) p1 (.tup [.str (nm9 (n + 1)), .bl (decide (n + 1 = k))])) p2 (.lst [.ref p, .ref p1])) p3 (.lst (xs ++ [.ref p, .ref p1]))) ∧
     Kinds (upd (upd (upd (upd H1 p (.tup [.str (nm9 n), .bl (decide (n = k))])) p1 (.tup [.str (nm9 (n + 1)), .bl (decide (n + 1 = k))])) p2 (.lst [.ref p, .ref p1])) p3 (.lst (xs ++ [.ref p, .ref p1]))) p3 k (n + 2) := by
 obtain ⟨ts, tl, hp, ht⟩ := hk
 refine ⟨ts.map V.ref, by rw [List.length_map, tl], (upd3 h0 h1 h2).1 l _ hp, fun p3 h3 => ?_⟩
 obtain ⟨s4, a0, a1⟩ := upd4 (o3 := HO.lst (ts.map V.ref ++ [.ref p, .ref p1])) h0 h1 h2 h3
 refine ⟨s4, Kinds.add (us := [p, p1]) tl ht s4 upd_same fun j t e => ?_⟩
 match j, e with
 | 0, e => cases e; exact a0
 | 1, e => cases e; exact a1
 | j + 2, e => cases e
def sp_w_which (K : PySem.W.Frag) (c : Cs) (xa : Addr) : Sp := fun vs H Q _ => match vs with
 | [.ref e] => e = xa ∧ ∃ C k, H e = some (ExcO e C) ∧ ExcG K C ∧ PySem.W.kitOne K (.ref C) (.type "ValueError") = some true ∧ k < 9 ∧ (∀ j, j < 9 → PySem.W.kitOne K (.ref C) (.ref (cl9 c j)) = some (decide (j = k))) ∧ ∀ H', Same H H' → Q (.str (nm9 k)) H'
 | _ => False
theorem ok_w_which {f : Addr} {fd : FuncData} (F : Fun K "_law_which" "_law_which" s_w_which f fd) (B : Bn mg) {c : Cs} (ER : Er K mg c) {A_FORMS A_KEEPING A_ANSWERS : Addr} (TP : Tp K w.params mg A_FORMS A_KEEPING A_ANSWERS) {C_Letters C_Desk C_Marks : Addr} (CF : Cf K C_Letters C_Desk C_Marks) (GC : Gc mg)  : FnZ0 P w K mg base 1 f fd P_w_which (sp_w_which K c) := by
 refine F.okZ sc_w_which (fun xa vs H Q E h => ?_) (fun xa cdv A outer s H vs Q hh hr h => ?_) <;> unfold sp_w_which at h <;> split at h <;> first | exact h.elim | skip
 · rfl
 · rename_i e
   obtain ⟨rfl, C, k, he, hg, hv, hk, hj, q⟩ := h
   refine ⟨_, (pss_cons (ps_cut (ps_set (i := 1) sc_w_which.nd rfl (by first | exact Or.inl rfl | exact Or.inr rfl) (pe_lst (pa_cons (pe_tup (pa_cons pe_str (pa_cons (pe_callB (c_isxK (K := K) rfl) (by rfl) B.isinstance bt_isinstance (pa_cons (qv 0) (pa_cons (pe_glob (v := .ref c.NoOrder) rfl ER.m_NoOrder rfl) pa_nil))) pa_nil))) (pa_cons (pe_tup (pa_cons pe_str (pa_cons (pe_callB (c_isxK (K := K) rfl) (by rfl) B.isinstance bt_isinstance (pa_cons (qv 0) (pa_cons (pe_glob (v := .ref c.NoPlace) rfl ER.m_NoPlace rfl) pa_nil))) pa_nil))) pa_nil)))))
       (pss_cons (ps_cut (ps_set (i := 1) sc_w_which.nd rfl (by first | exact Or.inl rfl | exact Or.inr rfl) (pe_op o_add (qv 1) (pe_lst (pa_cons (pe_tup (pa_cons pe_str (pa_cons (pe_callB (c_isxK (K := K) rfl) (by rfl) B.isinstance bt_isinstance (pa_cons (qv 0) (pa_cons (pe_glob (v := .ref c.NoGap) rfl ER.m_NoGap rfl) pa_nil))) pa_nil))) (pa_cons (pe_tup (pa_cons pe_str (pa_cons (pe_callB (c_isxK (K := K) rfl) (by rfl) B.isinstance bt_isinstance (pa_cons (qv 0) (pa_cons (pe_glob (v := .ref c.NoText) rfl ER.m_NoText rfl) pa_nil))) pa_nil))) pa_nil))))))
       (pss_cons (ps_cut (ps_set (i := 1) sc_w_which.nd rfl (by first | exact Or.inl rfl | exact Or.inr rfl) (pe_op o_add (qv 1) (pe_lst (pa_cons (pe_tup (pa_cons pe_str (pa_cons (pe_callB (c_isxK (K := K) rfl) (by rfl) B.isinstance bt_isinstance (pa_cons (qv 0) (pa_cons (pe_glob (v := .ref c.NoTimes) rfl ER.m_NoTimes rfl) pa_nil))) pa_nil))) (pa_cons (pe_tup (pa_cons pe_str (pa_cons (pe_callB (c_isxK (K := K) rfl) (by rfl) B.isinstance bt_isinstance (pa_cons (qv 0) (pa_cons (pe_glob (v := .ref c.Empty) rfl ER.m_Empty rfl) pa_nil))) pa_nil))) pa_nil))))))
       (pss_cons (ps_cut (ps_set (i := 1) sc_w_which.nd rfl (by first | exact Or.inl rfl | exact Or.inr rfl) (pe_op o_add (qv 1) (pe_lst (pa_cons (pe_tup (pa_cons pe_str (pa_cons (pe_callB (c_isxK (K := K) rfl) (by rfl) B.isinstance bt_isinstance (pa_cons (qv 0) (pa_cons (pe_glob (v := .ref c.TooLong) rfl ER.m_TooLong rfl) pa_nil))) pa_nil))) (pa_cons (pe_tup (pa_cons pe_str (pa_cons (pe_callB (c_isxK (K := K) rfl) (by rfl) B.isinstance bt_isinstance (pa_cons (qv 0) (pa_cons (pe_glob (v := .ref c.NoName) rfl ER.m_NoName rfl) pa_nil))) pa_nil))) pa_nil))))))
       (pss_cons (ps_cut (ps_set (i := 1) sc_w_which.nd rfl (by first | exact Or.inl rfl | exact Or.inr rfl) (pe_op o_add (qv 1) (pe_lst (pa_cons (pe_tup (pa_cons pe_str (pa_cons (pe_callB (c_isxK (K := K) rfl) (by rfl) B.isinstance bt_isinstance (pa_cons (qv 0) (pa_cons (pe_glob (v := .ref c.NoRow) rfl ER.m_NoRow rfl) pa_nil))) pa_nil))) pa_nil)))))
       (pss_cons (ps_cut (ps_compLH (i₀ := 2) (K := K) rfl (own := ["_law_pair"]) (cp := []) hh rfl rfl (by decide +kernel) (by decide +kernel) trivial (qv 1) (by decide) (fun _ _ _ _ => pg_name (i := 0) (show List.Nodup (["_law_pair"] : List Str) by decide +kernel) rfl (Or.inl rfl) (Or.inr rfl)) (fun _ _ _ _ => pf_one (pt_trK (K := K) rfl (pe_ix (i_ixK (K := K) rfl) (qv 0) pe_int (fun _ _ => rfl)))) (fun _ _ _ _ => (pe_ix (i_ixK (K := K) rfl) (qv 0) pe_int (fun _ _ => rfl))) sc_w_which.nd rfl rfl))
       (pss_cons (ps_if (PW.pt (pw_or (pt_c2 o_ne (pe_callB (c_lenK (K := K) rfl) (by rfl) B.len bt_len (pa_cons (qv 2) pa_nil)) pe_int) (pw_or1 (pt_not (pt_trK (K := K) rfl (pe_callB (c_isxK (K := K) rfl) (by rfl) B.isinstance bt_isinstance (pa_cons (qv 0) (pa_cons (pe_bltn (v := .ty "ValueError") rfl B.ValueError bt_ValueError rfl) pa_nil)))))))) (pss_one (ps_ret pe_str)) pss_nil)
       (pss_one (ps_ret (pe_ix (i_ixK (K := K) rfl) (qv 2) pe_int (fun _ _ => rfl))))))))))), ?_⟩
   have hsz : sizeLine = 16777216 := sizeLine_eq
   refine cutS (fun σ' H' => Same H H' ∧ ∃ p, Kinds H' p k 2 ∧ σ' = [some (V.ref e), some (V.ref p), none]) ?_ ?_
   · simp only [L2.start, List.map_cons, List.map_nil, List.length_cons, List.length_nil, List.replicate_succ, List.replicate_zero, List.cons_append, List.nil_append, Nat.reduceAdd, Nat.reduceSub, List.set_cons_zero, List.set_cons_succ, gS, rVar, tC, tAsg, gName, tCB, tCons, tNil, tTup, tLst, isxV]
     refine ⟨C, _, he, hg, ⟨by omega, fun p hp => ⟨C, _, (upd_ne (ne_of_none he hp)).trans he, hg, ⟨by omega, fun p1 hp1 => ⟨by omega, fun p2 hp2 => ?_⟩⟩, .inl (hj 1 (by decide))⟩⟩, .inl (hj 0 (by decide))⟩
     obtain ⟨s3, a0, a1⟩ := upd3 (o2 := HO.lst [V.ref p, V.ref p1]) hp hp1 hp2
     refine ⟨s3, p2, ⟨[p, p1], rfl, upd_same, fun j t e => ?_⟩, rfl⟩
     match j, e with
     | 0, e => cases e; exact a0
     | 1, e => cases e; exact a1
     | j + 2, e => cases e
   rintro _ H1 ⟨s1, p1, k1, rfl⟩
   refine cutS (fun σ' H' => Same H H' ∧ ∃ p, Kinds H' p k 4 ∧ σ' = [some (V.ref e), some (V.ref p), none]) ?_ ?_
   · simp only [List.length_cons, List.length_nil, Nat.reduceAdd, List.set_cons_zero, List.set_cons_succ, gS, rVar, tC, tAsg, gName, tOp, tCB, tCons, tNil, tTup, tLst, addV, isxV, rCat]
     have he' := s1 e _ he
     refine ⟨C, _, he', hg, ⟨by omega, fun p hp => ⟨C, _, (upd_ne (ne_of_none he' hp)).trans he', hg, ⟨by omega, fun p' hp' => ⟨by omega, fun p'' hp'' => ?_⟩⟩, .inl (hj 3 (by decide))⟩⟩, .inl (hj 2 (by decide))⟩
     obtain ⟨xs, xl, hx, hq⟩ := kinds_pair (n := 2) k1 hp hp' hp''
     refine ⟨p1, p'', xs, _, rfl, rfl, hx, upd_same, by rw [xl]; show _ + 2 ≤ _; omega, fun p3 hp3 => ?_⟩
     obtain ⟨a, b⟩ := hq p3 hp3
     exact ⟨s1.trans a, p3, b, rfl⟩
   rintro _ H2 ⟨s2, p2, k2, rfl⟩
   refine cutS (fun σ' H' => Same H H' ∧ ∃ p, Kinds H' p k 6 ∧ σ' = [some (V.ref e), some (V.ref p), none]) ?_ ?_
   · simp only [List.length_cons, List.length_nil, Nat.reduceAdd, List.set_cons_zero, List.set_cons_succ, gS, rVar, tC, tAsg, gName, tOp, tCB, tCons, tNil, tTup, tLst, addV, isxV, rCat]
     have he' := s2 e _ he
     refine ⟨C, _, he', hg, ⟨by omega, fun p hp => ⟨C, _, (upd_ne (ne_of_none he' hp)).trans he', hg, ⟨by omega, fun p' hp' => ⟨by omega, fun p'' hp'' => ?_⟩⟩, .inl (hj 5 (by decide))⟩⟩, .inl (hj 4 (by decide))⟩
     obtain ⟨xs, xl, hx, hq⟩ := kinds_pair (n := 4) k2 hp hp' hp''
     refine ⟨p2, p'', xs, _, rfl, rfl, hx, upd_same, by rw [xl]; show _ + 2 ≤ _; omega, fun p3 hp3 => ?_⟩
     obtain ⟨a, b⟩ := hq p3 hp3
     exact ⟨s2.trans a, p3, b, rfl⟩
   rintro _ H3 ⟨s3, p3, k3, rfl⟩
   refine cutS (fun σ' H' => Same H H' ∧ ∃ p, Kinds H' p k 8 ∧ σ' = [some (V.ref e), some (V.ref p), none]) ?_ ?_
   · simp only [List.length_cons, List.length_nil, Nat.reduceAdd, List.set_cons_zero, List.set_cons_succ, gS, rVar, tC, tAsg, gName, tOp, tCB, tCons, tNil, tTup, tLst, addV, isxV, rCat]
     have he' := s3 e _ he
     refine ⟨C, _, he', hg, ⟨by omega, fun p hp => ⟨C, _, (upd_ne (ne_of_none he' hp)).trans he', hg, ⟨by omega, fun p' hp' => ⟨by omega, fun p'' hp'' => ?_⟩⟩, .inl (hj 7 (by decide))⟩⟩, .inl (hj 6 (by decide))⟩
     obtain ⟨xs, xl, hx, hq⟩ := kinds_pair (n := 6) k3 hp hp' hp''
     refine ⟨p3, p'', xs, _, rfl, rfl, hx, upd_same, by rw [xl]; show _ + 2 ≤ _; omega, fun p3 hp3 => ?_⟩
     obtain ⟨a, b⟩ := hq p3 hp3
     exact ⟨s3.trans a, p3, b, rfl⟩
   rintro _ H4 ⟨s4, p4, k4, rfl⟩
   refine cutS (fun σ' H' => Same H H' ∧ ∃ p, Kinds H' p k 9 ∧ σ' = [some (V.ref e), some (V.ref p), none]) ?_ ?_
   · simp only [List.length_cons, List.length_nil, Nat.reduceAdd, List.set_cons_zero, List.set_cons_succ, gS, rVar, tC, tAsg, gName, tOp, tCB, tCons, tNil, tTup, tLst, addV, isxV, rCat]
     have he' := s4 e _ he
     refine ⟨C, _, he', hg, ⟨by omega, fun p hp => ⟨by omega, fun p' hp' => ?_⟩⟩, .inl (hj 8 (by decide))⟩
     obtain ⟨ts, tl, hts, htt⟩ := k4
     have s6 : Same H4 (upd (upd H4 p (HO.tup [V.str (nm9 8), V.bl (decide (8 = k))])) p' (HO.lst [V.ref p])) := (Same.updN hp).trans (Same.updN hp')
     refine ⟨p4, p', ts.map V.ref, _, rfl, rfl, s6 _ _ hts, upd_same, by rw [List.length_map, tl]; show _ + 1 ≤ _; omega, fun p'' hp'' => ?_⟩
     obtain ⟨u3, a0, a1⟩ := upd3 (o2 := HO.lst (ts.map V.ref ++ [V.ref p])) hp hp' hp''
     refine ⟨s4.trans u3, p'', Kinds.add (us := [p]) tl htt u3 upd_same fun j t e => ?_, rfl⟩
     match j, e with
     | 0, e => cases e; exact a0
     | j + 1, e => cases e
   rintro _ H5 ⟨s5, p5, k5, rfl⟩
   refine cutS (fun σ' H' => Same H H' ∧ ∃ m, H' m = some (.lst [.str (nm9 k)]) ∧ σ' = [some (V.ref e), some (V.ref p5), some (V.ref m)]) ?_ ?_
   · simp only [List.map_nil, List.length_cons, List.length_nil, List.replicate_succ, List.replicate_zero, Nat.reduceAdd, if_false, Bool.false_eq_true, List.set_cons_zero, List.set_cons_succ, gS, rVar, tC, tAsg, gName, tOp, trV, ixV, L_T, oneC, capS, tCLH, List.append_nil]
     obtain ⟨ts, tl, hts, htt⟩ := k5
     refine ⟨_, SqL.of hts, by rw [List.length_map]; omega, fun i H' acc => H' = H5 ∧ acc = if k < i then [.str (nm9 k)] else [], ⟨rfl, by rw [if_neg (by omega)]⟩, ?_, ?_, ?_⟩
     · rintro i H' acc _ ⟨rfl, _⟩
       exact ⟨SqL.of hts, C, s5 e _ he⟩
     · rintro i y H' acc hy ⟨rfl, rfl⟩
       rw [List.getElem?_map] at hy
       obtain ⟨t, et, rfl⟩ := Option.map_eq_some_iff.mp hy
       have h1 := htt i t et
       simp only [true_and]
       refine ⟨_, _, .inr (SqT.of h1), rfl, ?_⟩
       by_cases e : i = k
       · subst e
         rw [decide_eq_true rfl]
         refine iteT ⟨_, _, .inr (SqT.of h1), rfl, ?_⟩
         rw [if_neg (by omega), if_pos (by omega)]
         rfl
       · rw [decide_eq_false e]
         refine iteF ?_
         by_cases h2 : k < i
         · rw [if_pos h2, if_pos (by omega)]
         · rw [if_neg h2, if_neg (by omega)]
     · rintro H' acc ⟨rfl, rfl⟩ m hm
       rw [List.length_map, tl, if_pos hk]
       exact ⟨s5.upd hm, m, upd_same, rfl⟩
   rintro _ H6 ⟨s6, m, hm, rfl⟩
   simp only [if_true, gS, rVar, tC, tSeq, tNext, tRet, tIfS, tOp, tCB, tCons, tNil, tB2, tOr, tNot, trV, neR, sc, ixV, lenV, isxV]
   refine ⟨_, .inl (SqL.of hm), iteF ⟨C, true, s6 e _ he, hg, hv, iteF ⟨_, _, .inl (SqL.of hm), rfl, q H6 s6⟩⟩⟩
theorem all9 {c : Cs} (ER : Er K mg c) : ∀ k j, k < 9 → j < 9 → PySem.W.kitOne K (.ref (cl9 c k)) (.ref (cl9 c j)) = some (decide (j = k)) := by
 intro k j hk hj
 match k, j, hk, hj with
 | 0, 0, _, _ => exact ER.t_NoOrder_NoOrder
 | 0, 1, _, _ => exact ER.t_NoOrder_NoPlace
 | 0, 2, _, _ => exact ER.t_NoOrder_NoGap
 | 0, 3, _, _ => exact ER.t_NoOrder_NoText
 | 0, 4, _, _ => exact ER.t_NoOrder_NoTimes
 | 0, 5, _, _ => exact ER.t_NoOrder_Empty
 | 0, 6, _, _ => exact ER.t_NoOrder_TooLong
 | 0, 7, _, _ => exact ER.t_NoOrder_NoName
 | 0, 8, _, _ => exact ER.t_NoOrder_NoRow
 | 1, 0, _, _ => exact ER.t_NoPlace_NoOrder
 | 1, 1, _, _ => exact ER.t_NoPlace_NoPlace
 | 1, 2, _, _ => exact ER.t_NoPlace_NoGap
 | 1, 3, _, _ => exact ER.t_NoPlace_NoText
 | 1, 4, _, _ => exact ER.t_NoPlace_NoTimes
 | 1, 5, _, _ => exact ER.t_NoPlace_Empty
 | 1, 6, _, _ => exact ER.t_NoPlace_TooLong
 | 1, 7, _, _ => exact ER.t_NoPlace_NoName
 | 1, 8, _, _ => exact ER.t_NoPlace_NoRow
 | 2, 0, _, _ => exact ER.t_NoGap_NoOrder
 | 2, 1, _, _ => exact ER.t_NoGap_NoPlace
 | 2, 2, _, _ => exact ER.t_NoGap_NoGap
 | 2, 3, _, _ => exact ER.t_NoGap_NoText
 | 2, 4, _, _ => exact ER.t_NoGap_NoTimes
 | 2, 5, _, _ => exact ER.t_NoGap_Empty
 | 2, 6, _, _ => exact ER.t_NoGap_TooLong
 | 2, 7, _, _ => exact ER.t_NoGap_NoName
 | 2, 8, _, _ => exact ER.t_NoGap_NoRow
 | 3, 0, _, _ => exact ER.t_NoText_NoOrder
 | 3, 1, _, _ => exact ER.t_NoText_NoPlace
 | 3, 2, _, _ => exact ER.t_NoText_NoGap
 | 3, 3, _, _ => exact ER.t_NoText_NoText
 | 3, 4, _, _ => exact ER.t_NoText_NoTimes
 | 3, 5, _, _ => exact ER.t_NoText_Empty
 | 3, 6, _, _ => exact ER.t_NoText_TooLong
 | 3, 7, _, _ => exact ER.t_NoText_NoName
 | 3, 8, _, _ => exact ER.t_NoText_NoRow
 | 4, 0, _, _ => exact ER.t_NoTimes_NoOrder
 | 4, 1, _, _ => exact ER.t_NoTimes_NoPlace
 | 4, 2, _, _ => exact ER.t_NoTimes_NoGap
 | 4, 3, _, _ => exact ER.t_NoTimes_NoText
 | 4, 4, _, _ => exact ER.t_NoTimes_NoTimes
 | 4, 5, _, _ => exact ER.t_NoTimes_Empty
 | 4, 6, _, _ => exact ER.t_NoTimes_TooLong
 | 4, 7, _, _ => exact ER.t_NoTimes_NoName
 | 4, 8, _, _ => exact ER.t_NoTimes_NoRow
 | 5, 0, _, _ => exact ER.t_Empty_NoOrder
 | 5, 1, _, _ => exact ER.t_Empty_NoPlace
 | 5, 2, _, _ => exact ER.t_Empty_NoGap
 | 5, 3, _, _ => exact ER.t_Empty_NoText
 | 5, 4, _, _ => exact ER.t_Empty_NoTimes
 | 5, 5, _, _ => exact ER.t_Empty_Empty
 | 5, 6, _, _ => exact ER.t_Empty_TooLong
 | 5, 7, _, _ => exact ER.t_Empty_NoName
 | 5, 8, _, _ => exact ER.t_Empty_NoRow
 | 6, 0, _, _ => exact ER.t_TooLong_NoOrder
 | 6, 1, _, _ => exact ER.t_TooLong_NoPlace
 | 6, 2, _, _ => exact ER.t_TooLong_NoGap
 | 6, 3, _, _ => exact ER.t_TooLong_NoText
 | 6, 4, _, _ => exact ER.t_TooLong_NoTimes
 | 6, 5, _, _ => exact ER.t_TooLong_Empty
 | 6, 6, _, _ => exact ER.t_TooLong_TooLong
 | 6, 7, _, _ => exact ER.t_TooLong_NoName
 | 6, 8, _, _ => exact ER.t_TooLong_NoRow
 | 7, 0, _, _ => exact ER.t_NoName_NoOrder
 | 7, 1, _, _ => exact ER.t_NoName_NoPlace
 | 7, 2, _, _ => exact ER.t_NoName_NoGap
 | 7, 3, _, _ => exact ER.t_NoName_NoText
 | 7, 4, _, _ => exact ER.t_NoName_NoTimes
 | 7, 5, _, _ => exact ER.t_NoName_Empty
 | 7, 6, _, _ => exact ER.t_NoName_TooLong
 | 7, 7, _, _ => exact ER.t_NoName_NoName
 | 7, 8, _, _ => exact ER.t_NoName_NoRow
 | 8, 0, _, _ => exact ER.t_NoRow_NoOrder
 | 8, 1, _, _ => exact ER.t_NoRow_NoPlace
 | 8, 2, _, _ => exact ER.t_NoRow_NoGap
 | 8, 3, _, _ => exact ER.t_NoRow_NoText
 | 8, 4, _, _ => exact ER.t_NoRow_NoTimes
 | 8, 5, _, _ => exact ER.t_NoRow_Empty
 | 8, 6, _, _ => exact ER.t_NoRow_TooLong
 | 8, 7, _, _ => exact ER.t_NoRow_NoName
 | 8, 8, _, _ => exact ER.t_NoRow_NoRow
theorem exc9 {c : Cs} (ER : Er K mg c) : ∀ k, k < 9 → ExC K (cl9 c k) := by
 intro k hk
 match k, hk with
 | 0, _ => exact ER.x_NoOrder
 | 1, _ => exact ER.x_NoPlace
 | 2, _ => exact ER.x_NoGap
 | 3, _ => exact ER.x_NoText
 | 4, _ => exact ER.x_NoTimes
 | 5, _ => exact ER.x_Empty
 | 6, _ => exact ER.x_TooLong
 | 7, _ => exact ER.x_NoName
 | 8, _ => exact ER.x_NoRow
theorem g9 {c : Cs} (ER : Er K mg c) : ∀ k, k < 9 → ExcG K (cl9 c k) := by
 intro k hk
 match k, hk with
 | 0, _ => exact ER.g_NoOrder
 | 1, _ => exact ER.g_NoPlace
 | 2, _ => exact ER.g_NoGap
 | 3, _ => exact ER.g_NoText
 | 4, _ => exact ER.g_NoTimes
 | 5, _ => exact ER.g_Empty
 | 6, _ => exact ER.g_TooLong
 | 7, _ => exact ER.g_NoName
 | 8, _ => exact ER.g_NoRow
theorem v9 {c : Cs} (ER : Er K mg c) : ∀ k, k < 9 → PySem.W.kitOne K (.ref (cl9 c k)) (.type "ValueError") = some true := by
 intro k hk
 match k, hk with
 | 0, _ => exact ER.v_NoOrder
 | 1, _ => exact ER.v_NoPlace
 | 2, _ => exact ER.v_NoGap
 | 3, _ => exact ER.v_NoText
 | 4, _ => exact ER.v_NoTimes
 | 5, _ => exact ER.v_Empty
 | 6, _ => exact ER.v_TooLong
 | 7, _ => exact ER.v_NoName
 | 8, _ => exact ER.v_NoRow
theorem r9 {c : Cs} (ER : Er K mg c) : ∀ k, k < 9 → (clsMro K (cl9 c k)).contains (.ref c.BackError) = true := by
 intro k hk
 match k, hk with
 | 0, _ => exact ER.r_NoOrder_BackError
 | 1, _ => exact ER.r_NoPlace_BackError
 | 2, _ => exact ER.r_NoGap_BackError
 | 3, _ => exact ER.r_NoText_BackError
 | 4, _ => exact ER.r_NoTimes_BackError
 | 5, _ => exact ER.r_Empty_BackError
 | 6, _ => exact ER.r_TooLong_BackError
 | 7, _ => exact ER.r_NoName_BackError
 | 8, _ => exact ER.r_NoRow_BackError
def sp_p_check_place (K : PySem.W.Frag) (c : Cs) : Sp := fun vs H Q E => match vs with
 | [.int p, .int l] => ((0 ≤ p ∧ p ≤ l) → Q .non H) ∧ (¬ (0 ≤ p ∧ p ≤ l) → E (.ref c.NoPlace) none H)
 | _ => False
theorem ok_p_check_place {f : Addr} {fd : FuncData} (F : Fun K "check_place" "check_place" s_p_check_place f fd) (B : Bn mg) {c : Cs} (ER : Er K mg c) {A_FORMS A_KEEPING A_ANSWERS : Addr} (TP : Tp K w.params mg A_FORMS A_KEEPING A_ANSWERS) {C_Letters C_Desk C_Marks : Addr} (CF : Cf K C_Letters C_Desk C_Marks) (GC : Gc mg)  : FnOk P w K mg base (CX1 P w) 1 f fd P_p_check_place (sp_p_check_place K c) := by
 refine F.okX sc_p_check_place (fun vs H Q E h => ?_) (fun cdv A outer s H vs Q E hr h => ?_) <;> unfold sp_p_check_place at h <;> split at h <;> first | exact h.elim | skip
 · rfl
 · rename_i p l
   obtain ⟨q, e⟩ := h
   refine ⟨_, (pss_one (ps_if (PW.pt (pw_or (pt_c2 o_lt (qv 0) pe_int) (pw_or1 (pt_c2 o_gt (qv 0) (qv 1))))) (pss_one (ps_raise tk_def rfl ER.x_NoPlace rfl ER.m_NoPlace (pa_cons pe_str pa_nil))) pss_nil)), ?_⟩
   simp only [L2.start, List.map_cons, List.map_nil, List.length_cons, List.length_nil, List.replicate_zero, List.cons_append, List.nil_append, Nat.reduceAdd, Nat.reduceSub, decide_eq_true_eq, if_true, gS, rVar, tC, tNext, tIfS, tCons, tNil, tB2, tOr, int2', ltV, tRaise]
   refine ite2 (fun h0 => ⟨by decide, e (by omega)⟩) fun h0 => ite2 (fun h1 => ⟨by decide, e (by omega)⟩) fun h1 => q ⟨by omega, by omega⟩
def sp_p_check_gap (K : PySem.W.Frag) (c : Cs) : Sp := fun vs H Q E => match vs with
 | [.int g] => (g < 1 → E (.ref c.NoGap) none H) ∧ (¬ g < 1 → Q .non H)
 | _ => False
theorem ok_p_check_gap {f : Addr} {fd : FuncData} (F : Fun K "check_gap" "check_gap" s_p_check_gap f fd) (B : Bn mg) {c : Cs} (ER : Er K mg c) {A_FORMS A_KEEPING A_ANSWERS : Addr} (TP : Tp K w.params mg A_FORMS A_KEEPING A_ANSWERS) {C_Letters C_Desk C_Marks : Addr} (CF : Cf K C_Letters C_Desk C_Marks) (GC : Gc mg)  : FnOk P w K mg base (CX1 P w) 1 f fd P_p_check_gap (sp_p_check_gap K c) := by
 refine F.okX sc_p_check_gap (fun vs H Q E h => ?_) (fun cdv A outer s H vs Q E hr h => ?_) <;> unfold sp_p_check_gap at h <;> split at h <;> first | exact h.elim | skip
 · rfl
 · refine ⟨_, (pss_one (ps_if (pt_c2 o_lt (qv 0) pe_int) (pss_one (ps_raise tk_def rfl ER.x_NoGap rfl ER.m_NoGap (pa_cons pe_str pa_nil))) pss_nil)), ?_⟩
   simp only [L2.start, List.map_cons, List.map_nil, List.length_cons, List.length_nil, List.replicate_zero, Nat.reduceAdd, Nat.reduceSub, decide_eq_true_eq, gS, rVar, tC, tNext, tIfS, tCons, tNil, tB2, ltV, tRaise, List.append_nil]
   exact ite2 (fun z => ⟨by decide, h.1 z⟩) fun z => h.2 z
def sp_p_rows_of (K : PySem.W.Frag) (c : Cs) : Sp := fun vs H Q E => match vs with
 | [.ref a] => ∃ ns : List Int, SqL K H a (ns.map V.int) ∧ ns.length ≤ 63 ∧ (Whole ns → ∀ p H', H p = none → Same H H' → H' p = some (.lst ((idxs ns ns.length).map V.int)) → Q (.ref p) H') ∧ (¬ Whole ns → ∀ H', Same H H' → E (.ref c.NoOrder) none H')
 | _ => False
theorem ok_p_rows_of {f : Addr} {fd : FuncData} (F : Fun K "rows_of" "rows_of" s_p_rows_of f fd) (B : Bn mg) {c : Cs} (ER : Er K mg c) {A_FORMS A_KEEPING A_ANSWERS : Addr} (TP : Tp K w.params mg A_FORMS A_KEEPING A_ANSWERS) {C_Letters C_Desk C_Marks : Addr} (CF : Cf K C_Letters C_Desk C_Marks) (GC : Gc mg)  : FnOk P w K mg base (CX1 P w) 1 f fd P_p_rows_of (sp_p_rows_of K c) := by
 refine F.okX sc_p_rows_of (fun vs H Q E h => ?_) (fun cdv A outer s H vs Q E hr h => ?_) <;> unfold sp_p_rows_of at h <;> split at h <;> first | exact h.elim | skip
 · rfl
 · rename_i a
   obtain ⟨ns, hS, hl, q, e⟩ := h
   refine ⟨_, (pss_cons (ps_set (i := 1) sc_p_rows_of.nd rfl (by first | exact Or.inl rfl | exact Or.inr rfl) (pe_op o_mul (pe_lst (pa_cons pe_non pa_nil)) (pe_callB (c_lenK (K := K) rfl) (by rfl) B.len bt_len (pa_cons (qv 0) pa_nil))))
       (pss_cons (ps_enum (K := K) rfl tk_def.own rfl B.enumerate (pa_cons (qv 0) pa_nil) (pg_name (i := 2) sc_p_rows_of.nd rfl (by first | exact Or.inl rfl | exact Or.inr rfl)) (pg_name (i := 3) sc_p_rows_of.nd rfl (by first | exact Or.inl rfl | exact Or.inr rfl)) (pss_cons (ps_if (PW.pt (pw_or (pt_c2 o_lt (qv 3) pe_int) (pw_or1 (pt_c2 o_ge (qv 3) (pe_callB (c_lenK (K := K) rfl) (by rfl) B.len bt_len (pa_cons (qv 0) pa_nil)))))) (pss_one (ps_raise tk_def rfl ER.x_NoOrder rfl ER.m_NoOrder (pa_cons (pe_join (pj_cons pe_str (pj_cons (pe_fmt (qv 2)) (pj_cons pe_str pj_nil)))) pa_nil))) pss_nil)
       (pss_cons (ps_if (pt_c2 o_isnt (pe_ix (i_ixK (K := K) rfl) (qv 1) (qv 3) (fun _ _ => rfl)) pe_non) (pss_one (ps_raise tk_def rfl ER.x_NoOrder rfl ER.m_NoOrder (pa_cons (pe_join (pj_cons pe_str (pj_cons (pe_fmt (qv 2)) (pj_cons pe_str pj_nil)))) pa_nil))) pss_nil)
       (pss_one (ps_asg (qv 2) (pg_sub (qv 1) (qv 3) st_set))))))
       (pss_one (ps_ret (qv 1))))), ?_⟩
   simp only [L2.start, List.map_cons, List.map_nil, List.length_cons, List.length_nil, List.replicate_succ, List.replicate_zero, List.cons_append, List.nil_append, Nat.reduceAdd, Nat.reduceSub, List.set_cons_zero, List.set_cons_succ, gS, rVar, tC, tSeq, tAsg, gName, tOp, tCB, tCons, tNil, tLst, mulV, lenV, tEnum, rRep]
   have hsz : sizeLine = 16777216 := sizeLine_eq
   have e0 : (List.replicate ((((ns.map V.int).length : Nat) : Int)).toNat [V.non]).flatten = part ns 0 := by
     rw [flat_non, part_zero, Int.toNat_natCast, List.length_map]
   refine ⟨by omega, fun p hp => ⟨_, .inl ((Same.updN hp).seq hS), p, _, [V.non], rfl, rfl, upd_same, by rw [List.length_map]; omega, by rw [List.length_map]; omega, by rw [List.length_map, List.length_singleton]; omega, fun p1 hp1 => ?_⟩⟩
   rw [e0]
   have hn := (upd_free hp1).1
   refine ⟨ns.map V.int, (Same.upd (Same.updN hp) hp1).seq hS, fun k σ H' => (∃ v w, σ = [some (V.ref a), some (V.ref p1), v, w]) ∧ Same H H' ∧ H' p1 = some (.lst (part ns k)) ∧ Good ns k, ⟨⟨_, _, rfl⟩, Same.upd (Same.updN hp) hp1, upd_same, good_zero ns⟩, ?_, ?_, ?_⟩
   · rintro k σ H' _ ⟨_, sm, _⟩
     exact sm.seq hS
   · rintro k x σ H' t hx ⟨⟨v, w, rfl⟩, sm, hrow, g⟩ ht
     rw [List.getElem?_map] at hx
     obtain ⟨n, en, rfl⟩ := Option.map_eq_some_iff.mp hx
     have hk := (List.getElem?_eq_some_iff.mp en).1
     simp only [List.length_cons, List.length_nil, List.nil_append, Nat.reduceAdd, decide_eq_true_eq, if_true, List.set_cons_zero, List.set_cons_succ, gS, rVar, tC, tSeq, tNext, tAsg, tIfS, tOp, tCB, tCons, tNil, tB2, tOr, int2', ltV, isntV, ixV, lenV, L_T, tRaise, tJoin, tJPart, tFmt, gSub, setV]
     have sm2 : Same H (upd H' t (HO.tup [V.int k, V.int n])) := Same.upd sm ht
     have l1 : (L (Str.ofString "the number at ")).length = 14 := by decide +kernel
     have l2 : (L (Str.ofString " is none from 0 to the list's length less 1")).length ≤ 60 := by decide +kernel
     have l3 : (L (Str.ofString " stands in the list twice")).length ≤ 60 := by decide +kernel
     have nl := num_len k (by omega)
     have lg := num_log k (by omega)
     have hrow2 : upd H' t (HO.tup [V.int k, V.int n]) p1 = some (.lst (part ns k)) := by rw [upd_ne (ne_of_none hrow ht)]; exact hrow
     simp only [List.length_append]
     refine ite2 (fun h0 => ⟨by omega, lg, by omega, by omega, by omega, by omega, e (bad_out en (.inl h0)) _ sm2⟩) fun h0 => ⟨_, .inl (sm2.seq hS), ?_⟩
     rw [List.length_map]
     refine ite2 (fun h1 => ⟨by omega, lg, by omega, by omega, by omega, by omega, e (bad_out en (.inr h1)) _ sm2⟩) fun h1 => ?_
     have hin : n.toNat < ns.length := by omega
     have at1 : atI (part ns k) n = some (if n ∈ ns.take k then V.int (ns.idxOf n) else V.non) := by
       have := part_at (ns := ns) (k := k) hin
       rw [show ((n.toNat : Nat) : Int) = n by omega] at this
       unfold atI ixN
       rw [if_pos (by omega), if_pos (by rw [part_len]; omega)]
       exact this
     refine ⟨_, _, .inl (SqL.of hrow2), at1, ?_⟩
     by_cases hm : n ∈ ns.take k
     · rw [if_pos hm, decide_eq_false (by simp)]
       exact iteT ⟨by omega, lg, by omega, by omega, by omega, by omega, e (bad_twice en hm) _ sm2⟩
     · rw [if_neg hm, decide_eq_true rfl]
       refine iteF ⟨_, hrow2, n.toNat, ?_, ⟨_, _, rfl⟩, same_put sm2 hn, ?_, good_succ g en (by omega) (by omega) hm⟩
       · unfold ixN
         rw [if_pos (by omega), if_pos (by rw [part_len]; omega)]
       · rw [upd_same, part_succ en (by omega) (by omega) hm]
   · rintro σ H' ⟨⟨v, w, rfl⟩, sm, hrow, g⟩
     rw [List.length_map] at hrow g
     rw [part_all (good_whole g)] at hrow
     exact q (good_whole g) p1 H' hn sm hrow
def sp_m_Letters_init (K : PySem.W.Frag) (c : Cs) (C : Addr) (tb : Addr) : Sp := fun vs H Q E => match vs with
 | [.ref x, .str z, .int h] => (L z).length ≤ 62 ∧ Bk_m_Letters_init tb H ∧ (∃ dx, H x = some (.ins C dx [])) ∧ (¬ (0 ≤ h ∧ h ≤ (L z).length) → E (.ref c.NoPlace) none H) ∧ ((0 ≤ h ∧ h ≤ (L z).length) → ∀ H', (∀ b o, b ≠ x → H b = some o → (∀ ps, o ≠ .tbl ps) → H' b = some o) → (∀ b, H b ≠ none → H' b ≠ none) → (∀ b o, b ≠ x → b ≠ tb → H b = some o → H' b = some o) → Bk_m_Letters_init tb H' → IsLet C H' x (L z) h.toNat → Q .non H')
 | _ => False
theorem ok_m_Letters_init {f : Addr} {fd : FuncData} (F : Fun K "__init__" "Letters.__init__" s_m_Letters_init f fd) (B : Bn mg) {tb_m_Letters_init : Addr} {cd : Addr} (LM_m_Letters_init : Lm mg base cd tb_m_Letters_init) (hcd : fd.code = .ref cd) {c : Cs} (ER : Er K mg c) {A_FORMS A_KEEPING A_ANSWERS : Addr} (TP : Tp K w.params mg A_FORMS A_KEEPING A_ANSWERS) {C_Letters C_Desk C_Marks : Addr} (CF : Cf K C_Letters C_Desk C_Marks) (GC : Gc mg) (G_p_check_place : FnX P w K mg base 1 "check_place" P_p_check_place (sp_p_check_place K c)) : FnOk P w K mg base (CX1 P w) 3 f fd P_m_Letters_init (sp_m_Letters_init K c C_Letters tb_m_Letters_init) := by
 refine F.okLX hcd sc_m_Letters_init (fun vs H Q E h => ?_) (fun A outer s H vs Q E hr h => ?_) <;> unfold sp_m_Letters_init at h <;> split at h <;> first | exact h.elim | skip
 · rfl
 · rename_i x z h
   obtain ⟨hl, bk, ⟨dx, hx⟩, e, q⟩ := h
   refine ⟨_, (pss_cons (ps_expr (pe_fnX tk_def.toTk G_p_check_place (hr.mono (by decide)) (pa_cons (qv 2) (pa_cons (pe_callB (c_lenK (K := K) rfl) (by rfl) B.len bt_len (pa_cons (qv 1) pa_nil)) pa_nil))))
       (pss_cons (ps_set (i := 3) sc_m_Letters_init.nd rfl (by first | exact Or.inl rfl | exact Or.inr rfl) (pe_op o_add (pe_op o_add (pe_slice (s_slK (K := K) rfl) (qv 1) po_none (po_t (qv 2))) (pe_globS rfl GC.NO_LETTER)) (pe_slice (s_slK (K := K) rfl) (qv 1) (po_t (qv 2)) po_none)))
       (pss_cons (ps_fldC (K := K) rfl CF.cl_Letters CF.na_Letters_column (qv 0) (qv 3) rfl)
       (pss_cons (ps_fldC (K := K) rfl CF.cl_Letters CF.na_Letters_home (qv 0) (qv 2) rfl)
       (pss_cons (ps_cut (ps_fldC (K := K) rfl CF.cl_Letters CF.na_Letters_last (qv 0) (pe_callB (c_lenK (K := K) rfl) (by rfl) B.len bt_len (pa_cons (qv 1) pa_nil)) rfl))
       (pss_cons (ps_fldC (K := K) rfl CF.cl_Letters CF.na_Letters_totals (qv 0) (pe_compL (K := K) rfl (own := ["sign"]) (cp := [(("letters" : Str), 1)]) rfl rfl rfl (by decide +kernel) (by decide +kernel) ⟨⟨rfl, rfl, rfl⟩, trivial⟩ (pe_callB (c_sortO (w := w) rfl rfl) (by rfl) B.sorted bt_sorted (pa_cons (pe_callTy (c_setT (w := w) rfl rfl) (by rfl) B.set bt_set (pa_cons (qv 1) pa_nil)) pa_nil)) (by decide) (fun _ _ _ _ => pg_name (i := 0) (show List.Nodup (["sign", "letters"] : List Str) by decide +kernel) rfl (Or.inl rfl) (Or.inr rfl)) (fun _ _ _ _ => pf_nil) (fun _ _ _ _ => (pe_tup (pa_cons (qv 0) (pa_cons (pe_bmK (K := K) rfl PySem.F.plainAttrs_str PySem.F.slot_str_count PySem.F.type_str_count m_countS (qv 1) (pa_cons (qv 0) pa_nil)) pa_nil))))) rfl)
       (pss_one (ps_fldC (K := K) rfl CF.cl_Letters CF.na_Letters_forths (qv 0) (pe_sortL (K := K) (x := "row") (cp := [(("column" : Str), 3)]) (q := qn_m_Letters_init) rfl rfl (hr.mono (by decide)) (LM_m_Letters_init.at rfl) rfl B.sorted rfl rfl rfl rfl (by decide +kernel) ⟨⟨rfl, rfl, rfl⟩, trivial⟩ rfl (by decide +kernel) rfl rfl (fun _ _ _ _ => rfl) (pa_cons (pe_callTy c_range (by rfl) B.range bt_range (pa_cons (pe_callB (c_lenK (K := K) rfl) (by rfl) B.len bt_len (pa_cons (qv 3) pa_nil)) pa_nil)) pa_nil) (fun _ _ _ _ _ _ => (pe_ix (i_ixK (K := K) rfl) (qv 1) (qv 0) (fun _ _ => rfl)))) rfl)))))))), ?_⟩
   simp only [L2.start, List.map_cons, List.map_nil, List.length_cons, List.length_nil, List.replicate_succ, List.replicate_zero, List.cons_append, List.nil_append, Nat.reduceAdd, Nat.reduceSub, List.set_cons_zero, List.set_cons_succ, gS, rVar, tC, tSeq, tAsg, gName, tDrop, tOp, tCB, tCons, tNil, tSl, tNoPart, pT, addV, slV, lenV, L_T, tFnX, wFld, sp_p_check_place]
   have hsz : sizeLine = 16777216 := sizeLine_eq
   refine ⟨by omega, fun hh => ?_, fun hh => e hh⟩
   obtain ⟨m, rfl⟩ : ∃ m : Nat, h = (m : Int) := ⟨h.toNat, by omega⟩
   have hm : m ≤ (L z).length := by omega
   have q := q hh
   rw [Int.toNat_natCast] at q
   have c1 := cut_len (L z) none (some (m : Int))
   have c2 := cut_len (L z) (some (m : Int)) none
   have c3 : (L (Str.ofString "\n")).length = 1 := by decide +kernel
   have cl := colL_len hm
   refine ⟨by omega, by omega, by omega, by rw [List.length_append]; omega, ?_⟩
   rw [colL_cut]
   refine ⟨_, _, hx, by decide, _, _, upd_same, by show 1 < 1000; decide, ?_⟩
   rw [upd_upd]
   refine cutS (fun σ' H' => H' = upd H x (HO.ins C_Letters dx (putF (Str.ofString "last") (V.int ((L z).length : Nat)) (putF (Str.ofString "home") (V.int (m : Int)) (putF (Str.ofString "column") (V.str (T (colL (L z) m))) [])))) ∧ σ' = [some (V.ref x), some (V.str z), some (V.int (m : Int)), some (V.str (T (colL (L z) m)))]) ?_ ?_
   · simp only [and_true, gS, rVar, tCB, tCons, tNil, lenV, wFld]
     refine ⟨by omega, _, _, upd_same, by show 2 < 1000; decide, ?_⟩
     rw [upd_upd]
   rintro _ _ ⟨rfl, rfl⟩
   generalize hF : putF (Str.ofString "last") (V.int ((L z).length : Nat)) (putF (Str.ofString "home") (V.int (m : Int)) (putF (Str.ofString "column") (V.str (T (colL (L z) m))) [])) = F3
   simp only [List.map_cons, List.map_nil, List.length_cons, List.length_nil, List.replicate_succ, List.replicate_zero, List.cons_append, List.nil_append, Nat.reduceAdd, true_and, if_true, List.set_cons_zero, gS, rVar, tSeq, tOp, tCB, tCons, tNil, tTup, ixV, lenV, tBM, tyV, L_T, tCL, oneC, capS, tSortL, lamS, rngV, wFld, setT, sortO, cntS]
   have lF : F3.length = 3 := by rw [← hF]; rfl
   have bk0 : Bk_m_Letters_init tb_m_Letters_init (upd H x (HO.ins C_Letters dx F3)) := bk_ins bk hx
   refine ⟨by omega, fun p cs hp nd mem => ⟨cs, upd_same, ?_, fun l qs hl2 pm pw => ?_⟩⟩
   · have := LO.len_sub nd fun c hc => (mem c).mp hc
     omega
   have lq : qs.length ≤ (L z).length := by
     rw [pm.length_eq]
     exact LO.len_sub nd fun c hc => (mem c).mp hc
   have x1 : upd (upd H x (HO.ins C_Letters dx F3)) p (SetO w p cs) x = some (HO.ins C_Letters dx F3) := upd_old hp
   have x2 : upd (upd (upd H x (HO.ins C_Letters dx F3)) p (SetO w p cs)) l (HO.lst (qs.map fun c => V.str (T [c]))) x = some (HO.ins C_Letters dx F3) := (upd_ne (ne_of_none x1 hl2)).trans x1
   have l2 : upd (upd (upd H x (HO.ins C_Letters dx F3)) p (SetO w p cs)) l (HO.lst (qs.map fun c => V.str (T [c]))) l = some (HO.lst (qs.map fun c => V.str (T [c]))) := upd_same
   have kp2 : ∀ b o, b ≠ x → H b = some o → upd (upd (upd H x (HO.ins C_Letters dx F3)) p (SetO w p cs)) l (HO.lst (qs.map fun c => V.str (T [c]))) b = some o := fun b o hb e => by
     have e1 : upd H x (HO.ins C_Letters dx F3) b = some o := (upd_ne hb).trans e
     have e2 : upd (upd H x (HO.ins C_Letters dx F3)) p (SetO w p cs) b = some o := (upd_ne (ne_of_none e1 hp)).trans e1
     exact (upd_ne (ne_of_none e2 hl2)).trans e2
   have bk2 : Bk_m_Letters_init tb_m_Letters_init (upd (upd (upd H x (HO.ins C_Letters dx F3)) p (SetO w p cs)) l (HO.lst (qs.map fun c => V.str (T [c])))) := (bk0.put hp).put hl2
   have nn2 : ∀ b, H b ≠ none → upd (upd (upd H x (HO.ins C_Letters dx F3)) p (SetO w p cs)) l (HO.lst (qs.map fun c => V.str (T [c]))) b ≠ none := fun b hb => upd_nn (upd_nn (upd_nn hb))
   generalize upd (upd (upd H x (HO.ins C_Letters dx F3)) p (SetO w p cs)) l (HO.lst (qs.map fun c => V.str (T [c]))) = HZ at x2 l2 kp2 bk2 nn2 ⊢
   refine ⟨_, SqL.of l2, by rw [List.length_map]; omega, fun i H2 acc => Same HZ H2 ∧ ∃ ts : List Addr, acc = ts.map V.ref ∧ Prs H2 ts (qs.take i) (L z), ⟨Same.refl _, [], rfl, rfl, fun j d e => by simp at e⟩, ?_, ?_, ?_⟩
   · rintro i H2 acc _ ⟨sm, _⟩
     exact sm.seq (SqL.of l2)
   · rintro i y H2 acc hy ⟨sm, ts, rfl, pr⟩
     rw [List.getElem?_map] at hy
     obtain ⟨d, ed, rfl⟩ := Option.map_eq_some_iff.mp hy
     simp only [L_T]
     refine ⟨d, rfl, by omega, fun t ht => ⟨Same.upd sm ht, ts ++ [t], by rw [List.map_append]; rfl, ?_⟩⟩
     rw [List.take_succ, ed]
     exact (pr.same (sameT_of (Same.updN ht))).snoc upd_same
   · rintro H2 acc ⟨sm, ts, rfl, pr⟩ l3 hl3
     rw [List.length_map, List.take_length] at pr
     have x3 : upd H2 l3 (HO.lst (ts.map V.ref)) x = some (HO.ins C_Letters dx F3) := (upd_ne (ne_of_none (sm _ _ x2) hl3)).trans (sm _ _ x2)
     have t3 : upd H2 l3 (HO.lst (ts.map V.ref)) l3 = some (HO.lst (ts.map V.ref)) := upd_same
     have kp3 : ∀ b o, b ≠ x → H b = some o → upd H2 l3 (HO.lst (ts.map V.ref)) b = some o := fun b o hb e => by
       have e1 := sm _ _ (kp2 b o hb e)
       exact (upd_ne (ne_of_none e1 hl3)).trans e1
     have bk3 : Bk_m_Letters_init tb_m_Letters_init (upd H2 l3 (HO.lst (ts.map V.ref))) := (bk_same bk2 sm).put hl3
     have pr3 := pr.same (sameT_of (Same.updN (o := HO.lst (ts.map V.ref)) hl3))
     have nn3 : ∀ b, H b ≠ none → upd H2 l3 (HO.lst (ts.map V.ref)) b ≠ none := fun b hb => upd_nn (sm.nn (nn2 b hb))
     generalize upd H2 l3 (HO.lst (ts.map V.ref)) = H3 at x3 t3 kp3 bk3 pr3 nn3 ⊢
     have n3 : l3 ≠ x := by rintro rfl; rw [t3] at x3; cases x3
     have lF4 : (putF (Str.ofString "totals") (V.ref l3) F3).length = 4 := by rw [← hF]; rfl
     refine ⟨_, _, x3, by omega, by omega, fun r hr0 => ?_⟩
     have bk4 : Bk_m_Letters_init tb_m_Letters_init (upd H3 x (HO.ins C_Letters dx (putF (Str.ofString "totals") (V.ref l3) F3))) := bk_ins bk3 x3
     have x4 : upd (upd H3 x (HO.ins C_Letters dx (putF (Str.ofString "totals") (V.ref l3) F3))) r (HO.rng 0 ((colL (L z) m).length : Int)) x = some (HO.ins C_Letters dx (putF (Str.ofString "totals") (V.ref l3) F3)) := upd_old hr0
     have kp4 : ∀ b o, b ≠ x → H3 b = some o → upd (upd H3 x (HO.ins C_Letters dx (putF (Str.ofString "totals") (V.ref l3) F3))) r (HO.rng 0 ((colL (L z) m).length : Int)) b = some o := fun b o hb e => by
       have e1 : upd H3 x (HO.ins C_Letters dx (putF (Str.ofString "totals") (V.ref l3) F3)) b = some o := (upd_ne hb).trans e
       exact (upd_ne (ne_of_none e1 hr0)).trans e1
     have er := rng_nat0 (colL (L z) m).length
     have el : (rngL 0 ((colL (L z) m).length : Int)).length = (colL (L z) m).length := by rw [er]; simp
     refine ⟨_, (colL (L z) m).map fun c => [c], .inr (.inr ⟨0, _, upd_same, rfl, by omega, by omega, by omega, by omega⟩), by omega, by rw [List.length_map, el], bk4.put hr0, fun H5 i y sm5 hy => ?_, fun H5 l4 p4 sm5 se5 bk5 hl4 pm4 pw4 => ?_⟩
     · have hi := (List.getElem?_eq_some_iff.mp hy).1
       rw [el] at hi
       rw [er, List.getElem?_map, List.getElem?_range hi] at hy
       cases Option.some.inj hy
       simp only [L_T]
       refine ⟨by omega, _, atI_getD 0 (by omega) (by omega), ?_⟩
       rw [Int.toNat_natCast, List.getD_eq_getElem?_getD, List.getD_eq_getElem?_getD, List.getElem?_map, List.getElem?_eq_getElem hi]
       rfl
     · have x5 := sm5.at x4 (by intro ps z; cases z)
       have x6 : upd H5 l4 (HO.lst (p4.map fun i => (rngL 0 ((colL (L z) m).length : Int)).getD i V.non)) x = some (HO.ins C_Letters dx (putF (Str.ofString "totals") (V.ref l3) F3)) := (upd_ne (ne_of_none x5 hl4)).trans x5
       refine ⟨_, _, x6, by omega, ?_⟩
       have kp6 : ∀ b o, b ≠ x → H3 b = some o → (∀ ps, o ≠ .tbl ps) → upd (upd H5 l4 (HO.lst (p4.map fun i => (rngL 0 ((colL (L z) m).length : Int)).getD i V.non))) x (HO.ins C_Letters dx (putF (Str.ofString "forths") (V.ref l4) (putF (Str.ofString "totals") (V.ref l3) F3))) b = some o := fun b o hb e n => by
         have e1 := sm5.at (kp4 b o hb e) n
         exact (upd_ne hb).trans ((upd_ne (ne_of_none e1 hl4)).trans e1)
       refine q _ (fun b o hb e n => kp6 b o hb (kp3 b o hb e) n) (fun b hb => upd_nn (upd_nn (sm5.nn (upd_nn (upd_nn (nn3 b hb)))))) (fun b o hb ht e => ?_) (bk_ins (bk5.put hl4) x6) ⟨dx, l3, l4, ?_, ⟨⟨ts, qs, kp6 _ _ n3 t3 (by intro ps z; cases z), pr3.1, fun j d e => ?_, pm.nodup_iff.mpr nd, fun c => pm.mem_iff.trans (mem c)⟩, p4, ?_, ?_, ?_⟩, hm⟩
       · have e1 := se5 _ _ ht (kp4 b o hb (kp3 b o hb e))
         exact (upd_ne hb).trans ((upd_ne (ne_of_none e1 hl4)).trans e1)
       · rw [upd_same, ← hF]
         exact congrArg (fun f => some (HO.ins C_Letters dx f)) (fs_build (L z) m l3 l4)
       · obtain ⟨t, e1, e2⟩ := pr3.2 j d e
         have : t ≠ x := by rintro rfl; rw [x3] at e2; cases e2
         exact ⟨t, e1, kp6 _ _ this e2 (by intro ps z; cases z)⟩
       · have n4 : l4 ≠ x := Ne.symm (ne_of_none x5 hl4)
         rw [upd_ne n4, upd_same]
         congr 2
         refine List.map_congr_left fun j hj => ?_
         have hj2 : j < (colL (L z) m).length := by rw [← el]; exact List.mem_range.mp (pm4.mem_iff.mp hj)
         rw [er, List.getD_eq_getElem?_getD, List.getElem?_map, List.getElem?_range hj2]
         rfl
       · rw [el, cl] at pm4
         exact pm4
       · refine pw4.imp_of_mem fun {i j} hi hj h => ?_
         have g : ∀ i ∈ p4, ((colL (L z) m).map fun c => [c]).getD i [] = [(colL (L z) m).getD i 0] := fun i hi => by
           have hi2 : i < (colL (L z) m).length := by rw [← el]; exact List.mem_range.mp (pm4.mem_iff.mp hi)
           rw [List.getD_eq_getElem?_getD, List.getD_eq_getElem?_getD, List.getElem?_map, List.getElem?_eq_getElem hi2]
           rfl
         rw [g i hi, g j hj] at h
         exact h
def sp_m_Marks_init (K : PySem.W.Frag) (c : Cs) (CL C : Addr) (tb : Addr) : Sp := fun vs H Q E => match vs with
 | [.ref x, .str z, .int h, .int g] => (L z).length ≤ 62 ∧ Bk_m_Letters_init tb H ∧ (∃ dx, H x = some (.ins C dx [])) ∧ h = (L z).length ∧ g < 1 ∧ ∀ H', MkK x H H' → Bk_m_Letters_init tb H' → E (.ref c.NoGap) none H'
 | _ => False
theorem ok_m_Marks_init {f : Addr} {fd : FuncData} (F : Fun K "__init__" "Marks.__init__" s_m_Marks_init f fd) (B : Bn mg) {tb_m_Letters_init : Addr} {c : Cs} (ER : Er K mg c) {A_FORMS A_KEEPING A_ANSWERS : Addr} (TP : Tp K w.params mg A_FORMS A_KEEPING A_ANSWERS) {C_Letters C_Desk C_Marks : Addr} (CF : Cf K C_Letters C_Desk C_Marks) (GC : Gc mg) (G_p_check_gap : FnX P w K mg base 1 "check_gap" P_p_check_gap (sp_p_check_gap K c)) (MK_Letters : Mkr P w K mg base (CX1 P w) 3 "Letters" C_Letters P_m_Letters_init [] (sp_m_Letters_init K c C_Letters tb_m_Letters_init)) : FnOk P w K mg base (CX1 P w) 5 f fd P_m_Marks_init (sp_m_Marks_init K c C_Letters C_Marks tb_m_Letters_init) := by
 refine F.okX sc_m_Marks_init (fun vs H Q E h => ?_) (fun cdv A outer s H vs Q E hr h => ?_) <;> unfold sp_m_Marks_init at h <;> split at h <;> first | exact h.elim | skip
 · rfl
 · rename_i x z h g
   obtain ⟨hl, bk, ⟨dx, hx⟩, rfl, hg, e⟩ := h
   refine ⟨_, (pss_cons (ps_cut (ps_fldC (K := K) rfl CF.cl_Marks CF.na_Marks_held (qv 0) (pe_mkX tk_def.toTk MK_Letters (hr.mono (by decide)) (pa_cons (qv 1) (pa_cons (qv 2) pa_nil))) rfl))
       (pss_cons (ps_expr (pe_fnX tk_def.toTk G_p_check_gap (hr.mono (by decide)) (pa_cons (qv 3) pa_nil)))
       pss_dead)), ?_⟩
   refine cutS (fun σ' H' => MkK x H H' ∧ Bk_m_Letters_init tb_m_Letters_init H' ∧ σ' = [some (V.ref x), some (V.str z), some (V.int ((L z).length : Nat)), some (V.int g), none, none]) ?_ ?_
   · simp only [L2.start, List.map_cons, List.map_nil, List.length_cons, List.length_nil, List.replicate_succ, List.replicate_zero, List.cons_append, List.nil_append, Nat.reduceAdd, Nat.reduceSub, true_and, and_true, gS, rVar, tCons, tNil, wFld, tMakeX, List.append_nil, sp_m_Letters_init]
     intro a da ha hda hna
     have hda2 : upd H da (HO.own a) a = none := (upd_ne (Ne.symm hna)).trans ha
     have s0 : Same H (upd (upd H da (HO.own a)) a (HO.ins C_Letters da [])) := Same.upd (Same.updN hda) hda2
     refine ⟨hl, (bk.put hda).put hda2, ⟨da, upd_same⟩, fun w => absurd ⟨by omega, by omega⟩ w, fun w H1 kp nn _ bk1 il1 => ?_⟩
     have hx1 : H1 x = some (.ins C_Marks dx []) := kp x _ (ne_of_none hx ha) (s0 _ _ hx) (by intro ps z; cases z)
     exact ⟨dx, [], hx1, by decide, ⟨fun b o hb e n => (upd_ne hb).trans (kp b o (ne_of_none e ha) (s0 _ _ e) n), fun b e => upd_nn (nn b (s0.nn e))⟩, bk_ins bk1 hx1⟩
   rintro _ H1 ⟨kp1, bk1, rfl⟩
   simp only [gS, rVar, tSeq, tDrop, tCons, tNil, tFnX, sp_p_check_gap]
   exact ⟨fun hg => e H1 kp1 bk1, fun z => absurd hg z⟩
def sp_p_order_of (K : PySem.W.Frag) (tb : Addr) : Sp := fun _ _ _ _ => False
theorem ok_p_order_of {f : Addr} {fd : FuncData} (F : Fun K "order_of" "order_of" s_p_order_of f fd) (B : Bn mg) {tb_p_order_of : Addr} {cd : Addr} (LM_p_order_of : Lm mg base cd tb_p_order_of) (hcd : fd.code = .ref cd) {c : Cs} (ER : Er K mg c) {A_FORMS A_KEEPING A_ANSWERS : Addr} (TP : Tp K w.params mg A_FORMS A_KEEPING A_ANSWERS) {C_Letters C_Desk C_Marks : Addr} (CF : Cf K C_Letters C_Desk C_Marks) (GC : Gc mg)  : FnOk P w K mg base CX0 3 f fd P_p_order_of (sp_p_order_of K tb_p_order_of) := by
 exact F.okL hcd sc_p_order_of (fun vs H Q E h => h.elim) (fun A outer s H vs Q E hr h => h.elim)
def sp_p_longest_often (K : PySem.W.Frag) (c : Cs) (tb : Addr) : Sp := fun vs H Q E => match vs with
 | [.str z, .int t] => t < 1 ∧ E (.ref c.NoTimes) none H
 | _ => False
theorem ok_p_longest_often {f : Addr} {fd : FuncData} {T : Addr} (F : FunD K "longest_often" "longest_often" s_p_longest_often f T fd) (B : Bn mg) {tb_p_order_of : Addr} {c : Cs} (ER : Er K mg c) {A_FORMS A_KEEPING A_ANSWERS : Addr} (TP : Tp K w.params mg A_FORMS A_KEEPING A_ANSWERS) {C_Letters C_Desk C_Marks : Addr} (CF : Cf K C_Letters C_Desk C_Marks) (GC : Gc mg) (G_p_order_of : Fn P w K mg base 3 "order_of" P_p_order_of (sp_p_order_of K tb_p_order_of)) : FnOk P w K mg base (CX1 P w) 4 f fd P_p_longest_often (sp_p_longest_often K c tb_p_order_of) := by
 refine F.okX sc_p_longest_often (fun vs H Q E h => ?_) (fun cdv A outer s H vs Q E hr h => ?_) <;> unfold sp_p_longest_often at h <;> split at h <;> first | exact h.elim | skip
 · rfl
 · rename_i z t
   obtain ⟨ht, e⟩ := h
   refine ⟨_, (pss_cons (ps_if (pt_c2 o_lt (qv 1) pe_int) (pss_one (ps_raise tk_def rfl ER.x_NoTimes rfl ER.m_NoTimes (pa_cons pe_str pa_nil))) pss_nil)
       (pss_cons (ps_set (i := 2) sc_p_longest_often.nd rfl (by first | exact Or.inl rfl | exact Or.inr rfl) (pe_fn G_p_order_of (hr.mono (by decide)) (pa_cons (qv 0) pa_nil)))
       pss_dead)), ?_⟩
   simp only [L2.start, List.map_cons, List.map_nil, List.length_cons, List.length_nil, List.replicate_succ, List.replicate_zero, List.cons_append, List.nil_append, Nat.reduceAdd, Nat.reduceSub, decide_eq_true_eq, gS, rVar, tC, tSeq, tNext, tAsg, gName, tIfS, tCons, tNil, tFn, tB2, ltV, tRaise]
   exact ite2 (fun _ => ⟨by decide, e⟩) fun z => absurd ht z
def sp_p_taken_off (K : PySem.W.Frag) (c : Cs) (C : Addr) (tb : Addr) : Sp := fun vs H Q E => match vs with
 | [.str z, .int h] => L z = [] ∧ h = 0 ∧ Bk_m_Letters_init tb H ∧ ∀ H', SameN H H' → Bk_m_Letters_init tb H' → E (.ref c.Empty) none H'
 | _ => False
theorem ok_p_taken_off {f : Addr} {fd : FuncData} (F : Fun K "taken_off" "taken_off" s_p_taken_off f fd) (B : Bn mg) {tb_m_Letters_init : Addr} {c : Cs} (ER : Er K mg c) {A_FORMS A_KEEPING A_ANSWERS : Addr} (TP : Tp K w.params mg A_FORMS A_KEEPING A_ANSWERS) {C_Letters C_Desk C_Marks : Addr} (CF : Cf K C_Letters C_Desk C_Marks) (GC : Gc mg) (MK_Letters : Mkr P w K mg base (CX1 P w) 3 "Letters" C_Letters P_m_Letters_init [] (sp_m_Letters_init K c C_Letters tb_m_Letters_init)) : FnOk P w K mg base (CX1 P w) 5 f fd P_p_taken_off (sp_p_taken_off K c C_Letters tb_m_Letters_init) := by
 refine F.okX sc_p_taken_off (fun vs H Q E h => ?_) (fun cdv A outer s H vs Q E hr h => ?_) <;> unfold sp_p_taken_off at h <;> split at h <;> first | exact h.elim | skip
 · rfl
 · rename_i z h
   obtain ⟨hz, rfl, bk, e⟩ := h
   refine ⟨_, (pss_cons (ps_set (i := 2) sc_p_taken_off.nd rfl (by first | exact Or.inl rfl | exact Or.inr rfl) (pe_mkX tk_def.toTk MK_Letters (hr.mono (by decide)) (pa_cons (qv 0) (pa_cons (qv 1) pa_nil))))
       (pss_cons (ps_if (pt_c2 o_eq (qv 0) pe_str) (pss_one (ps_raise tk_def rfl ER.x_Empty rfl ER.m_Empty (pa_cons pe_str pa_nil))) pss_nil)
       pss_dead)), ?_⟩
   simp only [L2.start, List.map_cons, List.map_nil, List.length_cons, List.length_nil, List.replicate_succ, List.replicate_zero, List.cons_append, List.nil_append, Nat.reduceAdd, Nat.reduceSub, Int.reduceLE, true_and, decide_eq_true_eq, List.set_cons_zero, List.set_cons_succ, gS, rVar, tC, tSeq, tNext, tAsg, gName, tIfS, tCons, tNil, tB2, eqR, sc, tRaise, tMakeX, List.append_nil, sp_m_Letters_init]
   intro x dx hx hdx hne
   have hdx2 : upd H dx (HO.own x) x = none := (upd_ne (Ne.symm hne)).trans hx
   refine ⟨by rw [hz]; decide, (bk.put hdx).put hdx2, ⟨dx, upd_same⟩, fun w => absurd (by omega) w, fun w H1 kp1 nn1 se1 bk1 il1 => ?_⟩
   have e0 : L (Str.ofString "") = [] := by decide +kernel
   exact ite2 (fun h0 => ⟨by decide, e _ (made_same hx hdx kp1 nn1) bk1⟩) fun h0 => absurd (by rw [hz, e0]) h0
def sp_p_road_of (K : PySem.W.Frag) (c : Cs) (C : Addr) (tb : Addr) : Sp := fun vs H Q E => match vs with
 | [.str z, .int h] => (L z).length ≤ 62 ∧ h = 0 ∧ Bk_m_Letters_init tb H ∧ ∀ p H', SameN H H' → Bk_m_Letters_init tb H' → H' p = some (.lst [.int 0]) → Q (.ref p) H'
 | _ => False
theorem ok_p_road_of {f : Addr} {fd : FuncData} (F : Fun K "road_of" "road_of" s_p_road_of f fd) (B : Bn mg) {tb_m_Letters_init : Addr} {c : Cs} (ER : Er K mg c) {A_FORMS A_KEEPING A_ANSWERS : Addr} (TP : Tp K w.params mg A_FORMS A_KEEPING A_ANSWERS) {C_Letters C_Desk C_Marks : Addr} (CF : Cf K C_Letters C_Desk C_Marks) (GC : Gc mg) (MK_Letters : Mkr P w K mg base (CX1 P w) 3 "Letters" C_Letters P_m_Letters_init [] (sp_m_Letters_init K c C_Letters tb_m_Letters_init)) : FnOk P w K mg base (CX1 P w) 5 f fd P_p_road_of (sp_p_road_of K c C_Letters tb_m_Letters_init) := by
 refine F.okX sc_p_road_of (fun vs H Q E h => ?_) (fun cdv A outer s H vs Q E hr h => ?_) <;> unfold sp_p_road_of at h <;> split at h <;> first | exact h.elim | skip
 · rfl
 · rename_i z h
   obtain ⟨hl, rfl, bk, q⟩ := h
   refine ⟨_, (pss_cons (ps_set (i := 2) sc_p_road_of.nd rfl (by first | exact Or.inl rfl | exact Or.inr rfl) (pe_mkX tk_def.toTk MK_Letters (hr.mono (by decide)) (pa_cons (qv 0) (pa_cons (qv 1) pa_nil))))
       (pss_cons (ps_set (i := 3) sc_p_road_of.nd rfl (by first | exact Or.inl rfl | exact Or.inr rfl) pe_int)
       (pss_cons (ps_set (i := 4) sc_p_road_of.nd rfl (by first | exact Or.inl rfl | exact Or.inr rfl) (pe_lst (pa_cons (qv 3) pa_nil)))
       (pss_cons (ps_wh tk_def.own (pt_c2 o_ne (qv 3) (qv 1)) pss_dead)
       (pss_one (ps_ret (qv 4))))))), ?_⟩
   simp only [L2.start, List.map_cons, List.map_nil, List.length_cons, List.length_nil, List.replicate_succ, List.replicate_zero, List.cons_append, List.nil_append, Nat.reduceAdd, Nat.reduceSub, Int.reduceLE, true_and, List.set_cons_zero, List.set_cons_succ, gS, rVar, tC, tSeq, tAsg, gName, tRet, tCons, tNil, tLst, tB2, neR, sc, tMakeX, List.append_nil, sp_m_Letters_init, tWh]
   have hsz : sizeLine = 16777216 := sizeLine_eq
   intro x dx hx hdx hne
   have hdx2 : upd H dx (HO.own x) x = none := (upd_ne (Ne.symm hne)).trans hx
   refine ⟨hl, (bk.put hdx).put hdx2, ⟨dx, upd_same⟩, fun w => absurd (by omega) w, fun w H1 kp1 nn1 se1 bk1 il1 => ⟨by omega, fun p hp => ?_⟩⟩
   refine ⟨fun k σ H2 => H2 = upd H1 p (HO.lst [V.int 0]) ∧ σ = [some (V.str z), some (V.int 0), some (V.ref x), some (V.int 0), some (V.ref p)], ⟨0, rfl, rfl⟩, ?_⟩
   rintro k σ H2 ⟨rfl, rfl⟩
   simp only [if_false, Bool.not_true, Bool.false_eq_true, decide_true, gS]
   exact q p _ ((made_same hx hdx kp1 nn1).upd hp) (bk1.put hp) upd_same
def sp_p_read_back (K : PySem.W.Frag) (c : Cs) (C : Addr) (tb : Addr) : Sp := fun vs H Q E => match vs with
 | [.str z, .int h] => (L z).length ≤ 62 ∧ L z ≠ [] ∧ h = 0 ∧ Bk_m_Letters_init tb H ∧ ∀ H', SameN H H' → Bk_m_Letters_init tb H' → E (.ref c.NoText) none H'
 | _ => False
theorem ok_p_read_back {f : Addr} {fd : FuncData} (F : Fun K "read_back" "read_back" s_p_read_back f fd) (B : Bn mg) {tb_m_Letters_init : Addr} {c : Cs} (ER : Er K mg c) {A_FORMS A_KEEPING A_ANSWERS : Addr} (TP : Tp K w.params mg A_FORMS A_KEEPING A_ANSWERS) {C_Letters C_Desk C_Marks : Addr} (CF : Cf K C_Letters C_Desk C_Marks) (GC : Gc mg) (G_p_road_of : FnX P w K mg base 5 "road_of" P_p_road_of (sp_p_road_of K c C_Letters tb_m_Letters_init)) : FnOk P w K mg base (CX1 P w) 6 f fd P_p_read_back (sp_p_read_back K c C_Letters tb_m_Letters_init) := by
 refine F.okX sc_p_read_back (fun vs H Q E h => ?_) (fun cdv A outer s H vs Q E hr h => ?_) <;> unfold sp_p_read_back at h <;> split at h <;> first | exact h.elim | skip
 · rfl
 · rename_i z h
   obtain ⟨hl, hz, rfl, bk, e⟩ := h
   refine ⟨_, (pss_cons (ps_set (i := 2) sc_p_read_back.nd rfl (by first | exact Or.inl rfl | exact Or.inr rfl) (pe_fnX tk_def.toTk G_p_road_of (hr.mono (by decide)) (pa_cons (qv 0) (pa_cons (qv 1) pa_nil))))
       (pss_cons (ps_if (pt_c2 o_ne (pe_callB (c_lenK (K := K) rfl) (by rfl) B.len bt_len (pa_cons (qv 2) pa_nil)) (pe_op o_add (pe_callB (c_lenK (K := K) rfl) (by rfl) B.len bt_len (pa_cons (qv 0) pa_nil)) pe_int)) (pss_one (ps_raise tk_def rfl ER.x_NoText rfl ER.m_NoText (pa_cons pe_str pa_nil))) pss_nil)
       pss_dead)), ?_⟩
   simp only [L2.start, List.map_cons, List.map_nil, List.length_cons, List.length_nil, List.replicate_succ, List.replicate_zero, List.cons_append, List.nil_append, Nat.reduceAdd, Nat.reduceSub, true_and, List.set_cons_zero, List.set_cons_succ, gS, rVar, tC, tSeq, tNext, tAsg, gName, tIfS, tOp, tCB, tCons, tNil, tB2, addV, neR, sc, lenV, tRaise, tFnX, sp_p_road_of]
   have hsz : sizeLine = 16777216 := sizeLine_eq
   refine ⟨hl, bk, fun p H1 s1 bk1 h1 => ⟨_, .inl (SqL.of h1), by omega, ite2 (fun _ => ⟨by decide, e H1 s1 bk1⟩) fun w => ?_⟩⟩
   refine absurd ?_ w
   rw [Bool.not_eq_true', decide_eq_false_iff_not]
   intro w
   have : (L z).length ≠ 0 := fun h => hz (List.length_eq_zero_iff.mp h)
   simp only [List.length_singleton] at w
   omega
def sp_w_cell_at (K : PySem.W.Frag) : Sp := fun vs H Q _ => match vs with
 | [.ref a, .int k] => ∃ ns : List Int, SqL K H a (ns.map V.int) ∧ 0 ≤ k ∧ Q (.int (cellAt ns k)) H
 | _ => False
theorem ok_w_cell_at {f : Addr} {fd : FuncData} (F : Fun K "_law_cell_at" "_law_cell_at" s_w_cell_at f fd) (B : Bn mg) {c : Cs} (ER : Er K mg c) {A_FORMS A_KEEPING A_ANSWERS : Addr} (TP : Tp K w.params mg A_FORMS A_KEEPING A_ANSWERS) {C_Letters C_Desk C_Marks : Addr} (CF : Cf K C_Letters C_Desk C_Marks) (GC : Gc mg)  : FnOk P w K mg base CX0 1 f fd P_w_cell_at (sp_w_cell_at K) := by
 refine F.pure sc_w_cell_at (fun vs H Q E h => ?_) (fun cdv A outer s H vs Q E hr h => ?_) <;> unfold sp_w_cell_at at h <;> split at h <;> first | exact h.elim | skip
 · rfl
 · rename_i a k
   obtain ⟨ns, hS, hk, q⟩ := h
   refine ⟨_, (pss_cons (ps_if (pt_c2 o_lt (qv 1) (pe_callB (c_lenK (K := K) rfl) (by rfl) B.len bt_len (pa_cons (qv 0) pa_nil))) (pss_one (ps_ret (pe_ix (i_ixK (K := K) rfl) (qv 0) (qv 1) (fun _ _ => rfl)))) pss_nil)
       (pss_one (ps_ret pe_int))), ?_⟩
   simp only [L2.start, List.map_cons, List.map_nil, List.length_cons, List.length_nil, List.replicate_zero, List.cons_append, List.nil_append, Nat.reduceAdd, Nat.reduceSub, decide_eq_true_eq, gS, rVar, tC, tSeq, tNext, tRet, tIfS, tOp, tCB, tCons, tNil, tB2, ltV, ixV, lenV]
   refine ⟨_, .inl hS, ?_⟩
   unfold cellAt at q
   rw [List.length_map]
   refine ite2 (fun h1 => ?_) (fun h1 => ?_)
   · rw [if_pos h1] at q
     exact ⟨_, _, .inl hS, atI_getD (.int 0) hk (by simpa using h1), Same.refl _, by rw [getD_int]; exact q⟩
   · rw [if_neg h1] at q
     exact ⟨Same.refl _, q⟩
def sp_w_mixed (K : PySem.W.Frag) : Sp := fun vs H Q _ => match vs with
 | [.int _, .int _, .int m] => 0 < m ∧ ∀ r : Int, 0 ≤ r → r < m → Q (.int r) H
 | _ => False
theorem ok_w_mixed {f : Addr} {fd : FuncData} (F : Fun K "_law_mixed" "_law_mixed" s_w_mixed f fd) (B : Bn mg) {c : Cs} (ER : Er K mg c) {A_FORMS A_KEEPING A_ANSWERS : Addr} (TP : Tp K w.params mg A_FORMS A_KEEPING A_ANSWERS) {C_Letters C_Desk C_Marks : Addr} (CF : Cf K C_Letters C_Desk C_Marks) (GC : Gc mg)  : FnOk P w K mg base CX0 1 f fd P_w_mixed (sp_w_mixed K) := by
 refine F.pure sc_w_mixed (fun vs H Q E h => ?_) (fun cdv A outer s H vs Q E hr h => ?_) <;> unfold sp_w_mixed at h <;> split at h <;> first | exact h.elim | skip
 · rfl
 · rename_i c t m
   obtain ⟨hm, q⟩ := h
   refine ⟨_, (pss_cons (ps_cut (ps_set (i := 3) sc_w_mixed.nd rfl (by first | exact Or.inl rfl | exact Or.inr rfl) (pe_tup (pa_cons pe_int (pa_cons pe_int (pa_cons pe_int (pa_cons pe_int (pa_cons pe_int (pa_cons pe_int (pa_cons pe_int (pa_cons pe_int pa_nil)))))))))))
       (pss_cons (ps_cut (ps_set (i := 4) sc_w_mixed.nd rfl (by first | exact Or.inl rfl | exact Or.inr rfl) (pe_tup (pa_cons pe_int (pa_cons pe_int (pa_cons pe_int (pa_cons pe_int (pa_cons pe_int (pa_cons pe_int (pa_cons pe_int (pa_cons pe_int pa_nil)))))))))))
       (pss_one (ps_ret (pe_op o_mod (pe_op o_mod (pe_op o_mul (pe_op o_add (pe_op o_mod (qv 0) (pe_op o_pow pe_int pe_int)) pe_int) (pe_ix (i_ixK (K := K) rfl) (qv 3) (pe_op o_mod (qv 1) pe_int) (fun _ _ => rfl))) (pe_ix (i_ixK (K := K) rfl) (qv 4) (pe_op o_mod (qv 1) pe_int) (fun _ _ => rfl))) (qv 2)))))), ?_⟩
   refine cutS (fun σ' H' => ∃ p, Same H H' ∧ H' p = some (.tup (byL.map V.int)) ∧ σ' = [some (V.int c), some (V.int t), some (V.int m), some (V.ref p), none]) ?_ ?_
   · simp only [L2.start, List.map_cons, List.map_nil, List.length_cons, List.length_nil, List.replicate_succ, List.replicate_zero, List.cons_append, List.nil_append, Nat.reduceAdd, Nat.reduceSub, List.set_cons_zero, List.set_cons_succ, tC, tAsg, gName, tCons, tNil, tTup]
     exact ⟨by decide, fun p hp => ⟨p, Same.updN hp, upd_same, rfl⟩⟩
   rintro _ H1 ⟨p, sm1, h1, rfl⟩
   refine cutS (fun σ' H' => ∃ p', Same H H' ∧ H' p = some (.tup (byL.map V.int)) ∧ H' p' = some (.tup (primeL.map V.int)) ∧ σ' = [some (V.int c), some (V.int t), some (V.int m), some (V.ref p), some (V.ref p')]) ?_ ?_
   · simp only [List.length_cons, List.length_nil, Nat.reduceAdd, List.set_cons_zero, List.set_cons_succ, tC, tAsg, gName, tCons, tNil, tTup]
     exact ⟨by decide, fun p' hp' => ⟨p', sm1.upd hp', (upd_ne (ne_of_none h1 hp')).trans h1, upd_same, rfl⟩⟩
   rintro _ H2 ⟨p', sm2, h1, h2, rfl⟩
   simp only [Int.reduceLT, true_and, gS, rVar, tC, tRet, tOp, addV, mulV, int2, ixV]
   have t0 : 0 ≤ t % 8 := Int.emod_nonneg _ (by decide)
   have t1 : t % 8 < 8 := Int.emod_lt_of_pos _ (by decide)
   have c0 : 0 ≤ c % 1000000000000000000 := Int.emod_nonneg _ (by decide)
   have c1 : c % 1000000000000000000 < 1000000000000000000 := Int.emod_lt_of_pos _ (by decide)
   have e18 : (10 : Int) ^ (18 : Int).toNat = 1000000000000000000 := by decide
   rw [e18]
   exact ⟨⟨by decide, by decide, by decide⟩, by decide, _, _, .inr (SqT.of h1), atI_int (l := byL) t0 t1, .inl ⟨by omega, by omega⟩, _, _, .inr (SqT.of h2), atI_int (l := primeL) t0 t1, prime_pos t0 t1, hm, sm2, q _ (Int.emod_nonneg _ (by omega)) (Int.emod_lt_of_pos _ hm)⟩
def sp_w_signs (K : PySem.W.Frag) : Sp := fun vs H Q _ => match vs with
 | [] => Q (.str (T signs)) H
 | _ => False
theorem ok_w_signs {f : Addr} {fd : FuncData} (F : Fun K "_law_signs" "_law_signs" s_w_signs f fd) (B : Bn mg) {c : Cs} (ER : Er K mg c) {A_FORMS A_KEEPING A_ANSWERS : Addr} (TP : Tp K w.params mg A_FORMS A_KEEPING A_ANSWERS) {C_Letters C_Desk C_Marks : Addr} (CF : Cf K C_Letters C_Desk C_Marks) (GC : Gc mg)  : FnOk P w K mg base CX0 1 f fd P_w_signs (sp_w_signs K) := by
 refine F.pure sc_w_signs (fun vs H Q E h => ?_) (fun cdv A outer s H vs Q E hr h => ?_) <;> unfold sp_w_signs at h <;> split at h <;> first | exact h.elim | skip
 · rfl
 · refine ⟨_, (pss_cons (ps_set (i := 0) sc_w_signs.nd rfl (by first | exact Or.inl rfl | exact Or.inr rfl) pe_str)
       (pss_one (ps_ret (pe_op o_add (qv 0) pe_str)))), ?_⟩
   simp only [L2.start, List.map_nil, List.length_cons, List.length_nil, List.replicate_succ, List.replicate_zero, List.nil_append, Nat.reduceAdd, Nat.reduceSub, List.set_cons_zero, gS, rVar, tC, tSeq, tAsg, gName, tRet, tOp, addV]
   refine ⟨by decide +kernel, Same.refl _, ?_⟩
   have e : L (Str.ofString " !\"#$&'()*+,-./0123456789:;<=>?@ABCDEFGHIJKLMNOPQRSTUVWXYZ[\\]^_`") ++ L (Str.ofString "abcdefghijklmnopqrstuvwxyz{|}~") = signs := by decide +kernel
   rw [e]
   exact h
def sp_w_tried (K : PySem.W.Frag) (c : Cs) (CL CD CM : Addr) (tb tb2 : Addr) : Sp := fun vs H Q E => match vs with
 | [.int k, .str z, .int m] => 0 ≤ k ∧ k < 9 ∧ (L z).length ≤ 30 ∧ 0 ≤ m ∧ m < 20 ∧ Bk_m_Letters_init tb H ∧ ∀ H', SameN H H' → Bk_m_Letters_init tb H' → E (.ref (cl9 c k.toNat)) none H'
 | _ => False
theorem ok_w_tried {f : Addr} {fd : FuncData} (F : Fun K "_law_tried" "_law_tried" s_w_tried f fd) (B : Bn mg) {tb_m_Letters_init tb_p_order_of : Addr} {c : Cs} (ER : Er K mg c) {A_FORMS A_KEEPING A_ANSWERS : Addr} (TP : Tp K w.params mg A_FORMS A_KEEPING A_ANSWERS) {C_Letters C_Desk C_Marks : Addr} (CF : Cf K C_Letters C_Desk C_Marks) (GC : Gc mg) (G_p_rows_of : FnX P w K mg base 1 "rows_of" P_p_rows_of (sp_p_rows_of K c)) (G_p_read_back : FnX P w K mg base 6 "read_back" P_p_read_back (sp_p_read_back K c C_Letters tb_m_Letters_init)) (G_p_longest_often : FnX P w K mg base 4 "longest_often" P_p_longest_often (sp_p_longest_often K c tb_p_order_of)) (Gd_p_longest_often : FnD P w K mg base 4 "longest_often" P_p_longest_often [.int 2] (fun vs H Q _ => (sp_p_longest_often K c tb_p_order_of) vs H Q E0)) (Gk_p_longest_often : FnK P w K mg base 4 "longest_often" P_p_longest_often "times" (fun vs H Q _ => (sp_p_longest_often K c tb_p_order_of) vs H Q E0)) (G_p_taken_off : FnX P w K mg base 5 "taken_off" P_p_taken_off (sp_p_taken_off K c C_Letters tb_m_Letters_init)) (MK_Letters : Mkr P w K mg base (CX1 P w) 3 "Letters" C_Letters P_m_Letters_init [] (sp_m_Letters_init K c C_Letters tb_m_Letters_init)) (MK_Desk : Mkr P w K mg base CX0 1 "Desk" C_Desk P_m_Desk_init [] (sp_m_Desk_init K C_Desk)) (M_m_Desk_say : Md P w K mg base (CX1 P w) 3 C_Desk "say" P_m_Desk_say [] (sp_m_Desk_say K c C_Desk)) (MK_Marks : Mkr P w K mg base (CX1 P w) 5 "Marks" C_Marks P_m_Marks_init [] (sp_m_Marks_init K c C_Letters C_Marks tb_m_Letters_init)) : FnOk P w K mg base (CX1 P w) 7 f fd P_w_tried (sp_w_tried K c C_Letters C_Desk C_Marks tb_m_Letters_init tb_p_order_of) := by
 refine F.okX sc_w_tried (fun vs H Q E h => ?_) (fun cdv A outer s H vs Q E hr h => ?_) <;> unfold sp_w_tried at h <;> split at h <;> first | exact h.elim | skip
 · rfl
 · rename_i k z m
   obtain ⟨k0, k9, hl, m0, m1, bk, e⟩ := h
   refine ⟨_, (pss_one (ps_if (pt_c2 o_eq (qv 0) pe_int) (pss_one (ps_expr (pe_fnX tk_def.toTk G_p_rows_of (hr.mono (by decide)) (pa_cons (pe_op o_add (pe_op o_add (pe_lst (pa_cons (qv 2) pa_nil)) (pe_compR B.range (own := ["_law_k"]) (cp := []) rfl rfl rfl (by decide +kernel) (by decide +kernel) trivial (pa_cons (qv 2) pa_nil) (by decide) (fun _ _ _ _ => pg_name (i := 0) (show List.Nodup (["_law_k"] : List Str) by decide +kernel) rfl (Or.inl rfl) (Or.inr rfl)) (fun _ _ _ _ => pf_nil) (fun _ _ _ _ => (qv 0)))) (pe_lst (pa_cons (qv 2) (pa_cons (pe_op o_add (qv 2) pe_int) pa_nil)))) pa_nil)))) (pss_one (ps_if (pt_c2 o_eq (qv 0) pe_int) (pss_one (ps_expr (pe_mkX tk_def.toTk MK_Letters (hr.mono (by decide)) (pa_cons (qv 1) (pa_cons (pe_op o_add (pe_op o_add (pe_callB (c_lenK (K := K) rfl) (by rfl) B.len bt_len (pa_cons (qv 1) pa_nil)) pe_int) (qv 2)) pa_nil))))) (pss_one (ps_if (pt_c2 o_eq (qv 0) pe_int) (pss_one (ps_expr (pe_mkX tk_def.toTk MK_Marks (hr.mono (by decide)) (pa_cons (qv 1) (pa_cons (pe_callB (c_lenK (K := K) rfl) (by rfl) B.len bt_len (pa_cons (qv 1) pa_nil)) (pa_cons (pe_op o_sub pe_int (qv 2)) pa_nil)))))) (pss_one (ps_if (pt_c2 o_eq (qv 0) pe_int) (pss_one (ps_expr (pe_fnX tk_def.toTk G_p_read_back (hr.mono (by decide)) (pa_cons (pe_op o_add pe_str (qv 1)) (pa_cons pe_int pa_nil))))) (pss_one (ps_if (pt_c2 o_eq (qv 0) pe_int) (pss_one (ps_expr (pe_fnX tk_def.toTk G_p_longest_often (hr.mono (by decide)) (pa_cons (qv 1) (pa_cons (pe_op o_sub pe_int (qv 2)) pa_nil))))) (pss_one (ps_if (pt_c2 o_eq (qv 0) pe_int) (pss_one (ps_expr (pe_fnX tk_def.toTk G_p_taken_off (hr.mono (by decide)) (pa_cons (pe_slice (s_slK (K := K) rfl) (qv 1) po_none (po_t pe_int)) (pa_cons pe_int pa_nil))))) (pss_one (ps_if (pt_c2 o_eq (qv 0) pe_int) (pss_one (ps_expr (pe_mdX tk_def.toTk M_m_Desk_say (hr.mono (by decide)) (pe_mk0 MK_Desk (hr.mono (by decide))) (pa_cons (pe_op o_add (pe_op o_add pe_str (qv 1)) (pe_op o_mul pe_str pe_int)) pa_nil)))) (pss_one (ps_if (pt_c2 o_eq (qv 0) pe_int) (pss_one (ps_expr (pe_mdX tk_def.toTk M_m_Desk_say (hr.mono (by decide)) (pe_mk0 MK_Desk (hr.mono (by decide))) (pa_cons (pe_op o_add pe_str (pe_slice (s_slK (K := K) rfl) pe_str po_none (po_t (pe_op o_add pe_int (pe_op o_mod (qv 2) pe_int))))) pa_nil)))) (pss_one (ps_expr (pe_mdX tk_def.toTk M_m_Desk_say (hr.mono (by decide)) (pe_mk0 MK_Desk (hr.mono (by decide))) (pa_cons pe_str pa_nil)))))))))))))))))))), ?_⟩
   have hsz : sizeLine = 16777216 := sizeLine_eq
   obtain ⟨k, rfl⟩ : ∃ n : Nat, k = (n : Int) := ⟨k.toNat, by omega⟩
   obtain ⟨m, rfl⟩ : ∃ n : Nat, m = (n : Int) := ⟨m.toNat, by omega⟩
   rw [Int.toNat_natCast] at e
   have k9 : k < 9 := by omega
   simp only [L2.start, List.map_cons, List.map_nil, List.length_cons, List.length_nil, List.replicate_succ, List.replicate_zero, Nat.reduceAdd, Nat.reduceSub, Int.reduceLT, true_and, decide_eq_true_eq, if_true, List.set_cons_zero, gS, rVar, tC, tDrop, tIfS, tOp, tCB, tCons, tNil, tLst, tB2, tSl, tNoPart, pT, addV, mulV, int2, int2', eqR, sc, slV, lenV, L_T, tFnX, rCat, tCR, oneC, capS, tMake, tMethX, tMakeX, List.append_nil, modV, subV]
   have kk : ∀ {i : Nat}, (k : Int) = (i : Int) → k = i := fun h => by omega
   refine ite2 (fun h => ?_) fun h0 => ite2 (fun h => ?_) fun h1 => ite2 (fun h => ?_) fun h2 => ite2 (fun h => ?_) fun h3 => ite2 (fun h => ?_) fun h4 => ite2 (fun h => ?_) fun h5 => ite2 (fun h => ?_) fun h6 => ite2 (fun h => ?_) fun h7 => ?_
   · obtain rfl : k = 0 := by omega
     refine ⟨by omega, fun p hp => ⟨⟨by omega, by omega⟩, fun i H2 acc => H2 = upd H p (HO.lst [V.int (m : Int)]) ∧ acc = (List.range i).map fun j : Nat => V.int (j : Int), ⟨rfl, rfl⟩, ?_, ?_⟩⟩
     · rintro i H2 acc _ ⟨rfl, rfl⟩
       refine ⟨rfl, ?_⟩
       rw [List.range_succ, List.map_append]
       rfl
     · rintro H2 acc ⟨rfl, rfl⟩ l hl'
       rw [Int.toNat_natCast]
       refine ⟨p, l, _, _, rfl, rfl, (upd_ne (ne_of_none upd_same hl')).trans upd_same, upd_same, by rw [List.length_map, List.length_range]; show 1 + _ ≤ _; omega, fun p1 hp1 => ⟨by omega, fun p2 hp2 => ⟨p1, p2, _, _, rfl, rfl, (upd_ne (ne_of_none upd_same hp2)).trans upd_same, upd_same, by rw [List.length_append, List.length_map, List.length_range]; show 1 + _ + 2 ≤ _; omega, fun p3 hp3 => ?_⟩⟩⟩
       have s5 := ((((Same.updN hp).trans (Same.updN hl')).trans (Same.updN hp1)).trans (Same.updN hp2)).upd (o := HO.lst ([V.int (m : Int)] ++ ((List.range m).map fun j : Nat => V.int (j : Int)) ++ [V.int (m : Int), V.int ((m : Int) + 1)])) hp3
       simp only [sp_p_rows_of]
       refine ⟨(m : Int) :: (((List.range m).map fun j : Nat => (j : Int)) ++ [(m : Int), (m : Int) + 1]), SqL.of ?_, ?_, fun w => ?_, fun _ H' s' => e H' (s5.trans s').toN (bk_same bk (s5.trans s'))⟩
       · rw [upd_same]
         simp only [List.map_cons, List.map_append, List.map_map, List.map_nil, List.cons_append, List.nil_append]
         rfl
       · simp only [List.length_cons, List.length_append, List.length_map, List.length_range, List.length_nil]
         omega
       · exfalso
         have := w m (by simp only [List.length_cons, List.length_append, List.length_map, List.length_range, List.length_nil]; omega)
         rw [List.count_cons_self, List.count_append, List.count_cons_self] at this
         omega
   · obtain rfl : k = 1 := by omega
     refine ⟨by omega, fun x dx hx hdx hne => ?_⟩
     have hdx2 : upd H dx (HO.own x) x = none := (upd_ne (Ne.symm hne)).trans hx
     simp only [sp_m_Letters_init]
     exact ⟨by omega, (bk.put hdx).put hdx2, ⟨dx, upd_same⟩, fun _ => e _ (Same.upd (Same.updN hdx) hdx2).toN ((bk.put hdx).put hdx2), fun w => absurd w.2 (by omega)⟩
   · obtain rfl : k = 2 := by omega
     refine ⟨by omega, fun x dx hx hdx hne => ?_⟩
     have hdx2 : upd H dx (HO.own x) x = none := (upd_ne (Ne.symm hne)).trans hx
     simp only [sp_m_Marks_init]
     exact ⟨by omega, (bk.put hdx).put hdx2, ⟨dx, upd_same⟩, trivial, by omega, fun H1 mk1 bk1 => e H1 (made_same hx hdx mk1.1 mk1.2) bk1⟩
   · obtain rfl : k = 3 := by omega
     have ea : L (Str.ofString "a") = [97] := by decide +kernel
     rw [ea]
     refine ⟨by simp only [List.length_cons, List.length_nil]; omega, ?_⟩
     simp only [sp_p_read_back, L_T]
     exact ⟨by simp only [List.length_cons, List.length_nil, List.length_append]; omega, by simp, trivial, bk, e⟩
   · obtain rfl : k = 4 := by omega
     simp only [sp_p_longest_often]
     exact ⟨by omega, e H (SameN.refl H) bk⟩
   · obtain rfl : k = 5 := by omega
     refine ⟨by omega, ?_⟩
     simp only [sp_p_taken_off, L_T]
     refine ⟨?_, trivial, bk, e⟩
     simp [cut, HT.sIx]
   · obtain rfl : k = 6 := by omega
     intro x dx hx hdx hne
     simp only [sp_m_Desk_init]
     refine ⟨⟨dx, upd_same⟩, fun H1 t kp ht hD => ?_⟩
     have s1 : Same H H1 := fun b u h => kp b u (ne_of_none h hx) ((upd_ne (ne_of_none h hx)).trans ((upd_ne (ne_of_none h hdx)).trans h))
     obtain ⟨⟨dx1, ho⟩, _⟩ := id hD
     have w1 : L (Str.ofString "keep a ") = cd "keep" ++ 32 :: (cd "a" ++ [32]) := by decide +kernel
     have w2 : L (Str.ofString "b") = [98] := by decide +kernel
     have w3 : (cd "keep").length = 4 := by decide +kernel
     have w4 : (cd "a").length = 1 := by decide +kernel
     have w5 : IsName (cd "a") := by
       have ea : cd "a" = [97] := by decide +kernel
       rw [ea]
       refine ⟨by decide, by decide, fun c hc => ?_⟩
       have : c = 97 := by simpa using hc
       omega
     have rl : (rep (Int.toNat 301) [98]).length = 301 := by rw [rep_len]; rfl
     rw [w1, w2]
     refine ⟨trivial, x, dx1, _, rfl, ho, rfl, by simp only [List.length_append, List.length_cons, List.length_nil]; omega, ⟨by decide, by decide, by show 301 ≤ _; omega⟩, by rw [rl]; simp only [List.length_append, List.length_cons, List.length_nil]; omega, ?_⟩
     simp only [sp_m_Desk_say, L_T]
     have er : cd "keep" ++ 32 :: (cd "a" ++ [32]) ++ L z ++ rep (Int.toNat 301) [98] = jn [cd "keep", cd "a"] ++ 32 :: (L z ++ rep (Int.toNat 301) [98]) := by simp [jn]
     rw [er]
     have gr := good_keep (n := cd "a") (x := L z ++ rep (Int.toNat 301) [98]) w5.noB
     refine ⟨t, [], hD, by decide, by rw [List.length_append, List.length_cons, List.length_append, rl]; simp only [jn, List.length_append, List.length_cons]; omega, fun w => absurd ⟨_, _, gr⟩ w, fun i' ws g' => ?_⟩
     obtain ⟨rfl, rfl⟩ := g'.uniq gr
     refine ⟨fun w => absurd ⟨fun _ => w5, fun w => absurd (.inl rfl) w⟩ w, fun _ => .inl ⟨rfl, rfl, fun w => ?_, fun _ H2 s2 => e H2 (s1.trans s2).toN (bk_same bk (s1.trans s2))⟩⟩
     have w : (L z ++ rep (Int.toNat 301) [98]).length ≤ 300 := w
     rw [List.length_append, rl] at w
     omega
   · obtain rfl : k = 7 := by omega
     intro x dx hx hdx hne
     simp only [sp_m_Desk_init]
     refine ⟨⟨dx, upd_same⟩, fun H1 t kp ht hD => ?_⟩
     have s1 : Same H H1 := fun b u h => kp b u (ne_of_none h hx) ((upd_ne (ne_of_none h hx)).trans ((upd_ne (ne_of_none h hdx)).trans h))
     obtain ⟨⟨dx1, ho⟩, _⟩ := id hD
     have w1 : L (Str.ofString "text ") = cd "text" ++ [32] := by decide +kernel
     have w3 : (cd "text").length = 4 := by decide +kernel
     have kt : cd "text" ≠ cd "keep" ∧ cd "text" ≠ cd "load" := by decide +kernel
     have w4 : (L (Str.ofString "abcdefgh")).length = 8 := by decide +kernel
     have w5 : 32 ∉ L (Str.ofString "abcdefgh") := by decide +kernel
     have cl := cut_len (L (Str.ofString "abcdefgh")) none (some (1 + (m : Int) % 8))
     have nb : 32 ∉ cut (L (Str.ofString "abcdefgh")) none (some (1 + (m : Int) % 8)) := fun w => w5 (List.mem_of_mem_drop (List.mem_of_mem_take w))
     rw [w1]
     refine ⟨trivial, x, dx1, _, rfl, ho, rfl, by omega, by simp only [List.length_append, List.length_cons, List.length_nil]; omega, ?_⟩
     simp only [sp_m_Desk_say, L_T]
     generalize cut (L (Str.ofString "abcdefgh")) none (some (1 + (m : Int) % 8)) = n at cl nb ⊢
     have er : cd "text" ++ [32] ++ n = jn [cd "text", n] := by simp [jn]
     rw [er]
     have gr := good_text nb
     refine ⟨t, [], hD, by decide, by simp only [jn, List.length_append, List.length_cons]; omega, fun w => absurd ⟨_, _, gr⟩ w, fun i' ws g' => ?_⟩
     obtain ⟨rfl, rfl⟩ := g'.uniq gr
     refine ⟨fun _ H2 s2 => e H2 (s1.trans s2).toN (bk_same bk (s1.trans s2)), fun w => ?_⟩
     have := (w.2 (fun z => z.elim kt.1 kt.2)).1
     cases this
   · obtain rfl : k = 8 := by omega
     intro x dx hx hdx hne
     simp only [sp_m_Desk_init]
     refine ⟨⟨dx, upd_same⟩, fun H1 t kp ht hD => ?_⟩
     have s1 : Same H H1 := fun b u h => kp b u (ne_of_none h hx) ((upd_ne (ne_of_none h hx)).trans ((upd_ne (ne_of_none h hdx)).trans h))
     obtain ⟨⟨dx1, ho⟩, _⟩ := id hD
     refine ⟨trivial, x, dx1, _, rfl, ho, rfl, ?_⟩
     simp only [sp_m_Desk_say]
     have er : L (Str.ofString "texts a") = jn [cd "texts", cd "a"] := by decide +kernel
     rw [er]
     have bad : ¬ ∃ i ws, GoodRow (jn [cd "texts", cd "a"]) i ws := by
       refine bad_row (by simp) (by unfold NoB; decide +kernel) fun i hi => ?_
       have h0 : frmIx (cd "texts") = none := by decide +kernel
       have hi : frmIx (cd "texts") = some i := hi
       rw [h0] at hi
       cases hi
     have l1 : (jn [cd "texts", cd "a"]).length ≤ 5000 := by decide +kernel
     exact ⟨t, [], hD, by decide, l1, fun _ H2 s2 => e H2 (s1.trans s2).toN (bk_same bk (s1.trans s2)), fun i ws g => absurd ⟨_, _, g⟩ bad⟩
def sp_w_word (K : PySem.W.Frag) (CL CD CM : Addr) (tb tb2 : Addr) : Sp := fun vs H Q _ => match vs with
 | [.int k, .str z, .int m] => 0 ≤ k ∧ k < 9 ∧ (L z).length ≤ 30 ∧ 0 ≤ m ∧ m < 20 ∧ Bk_m_Letters_init tb H ∧ ∀ H', SameN H H' → Bk_m_Letters_init tb H' → Q (.str (nm9 k.toNat)) H'
 | _ => False
theorem ok_w_word {f : Addr} {fd : FuncData} (F : Fun K "_law_word" "_law_word" s_w_word f fd) (B : Bn mg) {tb_m_Letters_init tb_p_order_of : Addr} {c : Cs} (ER : Er K mg c) {A_FORMS A_KEEPING A_ANSWERS : Addr} (TP : Tp K w.params mg A_FORMS A_KEEPING A_ANSWERS) {C_Letters C_Desk C_Marks : Addr} (CF : Cf K C_Letters C_Desk C_Marks) (GC : Gc mg) (G_w_which : FnZ P w K mg base 1 "_law_which" P_w_which (sp_w_which K c)) (G_w_tried : FnX P w K mg base 7 "_law_tried" P_w_tried (sp_w_tried K c C_Letters C_Desk C_Marks tb_m_Letters_init tb_p_order_of)) : FnOk P w K mg base CX0 8 f fd P_w_word (sp_w_word K C_Letters C_Desk C_Marks tb_m_Letters_init tb_p_order_of) := by
 refine F.ok sc_w_word (fun vs H Q E h => ?_) (fun cdv A outer s H vs Q E hr h => ?_) <;> unfold sp_w_word at h <;> split at h <;> first | exact h.elim | skip
 · rfl
 · rename_i k z m
   obtain ⟨k0, k9, hl, m0, m1, bk, q⟩ := h
   refine ⟨_, (pss_cons (ps_try rfl rfl (fun pn E F T => (pss_one (ps_expr (pe_fnX T G_w_tried (hr.mono (by decide)) (pa_cons (qv 0) (pa_cons (qv 1) (pa_cons (qv 2) pa_nil))))))) (ph_cons1Z (i := 3) rfl ER.x_BackError rfl ER.m_BackError sc_w_word.nd rfl rfl (fun a => (pss_one (ps_ret (pe_fnZ (xa := a) (by rfl) G_w_which ((hr.toW.mono (by decide)).mark _) (pa_cons (qv 3) pa_nil))))) ph_nil) pss_nil)
       (pss_one (ps_ret pe_str))), ?_⟩
   simp only [L2.start, List.map_cons, List.map_nil, List.length_cons, List.length_nil, List.replicate_succ, List.replicate_zero, List.cons_append, List.nil_append, Nat.reduceAdd, Nat.reduceSub, true_and, List.set_cons_zero, List.set_cons_succ, gS, rVar, tC, tSeq, tRet, tDrop, tCons, tNil, tTry, tH1Z, unb, tFnX, tFnZ, sp_w_tried, sp_w_which]
   have kk : k.toNat < 9 := by omega
   have e2 : (clsMro K (cl9 c k.toNat)).contains (Value.ref c.BackError) = true := r9 ER _ kk
   refine ⟨k0, k9, hl, m0, m1, bk, fun H1 s1 bk1 => ⟨exc9 ER _ kk, (if_pos e2).symm ▸ fun a ha => ⟨cl9 c k.toNat, k.toNat, upd_same, g9 ER _ kk, v9 ER _ kk, kk, fun j hj => all9 ER _ _ kk hj, fun H2 s2 => q H2 ((s1.upd ha).trans s2.toN) (bk_same (bk1.put ha) s2)⟩⟩⟩
def sp_law (K : PySem.W.Frag) (tb tb2 : Addr) : Sp := fun vs H Q _ => ∃ (a : Addr) (ns : List Int), vs = [.ref a] ∧ SqL K H a (ns.map V.int) ∧ ns.length ≤ 63 ∧ Bk_m_Letters_init tb H ∧ Bk_p_order_of tb2 H ∧ tb ≠ tb2 ∧ ∀ H', Q (.bl true) H'
theorem ok_law {f : Addr} {fd : FuncData} (F : Fun K "law" "law" s_law f fd) (B : Bn mg) {tb_m_Letters_init tb_p_order_of : Addr} {c : Cs} (ER : Er K mg c) {A_FORMS A_KEEPING A_ANSWERS : Addr} (TP : Tp K w.params mg A_FORMS A_KEEPING A_ANSWERS) {C_Letters C_Desk C_Marks : Addr} (CF : Cf K C_Letters C_Desk C_Marks) (GC : Gc mg) (G_w_cell_at : Fn P w K mg base 1 "_law_cell_at" P_w_cell_at (sp_w_cell_at K)) (G_w_mixed : Fn P w K mg base 1 "_law_mixed" P_w_mixed (sp_w_mixed K)) (G_w_signs : Fn P w K mg base 1 "_law_signs" P_w_signs (sp_w_signs K)) (G_w_word : Fn P w K mg base 8 "_law_word" P_w_word (sp_w_word K C_Letters C_Desk C_Marks tb_m_Letters_init tb_p_order_of)) : FnOk P w K mg base CX0 9 f fd P_law (sp_law K tb_m_Letters_init tb_p_order_of) := by
 refine F.ok sc_law (fun vs H Q E h => ?_) (fun cdv A outer s H vs Q E hr h => ?_)
 · obtain ⟨a, ns, rfl, _⟩ := h
   rfl
 · obtain ⟨a, ns, rfl, hS, hl, bk, _, _, q⟩ := h
   refine ⟨_, (pss_cons (ps_cut (ps_set (i := 1) sc_law.nd rfl (by first | exact Or.inl rfl | exact Or.inr rfl) (pe_tup (pa_cons pe_str (pa_cons pe_str (pa_cons pe_str (pa_cons pe_str (pa_cons pe_str (pa_cons pe_str (pa_cons pe_str (pa_cons pe_str (pa_cons pe_str pa_nil))))))))))))
       (pss_cons (ps_rng1 PassesOwn.never rfl B.range (pa_cons (pe_callB (c_max rfl) (by rfl) B.max bt_max (pa_cons pe_int (pa_cons (pe_callB (c_min rfl) (by rfl) B.min bt_min (pa_cons pe_int (pa_cons (pe_op o_sub (pe_callB (c_lenK (K := K) rfl) (by rfl) B.len bt_len (pa_cons (qv 0) pa_nil)) pe_int) pa_nil))) pa_nil))) pa_nil) (pg_name (i := 2) sc_law.nd rfl (by first | exact Or.inl rfl | exact Or.inr rfl)) (pss_cons (ps_cut (ps_set (i := 3) sc_law.nd rfl (by first | exact Or.inl rfl | exact Or.inr rfl) (pe_op o_add (pe_fn G_w_cell_at (hr.mono (by decide)) (pa_cons (qv 0) (pa_cons (pe_op o_add pe_int (qv 2)) pa_nil))) (qv 2))))
       (pss_cons (ps_cut (ps_set (i := 4) sc_law.nd rfl (by first | exact Or.inl rfl | exact Or.inr rfl) (pe_fn G_w_mixed (hr.mono (by decide)) (pa_cons (qv 3) (pa_cons pe_int (pa_cons pe_int pa_nil))))))
       (pss_cons (ps_cut (ps_set (i := 5) sc_law.nd rfl (by first | exact Or.inl rfl | exact Or.inr rfl) (pe_bmK (K := K) rfl PySem.F.plainAttrs_str PySem.F.slot_str_join PySem.F.type_str_join (m_joinK (K := K) rfl) pe_str (pa_cons (pe_compR B.range (own := ["_law_j"]) (cp := [(("_law_cell" : Str), 3)]) rfl rfl rfl (by decide +kernel) (by decide +kernel) ⟨⟨rfl, rfl, rfl⟩, trivial⟩ (pa_cons (pe_fn G_w_mixed (hr.mono (by decide)) (pa_cons (qv 3) (pa_cons pe_int (pa_cons pe_int pa_nil)))) pa_nil) (by decide) (fun _ _ _ _ => pg_name (i := 0) (show List.Nodup (["_law_j", "_law_cell"] : List Str) by decide +kernel) rfl (Or.inl rfl) (Or.inr rfl)) (fun _ _ _ _ => pf_nil) (fun _ _ _ _ => (pe_ix (i_ixK (K := K) rfl) (pe_fn0 G_w_signs (hr.mono (by decide))) (pe_fn G_w_mixed (hr.mono (by decide)) (pa_cons (pe_op o_add (qv 1) (qv 0)) (pa_cons pe_int (pa_cons pe_int pa_nil)))) (fun _ _ => rfl)))) pa_nil))))
       (pss_one (ps_if (pt_c2 o_ne (pe_fn G_w_word (hr.mono (by decide)) (pa_cons (qv 4) (pa_cons (qv 5) (pa_cons (pe_fn G_w_mixed (hr.mono (by decide)) (pa_cons (qv 3) (pa_cons pe_int (pa_cons pe_int pa_nil)))) pa_nil)))) (pe_ix (i_ixK (K := K) rfl) (qv 1) (qv 4) (fun _ _ => rfl))) (pss_one (ps_ret pe_bl)) pss_nil))))))
       (pss_one (ps_ret pe_bl)))), ?_⟩
   have hsz : sizeLine = 16777216 := sizeLine_eq
   refine cutS (fun σ' H' => Same H H' ∧ ∃ p, H' p = some (.tup ((List.range 9).map fun k => V.str (nm9 k))) ∧ σ' = [some (V.ref a), some (V.ref p), none, none, none, none]) ?_ ?_
   · simp only [L2.start, List.map_cons, List.map_nil, List.length_cons, List.length_nil, List.replicate_succ, List.replicate_zero, List.cons_append, List.nil_append, Nat.reduceAdd, Nat.reduceSub, List.set_cons_zero, List.set_cons_succ, tC, tAsg, gName, tCons, tNil, tTup]
     exact ⟨by omega, fun p hp => ⟨Same.updN hp, p, upd_same, rfl⟩⟩
   rintro _ H1 ⟨s1, p, hp, rfl⟩
   simp only [List.length_cons, List.length_nil, Nat.reduceAdd, gS, rVar, tC, tSeq, tRet, tOp, tCB, tCons, tNil, int2', lenV, minV, maxV, tRng, forR]
   refine ⟨_, .inl (s1.seq hS), ⟨by omega, by rw [List.length_map]; omega⟩, fun i σ' H' => SameN H H' ∧ Bk_m_Letters_init tb_m_Letters_init H' ∧ H' p = some (.tup ((List.range 9).map fun k => V.str (nm9 k))) ∧ ∃ u1 u2 u3 u4, σ' = [some (V.ref a), some (V.ref p), u1, u2, u3, u4], ⟨s1.toN, bk_same bk s1, hp, _, _, _, _, rfl⟩, ?_, fun σ' H' _ => q H'⟩
   rintro i σ' H2 hi ⟨s2, bk2, hp2, u1, u2, u3, u4, rfl⟩
   refine cutS (fun σ' H' => H' = H2 ∧ ∃ v : Int, σ' = [some (V.ref a), some (V.ref p), some (V.int (0 + (i : Int))), some (V.int v), u3, u4]) ?_ ?_
   · simp only [true_and, List.set_cons_zero, List.set_cons_succ, gS, rVar, tC, tAsg, gName, tOp, tCons, tNil, tFn, addV, sp_w_cell_at]
     exact ⟨ns, s2.seq hS, by omega, _, rfl⟩
   rintro _ _ ⟨rfl, v, rfl⟩
   rename_i H3
   refine cutS (fun σ' H' => H' = H3 ∧ ∃ k : Int, 0 ≤ k ∧ k < 9 ∧ σ' = [some (V.ref a), some (V.ref p), some (V.int (0 + (i : Int))), some (V.int v), some (V.int k), u4]) ?_ ?_
   · simp only [Int.reduceLT, true_and, List.set_cons_zero, List.set_cons_succ, gS, rVar, tC, tAsg, gName, tCons, tNil, tFn, sp_w_mixed]
     exact fun r r0 r1 => ⟨r, r0, r1, rfl⟩
   rintro _ _ ⟨rfl, k, k0, k9, rfl⟩
   rename_i H4
   refine cutS (fun σ' H' => Same H4 H' ∧ ∃ x : List Nat, x.length ≤ 30 ∧ σ' = [some (V.ref a), some (V.ref p), some (V.int (0 + (i : Int))), some (V.int v), some (V.int k), some (V.str (T x))]) ?_ ?_
   · simp only [List.map_cons, List.map_nil, List.replicate_succ, List.replicate_zero, List.cons_append, List.nil_append, Int.reduceLT, true_and, if_true, List.set_cons_zero, List.set_cons_succ, gS, rVar, tC, tAsg, gName, tOp, tCons, tNil, tFn, addV, ixV, joinV, tBM, tyV, L_T, tCR, oneC, capS, sp_w_mixed, sp_w_signs]
     refine fun r r0 r1 => ⟨⟨by omega, by omega⟩, fun j H' acc => H' = H4 ∧ ∃ cs : List Nat, cs.length = j ∧ acc = cs.map fun c => V.str (T [c]), ⟨rfl, [], rfl, rfl⟩, ?_, ?_⟩
     · rintro j H' acc _ ⟨rfl, cs, cl, rfl⟩ y y0 y1
       refine ⟨by rw [hsz]; decide, _, atI_getD 0 y0 y1, rfl, cs ++ [signs.getD y.toNat 0], by rw [List.length_append, cl]; rfl, ?_⟩
       rw [List.map_append]
       rfl
     · rintro H' acc ⟨rfl, cs, cl, rfl⟩ l hl'
       have e0 : L (Str.ofString "") = [] := by decide +kernel
       refine ⟨cs.map fun c => [c], by rw [List.map_map]; exact SqL.of upd_same, ?_, Same.updN hl', cs, by omega, ?_⟩
       · rw [e0, sum1 (fun c : Nat => c), List.length_map, List.length_nil]
         omega
       · rw [e0, joinL_nil, flat1 (fun c : Nat => c), List.map_id']
   rintro _ H5 ⟨s5, x, hx, rfl⟩
   simp only [Int.reduceLT, true_and, gS, rVar, tC, tNext, tRet, tIfS, tOp, tCons, tNil, tFn, tB2, neR, sc, ixV, L_T, sp_w_mixed, sp_w_word, L_T]
   refine fun r r0 r1 => ⟨k0, k9, hx, r0, r1, bk_same bk2 s5, fun H6 s6 bk6 => ?_⟩
   have hp6 := s6.at (s5 _ _ hp2) (by intro ps z; cases z)
   have ea : atI ((List.range 9).map fun k => V.str (nm9 k)) k = some (V.str (nm9 k.toNat)) := by
     obtain ⟨n, rfl⟩ : ∃ n : Nat, k = (n : Int) := ⟨k.toNat, by omega⟩
     have hn : n < 9 := by omega
     match n, hn with
     | 0, _ => rfl
     | 1, _ => rfl
     | 2, _ => rfl
     | 3, _ => rfl
     | 4, _ => rfl
     | 5, _ => rfl
     | 6, _ => rfl
     | 7, _ => rfl
     | 8, _ => rfl
   refine ⟨_, _, .inr (SqT.of hp6), ea, ?_⟩
   simp only [if_false, Bool.not_true, Bool.false_eq_true, decide_true]
   exact ⟨s2.trans (s5.toN.trans s6), bk6, hp6, _, _, _, _, rfl⟩
end
theorem us0 {us : List Value} (h : us.length = 0) : us = [] := match us, h with | [], _ => rfl
theorem us1 {us : List Value} (h : us.length = 1) : ∃ x0, us = [x0] := match us, h with | [x0], _ => ⟨x0, rfl⟩
theorem us2 {us : List Value} (h : us.length = 2) : ∃ x0 x1, us = [x0, x1] := match us, h with | [x0, x1], _ => ⟨x0, x1, rfl⟩
theorem us3 {us : List Value} (h : us.length = 3) : ∃ x0 x1 x2, us = [x0, x1, x2] := match us, h with | [x0, x1, x2], _ => ⟨x0, x1, x2, rfl⟩
theorem us4 {us : List Value} (h : us.length = 4) : ∃ x0 x1 x2 x3, us = [x0, x1, x2, x3] := match us, h with | [x0, x1, x2, x3], _ => ⟨x0, x1, x2, x3, rfl⟩
theorem all_mk {l : PySem.W.OpenLaw} {w : World} {K : PySem.W.Frag} {h : Heap} {mg : Str → Option Value} {fa f_p_check_place f_p_check_gap f_p_number_in f_p_order_of f_p_rows_of f_p_road_of f_p_read_back f_p_longest_often f_p_read_row f_p_is_name f_p_check_names f_p_keep_text f_p_answer_keep f_p_answer_text f_p_taken_off f_w_cell_at f_w_mixed f_w_signs f_w_which f_w_tried f_w_word f_law f_m_Letters_init f_m_Desk_init f_m_Desk_say f_m_Marks_init e_BackError e_NoOrder e_NoPlace e_NoGap e_NoText e_NoTimes e_Empty e_TooLong e_NoName e_NoRow C_Letters C_Desk C_Marks : Addr} (X : K.In h) (G : h.Ns mainGlobals mg) (hfa : mg "law" = some (.ref fa))
   {od_d0 an_d0 od_d1 an_d1 od_d2 an_d2 od_d3 an_d3 od_d4 an_d4 od_d5 an_d5 od_d6 an_d6 od_d7 an_d7 od_d8 an_d8 od_d9 an_d9 od_d10 an_d10 od_d11 an_d11 od_d12 an_d12 od_d13 an_d13 od_d14 an_d14 od_d15 an_d15 od_d16 an_d16 od_d17 an_d17 od_d18 an_d18 od_d19 an_d19 od_d20 an_d20 od_d21 an_d21 od_d22 an_d22 od_d23 an_d23 od_d24 an_d24 od_d25 an_d25 : Option Addr} {sl_d0 sl_d1 sl_d2 sl_d3 sl_d4 sl_d5 sl_d6 sl_d7 sl_d8 sl_d9 sl_d10 sl_d11 sl_d12 sl_d13 sl_d14 sl_d15 sl_d16 sl_d17 sl_d18 sl_d19 sl_d20 sl_d21 sl_d22 sl_d23 sl_d24 sl_d25 : Array (Option Value)} {oc_d0 kV_d0 dc_d0 pm_d0 ct_d0 cd_d0 oc_d1 kV_d1 dc_d1 pm_d1 ct_d1 cd_d1 oc_d2 kV_d2 dc_d2 pm_d2 ct_d2 cd_d2 oc_d3 kV_d3 dc_d3 pm_d3 ct_d3 oc_d4 kV_d4 dc_d4 pm_d4 ct_d4 cd_d4 oc_d5 kV_d5 dc_d5 pm_d5 ct_d5 cd_d5 oc_d6 kV_d6 dc_d6 pm_d6 ct_d6 cd_d6 oc_d7 kV_d7 dc_d7 pm_d7 ct_d7 cd_d7 oc_d8 kV_d8 dc_d8 pm_d8 ct_d8 cd_d8 oc_d9 kV_d9 dc_d9 pm_d9 ct_d9 cd_d9 oc_d10 kV_d10 dc_d10 pm_d10 ct_d10 cd_d10 oc_d11 kV_d11 dc_d11 pm_d11 ct_d11 cd_d11 oc_d12 kV_d12 dc_d12 pm_d12 ct_d12 cd_d12 oc_d13 kV_d13 dc_d13 pm_d13 ct_d13 cd_d13 oc_d14 kV_d14 dc_d14 pm_d14 ct_d14 cd_d14 oc_d15 kV_d15 dc_d15 pm_d15 ct_d15 cd_d15 oc_d16 kV_d16 dc_d16 pm_d16 ct_d16 cd_d16 oc_d17 kV_d17 dc_d17 pm_d17 ct_d17 cd_d17 oc_d18 kV_d18 dc_d18 pm_d18 ct_d18 cd_d18 oc_d19 kV_d19 dc_d19 pm_d19 ct_d19 cd_d19 oc_d20 kV_d20 dc_d20 pm_d20 ct_d20 cd_d20 oc_d21 kV_d21 dc_d21 pm_d21 ct_d21 cd_d21 oc_d22 kV_d22 dc_d22 pm_d22 ct_d22 oc_d23 kV_d23 dc_d23 pm_d23 ct_d23 cd_d23 oc_d24 kV_d24 dc_d24 pm_d24 ct_d24 cd_d24 oc_d25 kV_d25 dc_d25 pm_d25 ct_d25 cd_d25 : Value}
   (a_d0 : PySem.W.nsIn K mainGlobals "check_place" = some (some (.ref f_p_check_place))) (l_d0 : K.lookup f_p_check_place = some ⟨oc_d0, od_d0, .func (PySem.W.fnOf "check_place" "check_place" (defArgs s_p_check_place) (defBody s_p_check_place) (defScope s_p_check_place) .none kV_d0 dc_d0 pm_d0 an_d0 cd_d0 ct_d0), sl_d0⟩) (c_d0 : PySem.W.codeIn K cd_d0 "check_place" = true) (k_d0 : PySem.W.keepIn K (.ref f_p_check_place) = true)
   (a_d1 : PySem.W.nsIn K mainGlobals "check_gap" = some (some (.ref f_p_check_gap))) (l_d1 : K.lookup f_p_check_gap = some ⟨oc_d1, od_d1, .func (PySem.W.fnOf "check_gap" "check_gap" (defArgs s_p_check_gap) (defBody s_p_check_gap) (defScope s_p_check_gap) .none kV_d1 dc_d1 pm_d1 an_d1 cd_d1 ct_d1), sl_d1⟩) (c_d1 : PySem.W.codeIn K cd_d1 "check_gap" = true) (k_d1 : PySem.W.keepIn K (.ref f_p_check_gap) = true)
   (a_d2 : PySem.W.nsIn K mainGlobals "number_in" = some (some (.ref f_p_number_in))) (l_d2 : K.lookup f_p_number_in = some ⟨oc_d2, od_d2, .func (PySem.W.fnOf "number_in" "number_in" (defArgs s_p_number_in) (defBody s_p_number_in) (defScope s_p_number_in) .none kV_d2 dc_d2 pm_d2 an_d2 cd_d2 ct_d2), sl_d2⟩) (c_d2 : PySem.W.codeIn K cd_d2 "number_in" = true) (k_d2 : PySem.W.keepIn K (.ref f_p_number_in) = true)
   {cA_d3 tb_p_order_of : Addr} {cv_d3 : List Value}
   (a_d3 : PySem.W.nsIn K mainGlobals "order_of" = some (some (.ref f_p_order_of))) (l_d3 : K.lookup f_p_order_of = some ⟨oc_d3, od_d3, .func (PySem.W.fnOf "order_of" "order_of" (defArgs s_p_order_of) (defBody s_p_order_of) (defScope s_p_order_of) .none kV_d3 dc_d3 pm_d3 an_d3 (.ref cA_d3) ct_d3), sl_d3⟩) (c_d3 : PySem.W.codeIn K (.ref cA_d3) "order_of" = true) (k_d3 : PySem.W.keepIn K (.ref f_p_order_of) = true)
   (t_p_order_of : PySem.W.recIn K cA_d3 "code" = some cv_d3) (u_d3 : cv_d3[11]? = some (.ref tb_p_order_of)) (h_d3 : PySem.W.codeHdIn K cA_d3 tb_p_order_of = true) (n_d3 : K.lookup tb_p_order_of = none)
   (a_d4 : PySem.W.nsIn K mainGlobals "rows_of" = some (some (.ref f_p_rows_of))) (l_d4 : K.lookup f_p_rows_of = some ⟨oc_d4, od_d4, .func (PySem.W.fnOf "rows_of" "rows_of" (defArgs s_p_rows_of) (defBody s_p_rows_of) (defScope s_p_rows_of) .none kV_d4 dc_d4 pm_d4 an_d4 cd_d4 ct_d4), sl_d4⟩) (c_d4 : PySem.W.codeIn K cd_d4 "rows_of" = true) (k_d4 : PySem.W.keepIn K (.ref f_p_rows_of) = true)
   (a_d5 : PySem.W.nsIn K mainGlobals "road_of" = some (some (.ref f_p_road_of))) (l_d5 : K.lookup f_p_road_of = some ⟨oc_d5, od_d5, .func (PySem.W.fnOf "road_of" "road_of" (defArgs s_p_road_of) (defBody s_p_road_of) (defScope s_p_road_of) .none kV_d5 dc_d5 pm_d5 an_d5 cd_d5 ct_d5), sl_d5⟩) (c_d5 : PySem.W.codeIn K cd_d5 "road_of" = true) (k_d5 : PySem.W.keepIn K (.ref f_p_road_of) = true)
   (a_d6 : PySem.W.nsIn K mainGlobals "read_back" = some (some (.ref f_p_read_back))) (l_d6 : K.lookup f_p_read_back = some ⟨oc_d6, od_d6, .func (PySem.W.fnOf "read_back" "read_back" (defArgs s_p_read_back) (defBody s_p_read_back) (defScope s_p_read_back) .none kV_d6 dc_d6 pm_d6 an_d6 cd_d6 ct_d6), sl_d6⟩) (c_d6 : PySem.W.codeIn K cd_d6 "read_back" = true) (k_d6 : PySem.W.keepIn K (.ref f_p_read_back) = true)
   {dT_p_longest_often : Addr} {qc_p_longest_often : Value} {qo_p_longest_often : Option Addr} {qn_p_longest_often : Nat} {qs_p_longest_often : Array (Option Value)} {qt_p_longest_often : Tok}
   (a_d7 : PySem.W.nsIn K mainGlobals "longest_often" = some (some (.ref f_p_longest_often))) (l_d7 : K.lookup f_p_longest_often = some ⟨oc_d7, od_d7, .func (PySem.W.fnOf "longest_often" "longest_often" (defArgs s_p_longest_often) (defBody s_p_longest_often) (defScope s_p_longest_often) (.ref dT_p_longest_often) kV_d7 dc_d7 pm_d7 an_d7 cd_d7 ct_d7), sl_d7⟩) (c_d7 : PySem.W.codeIn K cd_d7 "longest_often" = true) (k_d7 : PySem.W.keepIn K (.ref f_p_longest_often) = true)
   (q_p_longest_often : K.lookup dT_p_longest_often = some ⟨qc_p_longest_often, qo_p_longest_often, .seq #[.int 2 qt_p_longest_often] qn_p_longest_often, qs_p_longest_often⟩)
   (a_d8 : PySem.W.nsIn K mainGlobals "read_row" = some (some (.ref f_p_read_row))) (l_d8 : K.lookup f_p_read_row = some ⟨oc_d8, od_d8, .func (PySem.W.fnOf "read_row" "read_row" (defArgs s_p_read_row) (defBody s_p_read_row) (defScope s_p_read_row) .none kV_d8 dc_d8 pm_d8 an_d8 cd_d8 ct_d8), sl_d8⟩) (c_d8 : PySem.W.codeIn K cd_d8 "read_row" = true) (k_d8 : PySem.W.keepIn K (.ref f_p_read_row) = true)
   (a_d9 : PySem.W.nsIn K mainGlobals "is_name" = some (some (.ref f_p_is_name))) (l_d9 : K.lookup f_p_is_name = some ⟨oc_d9, od_d9, .func (PySem.W.fnOf "is_name" "is_name" (defArgs s_p_is_name) (defBody s_p_is_name) (defScope s_p_is_name) .none kV_d9 dc_d9 pm_d9 an_d9 cd_d9 ct_d9), sl_d9⟩) (c_d9 : PySem.W.codeIn K cd_d9 "is_name" = true) (k_d9 : PySem.W.keepIn K (.ref f_p_is_name) = true)
   (a_d10 : PySem.W.nsIn K mainGlobals "check_names" = some (some (.ref f_p_check_names))) (l_d10 : K.lookup f_p_check_names = some ⟨oc_d10, od_d10, .func (PySem.W.fnOf "check_names" "check_names" (defArgs s_p_check_names) (defBody s_p_check_names) (defScope s_p_check_names) .none kV_d10 dc_d10 pm_d10 an_d10 cd_d10 ct_d10), sl_d10⟩) (c_d10 : PySem.W.codeIn K cd_d10 "check_names" = true) (k_d10 : PySem.W.keepIn K (.ref f_p_check_names) = true)
   (a_d11 : PySem.W.nsIn K mainGlobals "keep_text" = some (some (.ref f_p_keep_text))) (l_d11 : K.lookup f_p_keep_text = some ⟨oc_d11, od_d11, .func (PySem.W.fnOf "keep_text" "keep_text" (defArgs s_p_keep_text) (defBody s_p_keep_text) (defScope s_p_keep_text) .none kV_d11 dc_d11 pm_d11 an_d11 cd_d11 ct_d11), sl_d11⟩) (c_d11 : PySem.W.codeIn K cd_d11 "keep_text" = true) (k_d11 : PySem.W.keepIn K (.ref f_p_keep_text) = true)
   (a_d12 : PySem.W.nsIn K mainGlobals "answer_keep" = some (some (.ref f_p_answer_keep))) (l_d12 : K.lookup f_p_answer_keep = some ⟨oc_d12, od_d12, .func (PySem.W.fnOf "answer_keep" "answer_keep" (defArgs s_p_answer_keep) (defBody s_p_answer_keep) (defScope s_p_answer_keep) .none kV_d12 dc_d12 pm_d12 an_d12 cd_d12 ct_d12), sl_d12⟩) (c_d12 : PySem.W.codeIn K cd_d12 "answer_keep" = true) (k_d12 : PySem.W.keepIn K (.ref f_p_answer_keep) = true)
   (a_d13 : PySem.W.nsIn K mainGlobals "answer_text" = some (some (.ref f_p_answer_text))) (l_d13 : K.lookup f_p_answer_text = some ⟨oc_d13, od_d13, .func (PySem.W.fnOf "answer_text" "answer_text" (defArgs s_p_answer_text) (defBody s_p_answer_text) (defScope s_p_answer_text) .none kV_d13 dc_d13 pm_d13 an_d13 cd_d13 ct_d13), sl_d13⟩) (c_d13 : PySem.W.codeIn K cd_d13 "answer_text" = true) (k_d13 : PySem.W.keepIn K (.ref f_p_answer_text) = true)
   (a_d14 : PySem.W.nsIn K mainGlobals "taken_off" = some (some (.ref f_p_taken_off))) (l_d14 : K.lookup f_p_taken_off = some ⟨oc_d14, od_d14, .func (PySem.W.fnOf "taken_off" "taken_off" (defArgs s_p_taken_off) (defBody s_p_taken_off) (defScope s_p_taken_off) .none kV_d14 dc_d14 pm_d14 an_d14 cd_d14 ct_d14), sl_d14⟩) (c_d14 : PySem.W.codeIn K cd_d14 "taken_off" = true) (k_d14 : PySem.W.keepIn K (.ref f_p_taken_off) = true)
   (a_d15 : PySem.W.nsIn K mainGlobals "_law_cell_at" = some (some (.ref f_w_cell_at))) (l_d15 : K.lookup f_w_cell_at = some ⟨oc_d15, od_d15, .func (PySem.W.fnOf "_law_cell_at" "_law_cell_at" (defArgs s_w_cell_at) (defBody s_w_cell_at) (defScope s_w_cell_at) .none kV_d15 dc_d15 pm_d15 an_d15 cd_d15 ct_d15), sl_d15⟩) (c_d15 : PySem.W.codeIn K cd_d15 "_law_cell_at" = true) (k_d15 : PySem.W.keepIn K (.ref f_w_cell_at) = true)
   (a_d16 : PySem.W.nsIn K mainGlobals "_law_mixed" = some (some (.ref f_w_mixed))) (l_d16 : K.lookup f_w_mixed = some ⟨oc_d16, od_d16, .func (PySem.W.fnOf "_law_mixed" "_law_mixed" (defArgs s_w_mixed) (defBody s_w_mixed) (defScope s_w_mixed) .none kV_d16 dc_d16 pm_d16 an_d16 cd_d16 ct_d16), sl_d16⟩) (c_d16 : PySem.W.codeIn K cd_d16 "_law_mixed" = true) (k_d16 : PySem.W.keepIn K (.ref f_w_mixed) = true)
   (a_d17 : PySem.W.nsIn K mainGlobals "_law_signs" = some (some (.ref f_w_signs))) (l_d17 : K.lookup f_w_signs = some ⟨oc_d17, od_d17, .func (PySem.W.fnOf "_law_signs" "_law_signs" (defArgs s_w_signs) (defBody s_w_signs) (defScope s_w_signs) .none kV_d17 dc_d17 pm_d17 an_d17 cd_d17 ct_d17), sl_d17⟩) (c_d17 : PySem.W.codeIn K cd_d17 "_law_signs" = true) (k_d17 : PySem.W.keepIn K (.ref f_w_signs) = true)
   (a_d18 : PySem.W.nsIn K mainGlobals "_law_which" = some (some (.ref f_w_which))) (l_d18 : K.lookup f_w_which = some ⟨oc_d18, od_d18, .func (PySem.W.fnOf "_law_which" "_law_which" (defArgs s_w_which) (defBody s_w_which) (defScope s_w_which) .none kV_d18 dc_d18 pm_d18 an_d18 cd_d18 ct_d18), sl_d18⟩) (c_d18 : PySem.W.codeIn K cd_d18 "_law_which" = true) (k_d18 : PySem.W.keepIn K (.ref f_w_which) = true)
   (a_d19 : PySem.W.nsIn K mainGlobals "_law_tried" = some (some (.ref f_w_tried))) (l_d19 : K.lookup f_w_tried = some ⟨oc_d19, od_d19, .func (PySem.W.fnOf "_law_tried" "_law_tried" (defArgs s_w_tried) (defBody s_w_tried) (defScope s_w_tried) .none kV_d19 dc_d19 pm_d19 an_d19 cd_d19 ct_d19), sl_d19⟩) (c_d19 : PySem.W.codeIn K cd_d19 "_law_tried" = true) (k_d19 : PySem.W.keepIn K (.ref f_w_tried) = true)
   (a_d20 : PySem.W.nsIn K mainGlobals "_law_word" = some (some (.ref f_w_word))) (l_d20 : K.lookup f_w_word = some ⟨oc_d20, od_d20, .func (PySem.W.fnOf "_law_word" "_law_word" (defArgs s_w_word) (defBody s_w_word) (defScope s_w_word) .none kV_d20 dc_d20 pm_d20 an_d20 cd_d20 ct_d20), sl_d20⟩) (c_d20 : PySem.W.codeIn K cd_d20 "_law_word" = true) (k_d20 : PySem.W.keepIn K (.ref f_w_word) = true)
   (a_d21 : PySem.W.nsIn K mainGlobals "law" = some (some (.ref f_law))) (l_d21 : K.lookup f_law = some ⟨oc_d21, od_d21, .func (PySem.W.fnOf "law" "law" (defArgs s_law) (defBody s_law) (defScope s_law) .none kV_d21 dc_d21 pm_d21 an_d21 cd_d21 ct_d21), sl_d21⟩) (c_d21 : PySem.W.codeIn K cd_d21 "law" = true) (k_d21 : PySem.W.keepIn K (.ref f_law) = true)
   {cA_d22 tb_m_Letters_init : Addr} {cv_d22 : List Value}
   (a_d22 : PySem.W.findIn K (.ref C_Letters) "__init__" = some (some (.ref f_m_Letters_init))) (i_d22 : PySem.W.isFn K (.ref f_m_Letters_init) = true) (l_d22 : K.lookup f_m_Letters_init = some ⟨oc_d22, od_d22, .func (PySem.W.fnOf "__init__" "Letters.__init__" (defArgs s_m_Letters_init) (defBody s_m_Letters_init) (defScope s_m_Letters_init) .none kV_d22 dc_d22 pm_d22 an_d22 (.ref cA_d22) ct_d22), sl_d22⟩) (c_d22 : PySem.W.codeIn K (.ref cA_d22) "Letters.__init__" = true) (k_d22 : PySem.W.keepIn K (.ref f_m_Letters_init) = true)
   (t_m_Letters_init : PySem.W.recIn K cA_d22 "code" = some cv_d22) (u_d22 : cv_d22[11]? = some (.ref tb_m_Letters_init)) (h_d22 : PySem.W.codeHdIn K cA_d22 tb_m_Letters_init = true) (n_d22 : K.lookup tb_m_Letters_init = none)
   (a_d23 : PySem.W.findIn K (.ref C_Desk) "__init__" = some (some (.ref f_m_Desk_init))) (i_d23 : PySem.W.isFn K (.ref f_m_Desk_init) = true) (l_d23 : K.lookup f_m_Desk_init = some ⟨oc_d23, od_d23, .func (PySem.W.fnOf "__init__" "Desk.__init__" (defArgs s_m_Desk_init) (defBody s_m_Desk_init) (defScope s_m_Desk_init) .none kV_d23 dc_d23 pm_d23 an_d23 cd_d23 ct_d23), sl_d23⟩) (c_d23 : PySem.W.codeIn K cd_d23 "Desk.__init__" = true) (k_d23 : PySem.W.keepIn K (.ref f_m_Desk_init) = true)
   (a_d24 : PySem.W.findIn K (.ref C_Desk) "say" = some (some (.ref f_m_Desk_say))) (i_d24 : PySem.W.isFn K (.ref f_m_Desk_say) = true) (l_d24 : K.lookup f_m_Desk_say = some ⟨oc_d24, od_d24, .func (PySem.W.fnOf "say" "Desk.say" (defArgs s_m_Desk_say) (defBody s_m_Desk_say) (defScope s_m_Desk_say) .none kV_d24 dc_d24 pm_d24 an_d24 cd_d24 ct_d24), sl_d24⟩) (c_d24 : PySem.W.codeIn K cd_d24 "Desk.say" = true) (k_d24 : PySem.W.keepIn K (.ref f_m_Desk_say) = true)
   (a_d25 : PySem.W.findIn K (.ref C_Marks) "__init__" = some (some (.ref f_m_Marks_init))) (i_d25 : PySem.W.isFn K (.ref f_m_Marks_init) = true) (l_d25 : K.lookup f_m_Marks_init = some ⟨oc_d25, od_d25, .func (PySem.W.fnOf "__init__" "Marks.__init__" (defArgs s_m_Marks_init) (defBody s_m_Marks_init) (defScope s_m_Marks_init) .none kV_d25 dc_d25 pm_d25 an_d25 cd_d25 ct_d25), sl_d25⟩) (c_d25 : PySem.W.codeIn K cd_d25 "Marks.__init__" = true) (k_d25 : PySem.W.keepIn K (.ref f_m_Marks_init) = true)
   (m_BackError : PySem.W.nsIn K mainGlobals "BackError" = some (some (.ref e_BackError)))
   (x_BackError : PySem.W.excIn K e_BackError VE "ValueError.__new__" = true)
   (m_NoOrder : PySem.W.nsIn K mainGlobals "NoOrder" = some (some (.ref e_NoOrder)))
   (x_NoOrder : PySem.W.excIn K e_NoOrder VE "ValueError.__new__" = true)
   (g1_NoOrder : PySem.W.findIn K (.ref e_NoOrder) "__getattribute__" = some (some (.builtin "BaseException.__getattribute__"))) (g2_NoOrder : PySem.W.findIn K (.ref e_NoOrder) "__getattr__" = some none) (g3_NoOrder : PySem.W.findIn K (.ref e_NoOrder) "__class__" = some (some (.builtin "object.__class__")))
   (g4_NoOrder : PySem.W.specialIn K (.builtin "object.__class__") "__get__" = some (some (.builtin "getset_descriptor.__get__"))) (g5_NoOrder : PySem.W.takesIn K (.builtin "object.__class__") = some true) (g6_NoOrder : PySem.W.mroIn K e_NoOrder (.type "object") = some true) (g7_NoOrder : PySem.W.mroIn K e_NoOrder (.type "BaseException") = some true)
   (v_NoOrder : PySem.W.kitOne K (.ref e_NoOrder) (.type "ValueError") = some true)
   (m_NoPlace : PySem.W.nsIn K mainGlobals "NoPlace" = some (some (.ref e_NoPlace)))
   (x_NoPlace : PySem.W.excIn K e_NoPlace VE "ValueError.__new__" = true)
   (g1_NoPlace : PySem.W.findIn K (.ref e_NoPlace) "__getattribute__" = some (some (.builtin "BaseException.__getattribute__"))) (g2_NoPlace : PySem.W.findIn K (.ref e_NoPlace) "__getattr__" = some none) (g3_NoPlace : PySem.W.findIn K (.ref e_NoPlace) "__class__" = some (some (.builtin "object.__class__")))
   (g4_NoPlace : PySem.W.specialIn K (.builtin "object.__class__") "__get__" = some (some (.builtin "getset_descriptor.__get__"))) (g5_NoPlace : PySem.W.takesIn K (.builtin "object.__class__") = some true) (g6_NoPlace : PySem.W.mroIn K e_NoPlace (.type "object") = some true) (g7_NoPlace : PySem.W.mroIn K e_NoPlace (.type "BaseException") = some true)
   (v_NoPlace : PySem.W.kitOne K (.ref e_NoPlace) (.type "ValueError") = some true)
   (m_NoGap : PySem.W.nsIn K mainGlobals "NoGap" = some (some (.ref e_NoGap)))
   (x_NoGap : PySem.W.excIn K e_NoGap VE "ValueError.__new__" = true)
   (g1_NoGap : PySem.W.findIn K (.ref e_NoGap) "__getattribute__" = some (some (.builtin "BaseException.__getattribute__"))) (g2_NoGap : PySem.W.findIn K (.ref e_NoGap) "__getattr__" = some none) (g3_NoGap : PySem.W.findIn K (.ref e_NoGap) "__class__" = some (some (.builtin "object.__class__")))
   (g4_NoGap : PySem.W.specialIn K (.builtin "object.__class__") "__get__" = some (some (.builtin "getset_descriptor.__get__"))) (g5_NoGap : PySem.W.takesIn K (.builtin "object.__class__") = some true) (g6_NoGap : PySem.W.mroIn K e_NoGap (.type "object") = some true) (g7_NoGap : PySem.W.mroIn K e_NoGap (.type "BaseException") = some true)
   (v_NoGap : PySem.W.kitOne K (.ref e_NoGap) (.type "ValueError") = some true)
   (m_NoText : PySem.W.nsIn K mainGlobals "NoText" = some (some (.ref e_NoText)))
   (x_NoText : PySem.W.excIn K e_NoText VE "ValueError.__new__" = true)
   (g1_NoText : PySem.W.findIn K (.ref e_NoText) "__getattribute__" = some (some (.builtin "BaseException.__getattribute__"))) (g2_NoText : PySem.W.findIn K (.ref e_NoText) "__getattr__" = some none) (g3_NoText : PySem.W.findIn K (.ref e_NoText) "__class__" = some (some (.builtin "object.__class__")))
   (g4_NoText : PySem.W.specialIn K (.builtin "object.__class__") "__get__" = some (some (.builtin "getset_descriptor.__get__"))) (g5_NoText : PySem.W.takesIn K (.builtin "object.__class__") = some true) (g6_NoText : PySem.W.mroIn K e_NoText (.type "object") = some true) (g7_NoText : PySem.W.mroIn K e_NoText (.type "BaseException") = some true)
   (v_NoText : PySem.W.kitOne K (.ref e_NoText) (.type "ValueError") = some true)
   (m_NoTimes : PySem.W.nsIn K mainGlobals "NoTimes" = some (some (.ref e_NoTimes)))
   (x_NoTimes : PySem.W.excIn K e_NoTimes VE "ValueError.__new__" = true)
   (g1_NoTimes : PySem.W.findIn K (.ref e_NoTimes) "__getattribute__" = some (some (.builtin "BaseException.__getattribute__"))) (g2_NoTimes : PySem.W.findIn K (.ref e_NoTimes) "__getattr__" = some none) (g3_NoTimes : PySem.W.findIn K (.ref e_NoTimes) "__class__" = some (some (.builtin "object.__class__")))
   (g4_NoTimes : PySem.W.specialIn K (.builtin "object.__class__") "__get__" = some (some (.builtin "getset_descriptor.__get__"))) (g5_NoTimes : PySem.W.takesIn K (.builtin "object.__class__") = some true) (g6_NoTimes : PySem.W.mroIn K e_NoTimes (.type "object") = some true) (g7_NoTimes : PySem.W.mroIn K e_NoTimes (.type "BaseException") = some true)
   (v_NoTimes : PySem.W.kitOne K (.ref e_NoTimes) (.type "ValueError") = some true)
   (m_Empty : PySem.W.nsIn K mainGlobals "Empty" = some (some (.ref e_Empty)))
   (x_Empty : PySem.W.excIn K e_Empty VE "ValueError.__new__" = true)
   (g1_Empty : PySem.W.findIn K (.ref e_Empty) "__getattribute__" = some (some (.builtin "BaseException.__getattribute__"))) (g2_Empty : PySem.W.findIn K (.ref e_Empty) "__getattr__" = some none) (g3_Empty : PySem.W.findIn K (.ref e_Empty) "__class__" = some (some (.builtin "object.__class__")))
   (g4_Empty : PySem.W.specialIn K (.builtin "object.__class__") "__get__" = some (some (.builtin "getset_descriptor.__get__"))) (g5_Empty : PySem.W.takesIn K (.builtin "object.__class__") = some true) (g6_Empty : PySem.W.mroIn K e_Empty (.type "object") = some true) (g7_Empty : PySem.W.mroIn K e_Empty (.type "BaseException") = some true)
   (v_Empty : PySem.W.kitOne K (.ref e_Empty) (.type "ValueError") = some true)
   (m_TooLong : PySem.W.nsIn K mainGlobals "TooLong" = some (some (.ref e_TooLong)))
   (x_TooLong : PySem.W.excIn K e_TooLong VE "ValueError.__new__" = true)
   (g1_TooLong : PySem.W.findIn K (.ref e_TooLong) "__getattribute__" = some (some (.builtin "BaseException.__getattribute__"))) (g2_TooLong : PySem.W.findIn K (.ref e_TooLong) "__getattr__" = some none) (g3_TooLong : PySem.W.findIn K (.ref e_TooLong) "__class__" = some (some (.builtin "object.__class__")))
   (g4_TooLong : PySem.W.specialIn K (.builtin "object.__class__") "__get__" = some (some (.builtin "getset_descriptor.__get__"))) (g5_TooLong : PySem.W.takesIn K (.builtin "object.__class__") = some true) (g6_TooLong : PySem.W.mroIn K e_TooLong (.type "object") = some true) (g7_TooLong : PySem.W.mroIn K e_TooLong (.type "BaseException") = some true)
   (v_TooLong : PySem.W.kitOne K (.ref e_TooLong) (.type "ValueError") = some true)
   (m_NoName : PySem.W.nsIn K mainGlobals "NoName" = some (some (.ref e_NoName)))
   (x_NoName : PySem.W.excIn K e_NoName VE "ValueError.__new__" = true)
   (g1_NoName : PySem.W.findIn K (.ref e_NoName) "__getattribute__" = some (some (.builtin "BaseException.__getattribute__"))) (g2_NoName : PySem.W.findIn K (.ref e_NoName) "__getattr__" = some none) (g3_NoName : PySem.W.findIn K (.ref e_NoName) "__class__" = some (some (.builtin "object.__class__")))
   (g4_NoName : PySem.W.specialIn K (.builtin "object.__class__") "__get__" = some (some (.builtin "getset_descriptor.__get__"))) (g5_NoName : PySem.W.takesIn K (.builtin "object.__class__") = some true) (g6_NoName : PySem.W.mroIn K e_NoName (.type "object") = some true) (g7_NoName : PySem.W.mroIn K e_NoName (.type "BaseException") = some true)
   (v_NoName : PySem.W.kitOne K (.ref e_NoName) (.type "ValueError") = some true)
   (m_NoRow : PySem.W.nsIn K mainGlobals "NoRow" = some (some (.ref e_NoRow)))
   (x_NoRow : PySem.W.excIn K e_NoRow VE "ValueError.__new__" = true)
   (g1_NoRow : PySem.W.findIn K (.ref e_NoRow) "__getattribute__" = some (some (.builtin "BaseException.__getattribute__"))) (g2_NoRow : PySem.W.findIn K (.ref e_NoRow) "__getattr__" = some none) (g3_NoRow : PySem.W.findIn K (.ref e_NoRow) "__class__" = some (some (.builtin "object.__class__")))
   (g4_NoRow : PySem.W.specialIn K (.builtin "object.__class__") "__get__" = some (some (.builtin "getset_descriptor.__get__"))) (g5_NoRow : PySem.W.takesIn K (.builtin "object.__class__") = some true) (g6_NoRow : PySem.W.mroIn K e_NoRow (.type "object") = some true) (g7_NoRow : PySem.W.mroIn K e_NoRow (.type "BaseException") = some true)
   (v_NoRow : PySem.W.kitOne K (.ref e_NoRow) (.type "ValueError") = some true)
   (r_NoOrder_BackError : PySem.W.mroIn K e_NoOrder (.ref e_BackError) = some true)
   (t_NoOrder_NoOrder : PySem.W.kitOne K (.ref e_NoOrder) (.ref e_NoOrder) = some true)
   (t_NoOrder_NoPlace : PySem.W.kitOne K (.ref e_NoOrder) (.ref e_NoPlace) = some false)
   (t_NoOrder_NoGap : PySem.W.kitOne K (.ref e_NoOrder) (.ref e_NoGap) = some false)
   (t_NoOrder_NoText : PySem.W.kitOne K (.ref e_NoOrder) (.ref e_NoText) = some false)
   (t_NoOrder_NoTimes : PySem.W.kitOne K (.ref e_NoOrder) (.ref e_NoTimes) = some false)
   (t_NoOrder_Empty : PySem.W.kitOne K (.ref e_NoOrder) (.ref e_Empty) = some false)
   (t_NoOrder_TooLong : PySem.W.kitOne K (.ref e_NoOrder) (.ref e_TooLong) = some false)
   (t_NoOrder_NoName : PySem.W.kitOne K (.ref e_NoOrder) (.ref e_NoName) = some false)
   (t_NoOrder_NoRow : PySem.W.kitOne K (.ref e_NoOrder) (.ref e_NoRow) = some false)
   (r_NoPlace_BackError : PySem.W.mroIn K e_NoPlace (.ref e_BackError) = some true)
   (t_NoPlace_NoOrder : PySem.W.kitOne K (.ref e_NoPlace) (.ref e_NoOrder) = some false)
   (t_NoPlace_NoPlace : PySem.W.kitOne K (.ref e_NoPlace) (.ref e_NoPlace) = some true)
   (t_NoPlace_NoGap : PySem.W.kitOne K (.ref e_NoPlace) (.ref e_NoGap) = some false)
   (t_NoPlace_NoText : PySem.W.kitOne K (.ref e_NoPlace) (.ref e_NoText) = some false)
   (t_NoPlace_NoTimes : PySem.W.kitOne K (.ref e_NoPlace) (.ref e_NoTimes) = some false)
   (t_NoPlace_Empty : PySem.W.kitOne K (.ref e_NoPlace) (.ref e_Empty) = some false)
   (t_NoPlace_TooLong : PySem.W.kitOne K (.ref e_NoPlace) (.ref e_TooLong) = some false)
   (t_NoPlace_NoName : PySem.W.kitOne K (.ref e_NoPlace) (.ref e_NoName) = some false)
   (t_NoPlace_NoRow : PySem.W.kitOne K (.ref e_NoPlace) (.ref e_NoRow) = some false)
   (r_NoGap_BackError : PySem.W.mroIn K e_NoGap (.ref e_BackError) = some true)
   (t_NoGap_NoOrder : PySem.W.kitOne K (.ref e_NoGap) (.ref e_NoOrder) = some false)
   (t_NoGap_NoPlace : PySem.W.kitOne K (.ref e_NoGap) (.ref e_NoPlace) = some false)
   (t_NoGap_NoGap : PySem.W.kitOne K (.ref e_NoGap) (.ref e_NoGap) = some true)
   (t_NoGap_NoText : PySem.W.kitOne K (.ref e_NoGap) (.ref e_NoText) = some false)
   (t_NoGap_NoTimes : PySem.W.kitOne K (.ref e_NoGap) (.ref e_NoTimes) = some false)
   (t_NoGap_Empty : PySem.W.kitOne K (.ref e_NoGap) (.ref e_Empty) = some false)
   (t_NoGap_TooLong : PySem.W.kitOne K (.ref e_NoGap) (.ref e_TooLong) = some false)
   (t_NoGap_NoName : PySem.W.kitOne K (.ref e_NoGap) (.ref e_NoName) = some false)
   (t_NoGap_NoRow : PySem.W.kitOne K (.ref e_NoGap) (.ref e_NoRow) = some false)
   (r_NoText_BackError : PySem.W.mroIn K e_NoText (.ref e_BackError) = some true)
   (t_NoText_NoOrder : PySem.W.kitOne K (.ref e_NoText) (.ref e_NoOrder) = some false)
   (t_NoText_NoPlace : PySem.W.kitOne K (.ref e_NoText) (.ref e_NoPlace) = some false)
   (t_NoText_NoGap : PySem.W.kitOne K (.ref e_NoText) (.ref e_NoGap) = some false)
   (t_NoText_NoText : PySem.W.kitOne K (.ref e_NoText) (.ref e_NoText) = some true)
   (t_NoText_NoTimes : PySem.W.kitOne K (.ref e_NoText) (.ref e_NoTimes) = some false)
   (t_NoText_Empty : PySem.W.kitOne K (.ref e_NoText) (.ref e_Empty) = some false)
   (t_NoText_TooLong : PySem.W.kitOne K (.ref e_NoText) (.ref e_TooLong) = some false)
   (t_NoText_NoName : PySem.W.kitOne K (.ref e_NoText) (.ref e_NoName) = some false)
   (t_NoText_NoRow : PySem.W.kitOne K (.ref e_NoText) (.ref e_NoRow) = some false)
   (r_NoTimes_BackError : PySem.W.mroIn K e_NoTimes (.ref e_BackError) = some true)
   (t_NoTimes_NoOrder : PySem.W.kitOne K (.ref e_NoTimes) (.ref e_NoOrder) = some false)
   (t_NoTimes_NoPlace : PySem.W.kitOne K (.ref e_NoTimes) (.ref e_NoPlace) = some false)
   (t_NoTimes_NoGap : PySem.W.kitOne K (.ref e_NoTimes) (.ref e_NoGap) = some false)
   (t_NoTimes_NoText : PySem.W.kitOne K (.ref e_NoTimes) (.ref e_NoText) = some false)
   (t_NoTimes_NoTimes : PySem.W.kitOne K (.ref e_NoTimes) (.ref e_NoTimes) = some true)
   (t_NoTimes_Empty : PySem.W.kitOne K (.ref e_NoTimes) (.ref e_Empty) = some false)
   (t_NoTimes_TooLong : PySem.W.kitOne K (.ref e_NoTimes) (.ref e_TooLong) = some false)
   (t_NoTimes_NoName : PySem.W.kitOne K (.ref e_NoTimes) (.ref e_NoName) = some false)
   (t_NoTimes_NoRow : PySem.W.kitOne K (.ref e_NoTimes) (.ref e_NoRow) = some false)
   (r_Empty_BackError : PySem.W.mroIn K e_Empty (.ref e_BackError) = some true)
   (t_Empty_NoOrder : PySem.W.kitOne K (.ref e_Empty) (.ref e_NoOrder) = some false)
   (t_Empty_NoPlace : PySem.W.kitOne K (.ref e_Empty) (.ref e_NoPlace) = some false)
   (t_Empty_NoGap : PySem.W.kitOne K (.ref e_Empty) (.ref e_NoGap) = some false)
   (t_Empty_NoText : PySem.W.kitOne K (.ref e_Empty) (.ref e_NoText) = some false)
   (t_Empty_NoTimes : PySem.W.kitOne K (.ref e_Empty) (.ref e_NoTimes) = some false)
   (t_Empty_Empty : PySem.W.kitOne K (.ref e_Empty) (.ref e_Empty) = some true)
   (t_Empty_TooLong : PySem.W.kitOne K (.ref e_Empty) (.ref e_TooLong) = some false)
   (t_Empty_NoName : PySem.W.kitOne K (.ref e_Empty) (.ref e_NoName) = some false)
   (t_Empty_NoRow : PySem.W.kitOne K (.ref e_Empty) (.ref e_NoRow) = some false)
   (r_TooLong_BackError : PySem.W.mroIn K e_TooLong (.ref e_BackError) = some true)
   (t_TooLong_NoOrder : PySem.W.kitOne K (.ref e_TooLong) (.ref e_NoOrder) = some false)
   (t_TooLong_NoPlace : PySem.W.kitOne K (.ref e_TooLong) (.ref e_NoPlace) = some false)
   (t_TooLong_NoGap : PySem.W.kitOne K (.ref e_TooLong) (.ref e_NoGap) = some false)
   (t_TooLong_NoText : PySem.W.kitOne K (.ref e_TooLong) (.ref e_NoText) = some false)
   (t_TooLong_NoTimes : PySem.W.kitOne K (.ref e_TooLong) (.ref e_NoTimes) = some false)
   (t_TooLong_Empty : PySem.W.kitOne K (.ref e_TooLong) (.ref e_Empty) = some false)
   (t_TooLong_TooLong : PySem.W.kitOne K (.ref e_TooLong) (.ref e_TooLong) = some true)
   (t_TooLong_NoName : PySem.W.kitOne K (.ref e_TooLong) (.ref e_NoName) = some false)
   (t_TooLong_NoRow : PySem.W.kitOne K (.ref e_TooLong) (.ref e_NoRow) = some false)
   (r_NoName_BackError : PySem.W.mroIn K e_NoName (.ref e_BackError) = some true)
   (t_NoName_NoOrder : PySem.W.kitOne K (.ref e_NoName) (.ref e_NoOrder) = some false)
   (t_NoName_NoPlace : PySem.W.kitOne K (.ref e_NoName) (.ref e_NoPlace) = some false)
   (t_NoName_NoGap : PySem.W.kitOne K (.ref e_NoName) (.ref e_NoGap) = some false)
   (t_NoName_NoText : PySem.W.kitOne K (.ref e_NoName) (.ref e_NoText) = some false)
   (t_NoName_NoTimes : PySem.W.kitOne K (.ref e_NoName) (.ref e_NoTimes) = some false)
   (t_NoName_Empty : PySem.W.kitOne K (.ref e_NoName) (.ref e_Empty) = some false)
   (t_NoName_TooLong : PySem.W.kitOne K (.ref e_NoName) (.ref e_TooLong) = some false)
   (t_NoName_NoName : PySem.W.kitOne K (.ref e_NoName) (.ref e_NoName) = some true)
   (t_NoName_NoRow : PySem.W.kitOne K (.ref e_NoName) (.ref e_NoRow) = some false)
   (r_NoRow_BackError : PySem.W.mroIn K e_NoRow (.ref e_BackError) = some true)
   (t_NoRow_NoOrder : PySem.W.kitOne K (.ref e_NoRow) (.ref e_NoOrder) = some false)
   (t_NoRow_NoPlace : PySem.W.kitOne K (.ref e_NoRow) (.ref e_NoPlace) = some false)
   (t_NoRow_NoGap : PySem.W.kitOne K (.ref e_NoRow) (.ref e_NoGap) = some false)
   (t_NoRow_NoText : PySem.W.kitOne K (.ref e_NoRow) (.ref e_NoText) = some false)
   (t_NoRow_NoTimes : PySem.W.kitOne K (.ref e_NoRow) (.ref e_NoTimes) = some false)
   (t_NoRow_Empty : PySem.W.kitOne K (.ref e_NoRow) (.ref e_Empty) = some false)
   (t_NoRow_TooLong : PySem.W.kitOne K (.ref e_NoRow) (.ref e_TooLong) = some false)
   (t_NoRow_NoName : PySem.W.kitOne K (.ref e_NoRow) (.ref e_NoName) = some false)
   (t_NoRow_NoRow : PySem.W.kitOne K (.ref e_NoRow) (.ref e_NoRow) = some true)
   (aC_Letters : PySem.W.nsIn K mainGlobals "Letters" = some (some (.ref C_Letters))) (pg_Letters : PySem.W.plainGet K C_Letters Str.empty = true) (hd_Letters : PySem.W.hasDictIn K C_Letters = true) (po_Letters : PySem.W.plainOver K C_Letters = true) (sa_Letters : PySem.W.findIn K (.ref C_Letters) "__setattr__" = some (some (.builtin "object.__setattr__"))) (mk_Letters : PySem.W.makesIn K C_Letters = true) (kc_Letters : PySem.W.keepIn K (.ref C_Letters) = true)
   (na_Letters_column : PySem.W.findIn K (.ref C_Letters) "column" = some none)
   (na_Letters_forths : PySem.W.findIn K (.ref C_Letters) "forths" = some none)
   (na_Letters_home : PySem.W.findIn K (.ref C_Letters) "home" = some none)
   (na_Letters_last : PySem.W.findIn K (.ref C_Letters) "last" = some none)
   (na_Letters_totals : PySem.W.findIn K (.ref C_Letters) "totals" = some none)
   (aC_Desk : PySem.W.nsIn K mainGlobals "Desk" = some (some (.ref C_Desk))) (pg_Desk : PySem.W.plainGet K C_Desk Str.empty = true) (hd_Desk : PySem.W.hasDictIn K C_Desk = true) (po_Desk : PySem.W.plainOver K C_Desk = true) (sa_Desk : PySem.W.findIn K (.ref C_Desk) "__setattr__" = some (some (.builtin "object.__setattr__"))) (mk_Desk : PySem.W.makesIn K C_Desk = true) (kc_Desk : PySem.W.keepIn K (.ref C_Desk) = true)
   (na_Desk_texts : PySem.W.findIn K (.ref C_Desk) "texts" = some none)
   (aC_Marks : PySem.W.nsIn K mainGlobals "Marks" = some (some (.ref C_Marks))) (pg_Marks : PySem.W.plainGet K C_Marks Str.empty = true) (hd_Marks : PySem.W.hasDictIn K C_Marks = true) (po_Marks : PySem.W.plainOver K C_Marks = true) (sa_Marks : PySem.W.findIn K (.ref C_Marks) "__setattr__" = some (some (.builtin "object.__setattr__"))) (mk_Marks : PySem.W.makesIn K C_Marks = true) (kc_Marks : PySem.W.keepIn K (.ref C_Marks) = true)
   (na_Marks_gap : PySem.W.findIn K (.ref C_Marks) "gap" = some none)
   (na_Marks_held : PySem.W.findIn K (.ref C_Marks) "held" = some none)
   (na_Marks_marks : PySem.W.findIn K (.ref C_Marks) "marks" = some none)
   {tk_MOST_SIGNS : Tok} (gc_MOST_SIGNS : PySem.W.nsIn K mainGlobals "MOST_SIGNS" = some (some (.int 300 tk_MOST_SIGNS)))
   {tk_NO_LETTER : Tok} (gc_NO_LETTER : PySem.W.nsIn K mainGlobals "NO_LETTER" = some (some (.str "\n" tk_NO_LETTER)))
   {A_FORMS : Addr} (b_FORMS : PySem.W.nsIn K mainGlobals "FORMS" = some (some (.ref A_FORMS)))
   (d_FORMS : TopD K w.params A_FORMS kv_FORMS)
   {A_KEEPING : Addr} (b_KEEPING : PySem.W.nsIn K mainGlobals "KEEPING" = some (some (.ref A_KEEPING)))
   (d_KEEPING : TopT K A_KEEPING xs_KEEPING)
   {A_ANSWERS : Addr} (b_ANSWERS : PySem.W.nsIn K mainGlobals "ANSWERS" = some (some (.ref A_ANSWERS)))
   {fa_answer_load fa_answer_ahead fa_answer_drop fa_answer_off fa_answer_pack fa_answer_count fa_answer_find fa_answer_near fa_answer_often fa_answer_kinds fa_answer_lone fa_answer_cut fa_answer_both : Addr}
   (d_ANSWERS : TopD K w.params A_ANSWERS [("keep", .ref f_p_answer_keep), ("load", .ref fa_answer_load), ("ahead", .ref fa_answer_ahead), ("drop", .ref fa_answer_drop), ("off", .ref fa_answer_off), ("text", .ref f_p_answer_text), ("pack", .ref fa_answer_pack), ("count", .ref fa_answer_count), ("find", .ref fa_answer_find), ("near", .ref fa_answer_near), ("often", .ref fa_answer_often), ("kinds", .ref fa_answer_kinds), ("lone", .ref fa_answer_lone), ("cut", .ref fa_answer_cut), ("both", .ref fa_answer_both)])
   (z_ValueError : PySem.W.nsIn K mainGlobals "ValueError" = some none)
   (z_dict : PySem.W.nsIn K mainGlobals "dict" = some none)
   (z_enumerate : PySem.W.nsIn K mainGlobals "enumerate" = some none)
   (z_int : PySem.W.nsIn K mainGlobals "int" = some none)
   (z_isinstance : PySem.W.nsIn K mainGlobals "isinstance" = some none)
   (z_len : PySem.W.nsIn K mainGlobals "len" = some none)
   (z_max : PySem.W.nsIn K mainGlobals "max" = some none)
   (z_min : PySem.W.nsIn K mainGlobals "min" = some none)
   (z_range : PySem.W.nsIn K mainGlobals "range" = some none)
   (z_reversed : PySem.W.nsIn K mainGlobals "reversed" = some none)
   (z_set : PySem.W.nsIn K mainGlobals "set" = some none)
   (z_sorted : PySem.W.nsIn K mainGlobals "sorted" = some none)
   (z_zip : PySem.W.nsIn K mainGlobals "zip" = some none)
   {ts : List Addr} (hts : ∀ p ∈ ts, p = tb_m_Letters_init ∨ p = tb_p_order_of)
   : (∀ p ∈ ts, K.lookup p = none ∧ ∃ c, PySem.W.codeHdIn K c p = true) ∧ ∃ fd : FuncData, (∀ (s : Shared) (v : Value), BindsTo s fd ⟨[v], []⟩ [("_law_script", v)]) ∧ ∀ base : Heap, K.In base → base.Ns mainGlobals mg → BmAt mg base → FnOk l.prog w K mg base CX0 9 fa fd P_law (sp_law K tb_m_Letters_init tb_p_order_of) := by
 have e := hfa.symm.trans (PySem.W.mg_of X G a_d21)
 cases e
 have B : Bn mg := ⟨PySem.W.mg_none_of X G z_ValueError, PySem.W.mg_none_of X G z_dict, PySem.W.mg_none_of X G z_enumerate, PySem.W.mg_none_of X G z_int, PySem.W.mg_none_of X G z_isinstance, PySem.W.mg_none_of X G z_len, PySem.W.mg_none_of X G z_max, PySem.W.mg_none_of X G z_min, PySem.W.mg_none_of X G z_range, PySem.W.mg_none_of X G z_reversed, PySem.W.mg_none_of X G z_set, PySem.W.mg_none_of X G z_sorted, PySem.W.mg_none_of X G z_zip⟩
 have ER : Er K mg ⟨e_BackError, e_NoOrder, e_NoPlace, e_NoGap, e_NoText, e_NoTimes, e_Empty, e_TooLong, e_NoName, e_NoRow⟩ := ⟨PySem.W.mg_of X G m_BackError, x_BackError, PySem.W.mg_of X G m_NoOrder, x_NoOrder, ⟨g1_NoOrder, g2_NoOrder, g3_NoOrder, g4_NoOrder, g5_NoOrder, g6_NoOrder, g7_NoOrder⟩, v_NoOrder, mro_at r_NoOrder_BackError, t_NoOrder_NoOrder, t_NoOrder_NoPlace, t_NoOrder_NoGap, t_NoOrder_NoText, t_NoOrder_NoTimes, t_NoOrder_Empty, t_NoOrder_TooLong, t_NoOrder_NoName, t_NoOrder_NoRow, PySem.W.mg_of X G m_NoPlace, x_NoPlace, ⟨g1_NoPlace, g2_NoPlace, g3_NoPlace, g4_NoPlace, g5_NoPlace, g6_NoPlace, g7_NoPlace⟩, v_NoPlace, mro_at r_NoPlace_BackError, t_NoPlace_NoOrder, t_NoPlace_NoPlace, t_NoPlace_NoGap, t_NoPlace_NoText, t_NoPlace_NoTimes, t_NoPlace_Empty, t_NoPlace_TooLong, t_NoPlace_NoName, t_NoPlace_NoRow, PySem.W.mg_of X G m_NoGap, x_NoGap, ⟨g1_NoGap, g2_NoGap, g3_NoGap, g4_NoGap, g5_NoGap, g6_NoGap, g7_NoGap⟩, v_NoGap, mro_at r_NoGap_BackError, t_NoGap_NoOrder, t_NoGap_NoPlace, t_NoGap_NoGap, t_NoGap_NoText, t_NoGap_NoTimes, t_NoGap_Empty, t_NoGap_TooLong, t_NoGap_NoName, t_NoGap_NoRow, PySem.W.mg_of X G m_NoText, x_NoText, ⟨g1_NoText, g2_NoText, g3_NoText, g4_NoText, g5_NoText, g6_NoText, g7_NoText⟩, v_NoText, mro_at r_NoText_BackError, t_NoText_NoOrder, t_NoText_NoPlace, t_NoText_NoGap, t_NoText_NoText, t_NoText_NoTimes, t_NoText_Empty, t_NoText_TooLong, t_NoText_NoName, t_NoText_NoRow, PySem.W.mg_of X G m_NoTimes, x_NoTimes, ⟨g1_NoTimes, g2_NoTimes, g3_NoTimes, g4_NoTimes, g5_NoTimes, g6_NoTimes, g7_NoTimes⟩, v_NoTimes, mro_at r_NoTimes_BackError, t_NoTimes_NoOrder, t_NoTimes_NoPlace, t_NoTimes_NoGap, t_NoTimes_NoText, t_NoTimes_NoTimes, t_NoTimes_Empty, t_NoTimes_TooLong, t_NoTimes_NoName, t_NoTimes_NoRow, PySem.W.mg_of X G m_Empty, x_Empty, ⟨g1_Empty, g2_Empty, g3_Empty, g4_Empty, g5_Empty, g6_Empty, g7_Empty⟩, v_Empty, mro_at r_Empty_BackError, t_Empty_NoOrder, t_Empty_NoPlace, t_Empty_NoGap, t_Empty_NoText, t_Empty_NoTimes, t_Empty_Empty, t_Empty_TooLong, t_Empty_NoName, t_Empty_NoRow, PySem.W.mg_of X G m_TooLong, x_TooLong, ⟨g1_TooLong, g2_TooLong, g3_TooLong, g4_TooLong, g5_TooLong, g6_TooLong, g7_TooLong⟩, v_TooLong, mro_at r_TooLong_BackError, t_TooLong_NoOrder, t_TooLong_NoPlace, t_TooLong_NoGap, t_TooLong_NoText, t_TooLong_NoTimes, t_TooLong_Empty, t_TooLong_TooLong, t_TooLong_NoName, t_TooLong_NoRow, PySem.W.mg_of X G m_NoName, x_NoName, ⟨g1_NoName, g2_NoName, g3_NoName, g4_NoName, g5_NoName, g6_NoName, g7_NoName⟩, v_NoName, mro_at r_NoName_BackError, t_NoName_NoOrder, t_NoName_NoPlace, t_NoName_NoGap, t_NoName_NoText, t_NoName_NoTimes, t_NoName_Empty, t_NoName_TooLong, t_NoName_NoName, t_NoName_NoRow, PySem.W.mg_of X G m_NoRow, x_NoRow, ⟨g1_NoRow, g2_NoRow, g3_NoRow, g4_NoRow, g5_NoRow, g6_NoRow, g7_NoRow⟩, v_NoRow, mro_at r_NoRow_BackError, t_NoRow_NoOrder, t_NoRow_NoPlace, t_NoRow_NoGap, t_NoRow_NoText, t_NoRow_NoTimes, t_NoRow_Empty, t_NoRow_TooLong, t_NoRow_NoName, t_NoRow_NoRow⟩
 have CF : Cf K C_Letters C_Desk C_Marks := ⟨⟨pg_Letters, hd_Letters, po_Letters, sa_Letters⟩, na_Letters_column, na_Letters_forths, na_Letters_home, na_Letters_last, na_Letters_totals, ⟨pg_Desk, hd_Desk, po_Desk, sa_Desk⟩, na_Desk_texts, ⟨pg_Marks, hd_Marks, po_Marks, sa_Marks⟩, na_Marks_gap, na_Marks_held, na_Marks_marks⟩
 have GC : Gc mg := ⟨⟨_, PySem.W.mg_of X G gc_MOST_SIGNS⟩, ⟨_, PySem.W.mg_of X G gc_NO_LETTER⟩⟩
 have TP : Tp K w.params mg A_FORMS A_KEEPING A_ANSWERS := ⟨PySem.W.mg_of X G b_FORMS, d_FORMS, PySem.W.mg_of X G b_KEEPING, d_KEEPING, PySem.W.mg_of X G b_ANSWERS, topF_mk d_ANSWERS (by intro p hp; simp only [kn_ANSWERS, List.mem_cons, List.not_mem_nil, or_false] at hp; rcases hp with rfl | rfl; exact ⟨_, PySem.W.mg_of X G a_d12, by kernel_rfl⟩; exact ⟨_, PySem.W.mg_of X G a_d13, by kernel_rfl⟩)⟩
 have F_d0 := fun_mk (st := s_p_check_place) l_d0 c_d0 k_d0
 have F_d1 := fun_mk (st := s_p_check_gap) l_d1 c_d1 k_d1
 have F_d2 := fun_mk (st := s_p_number_in) l_d2 c_d2 k_d2
 have F_d3 := fun_mk (st := s_p_order_of) l_d3 c_d3 k_d3
 have F_d4 := fun_mk (st := s_p_rows_of) l_d4 c_d4 k_d4
 have F_d5 := fun_mk (st := s_p_road_of) l_d5 c_d5 k_d5
 have F_d6 := fun_mk (st := s_p_read_back) l_d6 c_d6 k_d6
 have F_d7 := fund_mk (st := s_p_longest_often) l_d7 c_d7 k_d7
 have F_d8 := fun_mk (st := s_p_read_row) l_d8 c_d8 k_d8
 have F_d9 := fun_mk (st := s_p_is_name) l_d9 c_d9 k_d9
 have F_d10 := fun_mk (st := s_p_check_names) l_d10 c_d10 k_d10
 have F_d11 := fun_mk (st := s_p_keep_text) l_d11 c_d11 k_d11
 have F_d12 := fun_mk (st := s_p_answer_keep) l_d12 c_d12 k_d12
 have F_d13 := fun_mk (st := s_p_answer_text) l_d13 c_d13 k_d13
 have F_d14 := fun_mk (st := s_p_taken_off) l_d14 c_d14 k_d14
 have F_d15 := fun_mk (st := s_w_cell_at) l_d15 c_d15 k_d15
 have F_d16 := fun_mk (st := s_w_mixed) l_d16 c_d16 k_d16
 have F_d17 := fun_mk (st := s_w_signs) l_d17 c_d17 k_d17
 have F_d18 := fun_mk (st := s_w_which) l_d18 c_d18 k_d18
 have F_d19 := fun_mk (st := s_w_tried) l_d19 c_d19 k_d19
 have F_d20 := fun_mk (st := s_w_word) l_d20 c_d20 k_d20
 have F_d21 := fun_mk (st := s_law) l_d21 c_d21 k_d21
 have F_d22 := fun_mk (st := s_m_Letters_init) l_d22 c_d22 k_d22
 have F_d23 := fun_mk (st := s_m_Desk_init) l_d23 c_d23 k_d23
 have F_d24 := fun_mk (st := s_m_Desk_say) l_d24 c_d24 k_d24
 have F_d25 := fun_mk (st := s_m_Marks_init) l_d25 c_d25 k_d25
 refine ⟨fun p hp => ?_, ?_⟩
 · rcases hts p hp with rfl | rfl
   · exact ⟨n_d22, _, h_d22⟩
   · exact ⟨n_d3, _, h_d3⟩
 refine ⟨PySem.W.fnOf "law" "law" (defArgs s_law) (defBody s_law) (defScope s_law) .none kV_d21 dc_d21 pm_d21 an_d21 cd_d21 ct_d21, fun s v => .of_eq rfl, fun base kb nb bm => ?_⟩
 have LM_m_Letters_init : Lm mg base cA_d22 tb_m_Letters_init := ⟨PySem.W.codeHd_of_K kb h_d22, bm⟩
 have LM_p_order_of : Lm mg base cA_d3 tb_p_order_of := ⟨PySem.W.codeHd_of_K kb h_d3, bm⟩
 have b_d15 := F_d15.binds (ps := P_w_cell_at) fun _ _ _ _ _ _ us hl => by obtain ⟨_, _, rfl⟩ := us2 hl; exact rfl
 have G_w_cell_at : Fn l.prog w K mg base 1 "_law_cell_at" P_w_cell_at (sp_w_cell_at K) := ⟨⟨f_w_cell_at, _, ok_w_cell_at F_d15 B ER TP CF GC , PySem.W.mg_of X G a_d15, k_d15, b_d15⟩⟩
 have b_d16 := F_d16.binds (ps := P_w_mixed) fun _ _ _ _ _ _ us hl => by obtain ⟨_, _, _, rfl⟩ := us3 hl; exact rfl
 have G_w_mixed : Fn l.prog w K mg base 1 "_law_mixed" P_w_mixed (sp_w_mixed K) := ⟨⟨f_w_mixed, _, ok_w_mixed F_d16 B ER TP CF GC , PySem.W.mg_of X G a_d16, k_d16, b_d16⟩⟩
 have b_d17 := F_d17.binds (ps := P_w_signs) fun _ _ _ _ _ _ us hl => by obtain rfl := us0 hl; exact rfl
 have G_w_signs : Fn l.prog w K mg base 1 "_law_signs" P_w_signs (sp_w_signs K) := ⟨⟨f_w_signs, _, ok_w_signs F_d17 B ER TP CF GC , PySem.W.mg_of X G a_d17, k_d17, b_d17⟩⟩
 have b_d18 := F_d18.binds (ps := P_w_which) fun _ _ _ _ _ _ us hl => by obtain ⟨_, rfl⟩ := us1 hl; exact rfl
 have G_w_which : FnZ l.prog w K mg base 1 "_law_which" P_w_which (sp_w_which K ⟨e_BackError, e_NoOrder, e_NoPlace, e_NoGap, e_NoText, e_NoTimes, e_Empty, e_TooLong, e_NoName, e_NoRow⟩) := ⟨⟨f_w_which, _, ok_w_which F_d18 B ER TP CF GC , PySem.W.mg_of X G a_d18, k_d18, b_d18⟩⟩
 have b_d4 := F_d4.binds (ps := P_p_rows_of) fun _ _ _ _ _ _ us hl => by obtain ⟨_, rfl⟩ := us1 hl; exact rfl
 have G_p_rows_of : FnX l.prog w K mg base 1 "rows_of" P_p_rows_of (sp_p_rows_of K ⟨e_BackError, e_NoOrder, e_NoPlace, e_NoGap, e_NoText, e_NoTimes, e_Empty, e_TooLong, e_NoName, e_NoRow⟩) := ⟨⟨f_p_rows_of, _, ok_p_rows_of F_d4 B ER TP CF GC , PySem.W.mg_of X G a_d4, k_d4, b_d4⟩⟩
 have b_d0 := F_d0.binds (ps := P_p_check_place) fun _ _ _ _ _ _ us hl => by obtain ⟨_, _, rfl⟩ := us2 hl; exact rfl
 have G_p_check_place : FnX l.prog w K mg base 1 "check_place" P_p_check_place (sp_p_check_place K ⟨e_BackError, e_NoOrder, e_NoPlace, e_NoGap, e_NoText, e_NoTimes, e_Empty, e_TooLong, e_NoName, e_NoRow⟩) := ⟨⟨f_p_check_place, _, ok_p_check_place F_d0 B ER TP CF GC , PySem.W.mg_of X G a_d0, k_d0, b_d0⟩⟩
 have b_d22 := F_d22.binds (ps := P_m_Letters_init) fun _ _ _ _ _ _ us hl => by obtain ⟨_, _, _, rfl⟩ := us3 hl; exact rfl
 have MK_Letters : Mkr l.prog w K mg base (CX1 l.prog w) 3 "Letters" C_Letters P_m_Letters_init [] (sp_m_Letters_init K ⟨e_BackError, e_NoOrder, e_NoPlace, e_NoGap, e_NoText, e_NoTimes, e_Empty, e_TooLong, e_NoName, e_NoRow⟩ C_Letters tb_m_Letters_init) := ⟨⟨f_m_Letters_init, _, [], ok_m_Letters_init F_d22 B LM_m_Letters_init rfl ER TP CF GC G_p_check_place, ⟨mk_Letters, a_d22, i_d22, kc_Letters⟩, b_d22, .nil⟩, PySem.W.mg_of X G aC_Letters⟩
 have b_d5 := F_d5.binds (ps := P_p_road_of) fun _ _ _ _ _ _ us hl => by obtain ⟨_, _, rfl⟩ := us2 hl; exact rfl
 have G_p_road_of : FnX l.prog w K mg base 5 "road_of" P_p_road_of (sp_p_road_of K ⟨e_BackError, e_NoOrder, e_NoPlace, e_NoGap, e_NoText, e_NoTimes, e_Empty, e_TooLong, e_NoName, e_NoRow⟩ C_Letters tb_m_Letters_init) := ⟨⟨f_p_road_of, _, ok_p_road_of F_d5 B ER TP CF GC MK_Letters, PySem.W.mg_of X G a_d5, k_d5, b_d5⟩⟩
 have b_d6 := F_d6.binds (ps := P_p_read_back) fun _ _ _ _ _ _ us hl => by obtain ⟨_, _, rfl⟩ := us2 hl; exact rfl
 have G_p_read_back : FnX l.prog w K mg base 6 "read_back" P_p_read_back (sp_p_read_back K ⟨e_BackError, e_NoOrder, e_NoPlace, e_NoGap, e_NoText, e_NoTimes, e_Empty, e_TooLong, e_NoName, e_NoRow⟩ C_Letters tb_m_Letters_init) := ⟨⟨f_p_read_back, _, ok_p_read_back F_d6 B ER TP CF GC G_p_road_of, PySem.W.mg_of X G a_d6, k_d6, b_d6⟩⟩
 have b_d3 := F_d3.binds (ps := P_p_order_of) fun _ _ _ _ _ _ us hl => by obtain ⟨_, rfl⟩ := us1 hl; exact rfl
 have G_p_order_of : Fn l.prog w K mg base 3 "order_of" P_p_order_of (sp_p_order_of K tb_p_order_of) := ⟨⟨f_p_order_of, _, ok_p_order_of F_d3 B LM_p_order_of rfl ER TP CF GC , PySem.W.mg_of X G a_d3, k_d3, b_d3⟩⟩
 have b_d7 := F_d7.binds (ps := P_p_longest_often) (ds := []) q_p_longest_often fun _ _ _ _ _ _ us hl => by obtain ⟨_, _, rfl⟩ := us2 hl; exact ⟨_, rfl, rfl⟩
 have bd_p_longest_often := F_d7.binds (ps := P_p_longest_often) (ds := [.int 2 qt_p_longest_often]) q_p_longest_often fun _ _ _ _ _ _ us hl => by obtain ⟨_, rfl⟩ := us1 (Nat.succ.inj hl); exact ⟨_, rfl, rfl⟩
 have G_p_longest_often : FnX l.prog w K mg base 4 "longest_often" P_p_longest_often (sp_p_longest_often K ⟨e_BackError, e_NoOrder, e_NoPlace, e_NoGap, e_NoText, e_NoTimes, e_Empty, e_TooLong, e_NoName, e_NoRow⟩ tb_p_order_of) := ⟨⟨f_p_longest_often, _, ok_p_longest_often F_d7 B ER TP CF GC G_p_order_of, PySem.W.mg_of X G a_d7, k_d7, b_d7⟩⟩
 have Gd_p_longest_often : FnD l.prog w K mg base 4 "longest_often" P_p_longest_often [.int 2] (fun vs H Q _ => (sp_p_longest_often K ⟨e_BackError, e_NoOrder, e_NoPlace, e_NoGap, e_NoText, e_NoTimes, e_Empty, e_TooLong, e_NoName, e_NoRow⟩ tb_p_order_of) vs H Q E0) := ⟨⟨f_p_longest_often, _, [.int 2 qt_p_longest_often], quietX (ok_p_longest_often F_d7 B ER TP CF GC G_p_order_of), PySem.W.mg_of X G a_d7, k_d7, bd_p_longest_often, .cons ⟨_, rfl⟩ .nil⟩⟩
 have Gk_p_longest_often : FnK l.prog w K mg base 4 "longest_often" P_p_longest_often "times" (fun vs H Q _ => (sp_p_longest_often K ⟨e_BackError, e_NoOrder, e_NoPlace, e_NoGap, e_NoText, e_NoTimes, e_Empty, e_TooLong, e_NoName, e_NoRow⟩ tb_p_order_of) vs H Q E0) := ⟨⟨f_p_longest_often, _, quietX (ok_p_longest_often F_d7 B ER TP CF GC G_p_order_of), PySem.W.mg_of X G a_d7, k_d7, F_d7.bindsK1 q_p_longest_often fun _ _ _ _ _ _ _ _ => ⟨_, rfl, rfl⟩⟩⟩
 have b_d14 := F_d14.binds (ps := P_p_taken_off) fun _ _ _ _ _ _ us hl => by obtain ⟨_, _, rfl⟩ := us2 hl; exact rfl
 have G_p_taken_off : FnX l.prog w K mg base 5 "taken_off" P_p_taken_off (sp_p_taken_off K ⟨e_BackError, e_NoOrder, e_NoPlace, e_NoGap, e_NoText, e_NoTimes, e_Empty, e_TooLong, e_NoName, e_NoRow⟩ C_Letters tb_m_Letters_init) := ⟨⟨f_p_taken_off, _, ok_p_taken_off F_d14 B ER TP CF GC MK_Letters, PySem.W.mg_of X G a_d14, k_d14, b_d14⟩⟩
 have b_d23 := F_d23.binds (ps := P_m_Desk_init) fun _ _ _ _ _ _ us hl => by obtain ⟨_, rfl⟩ := us1 hl; exact rfl
 have MK_Desk : Mkr l.prog w K mg base CX0 1 "Desk" C_Desk P_m_Desk_init [] (sp_m_Desk_init K C_Desk) := ⟨⟨f_m_Desk_init, _, [], ok_m_Desk_init F_d23 B ER TP CF GC , ⟨mk_Desk, a_d23, i_d23, kc_Desk⟩, b_d23, .nil⟩, PySem.W.mg_of X G aC_Desk⟩
 have b_d2 := F_d2.binds (ps := P_p_number_in) fun _ _ _ _ _ _ us hl => by obtain ⟨_, rfl⟩ := us1 hl; exact rfl
 have G_p_number_in : FnX l.prog w K mg base 1 "number_in" P_p_number_in (sp_p_number_in K ⟨e_BackError, e_NoOrder, e_NoPlace, e_NoGap, e_NoText, e_NoTimes, e_Empty, e_TooLong, e_NoName, e_NoRow⟩) := ⟨⟨f_p_number_in, _, ok_p_number_in F_d2 B ER TP CF GC , PySem.W.mg_of X G a_d2, k_d2, b_d2⟩⟩
 have b_d8 := F_d8.binds (ps := P_p_read_row) fun _ _ _ _ _ _ us hl => by obtain ⟨_, rfl⟩ := us1 hl; exact rfl
 have G_p_read_row : FnX l.prog w K mg base 2 "read_row" P_p_read_row (sp_p_read_row K ⟨e_BackError, e_NoOrder, e_NoPlace, e_NoGap, e_NoText, e_NoTimes, e_Empty, e_TooLong, e_NoName, e_NoRow⟩) := ⟨⟨f_p_read_row, _, ok_p_read_row F_d8 B ER TP CF GC G_p_number_in, PySem.W.mg_of X G a_d8, k_d8, b_d8⟩⟩
 have b_d9 := F_d9.binds (ps := P_p_is_name) fun _ _ _ _ _ _ us hl => by obtain ⟨_, rfl⟩ := us1 hl; exact rfl
 have G_p_is_name : Fn l.prog w K mg base 1 "is_name" P_p_is_name (sp_p_is_name K) := ⟨⟨f_p_is_name, _, ok_p_is_name F_d9 B ER TP CF GC , PySem.W.mg_of X G a_d9, k_d9, b_d9⟩⟩
 have b_d10 := F_d10.binds (ps := P_p_check_names) fun _ _ _ _ _ _ us hl => by obtain ⟨_, _, rfl⟩ := us2 hl; exact rfl
 have G_p_check_names : FnX l.prog w K mg base 2 "check_names" P_p_check_names (sp_p_check_names K ⟨e_BackError, e_NoOrder, e_NoPlace, e_NoGap, e_NoText, e_NoTimes, e_Empty, e_TooLong, e_NoName, e_NoRow⟩) := ⟨⟨f_p_check_names, _, ok_p_check_names F_d10 B ER TP CF GC G_p_is_name, PySem.W.mg_of X G a_d10, k_d10, b_d10⟩⟩
 have b_d11 := F_d11.binds (ps := P_p_keep_text) fun _ _ _ _ _ _ us hl => by obtain ⟨_, _, _, rfl⟩ := us3 hl; exact rfl
 have G_p_keep_text : FnX l.prog w K mg base 1 "keep_text" P_p_keep_text (sp_p_keep_text K ⟨e_BackError, e_NoOrder, e_NoPlace, e_NoGap, e_NoText, e_NoTimes, e_Empty, e_TooLong, e_NoName, e_NoRow⟩) := ⟨⟨f_p_keep_text, _, ok_p_keep_text F_d11 B ER TP CF GC , PySem.W.mg_of X G a_d11, k_d11, b_d11⟩⟩
 have b_d12 := F_d12.binds (ps := P_p_answer_keep) fun _ _ _ _ _ _ us hl => by obtain ⟨_, _, rfl⟩ := us2 hl; exact rfl
 have G_p_answer_keep : FnX l.prog w K mg base 2 "answer_keep" P_p_answer_keep (sp_p_answer_keep K ⟨e_BackError, e_NoOrder, e_NoPlace, e_NoGap, e_NoText, e_NoTimes, e_Empty, e_TooLong, e_NoName, e_NoRow⟩) := ⟨⟨f_p_answer_keep, _, ok_p_answer_keep F_d12 B ER TP CF GC G_p_keep_text, PySem.W.mg_of X G a_d12, k_d12, b_d12⟩⟩
 have b_d13 := F_d13.binds (ps := P_p_answer_text) fun _ _ _ _ _ _ us hl => by obtain ⟨_, _, rfl⟩ := us2 hl; exact rfl
 have G_p_answer_text : FnX l.prog w K mg base 1 "answer_text" P_p_answer_text (sp_p_answer_text K ⟨e_BackError, e_NoOrder, e_NoPlace, e_NoGap, e_NoText, e_NoTimes, e_Empty, e_TooLong, e_NoName, e_NoRow⟩) := ⟨⟨f_p_answer_text, _, ok_p_answer_text F_d13 B ER TP CF GC , PySem.W.mg_of X G a_d13, k_d13, b_d13⟩⟩
 have b_d24 := F_d24.binds (ps := P_m_Desk_say) fun _ _ _ _ _ _ us hl => by obtain ⟨_, _, rfl⟩ := us2 hl; exact rfl
 have M_m_Desk_say : Md l.prog w K mg base (CX1 l.prog w) 3 C_Desk "say" P_m_Desk_say [] (sp_m_Desk_say K ⟨e_BackError, e_NoOrder, e_NoPlace, e_NoGap, e_NoText, e_NoTimes, e_Empty, e_TooLong, e_NoName, e_NoRow⟩ C_Desk) := ⟨⟨f_m_Desk_say, _, [], ok_m_Desk_say F_d24 B ER TP CF GC G_p_read_row G_p_check_names G_p_answer_keep G_p_answer_text, ⟨a_d24, i_d24, k_d24⟩, b_d24, .nil⟩, CF.cl_Desk⟩
 have b_d1 := F_d1.binds (ps := P_p_check_gap) fun _ _ _ _ _ _ us hl => by obtain ⟨_, rfl⟩ := us1 hl; exact rfl
 have G_p_check_gap : FnX l.prog w K mg base 1 "check_gap" P_p_check_gap (sp_p_check_gap K ⟨e_BackError, e_NoOrder, e_NoPlace, e_NoGap, e_NoText, e_NoTimes, e_Empty, e_TooLong, e_NoName, e_NoRow⟩) := ⟨⟨f_p_check_gap, _, ok_p_check_gap F_d1 B ER TP CF GC , PySem.W.mg_of X G a_d1, k_d1, b_d1⟩⟩
 have b_d25 := F_d25.binds (ps := P_m_Marks_init) fun _ _ _ _ _ _ us hl => by obtain ⟨_, _, _, _, rfl⟩ := us4 hl; exact rfl
 have MK_Marks : Mkr l.prog w K mg base (CX1 l.prog w) 5 "Marks" C_Marks P_m_Marks_init [] (sp_m_Marks_init K ⟨e_BackError, e_NoOrder, e_NoPlace, e_NoGap, e_NoText, e_NoTimes, e_Empty, e_TooLong, e_NoName, e_NoRow⟩ C_Letters C_Marks tb_m_Letters_init) := ⟨⟨f_m_Marks_init, _, [], ok_m_Marks_init F_d25 B ER TP CF GC G_p_check_gap MK_Letters, ⟨mk_Marks, a_d25, i_d25, kc_Marks⟩, b_d25, .nil⟩, PySem.W.mg_of X G aC_Marks⟩
 have b_d19 := F_d19.binds (ps := P_w_tried) fun _ _ _ _ _ _ us hl => by obtain ⟨_, _, _, rfl⟩ := us3 hl; exact rfl
 have G_w_tried : FnX l.prog w K mg base 7 "_law_tried" P_w_tried (sp_w_tried K ⟨e_BackError, e_NoOrder, e_NoPlace, e_NoGap, e_NoText, e_NoTimes, e_Empty, e_TooLong, e_NoName, e_NoRow⟩ C_Letters C_Desk C_Marks tb_m_Letters_init tb_p_order_of) := ⟨⟨f_w_tried, _, ok_w_tried F_d19 B ER TP CF GC G_p_rows_of G_p_read_back G_p_longest_often Gd_p_longest_often Gk_p_longest_often G_p_taken_off MK_Letters MK_Desk M_m_Desk_say MK_Marks, PySem.W.mg_of X G a_d19, k_d19, b_d19⟩⟩
 have b_d20 := F_d20.binds (ps := P_w_word) fun _ _ _ _ _ _ us hl => by obtain ⟨_, _, _, rfl⟩ := us3 hl; exact rfl
 have G_w_word : Fn l.prog w K mg base 8 "_law_word" P_w_word (sp_w_word K C_Letters C_Desk C_Marks tb_m_Letters_init tb_p_order_of) := ⟨⟨f_w_word, _, ok_w_word F_d20 B ER TP CF GC G_w_which G_w_tried, PySem.W.mg_of X G a_d20, k_d20, b_d20⟩⟩
 exact ok_law F_d21 B ER TP CF GC G_w_cell_at G_w_mixed G_w_signs G_w_word
theorem walk {l : PySem.W.OpenLaw} {q : Program} {loose : List Str} {XP : (Str → Option Value) → Heap → Prop} {YP : World → Heap → Prop} {d : DefRec} {K : Params → PySem.W.Frag} {ts : List Addr} (tb_m_Letters_init tb_p_order_of : Addr) (hn : l.most = some 63) (hdf : d.params.defaults = [])
   (hY : ∀ (w : World) (h : Heap), YP w h → (K w.params).In h ∧ ∀ p ∈ ts, h.get? p = some (PySem.W.tabObj #[]))
   (F : ∀ (w : World) (mg : Str → Option Value) (fa : Addr) (h : Heap), (K w.params).In h → h.Ns mainGlobals mg → mg d.name = some (.ref fa) →
     (∀ p ∈ ts, (K w.params).lookup p = none ∧ ∃ c, PySem.W.codeHdIn (K w.params) c p = true) ∧ ∃ fd : FuncData, (∀ (s : Shared) (u : Value), BindsTo s fd ⟨[u], []⟩ [("_law_script", u)]) ∧ ∀ base : Heap, (K w.params).In base → base.Ns mainGlobals mg → BmAt mg base → FnOk l.prog w (K w.params) mg base CX0 9 fa fd P_law (sp_law (K w.params) tb_m_Letters_init tb_p_order_of))
   (m_m_Letters_init : tb_m_Letters_init ∈ ts) (m_p_order_of : tb_p_order_of ∈ ts) (ne_m_Letters_init_p_order_of : tb_m_Letters_init ≠ tb_p_order_of) :
   PySem.W.WalkO q loose XP YP l.row.toRowW d [] (fun f vs => PySem.call f vs) :=
 L2.walk_ofT (n := 63) (k := 9) (x := "_law_script") (ts := ts) (CX := fun _ => CX0) (sp := fun w => sp_law (K w.params) tb_m_Letters_init tb_p_order_of) hn (by decide) hdf ⟨rfl, by decide, by decide⟩ hY F (fun _ H a ns hl hS hT => ⟨a, ns, rfl, hS, hl, .inl (hT _ m_m_Letters_init), .inl (hT _ m_p_order_of), ne_m_Letters_init_p_order_of, fun _ => rfl⟩) fun _ _ _ _ _ z => z
end My
open PySem PySem.W PyProof.Rows
set_option maxRecDepth 100000 in
set_option maxHeartbeats 0 in
theorem PySem.Challenge.cw_backindex_k94_refusals_apart_holds : PySem.Challenge.rw_backindex_k94_refusals_apart.Holds := by
 w_on; o_law; k_head; (case hw => w_witness2)
 k_fill
 refine' My.walk (l := PySem.Challenge.rw_backindex_k94_refusals_apart) ?tb_m_Letters_init ?tb_p_order_of rfl rfl (fun w h Y => ⟨PySem.W.km_in_of Y, PySem.W.km_tabs_of Y⟩) ?F ?m_m_Letters_init ?m_p_order_of ?ne_m_Letters_init_p_order_of
 case F =>
   intro w mg fa h KX G hmg
   refine' My.all_mk KX G hmg ?a_d0 ?l_d0 ?c_d0 ?k_d0 ?a_d1 ?l_d1 ?c_d1 ?k_d1 ?a_d2 ?l_d2 ?c_d2 ?k_d2 ?a_d3 ?l_d3 ?c_d3 ?k_d3 ?t_p_order_of ?u_d3 ?h_d3 ?n_d3 ?a_d4 ?l_d4 ?c_d4 ?k_d4 ?a_d5 ?l_d5 ?c_d5 ?k_d5 ?a_d6 ?l_d6 ?c_d6 ?k_d6 ?a_d7 ?l_d7 ?c_d7 ?k_d7 ?q_p_longest_often ?a_d8 ?l_d8 ?c_d8 ?k_d8 ?a_d9 ?l_d9 ?c_d9 ?k_d9 ?a_d10 ?l_d10 ?c_d10 ?k_d10 ?a_d11 ?l_d11 ?c_d11 ?k_d11 ?a_d12 ?l_d12 ?c_d12 ?k_d12 ?a_d13 ?l_d13 ?c_d13 ?k_d13 ?a_d14 ?l_d14 ?c_d14 ?k_d14 ?a_d15 ?l_d15 ?c_d15 ?k_d15 ?a_d16 ?l_d16 ?c_d16 ?k_d16 ?a_d17 ?l_d17 ?c_d17 ?k_d17 ?a_d18 ?l_d18 ?c_d18 ?k_d18 ?a_d19 ?l_d19 ?c_d19 ?k_d19 ?a_d20 ?l_d20 ?c_d20 ?k_d20 ?a_d21 ?l_d21 ?c_d21 ?k_d21 ?a_d22 ?i_d22 ?l_d22 ?c_d22 ?k_d22 ?t_m_Letters_init ?u_d22 ?h_d22 ?n_d22 ?a_d23 ?i_d23 ?l_d23 ?c_d23 ?k_d23 ?a_d24 ?i_d24 ?l_d24 ?c_d24 ?k_d24 ?a_d25 ?i_d25 ?l_d25 ?c_d25 ?k_d25 ?m_BackError ?x_BackError ?m_NoOrder ?x_NoOrder ?g1_NoOrder ?g2_NoOrder ?g3_NoOrder ?g4_NoOrder ?g5_NoOrder ?g6_NoOrder ?g7_NoOrder ?v_NoOrder ?m_NoPlace ?x_NoPlace ?g1_NoPlace ?g2_NoPlace ?g3_NoPlace ?g4_NoPlace ?g5_NoPlace ?g6_NoPlace ?g7_NoPlace ?v_NoPlace ?m_NoGap ?x_NoGap ?g1_NoGap ?g2_NoGap ?g3_NoGap ?g4_NoGap ?g5_NoGap ?g6_NoGap ?g7_NoGap ?v_NoGap ?m_NoText ?x_NoText ?g1_NoText ?g2_NoText ?g3_NoText ?g4_NoText ?g5_NoText ?g6_NoText ?g7_NoText ?v_NoText ?m_NoTimes ?x_NoTimes ?g1_NoTimes ?g2_NoTimes ?g3_NoTimes ?g4_NoTimes ?g5_NoTimes ?g6_NoTimes ?g7_NoTimes ?v_NoTimes ?m_Empty ?x_Empty ?g1_Empty ?g2_Empty ?g3_Empty ?g4_Empty ?g5_Empty ?g6_Empty ?g7_Empty ?v_Empty ?m_TooLong ?x_TooLong ?g1_TooLong ?g2_TooLong ?g3_TooLong ?g4_TooLong ?g5_TooLong ?g6_TooLong ?g7_TooLong ?v_TooLong ?m_NoName ?x_NoName ?g1_NoName ?g2_NoName ?g3_NoName ?g4_NoName ?g5_NoName ?g6_NoName ?g7_NoName ?v_NoName ?m_NoRow ?x_NoRow ?g1_NoRow ?g2_NoRow ?g3_NoRow ?g4_NoRow ?g5_NoRow ?g6_NoRow ?g7_NoRow ?v_NoRow ?r_NoOrder_BackError ?t_NoOrder_NoOrder ?t_NoOrder_NoPlace ?t_NoOrder_NoGap ?t_NoOrder_NoText ?t_NoOrder_NoTimes ?t_NoOrder_Empty ?t_NoOrder_TooLong ?t_NoOrder_NoName ?t_NoOrder_NoRow ?r_NoPlace_BackError ?t_NoPlace_NoOrder ?t_NoPlace_NoPlace ?t_NoPlace_NoGap ?t_NoPlace_NoText ?t_NoPlace_NoTimes ?t_NoPlace_Empty ?t_NoPlace_TooLong ?t_NoPlace_NoName ?t_NoPlace_NoRow ?r_NoGap_BackError ?t_NoGap_NoOrder ?t_NoGap_NoPlace ?t_NoGap_NoGap ?t_NoGap_NoText ?t_NoGap_NoTimes ?t_NoGap_Empty ?t_NoGap_TooLong ?t_NoGap_NoName ?t_NoGap_NoRow ?r_NoText_BackError ?t_NoText_NoOrder ?t_NoText_NoPlace ?t_NoText_NoGap ?t_NoText_NoText ?t_NoText_NoTimes ?t_NoText_Empty ?t_NoText_TooLong ?t_NoText_NoName ?t_NoText_NoRow ?r_NoTimes_BackError ?t_NoTimes_NoOrder ?t_NoTimes_NoPlace ?t_NoTimes_NoGap ?t_NoTimes_NoText ?t_NoTimes_NoTimes ?t_NoTimes_Empty ?t_NoTimes_TooLong ?t_NoTimes_NoName ?t_NoTimes_NoRow ?r_Empty_BackError ?t_Empty_NoOrder ?t_Empty_NoPlace ?t_Empty_NoGap ?t_Empty_NoText ?t_Empty_NoTimes ?t_Empty_Empty ?t_Empty_TooLong ?t_Empty_NoName ?t_Empty_NoRow ?r_TooLong_BackError ?t_TooLong_NoOrder ?t_TooLong_NoPlace ?t_TooLong_NoGap ?t_TooLong_NoText ?t_TooLong_NoTimes ?t_TooLong_Empty ?t_TooLong_TooLong ?t_TooLong_NoName ?t_TooLong_NoRow ?r_NoName_BackError ?t_NoName_NoOrder ?t_NoName_NoPlace ?t_NoName_NoGap ?t_NoName_NoText ?t_NoName_NoTimes ?t_NoName_Empty ?t_NoName_TooLong ?t_NoName_NoName ?t_NoName_NoRow ?r_NoRow_BackError ?t_NoRow_NoOrder ?t_NoRow_NoPlace ?t_NoRow_NoGap ?t_NoRow_NoText ?t_NoRow_NoTimes ?t_NoRow_Empty ?t_NoRow_TooLong ?t_NoRow_NoName ?t_NoRow_NoRow ?aC_Letters ?pg_Letters ?hd_Letters ?po_Letters ?sa_Letters ?mk_Letters ?kc_Letters ?na_Letters_column ?na_Letters_forths ?na_Letters_home ?na_Letters_last ?na_Letters_totals ?aC_Desk ?pg_Desk ?hd_Desk ?po_Desk ?sa_Desk ?mk_Desk ?kc_Desk ?na_Desk_texts ?aC_Marks ?pg_Marks ?hd_Marks ?po_Marks ?sa_Marks ?mk_Marks ?kc_Marks ?na_Marks_gap ?na_Marks_held ?na_Marks_marks ?gc_MOST_SIGNS ?gc_NO_LETTER ?b_FORMS ?d_FORMS ?b_KEEPING ?d_KEEPING ?b_ANSWERS ?d_ANSWERS ?z_ValueError ?z_dict ?z_enumerate ?z_int ?z_isinstance ?z_len ?z_max ?z_min ?z_range ?z_reversed ?z_set ?z_sorted ?z_zip ?hts
   (case aC_Letters => k_is)
   (case aC_Desk => k_is)
   (case aC_Marks => k_is)
   (case a_d0 => k_is)
   (case l_d0 => k_is)
   (case c_d0 => k_is)
   (case k_d0 => k_is)
   (case a_d1 => k_is)
   (case l_d1 => k_is)
   (case c_d1 => k_is)
   (case k_d1 => k_is)
   (case a_d2 => k_is)
   (case l_d2 => k_is)
   (case c_d2 => k_is)
   (case k_d2 => k_is)
   (case a_d3 => k_is)
   (case l_d3 => k_is)
   (case c_d3 => k_is)
   (case k_d3 => k_is)
   (case t_p_order_of => k_is)
   (case u_d3 => rfl)
   (case h_d3 => kernel_rfl)
   (case n_d3 => rfl)
   (case a_d4 => k_is)
   (case l_d4 => k_is)
   (case c_d4 => k_is)
   (case k_d4 => k_is)
   (case a_d5 => k_is)
   (case l_d5 => k_is)
   (case c_d5 => k_is)
   (case k_d5 => k_is)
   (case a_d6 => k_is)
   (case l_d6 => k_is)
   (case c_d6 => k_is)
   (case k_d6 => k_is)
   (case a_d7 => k_is)
   (case l_d7 => k_is)
   (case c_d7 => k_is)
   (case k_d7 => k_is)
   (case q_p_longest_often => k_is)
   (case a_d8 => k_is)
   (case l_d8 => k_is)
   (case c_d8 => k_is)
   (case k_d8 => k_is)
   (case a_d9 => k_is)
   (case l_d9 => k_is)
   (case c_d9 => k_is)
   (case k_d9 => k_is)
   (case a_d10 => k_is)
   (case l_d10 => k_is)
   (case c_d10 => k_is)
   (case k_d10 => k_is)
   (case a_d11 => k_is)
   (case l_d11 => k_is)
   (case c_d11 => k_is)
   (case k_d11 => k_is)
   (case a_d12 => k_is)
   (case l_d12 => k_is)
   (case c_d12 => k_is)
   (case k_d12 => k_is)
   (case a_d13 => k_is)
   (case l_d13 => k_is)
   (case c_d13 => k_is)
   (case k_d13 => k_is)
   (case a_d14 => k_is)
   (case l_d14 => k_is)
   (case c_d14 => k_is)
   (case k_d14 => k_is)
   (case a_d15 => k_is)
   (case l_d15 => k_is)
   (case c_d15 => k_is)
   (case k_d15 => k_is)
   (case a_d16 => k_is)
   (case l_d16 => k_is)
   (case c_d16 => k_is)
   (case k_d16 => k_is)
   (case a_d17 => k_is)
   (case l_d17 => k_is)
   (case c_d17 => k_is)
   (case k_d17 => k_is)
   (case a_d18 => k_is)
   (case l_d18 => k_is)
   (case c_d18 => k_is)
   (case k_d18 => k_is)
   (case a_d19 => k_is)
   (case l_d19 => k_is)
   (case c_d19 => k_is)
   (case k_d19 => k_is)
   (case a_d20 => k_is)
   (case l_d20 => k_is)
   (case c_d20 => k_is)
   (case k_d20 => k_is)
   (case a_d21 => k_is)
   (case l_d21 => k_is)
   (case c_d21 => k_is)
   (case k_d21 => k_is)
   (case a_d22 => k_is)
   (case i_d22 => k_is)
   (case l_d22 => k_is)
   (case c_d22 => k_is)
   (case k_d22 => k_is)
   (case t_m_Letters_init => k_is)
   (case u_d22 => rfl)
   (case h_d22 => kernel_rfl)
   (case n_d22 => rfl)
   (case a_d23 => k_is)
   (case i_d23 => k_is)
   (case l_d23 => k_is)
   (case c_d23 => k_is)
   (case k_d23 => k_is)
   (case a_d24 => k_is)
   (case i_d24 => k_is)
   (case l_d24 => k_is)
   (case c_d24 => k_is)
   (case k_d24 => k_is)
   (case a_d25 => k_is)
   (case i_d25 => k_is)
   (case l_d25 => k_is)
   (case c_d25 => k_is)
   (case k_d25 => k_is)
   (case m_BackError => k_is)
   (case x_BackError => k_exc)
   (case m_NoOrder => k_is)
   (case x_NoOrder => k_exc)
   (case g1_NoOrder => k_is)
   (case g2_NoOrder => k_is)
   (case g3_NoOrder => k_is)
   (case g4_NoOrder => k_is)
   (case g5_NoOrder => k_is)
   (case g6_NoOrder => k_is)
   (case g7_NoOrder => k_is)
   (case v_NoOrder => kit_is)
   (case m_NoPlace => k_is)
   (case x_NoPlace => k_exc)
   (case g1_NoPlace => k_is)
   (case g2_NoPlace => k_is)
   (case g3_NoPlace => k_is)
   (case g4_NoPlace => k_is)
   (case g5_NoPlace => k_is)
   (case g6_NoPlace => k_is)
   (case g7_NoPlace => k_is)
   (case v_NoPlace => kit_is)
   (case m_NoGap => k_is)
   (case x_NoGap => k_exc)
   (case g1_NoGap => k_is)
   (case g2_NoGap => k_is)
   (case g3_NoGap => k_is)
   (case g4_NoGap => k_is)
   (case g5_NoGap => k_is)
   (case g6_NoGap => k_is)
   (case g7_NoGap => k_is)
   (case v_NoGap => kit_is)
   (case m_NoText => k_is)
   (case x_NoText => k_exc)
   (case g1_NoText => k_is)
   (case g2_NoText => k_is)
   (case g3_NoText => k_is)
   (case g4_NoText => k_is)
   (case g5_NoText => k_is)
   (case g6_NoText => k_is)
   (case g7_NoText => k_is)
   (case v_NoText => kit_is)
   (case m_NoTimes => k_is)
   (case x_NoTimes => k_exc)
   (case g1_NoTimes => k_is)
   (case g2_NoTimes => k_is)
   (case g3_NoTimes => k_is)
   (case g4_NoTimes => k_is)
   (case g5_NoTimes => k_is)
   (case g6_NoTimes => k_is)
   (case g7_NoTimes => k_is)
   (case v_NoTimes => kit_is)
   (case m_Empty => k_is)
   (case x_Empty => k_exc)
   (case g1_Empty => k_is)
   (case g2_Empty => k_is)
   (case g3_Empty => k_is)
   (case g4_Empty => k_is)
   (case g5_Empty => k_is)
   (case g6_Empty => k_is)
   (case g7_Empty => k_is)
   (case v_Empty => kit_is)
   (case m_TooLong => k_is)
   (case x_TooLong => k_exc)
   (case g1_TooLong => k_is)
   (case g2_TooLong => k_is)
   (case g3_TooLong => k_is)
   (case g4_TooLong => k_is)
   (case g5_TooLong => k_is)
   (case g6_TooLong => k_is)
   (case g7_TooLong => k_is)
   (case v_TooLong => kit_is)
   (case m_NoName => k_is)
   (case x_NoName => k_exc)
   (case g1_NoName => k_is)
   (case g2_NoName => k_is)
   (case g3_NoName => k_is)
   (case g4_NoName => k_is)
   (case g5_NoName => k_is)
   (case g6_NoName => k_is)
   (case g7_NoName => k_is)
   (case v_NoName => kit_is)
   (case m_NoRow => k_is)
   (case x_NoRow => k_exc)
   (case g1_NoRow => k_is)
   (case g2_NoRow => k_is)
   (case g3_NoRow => k_is)
   (case g4_NoRow => k_is)
   (case g5_NoRow => k_is)
   (case g6_NoRow => k_is)
   (case g7_NoRow => k_is)
   (case v_NoRow => kit_is)
   (case r_NoOrder_BackError => k_is)
   (case t_NoOrder_NoOrder => kit_is)
   (case t_NoOrder_NoPlace => kit_is)
   (case t_NoOrder_NoGap => kit_is)
   (case t_NoOrder_NoText => kit_is)
   (case t_NoOrder_NoTimes => kit_is)
   (case t_NoOrder_Empty => kit_is)
   (case t_NoOrder_TooLong => kit_is)
   (case t_NoOrder_NoName => kit_is)
   (case t_NoOrder_NoRow => kit_is)
   (case r_NoPlace_BackError => k_is)
   (case t_NoPlace_NoOrder => kit_is)
   (case t_NoPlace_NoPlace => kit_is)
   (case t_NoPlace_NoGap => kit_is)
   (case t_NoPlace_NoText => kit_is)
   (case t_NoPlace_NoTimes => kit_is)
   (case t_NoPlace_Empty => kit_is)
   (case t_NoPlace_TooLong => kit_is)
   (case t_NoPlace_NoName => kit_is)
   (case t_NoPlace_NoRow => kit_is)
   (case r_NoGap_BackError => k_is)
   (case t_NoGap_NoOrder => kit_is)
   (case t_NoGap_NoPlace => kit_is)
   (case t_NoGap_NoGap => kit_is)
   (case t_NoGap_NoText => kit_is)
   (case t_NoGap_NoTimes => kit_is)
   (case t_NoGap_Empty => kit_is)
   (case t_NoGap_TooLong => kit_is)
   (case t_NoGap_NoName => kit_is)
   (case t_NoGap_NoRow => kit_is)
   (case r_NoText_BackError => k_is)
   (case t_NoText_NoOrder => kit_is)
   (case t_NoText_NoPlace => kit_is)
   (case t_NoText_NoGap => kit_is)
   (case t_NoText_NoText => kit_is)
   (case t_NoText_NoTimes => kit_is)
   (case t_NoText_Empty => kit_is)
   (case t_NoText_TooLong => kit_is)
   (case t_NoText_NoName => kit_is)
   (case t_NoText_NoRow => kit_is)
   (case r_NoTimes_BackError => k_is)
   (case t_NoTimes_NoOrder => kit_is)
   (case t_NoTimes_NoPlace => kit_is)
   (case t_NoTimes_NoGap => kit_is)
   (case t_NoTimes_NoText => kit_is)
   (case t_NoTimes_NoTimes => kit_is)
   (case t_NoTimes_Empty => kit_is)
   (case t_NoTimes_TooLong => kit_is)
   (case t_NoTimes_NoName => kit_is)
   (case t_NoTimes_NoRow => kit_is)
   (case r_Empty_BackError => k_is)
   (case t_Empty_NoOrder => kit_is)
   (case t_Empty_NoPlace => kit_is)
   (case t_Empty_NoGap => kit_is)
   (case t_Empty_NoText => kit_is)
   (case t_Empty_NoTimes => kit_is)
   (case t_Empty_Empty => kit_is)
   (case t_Empty_TooLong => kit_is)
   (case t_Empty_NoName => kit_is)
   (case t_Empty_NoRow => kit_is)
   (case r_TooLong_BackError => k_is)
   (case t_TooLong_NoOrder => kit_is)
   (case t_TooLong_NoPlace => kit_is)
   (case t_TooLong_NoGap => kit_is)
   (case t_TooLong_NoText => kit_is)
   (case t_TooLong_NoTimes => kit_is)
   (case t_TooLong_Empty => kit_is)
   (case t_TooLong_TooLong => kit_is)
   (case t_TooLong_NoName => kit_is)
   (case t_TooLong_NoRow => kit_is)
   (case r_NoName_BackError => k_is)
   (case t_NoName_NoOrder => kit_is)
   (case t_NoName_NoPlace => kit_is)
   (case t_NoName_NoGap => kit_is)
   (case t_NoName_NoText => kit_is)
   (case t_NoName_NoTimes => kit_is)
   (case t_NoName_Empty => kit_is)
   (case t_NoName_TooLong => kit_is)
   (case t_NoName_NoName => kit_is)
   (case t_NoName_NoRow => kit_is)
   (case r_NoRow_BackError => k_is)
   (case t_NoRow_NoOrder => kit_is)
   (case t_NoRow_NoPlace => kit_is)
   (case t_NoRow_NoGap => kit_is)
   (case t_NoRow_NoText => kit_is)
   (case t_NoRow_NoTimes => kit_is)
   (case t_NoRow_Empty => kit_is)
   (case t_NoRow_TooLong => kit_is)
   (case t_NoRow_NoName => kit_is)
   (case t_NoRow_NoRow => kit_is)
   (case pg_Letters => k_is)
   (case hd_Letters => k_is)
   (case po_Letters => k_is)
   (case sa_Letters => k_is)
   (case mk_Letters => k_is)
   (case kc_Letters => k_is)
   (case na_Letters_column => k_is)
   (case na_Letters_forths => k_is)
   (case na_Letters_home => k_is)
   (case na_Letters_last => k_is)
   (case na_Letters_totals => k_is)
   (case pg_Desk => k_is)
   (case hd_Desk => k_is)
   (case po_Desk => k_is)
   (case sa_Desk => k_is)
   (case mk_Desk => k_is)
   (case kc_Desk => k_is)
   (case na_Desk_texts => k_is)
   (case pg_Marks => k_is)
   (case hd_Marks => k_is)
   (case po_Marks => k_is)
   (case sa_Marks => k_is)
   (case mk_Marks => k_is)
   (case kc_Marks => k_is)
   (case na_Marks_gap => k_is)
   (case na_Marks_held => k_is)
   (case na_Marks_marks => k_is)
   (case gc_MOST_SIGNS => k_is)
   (case gc_NO_LETTER => k_is)
   (case b_FORMS => k_is)
   (case d_FORMS => exact ⟨⟨_, _, by k_is, by k_keys, by repeat (first | exact True.intro | refine ⟨⟨_, rfl⟩, ?_, ?_⟩ | exact ⟨_, rfl⟩ | rfl)⟩, by decide⟩)
   (case b_KEEPING => k_is)
   (case d_KEEPING => exact ⟨_, _, _, by k_is, rfl, rfl, by decide, .cons ⟨_, rfl⟩ (.cons ⟨_, rfl⟩ (.nil))⟩)
   (case b_ANSWERS => k_is)
   (case d_ANSWERS => exact ⟨⟨_, _, by k_is, by k_keys, by repeat (first | exact True.intro | refine ⟨⟨_, rfl⟩, ?_, ?_⟩ | exact ⟨_, rfl⟩ | rfl)⟩, by decide⟩)
   (case z_ValueError => k_is)
   (case z_dict => k_is)
   (case z_enumerate => k_is)
   (case z_int => k_is)
   (case z_isinstance => k_is)
   (case z_len => k_is)
   (case z_max => k_is)
   (case z_min => k_is)
   (case z_range => k_is)
   (case z_reversed => k_is)
   (case z_set => k_is)
   (case z_sorted => k_is)
   (case z_zip => k_is)
   (case hts => decide)
 (case m_m_Letters_init => decide)
 (case m_p_order_of => decide)
 (case ne_m_Letters_init_p_order_of => decide)